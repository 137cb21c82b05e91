import PyProof.Rows.All
import Wide.All
import OpenK.AllK
import Wide.FinOn
import PyProof.EqAt
import PyProof.EqKinds
import PyProof.TupleCall
import KE.BitLaws
import Open.SpecLaws
import KE.OsHead
import KE.OsGo
import PySem.Challenge.RW_kilnloads_s05_check
namespace PySem.W.Fast
def tw10041102065242150429:=0
def tw10045668204949899972:=0
def tw10104135174363777081:=0
def tw10115634552772692069:=0
def tw10189534449373967651:=0
def tw10228953180747773182:=0
def tw10245304285274483065:=0
def tw1035970580857763492:=0
def tw10385632370067961014:=0
def tw10393266685210031608:=0
def tw10406003392876987735:=0
def tw10435386147798274988:=0
def tw10444705860252215250:=0
def tw10472019328626865249:=0
def tw10484810732870019700:=0
def tw10515733920538408252:=0
def tw10517239763018815325:=0
def tw10540440357399687528:=0
def tw10599640776324189113:=0
def tw10632325059878474803:=0
def tw10632854796560673002:=0
def tw10653961182672262449:=0
def tw10687993551021041914:=0
def tw10710972637660154293:=0
def tw10712610028331380261:=0
def tw10777635251045790164:=0
def tw10813715162075097969:=0
def tw10839653188454318426:=0
def tw10841069400632840201:=0
def tw10967025067347175298:=0
def tw1096795484811933093:=0
def tw11022649578020652083:=0
def tw11117010513103663526:=0
def tw11167651713410325289:=0
def tw11190983154356839054:=0
def tw11231820030432964080:=0
def tw11311374362823230095:=0
def tw11352370587029650091:=0
def tw11357927724130368801:=0
def tw11444367063485311005:=0
def tw11457490491314385073:=0
def tw11474356766733290711:=0
def tw11476813350326765569:=0
def tw11509801632784954359:=0
def tw11540463752409112154:=0
def tw11583377762339406730:=0
def tw1158379069314878156:=0
def tw11709235450819291670:=0
def tw11786849155820046300:=0
def tw11811849381088967616:=0
def tw11832843310349297415:=0
def tw11894345216422025678:=0
def tw11922747782416742093:=0
def tw11944918865909790776:=0
def tw1194689988086229359:=0
def tw12044668446899464094:=0
def tw12100621062228108593:=0
def tw12236585335997172938:=0
def tw12240746921256103379:=0
def tw12255544398932370494:=0
def tw12366000630178596588:=0
def tw1239006596697793122:=0
def tw12454946132886878573:=0
def tw12459031495881165761:=0
def tw12462609772857771701:=0
def tw1257661656321767313:=0
def tw12712273716589538850:=0
def tw12810623902300970680:=0
def tw12811019235648718252:=0
def tw12813071024173776325:=0
def tw12813174433308649798:=0
def tw12873835180529876673:=0
def tw12930825721096814775:=0
def tw12963882426227890207:=0
def tw1304960967383977537:=0
def tw13067018196086479776:=0
def tw13122115418038662840:=0
def tw13191653404562034515:=0
def tw13202066369752921494:=0
def tw13281141150810950738:=0
def tw13311314469496315480:=0
def tw13337676844830211287:=0
def tw13392313299687196166:=0
def tw13393712733707626746:=0
def tw13407476997022688508:=0
def tw13436163120444606086:=0
def tw13523059413583263171:=0
def tw13546242367153152859:=0
def tw13645556663406451746:=0
def tw13683344612923792881:=0
def tw13697445815291658224:=0
def tw13697964517460068492:=0
def tw13719927032225414758:=0
def tw13763279914308621465:=0
def tw13780865425997382653:=0
def tw13793600008986883107:=0
def tw13837091237160207414:=0
def tw1391895851408923310:=0
def tw13926741987105937448:=0
def tw13935041906605585006:=0
def tw14072891211776293426:=0
def tw14079701657763921620:=0
def tw14159561220229181767:=0
def tw14163532778822183380:=0
def tw14175828397750012954:=0
def tw14181318038680590212:=0
def tw14270776374005026669:=0
def tw14332467043256282685:=0
def tw14383495738714524695:=0
def tw14384287880121324236:=0
def tw14405597097231353939:=0
def tw14435742409187872980:=0
def tw14437356525958210177:=0
def tw14488429490277720369:=0
def tw14500572520661414015:=0
def tw14501457110372792339:=0
def tw14508159615206399260:=0
def tw14547791931933378165:=0
def tw14614428362266578104:=0
def tw14748287404251108347:=0
def tw14772393444471055375:=0
def tw1502319256127391949:=0
def tw15040523269779178941:=0
def tw15136236472799955747:=0
def tw15180001480830834618:=0
def tw15193135062447213024:=0
def tw15194561464950993759:=0
def tw15224207631238203760:=0
def tw15233030279606453808:=0
def tw15246481982089131546:=0
def tw15256438778141898686:=0
def tw1529533494553692219:=0
def tw15304261900700288532:=0
def tw15336982998782037302:=0
def tw15396776290075565553:=0
def tw15398728229493760939:=0
def tw15410788339385031461:=0
def tw15480949301544486694:=0
def tw15565668983022419400:=0
def tw15565805430365868672:=0
def tw15602470087484175657:=0
def tw15609432937285228415:=0
def tw15708853159794969283:=0
def tw15735405330956865:=0
def tw15774092016043042557:=0
def tw15887304589929957652:=0
def tw15887533777815983234:=0
def tw15925527622188835953:=0
def tw15969398217699159557:=0
def tw16018938316189427276:=0
def tw16056850942350000812:=0
def tw16111857391446591079:=0
def tw16135273700365000350:=0
def tw16213832029975849153:=0
def tw16217373607305037701:=0
def tw16326465512575039597:=0
def tw16350579465547420061:=0
def tw16446486365905869458:=0
def tw16465527221940345945:=0
def tw16489766780444913124:=0
def tw16556601212697691540:=0
def tw16557796474823004706:=0
def tw1656848347764925280:=0
def tw16635475296996778482:=0
def tw16637751092063336866:=0
def tw16703306485964898074:=0
def tw16724773144424868905:=0
def tw16726747482274116776:=0
def tw16734495818153173729:=0
def tw16736847212072863415:=0
def tw16900246591288923326:=0
def tw16902250760761231532:=0
def tw16949004418110961698:=0
def tw16960046247734494236:=0
def tw17077226663825439466:=0
def tw17082523398256644491:=0
def tw17102449742233720727:=0
def tw17119800193395644781:=0
def tw172126341623468122:=0
def tw17275717035616608379:=0
def tw17334224114681384753:=0
def tw17362756623887617565:=0
def tw17418334057475432352:=0
def tw17440923214774532769:=0
def tw17457433887049110180:=0
def tw17468443162826569506:=0
def tw17522272296794087570:=0
def tw17592475175177675896:=0
def tw17596961580959186989:=0
def tw17601821567757111356:=0
def tw17612068922677617447:=0
def tw17649029047303933404:=0
def tw17650545150015232394:=0
def tw17812598311514285114:=0
def tw17846124504478333575:=0
def tw17894407967204398183:=0
def tw17903347902436232822:=0
def tw17939421489431949991:=0
def tw17966352201814330679:=0
def tw17973163580946035179:=0
def tw18065384375759108987:=0
def tw180869167579046545:=0
def tw1810577939647654992:=0
def tw18143963077759903966:=0
def tw18156667769902295671:=0
def tw1824261658165107649:=0
def tw18245217298551402291:=0
def tw18253545398138532920:=0
def tw18260607803597366669:=0
def tw18295154100590686731:=0
def tw18351268814910661087:=0
def tw1896160931752884802:=0
def tw1943852756151689801:=0
def tw1948023252166726721:=0
def tw1956969356804491135:=0
def tw1979874653552492569:=0
def tw2064214104969707845:=0
def tw2085302390715723124:=0
def tw209032216455541339:=0
def tw2142179574952131561:=0
def tw2155710145589223346:=0
def tw2165107236996638261:=0
def tw2168085496745586189:=0
def tw2175640075183004648:=0
def tw2192814507168918046:=0
def tw2207845264622896118:=0
def tw2225006200383860838:=0
def tw2347765783738538581:=0
def tw2385016596980566954:=0
def tw2545699422325324234:=0
def tw255569203356922349:=0
def tw2566903998793948644:=0
def tw2569759429685954774:=0
def tw2588660966114303717:=0
def tw2711680090808051796:=0
def tw2763556839345230737:=0
def tw27982696339364940:=0
def tw2841055407158996697:=0
def tw2881715508588911012:=0
def tw3070943097728751358:=0
def tw3109973840338880186:=0
def tw3120256449801571828:=0
def tw3194048652608396366:=0
def tw32229771322978525:=0
def tw3236147012342411876:=0
def tw3241458626219212667:=0
def tw3262480740687433861:=0
def tw3307499160897201914:=0
def tw3374871523183542083:=0
def tw3432766469927772070:=0
def tw3435718167697214659:=0
def tw3437917512586585833:=0
def tw353512660586392024:=0
def tw3613813137305888909:=0
def tw3665761062485209273:=0
def tw3691042505253617339:=0
def tw3753286343635749100:=0
def tw3782137578464750538:=0
def tw3848769994012585909:=0
def tw3887211281374524061:=0
def tw3889536709307917900:=0
def tw3901703355793340012:=0
def tw3983250854668002028:=0
def tw4006982518156215149:=0
def tw4056090244765029328:=0
def tw4096902491347859839:=0
def tw4152302964459801677:=0
def tw4200233325835891297:=0
def tw4216514844817659192:=0
def tw4249701629444424720:=0
def tw4349810309930726405:=0
def tw4354831208218315973:=0
def tw438628960358805653:=0
def tw4410729814479164842:=0
def tw4508558274237045063:=0
def tw4539486248736726378:=0
def tw456036493157477039:=0
def tw4653462031576658561:=0
def tw4684576099356719309:=0
def tw4687442450684557130:=0
def tw4738100851897933312:=0
def tw4821024586121767525:=0
def tw4827805414520537591:=0
def tw4863356780860339995:=0
def tw4897493152786796071:=0
def tw4940038934862578895:=0
def tw5002232399106500271:=0
def tw5008278496767418941:=0
def tw5009366358490439954:=0
def tw5020132131020578626:=0
def tw5038594190711968183:=0
def tw5046767686395766305:=0
def tw5119226888104856051:=0
def tw5166399917546497317:=0
def tw5490136532848350504:=0
def tw5516078027443337667:=0
def tw5594423110239484492:=0
def tw5599864792061139628:=0
def tw5633363439693809497:=0
def tw5660603118701385079:=0
def tw5677289101877165873:=0
def tw5679114218898447996:=0
def tw5726279721728416534:=0
def tw5753194318491659198:=0
def tw5810828050221670551:=0
def tw5847245798931939952:=0
def tw5925100836544019266:=0
def tw5932579934515707794:=0
def tw5995099306709225082:=0
def tw6041725051624326679:=0
def tw6066649151126405108:=0
def tw619315919289198676:=0
def tw6236596130777718503:=0
def tw6256434951097147260:=0
def tw6269049044188610119:=0
def tw6330084397236802544:=0
def tw6382779965232395292:=0
def tw6402387939239016506:=0
def tw643162249746310156:=0
def tw6446677635313206067:=0
def tw6456459975093230673:=0
def tw6461408878829284779:=0
def tw6501414577880089689:=0
def tw6637018891688598916:=0
def tw6674516537850795538:=0
def tw6854062079861079286:=0
def tw6891199751276328837:=0
def tw6906927128744341919:=0
def tw6958721777078453673:=0
def tw7033256516781365778:=0
def tw7036585568172658657:=0
def tw7055619229805987163:=0
def tw7065626221372850369:=0
def tw7078810201261979470:=0
def tw7093677090484950223:=0
def tw7146206432661577121:=0
def tw7171411204234457283:=0
def tw7172391864362833529:=0
def tw7182990007901109319:=0
def tw7242631721577328722:=0
def tw7288463063790374904:=0
def tw7351661306709925098:=0
def tw7360237896914944587:=0
def tw7382237092880720949:=0
def tw7385976023813135355:=0
def tw7420673523487749762:=0
def tw7423592616881359889:=0
def tw7450078615262997983:=0
def tw7456905128849414792:=0
def tw7470251531824927717:=0
def tw7486090921464800827:=0
def tw7540155361812683066:=0
def tw7546673884270101288:=0
def tw7557848707286412577:=0
def tw7580518080144337704:=0
def tw758340436118749492:=0
def tw7584368197020660432:=0
def tw7618336463607219843:=0
def tw7647044310719384440:=0
def tw7697691587485193016:=0
def tw7798231687097433969:=0
def tw779842418939702464:=0
def tw7825757256901355971:=0
def tw78452388849666104:=0
def tw7848655530299295985:=0
def tw7869763763844763054:=0
def tw7885439500085407462:=0
def tw8036534017808094590:=0
def tw803776777930633720:=0
def tw8074867349864611328:=0
def tw8207509706833306689:=0
def tw8219628475981883635:=0
def tw8222997830736821813:=0
def tw826697946450235804:=0
def tw8386848777989584196:=0
def tw8415818311932001559:=0
def tw8424486349874064375:=0
def tw853361028622928675:=0
def tw858474670143012115:=0
def tw863333009913780953:=0
def tw8636512447823407874:=0
def tw8660991514829824149:=0
def tw8662812869043985867:=0
def tw8739128378152183769:=0
def tw8752105731488138676:=0
def tw87767355878615332:=0
def tw8791080019364968930:=0
def tw8832675357228863512:=0
def tw8846982930087692868:=0
def tw8893770376660801952:=0
def tw8913006056539468900:=0
def tw8918954288127731103:=0
def tw8975512945894922044:=0
def tw9022456348249856223:=0
def tw9034873067852836056:=0
def tw9049998169829498953:=0
def tw9123360072361673012:=0
def tw9213826391962614020:=0
def tw931767825770175148:=0
def tw9353350148540339498:=0
def tw9381436168509091617:=0
def tw93815501303523739:=0
def tw9458323361211720096:=0
def tw9472241831766907873:=0
def tw955297841654269880:=0
def tw9566294059771403199:=0
def tw9582354184527341873:=0
def tw9626138971523153497:=0
def tw9645922074915310504:=0
def tw9696123858582698349:=0
def tw9758254791932956685:=0
def tw9831828815053307700:=0
def tw9911210111570768067:=0
def tw9923768625337475879:=0
def tw9946271987321940096:=0
def tw9994886732101997293:=0
end PySem.W.Fast
section
set_option Elab.async false
set_option linter.all false
set_option maxRecDepth 100000
abbrev Qf:=PySem.W.Frag
abbrev Qm:=PySem.Str->Option PySem.Value
abbrev Qp:=List (PySem.Addr×PySem.Obj)
abbrev Qs:=PySem.Value->PySem.Shared->Prop
theorem yW{α:Type _}{l:List α}{i:Nat}(h:i<l.length):l[i]?=some l[i]:=List.getElem?_eq_getElem h
theorem yQ{α:Type _}{l:List α}{i:Nat}{a:α}(h:l[i]?=some a):∃ h:i<l.length,l[i]=a:=List.getElem?_eq_some_iff.mp h
theorem ZZ{α:Type _}{l:List α}{i:Nat}{a:α}(e:l[i]?=some a):a∈l:=List.mem_of_getElem? e
theorem zc{α β:Type _}{l:List α}(f:α->β):(l.map f).length=l.length:=List.length_map f
theorem yU{a b c:Nat}(h:a<b)(g:b<=c):a<c:=Nat.lt_of_lt_of_le h g
theorem Yp{a b c:Nat}(h:a<=b)(g:b<c):a<c:=Nat.lt_of_le_of_lt h g
theorem yZ(a b:Bool):((a&&b)=true)=(a=true/\b=true):=Bool.and_eq_true a b
theorem ym{p:Prop}[Decidable p]:(decide p=true)=p:=decide_eq_true_eq
section
open PySem PySem.Spec PyProof.Rows
def Wa:=@if_neg
def Wb:=@if_pos
def Wc:=@List.mem_cons
def Wd:=@Nat.le_refl
def We:=@List.mem_cons_of_mem
def Wf:=@Heap.get?_push_of_some
def Wg:=@List.mem_map
def Wh:=@wpAny_bind
def Wi:=@List.getD_eq_getElem?_getD
def Wj:=@List.map_cons
def Wk:=@decide_eq_decide
def Wl:=@Heap.lt_size
def Wm:=@of_decide_eq_true
def Wn:=@List.mem_singleton
def Wo:=@of_decide_eq_false
def Wp:=@List.mem_append
def Wq:=@Bool.not_eq_true'
def Wr:=@List.length_append
def Ws:=@List.take_of_length_le
def Wt:=@List.mem_cons_self
def Wu:=@Bool.not_eq_false'
def Wv:=@Bool.false_ne_true
def Ww:=@List.map_append
def Wx:=@Bool.eq_iff_iff
def Wy:=@List.length_take
def Wz:=@PassesOwn.never
def WA:=@List.size_toArray
def WB:=@decide_eq_false
def WC:=@Nat.zero_add
def WD:=@List.length_cons
def WE:=@Nat.ne_of_lt
def WF:=@PySem.F.plainAttrs_list
def WG:=@Heap.get?_push_size
def WH:=@Nat.zero_le
def WI:=@List.all_eq_true
def WJ:=@decide_eq_true
def WK:=@wpAny_pure
def WL:=@PySem.mem_of_lookup
def WM:=@Classical.byContradiction
def WN:=@Option.some.inj
def WO:=@PySem.F.type_list_append
def WP:=@PySem.F.slot_list_append
def WQ:=@List.getElem?_map
def WS:=@Array.getD_eq_getD_getElem?
def WT:=@Nat.le_trans
def WU:=@List.contains_iff_mem
def WV:=@congrArg
def WW:=@Option.map_eq_none_iff
def WX:=@Bool.or_eq_false_iff
def WY:=@List.take_length
def WZ:=@Int.sub_pos_of_lt
def W0:=@Int.lt_trichotomy
def W1:=@Bool.beq_eq_decide_eq
def W3:=@List.getElem?_eq_none
def W4:=@List.any_eq_true
def W5:=@Int.mul_le_mul_of_nonneg_right
def W6:=@List.getElem?_set_ne
def W7:=@List.getElem?_append_left
def W8:=@wpAny_mono
def W9:=@Nat.not_lt_zero
def Va:=@Bool.or_eq_true
def Vb:=@PySem.W.mg_of
def Vc:=@Array.size_setIfInBounds
def Vd:=@beq_eq_false_iff_ne
def Ve:=@Int.toNat_natCast
def Vf:=@PySem.W.mg_none_of
def Vg:=@List.sum_cons
def Vh:=@List.nodup_cons
def Vi:=@PassesOwn.leaving
def Vj:=@List.mem_append_right
def Vk:=@Nat.lt_irrefl
def Vl:=@List.nodup_nil
def Vm:=@Int.mul_nonneg
def Vn:=@Heap.size_push
def Vo:=@List.mem_zipIdx_iff_getElem?
def Vp:=@List.foldl_cons
def Vq:=@Int.neg_mul_neg
def Vr:=@Int.mul_zero
def Vs:=@beq_iff_eq
def Vt:=@Int.not_lt
def Vu:=@decide_eq_false_iff_not
def Vv:=@List.getElem?_of_mem
def Vw:=@PyProof.Rows.callWith_type1
def Vx:=@numAt_eq
def Vy:=@Nat.lt_trans
def Vz:=@Nat.le_of_lt
def VA:=@List.getElem?_set_self
def VB:=@List.getElem?_append_right
def VC:=@Int.mul_comm
def VD:=@List.append_nil
def VF:=@List.length_replicate
def VG:=@List.mem_filterMap
def VH:=@List.map_map
def VI:=@List.mem_range
def VJ:=@Int.mul_le_mul_of_nonneg_left
def VL:=@wpAny_loadPart_at
def VM:=@Nat.lt_trichotomy
def VN:=@Nat.min_le_left
def VO:=@List.length_set
def VP:=@List.find?_cons
def VQ:=@Int.zero_add
def VR:=@Int.lt_trans
def VS:=@List.length_drop
def VT:=@wpAny_Call_Name_kw
def VU:=@List.mem_iff_getElem?
def VV:=@List.length_singleton
def VW:=@Option.map_some
def VX:=@PySem.W.hideAll_none
def VY:=@Int.mul_pos
def VZ:=@Int.le_refl
def V0:=@Int.add_comm
def V1:=@List.filterMap_cons
def V2:=@Array.length_toList
def V3:=@List.lookup_cons
def V4:=@List.getElem?_replicate
def V5:=@Bool.false_and
def V6:=@List.map_nil
def V7:=@Int.zero_mul
def V8:=@Int.natCast_nonneg
def V9:=@Int.lt_asymm
def Xa:=@wpAny_passesOwn
def Xb:=@List.mem_filter
def Xc:=@List.length_nil
def Xd:=@Int.natCast_mul
def Xe:=@List.map_take
def Xf:=@List.any_cons
def Xg:=@Bool.false_or
def Xh:=@PyProof.Rows.boot_max
def Xi:=@wpAny_truthy_bool
def Xj:=@List.append_assoc
def Xk:=@wpAny_typeLookup_exc
def Xl:=@Array.toList_setIfInBounds
def Xm:=@Nat.lt_succ_self
def Xn:=@List.mem_flatMap
def Xo:=@PySem.W.hideAll_get
def Xp:=@List.all_cons
def Xq:=@Bool.true_and
def Xr:=@Bool.and_true
def Xs:=@PySem.W.callWith_K
def Xt:=@codeAny_mono
def Xu:=@List.pairwise_lt_range
def Xv:=@List.nodup_append
def Xw:=@List.length_range
def Xx:=@List.Pairwise.imp
def Xy:=@Int.ofNat_le
def XA:=@Bool.and_false
def XB:=@plainObj_wpAny_Assign_Attribute
def XC:=@PyProof.Rows.boot_min
def XD:=@Nat.min_le_right
def XE:=@Nat.min_eq_right
def XF:=@List.getElem_mem
def XG:=@List.countP_cons
def XH:=@wpAny_holding
def XI:=@List.mem_of_mem_take
def XJ:=@List.mem_append_left
def XL:=@List.count_eq_zero_of_not_mem
def XN:=@wpAny_execs_nil
def XQ:=@Nat.min_eq_left
def XS:=@List.of_mem_zip
def XT:=@List.map_congr_left
def XU:=@Nat.sub_self
def XV:=@Nat.add_zero
def XW:=@Int.add_zero
def XZ:=@PySem.W.of_hideAll
def X5:=@List.zip_cons_cons
def X6:=@List.pairwise_cons
def X7:=@List.nodup_iff_pairwise_ne
def X8:=@List.find?_eq_none
def X9:=@List.filter_append
def Ua:=@Int.lt_or_lt_of_ne
def Ub:=@List.pairwise_iff_getElem
def Uc:=@List.getElem?_zip_eq_some
def Ud:=@List.drop_eq_getElem_cons
def Ue:=@Nat.le_of_succ_le
def Uf:=@List.foldl_append
def Ug:=@wpAny_standAt
def Uh:=@PySem.F.store_ValueError
def Ui:=@Paired.length
def Uj:=@List.map_drop
def Uk:=@List.getElem?_take_of_lt
def Ul:=@Nat.le_of_not_lt
def Um:=@Nat.le_add_right
def Uo:=@Int.eq_ofNat_of_zero_le
def Up:=@PySem.W.funFrames_hide
def Uq:=@PySem.W.cellsFrom_some
def Ur:=@Nat.succ_pos
def Us:=@Nat.le_of_eq
def Ut:=@Int.ne_of_lt
def Uv:=@Int.ne_of_gt
def Uw:=@Heap.get?_update_other
def Ux:=@Array.getElem?_eq_none
def Uy:=@pushCells_keeps
def Uz:=@List.count_cons
def UA:=@Heap.get?_update_self
def UB:=@Bool.and_eq_false_iff
def UC:=@sizeLine_eq
def UD:=@if_false
def UE:=@List.Pairwise.filter
def UF:=@Int.one_mul
def UG:=@Int.mul_neg
def UH:=@if_true
def UI:=@Nat.add_le_add_left
def UJ:=@wpAny_call
def UK:=@tupleKind_room_in1
def UL:=@Array.find?_toList
def UM:=@Array.setIfInBounds_eq_of_size_le
def UN:=@ite_self
def UO:=@Option.isSome_map
def UP:=@Nat.ne_of_gt
def UQ:=@Nat.lt_succ_of_lt
def UR:=@List.reverse_cons
def US:=@List.pairwise_map
def UT:=@List.any_map
def UU:=@Int.self_le_toNat
def UV:=@Bool.true_or
def UW:=@Bool.or_true
def UX:=@List.not_mem_nil
def UY:=@List.filter_cons
def UZ:=@List.cons_ne_nil
def U0:=@wpAny_loadPart'
def U1:=@PySem.W.length_le_weightAllW
def U2:=@List.sum_append
def U3:=@List.length_zip
def U4:=@List.filter_nil
def U5:=@Int.natCast_add
def U6:=@wpAny_newFunctionEnv_cells
def U7:=@Int.not_le
def U8:=@Calls.Name_function_global
def U9:=@List.mem_take_iff_getElem
def Ja:=@Int.mul_pos_of_neg_of_neg
def Jb:=@Int.mul_neg_of_pos_of_neg
def Jc:=@plainId_quiet
end
namespace L2
open PySem PySem.Spec PyProof.Rows
abbrev yF:=Sum Int Str
def zEW:yF->Value->Bool
|.inl k,v=>Value.isInt k v
|.inr x,v=>Value.isStrOf x v
def zRO (w:World):yF->Int
|.inl k=>hashInt k
|.inr x=>hashStr w x
theorem Zd:∀ {k:yF}{v:Value},zEW k v=true->(∃ i t,k=Sum.inl i/\v=Value.int i t)\/(∃ x t,k=Sum.inr x/\v=Value.str x t)
|.inl i,v,h=>by
  obtain⟨t,e⟩:=Value.isInt_shape (k:=i) (v:=v) h;exact .inl ⟨i,t,rfl,e⟩
|.inr x,v,h=>by
  obtain⟨t,e⟩:=Value.isStrOf_shape (x:=x) (v:=v) h;exact .inr ⟨x,t,rfl,e⟩
theorem zKz(i:Int)(t:Tok):zEW (.inl i) (.int i t)=true:=by simp[zEW,Value.isInt]
theorem zK0(x:Str)(t:Tok):zEW (.inr x) (.str x t)=true:=by simp[zEW,Value.isStrOf]
theorem zPK(a b:Int):decide ((Sum.inl a:yF)=Sum.inl b)=(a==b):=by
 by_cases e:a=b
 .subst e;simp
 .have h:¬ (Sum.inl a:yF)=Sum.inl b:=λq=>e (Sum.inl.inj q)
  rw[WB h];exact (Vd.mpr e).symm
theorem zPL(a b:Str):decide ((Sum.inr a:yF)=Sum.inr b)=decide (a=b):=by
 by_cases e:a=b
 .subst e;simp
 .have h:¬ (Sum.inr a:yF)=Sum.inr b:=λq=>e (Sum.inr.inj q)
  rw[WB h,WB e]
theorem zPM(a:Int)(b:Str):decide ((Sum.inl a:yF)=Sum.inr b)=false:=WB (λq=>nomatch q)
theorem zPN(a:Str)(b:Int):decide ((Sum.inr a:yF)=Sum.inl b)=false:=WB (λq=>nomatch q)
def yN (prog:Program)(w:World):PySem.KeyKind prog w yF where
 is:=zEW
 hash:=zRO w
 inj:=λv a b ha hb=>by
  rcases Zd ha with ⟨i,t,rfl,rfl⟩|⟨x,t,rfl,rfl⟩
  .rcases Zd hb with ⟨j,u,rfl,e⟩|⟨y,u,rfl,e⟩
   .injection e with e1 _;rw[e1]
   .exact nomatch e
  .rcases Zd hb with ⟨j,u,rfl,e⟩|⟨y,u,rfl,e⟩
   .exact nomatch e
   .injection e with e1 _;rw[e1]
 byValue:=λk v h=>by
  rcases Zd h with ⟨i,t,rfl,rfl⟩|⟨x,t,rfl,rfl⟩ <;> rfl
 pyHash:=λhv h=>by
  rcases Zd hv with ⟨i,t,rfl,rfl⟩|⟨x,t,rfl,rfl⟩
  .exact wpAny_pyHash_int h
  .exact wpAny_pyHash_str h
 eqBool:=λhu hv h=>by
  rcases Zd hu with ⟨i,t,rfl,rfl⟩|⟨x,t,rfl,rfl⟩
  .rcases Zd hv with ⟨j,u,rfl,rfl⟩|⟨y,u,rfl,rfl⟩
   .rw[zPK] at h;exact wpAny_eqBool_int h
   .rw[zPM] at h;exact SeqAt.EqAt.int_str i t y u _ _ _ _ h
  .rcases Zd hv with ⟨j,u,rfl,rfl⟩|⟨y,u,rfl,rfl⟩
   .rw[zPN] at h;exact SeqAt.EqAt.str_int x t j u _ _ _ _ h
   .rw[zPL] at h;exact wpAny_eqBool_str h
 «strs»:=λk x t v h=>by
  rcases Zd h with ⟨i,u,rfl,e⟩|⟨y,u,rfl,e⟩
  .exact nomatch e
  .injection e with e1 _
   subst e1;cases v <;> rfl
theorem zId(prog:Program)(w:World)(i:Int)(t:Tok):(yN prog w).is (.inl i) (.int i t)=true:=zKz i t
theorem zIe(prog:Program)(w:World)(x:Str)(t:Tok):(yN prog w).is (.inr x) (.str x t)=true:=zK0 x t
inductive V where
|non|bl (b:Bool)|int (i:Int)|str (x:Str)|byt (b:Array UInt8)|flt (b:UInt64)|ref (a:Addr)|ty (n:String)
 deriving DecidableEq
def zr:V->Value->Prop
|.non,u=>u=Value.none
|.bl b,u=>u=Value.bool b
|.int i,u=>∃ t,u=Value.int i t
|.str x,u=>∃ t,u=Value.str x t
|.byt b,u=>∃ t,u=Value.bytes b t
|.flt b,u=>∃ t,u=Value.float b t
|.ref a,u=>u=Value.ref a
|.ty n,u=>u=Value.type n
abbrev zd:List V->List Value->Prop:=Paired zr
theorem zd.length{xs:List V}{us:List Value}(r:zd xs us):xs.length=us.length:=Ui r
theorem zd.get:∀ {xs:List V}{us:List Value}{i:Nat}{x:V},zd xs us->xs[i]?=some x->∃ u,us[i]?=some u/\zr x u
|_,_,_,_,.nil,e=>by simp at e
|_,_,0,_,.cons r _,e=>by simp at e;subst e;exact⟨_,rfl,r⟩
|_,_,i+1,x,.cons _ t,e=>by
  obtain⟨u,h1,h2⟩:=zd.get (i:=i) (x:=x) t (by simpa using e);exact⟨u,by simpa using h1,h2⟩
theorem zd.set{x:V}{u:Value}(r:zr x u):∀ {xs:List V}{us:List Value}(i:Nat),zd xs us->zd (xs.set i x) (us.set i u)
|_,_,_,.nil=>.nil
|_,_,0,.cons _ t=>.cons r t
|_,_,i+1,.cons q t=>.cons q (zd.set r i t)
theorem zd.append:∀ {xs ys:List V}{us ws:List Value},zd xs us->zd ys ws->zd (xs++ys) (us++ws)
|_,_,_,_,.nil,s=>s
|_,_,_,_,.cons r t,s=>.cons r (zd.append t s)
theorem zd.take:∀ {xs:List V}{us:List Value}(n:Nat),zd xs us->zd (xs.take n) (us.take n)
|_,_,0,_=>.nil
|_,_,_+1,.nil=>.nil
|_,_,n+1,.cons r t=>.cons r (zd.take n t)
theorem zd.drop:∀ {xs:List V}{us:List Value}(n:Nat),zd xs us->zd (xs.drop n) (us.drop n)
|_,_,0,r=>r
|_,_,_+1,.nil=>.nil
|_,_,n+1,.cons _ t=>zd.drop n t
def Yg:Option V->Option Value->Prop
|some v,some u=>zr v u
|none,none=>True
|_,_=>False
def KV {κ:Type}:List (κ×V)->List (κ×Value)->Prop:=Paired λ(p:κ×V) (q:κ×Value)=>p.1=q.1/\zr p.2 q.2
def kV:yF->V
|.inl i=>.int i
|.inr x=>.str x
inductive HO where
 |lst (xs:List V)
 |tup (xs:List V)
 |dK (kvs:List (yF×V))|dT (kvs:List (List yF×V))
 |set (S:Int->Bool) (n:Nat)
 |ins (C dx:Addr) (fs:List (Str×V))
 |own (x:Addr)
 |xd (fs:List (Str×V))
 |met (f x:Addr)
 |rng (lo hi:Int)
 |frz (o:Obj) (u:HO)
 |tbl (ps:Array Value)
 |ext (φ:Heap->Prop)
abbrev Hp:=Addr->Option HO
def upd (H:Hp)(a:Addr)(o:HO):Hp:=λb=>if b=a then some o else H b
theorem zF{H:Hp}{a:Addr}{o:HO}:upd H a o a=some o:=by unfold upd;rw[Wb rfl]
theorem zG{H:Hp}{a b:Addr}{o:HO}(h:b≠a):upd H a o b=H b:=by unfold upd;rw[Wa h]
theorem zQi{H:Hp}{a b:Addr}{o u:HO}(h:H a=some o)(h':H b=some u)(d:o≠u):a≠b:=by
 intro e;subst e;rw[h] at h';exact d (WN h')
theorem zN{H:Hp}{a b:Addr}{o:HO}(h:H a=some o)(h':H b=none):a≠b:=by
 intro e;subst e;rw[h] at h';cases h'
section
variable (P:Program) (w:World)
def yj (H:Hp)(h:Heap)(a:Addr):HO->Prop
|.lst xs=>xs.length<=sizeLine/\∃ (its:List Value) (n:Nat),zd xs its/\h.get? a=some {cls:=.type "list",data:=.seq its.toArray n}
|.tup xs=>xs.length<=sizeLine/\∃ its:List Value,zd xs its/\IsTup h a its.toArray
|.dK kvs=>kvs.length<=sizeLine/\(a==sysModules)=false/\∃ vs,KV kvs vs/\h.DictOf (yN P w) a vs
|.dT kvs=>kvs.length<=sizeLine/\(a==sysModules)=false/\∃ xs:List (List yF×Addr×Value),
   Paired (λ(p:List yF×V) (q:List yF×Addr×Value)=>p.1=q.1/\H q.2.1=some (.tup (p.1.map kV))/\zr p.2 q.2.2) kvs xs/\
   ∃ o es ep,h.get? a=some o/\o.ExactDict/\o.data=.dict es ep/\es.toList=xs.map (entryOfKey (tupleKind (yN P w)))/\(xs.map (·.1)).Nodup
|.set S n=>h.SetOf (intKind P w) a S n
|.ins C dx fs=>H dx=some (.own a)/\fs.length<=1000/\dx≠a/\h.get? a=some (PySem.W.instObj C dx)/\
   ∃ mA,h.Ns1 dx mA/\(∀ f,Yg (fs.lookup f) (mA f))/\PySem.Within mA (fs.map (·.1))
|.own _=>∃ o,h.get? a=some o
|.xd fs=>∃ mA,h.Ns1 a mA/\∀ f,Yg (fs.lookup f) (mA f)
|.rng lo hi=>∃ t u v,h.get? a=some {cls:=.type "range",data:=.fields #[.int lo t,.int hi u,.int 1 v]}
|.frz o u=>h.get? a=some o/\yj H h a u
|.tbl ps=>h.get? a=some {cls:=.none,data:=.fields ps}
|.met f x=>h.get? a=some (PySem.W.methodObj (.ref f) (.ref x))
|.ext φ=>φ h/\(∃ o,h.get? a=some o)/\∀ h1 h2:Heap,φ h1->(∀ o,h1.get? a=some o->h2.get? a=some o)->φ h2
def Za (H:Hp)(h:Heap):Prop:=∀ a o,H a=some o->yj P w H h a o
end
section
variable {P:Program}{w:World}{H H':Hp}{h h':Heap}{a:Addr}{o:HO}
theorem yj.lt(x:yj P w H h a o):a<h.objs.size:=by
 cases o with
|lst xs=>obtain⟨_,_,_,_,e⟩:=x;exact Wl e
|tup xs=>obtain⟨_,_,_,p⟩:=x;exact p.lt
|dK kvs=>obtain⟨_,_,_,_,o,_,_,e,_⟩:=x;exact Wl e
|dT kvs=>obtain⟨_,_,_,_,o,_,_,e,_⟩:=x;exact Wl e
|set S n=>obtain⟨o,_,_,_,e,_⟩:=x;exact Wl e
|ins C dx fs=>obtain⟨_,_,_,e,_⟩:=x;exact Wl e
|own y=>obtain⟨_,e⟩:=x;exact Wl e
|xd fs=>obtain⟨_,⟨_,_,_,e,_⟩,_⟩:=x;exact Wl e
|rng lo hi=>obtain⟨_,_,_,e⟩:=x;exact Wl e
|frz ob u=>obtain⟨e,_⟩:=x;exact Wl e
|tbl ps=>exact Wl (show h.get? a=some _ from x)
|met f y=>exact Wl (show h.get? a=some _ from x)
|ext φ=>obtain⟨_,⟨_,e⟩,_⟩:=x;exact Wl e
theorem Paired.mapP{α β:Type}{F G:α->β->Prop}:∀ {l₁:List α}{l₂:List β},Paired F l₁ l₂->(∀ a b,F a b->G a b)->Paired G l₁ l₂
|_,_,.nil,_=>.nil
|_,_,.cons r t,f=>.cons (f _ _ r) (Paired.mapP t f)
theorem yj.stay(x:yj P w H h a o)(k:∀ b u,(b=a\/H b=some (.own a))->h.get? b=some u->h'.get? b=some u)
  (ho:∀ b,H b=some (.own a)->H' b=some (.own a))(ht:∀ b xs,H b=some (.tup xs)->H' b=some (.tup xs)):yj P w H' h' a o:=by
 induction o with
|lst xs=>obtain⟨z,its,n,r,e⟩:=x;exact⟨z,its,n,r,k _ _ (.inl rfl) e⟩
|tup xs=>obtain⟨z,its,r,ob,e,c⟩:=x;exact⟨z,its,r,ob,k _ _ (.inl rfl) e,c⟩
|dK kvs=>obtain⟨z,y,vs,r,ob,es,ep,e,c⟩:=x;exact⟨z,y,vs,r,ob,es,ep,k _ _ (.inl rfl) e,c⟩
|dT kvs=>
  obtain⟨z,y,xs,r,ob,es,ep,e,c⟩:=x;exact⟨z,y,xs,Paired.mapP r λp q z=>⟨z.1,ht _ _ z.2.1,z.2.2⟩,ob,es,ep,k _ _ (.inl rfl) e,c⟩
|set S n=>obtain⟨ob,es,ep,t,e,c⟩:=x;exact⟨ob,es,ep,t,k _ _ (.inl rfl) e,c⟩
|ins C dx fs=>
  obtain⟨d,z,ne,e,mA,⟨od,es,ep,e2,c⟩,r⟩:=x;exact⟨ho _ d,z,ne,k _ _ (.inl rfl) e,mA,⟨od,es,ep,k _ _ (.inr d) e2,c⟩,r⟩
|own y=>obtain⟨ob,e⟩:=x;exact⟨ob,k _ _ (.inl rfl) e⟩
|xd fs=>obtain⟨mA,⟨od,es,ep,e,c⟩,r⟩:=x;exact⟨mA,⟨od,es,ep,k _ _ (.inl rfl) e,c⟩,r⟩
|rng lo hi=>obtain⟨t,u,v,e⟩:=x;exact⟨t,u,v,k _ _ (.inl rfl) e⟩
|frz ob u ih=>obtain⟨e,q⟩:=x;exact⟨k _ _ (.inl rfl) e,ih q⟩
|tbl ps=>
  have e:h.get? a=some {cls:=.none,data:=.fields ps}:=x;show h'.get? a=some {cls:=.none,data:=.fields ps};exact k a _ (.inl rfl) e
|met f y=>
  have e:h.get? a=some (PySem.W.methodObj (.ref f) (.ref y)):=x;show h'.get? a=some (PySem.W.methodObj (.ref f) (.ref y));exact k a _ (.inl rfl) e
|ext φ=>obtain⟨p,⟨o,e⟩,st⟩:=x;exact⟨st _ _ p λo q=>k _ _ (.inl rfl) q,⟨o,k _ _ (.inl rfl) e⟩,st⟩
theorem Za.lt(x:Za P w H h)(e:H a=some o):a<h.objs.size:=(x a o e).lt
theorem Za.fresh(x:Za P w H h)(e:h.objs.size<=a):H a=none:=by
 cases q:H a with
|none=>rfl
|some u=>exact absurd (yU (x.lt q) e) (Vk _)
theorem Za.kept(x:Za P w H h)(k:∀ b u,h.get? b=some u->h'.get? b=some u):Za P w H h':=λa o e=>
 (x a o e).stay (λb u _ q=>k b u q) (λ_ q=>q) λ_ _ q=>q
theorem Za.laid(x:Za P w H h)(k:∀ b u,h.get? b=some u->h'.get? b=some u)(hp:h.objs.size<=a)(new:yj P w (upd H a o) h' a o):Za P w (upd H a o) h':=λb u e=>by
 have hn:=x.fresh hp;by_cases hb:b=a
 .subst hb;rw[zF] at e;cases e;exact new
 .rw[zG hb] at e;exact (x b u e).stay (λc v _ q=>k c v q) (λc q=>by rw[zG (zN q hn)];exact q) λc xs q=>by rw[zG (zN q hn)];exact q
end
def Rd (H:Hp)(a:Addr)(u:HO):Prop:=H a=some u\/∃ o,H a=some (.frz o u)
theorem Rd.ok{P:Program}{w:World}{H:Hp}{h:Heap}{a:Addr}{u:HO}(r:Rd H a u)(x:Za P w H h):yj P w H h a u:=by
 rcases r with r|⟨o,r⟩
 .exact x a u r
 .obtain⟨_,q⟩:=x a _ r;exact q
def Mut:Option HO->Prop
|some (.lst _)=>True
|some (.dK _)=>True
|some (.dT _)=>True
|some (.set _ _)=>True
|some (.ins _ _ _)=>True
|some (.ext _)=>True
|_=>False
section
variable {P:Program}{w:World}{H:Hp}{h h':Heap}{x e:Addr}{o':HO}
theorem Za.write(ok:Za P w H h)(mu:Mut (H x))(he:e=x\/H e=some (.own x))(k:∀ b u,b≠e->h.get? b=some u->h'.get? b=some u)(heo:∃ u,h'.get? e=some u)
  (new:yj P w (upd H x o') h' x o'):Za P w (upd H x o') h':=λb u q=>by
 have nown:∀ c y,H c=some (.own y)->c≠x:=λc y r z=>by subst z;rw[r] at mu;exact mu
 have ntup:∀ c xs,H c=some (.tup xs)->c≠x:=λc xs r z=>by subst z;rw[r] at mu;exact mu
 by_cases hb:b=x
 .subst hb;rw[zF] at q;cases q;exact new
 .rw[zG hb] at q;by_cases hbe:b=e
  .have q':H b=some (.own x):=by
    rcases he with z|z
    .exact absurd (hbe.trans z) hb
    .rw[hbe];exact z
   rw[q] at q';cases q';obtain⟨v,hv⟩:=heo;exact⟨v,by rw[hbe];exact hv⟩
  .refine (ok b u q).stay (λc v hc r=>k c v ?_ r) (λc r=>by rw[zG (nown c b r)];exact r) λc xs r=>by rw[zG (ntup c xs r)];exact r
   rcases hc with rfl|hc
   .exact hbe
   .rintro rfl;rcases he with z|z
    .exact nown c b hc z
    .rw[hc] at z;cases z;exact hb rfl
end
structure Un(fs ex:List Addr)(H H':Hp)(h h':Heap):Prop where
 keep:∀ b o,h.get? b=some o->H b=none->b∉fs->b∉ex->h'.get? b=some o
 slot:∀ b o,h.get? b=some o->H b=none->b∈fs->b∉ex->∃ sl,h'.get? b=some {o with slots:=sl}
 free:∀ b o,h.get? b=some o->H b=none->b∉ex->H' b=none
 there:∀ b o,h.get? b=some o->b∉ex->∃ o',h'.get? b=some o'
 tups:∀ b xs,H b=some (.tup xs)->H' b=some (.tup xs)
 frzs:∀ b o u,H b=some (.frz o u)->H' b=some (.frz o u)
 tbls:∀ b ps,H b=some (.tbl ps)->∃ more,H' b=some (.tbl (ps++more))
section
variable {fs fs' ex ex':List Addr}{H H1 H2:Hp}{h h1 h2 h':Heap}{a x e:Addr}{o:HO}
theorem Un.any(u:Un fs ex H H1 h h1){b:Addr}{ob:Obj}(q:h.get? b=some ob)(n:H b=none)(hx:b∉ex):∃ sl,h1.get? b=some {ob with slots:=sl}:=by
 by_cases hb:b∈fs
 .exact u.slot b ob q n hb hx
 .exact⟨ob.slots,u.keep b ob q n hb hx⟩
theorem Un.kept(k:∀ b u,h.get? b=some u->h'.get? b=some u):Un fs ex H H h h':=
 ⟨λb ob q _ _ _=>k b ob q,λb ob q _ _ _=>⟨ob.slots,k b ob q⟩,λ_ _ _ n _=>n,λb ob q _=>⟨ob,k b ob q⟩,λ_ _ q=>q,λ_ _ _ q=>q,λ_ ps q=>⟨#[],by rw[q];simp⟩⟩
theorem Un.refl:Un fs ex H H h h:=Un.kept λ_ _ q=>q
theorem Un.laid(k:∀ b u,h.get? b=some u->h'.get? b=some u)(hp:h.objs.size<=a)(hn:H a=none):Un fs ex H (upd H a o) h h' where
 keep:=λb u q _ _ _=>k b u q
 slot:=λb u q _ _ _=>⟨u.slots,k b u q⟩
 free:=λb u q n _=>by rw[zG (WE (yU (Wl q) hp))];exact n
 there:=λb u q _=>⟨u,k b u q⟩
 tups:=λb xs q=>by rw[zG (zN q hn)];exact q
 frzs:=λb u xs q=>by rw[zG (zN q hn)];exact q
 tbls:=λb ps q=>⟨#[],by rw[zG (zN q hn),q];simp⟩
theorem Un.write(mu:Mut (H x))(he:e=x\/H e=some (.own x))(k:∀ b u,b≠e->h.get? b=some u->h'.get? b=some u)(heo:∃ u,h'.get? e=some u):Un fs ex H (upd H x o) h h':=by
 have hx:∀ b,H b=none->b≠x:=λb n z=>by subst z;rw[n] at mu;exact mu
 have hb:∀ b,H b=none->b≠e:=λb n z=>by
  subst z;rcases he with r|r
  .exact hx b n r
  .rw[n] at r;cases r
 have hm:∀ b u,H b=some u->¬ Mut (some u)->b≠x:=λb u q nm z=>by subst z;rw[q] at mu;exact nm mu
 refine⟨λb u q n _ _=>k b u (hb b n) q,λb u q n _ _=>⟨u.slots,k b u (hb b n) q⟩,λb u q n _=>by rw[zG (hx b n)];exact n,λb u q _=>?_,
  λb xs q=>by rw[zG (hm b _ q λz=>z)];exact q,λb u xs q=>by rw[zG (hm b _ q λz=>z)];exact q,λb ps q=>⟨#[],by rw[zG (hm b _ q λz=>z),q];simp⟩⟩
 by_cases hbe:b=e
 .subst hbe;exact heo
 .exact⟨u,k b u hbe q⟩
end
def trk (h:Heap)(H:Hp):List Addr:=(List.range h.objs.size).filter λa=>(H a).isSome
def zDR (h:Heap)(H:Hp):Heap:=PySem.W.hideAll h (trk h H)
theorem zK1(h:Heap)(H:Hp):(zDR h H).objs.size=h.objs.size:=PySem.W.hideAll_size _ _
theorem zMH{h:Heap}{H:Hp}{b:Addr}{o:Obj}(e:h.get? b=some o)(n:H b=none):(zDR h H).get? b=some o:=
 Xo _ e λhm=>by
  have q:(H b).isSome=true:=(Xb.mp hm).2;rw[n] at q;simp at q
theorem zNm{h:Heap}{H:Hp}{b:Addr}{o:Obj}(e:(zDR h H).get? b=some o):h.get? b=some o/\H b=none:=by
 have e':h.get? b=some o:=XZ (trk h H) e;refine⟨e',?_⟩;cases q:H b with
|none=>rfl
|some x=>
  have hm:b∈trk h H:=Xb.mpr ⟨VI.mpr (Wl e'),by simp[q]⟩;have z:(zDR h H).get? b=none:=VX (trk h H) hm;rw[z] at e;cases e
def zNn (g h:Heap)(L:Addr):Qp:=(List.range h.objs.size).filterMap λa=>if a=L\/(g.get? a).isSome=true then none else (h.get? a).map λo=>(a,o)
def Zw (g h:Heap)(L d:Addr):Qp:=(zNn g h L).filter λp=>decide (p.1≠d)
structure Mod(K:Qf)(mg:Qm)(base:Heap):Prop where
 kin:K.In base
 glob:base.Ns mainGlobals mg
 blt:∃ mb,base.Ns builtinsNs mb/\∀ x:Str,x≠"__name__"->mb x=bootBuiltins x
 nolimit:base.NoLimit
structure Cx where
 prog:Program
 w:World
 K:Qf
 mg:Qm
 base:Heap
 A:Around
 N:List Str
 s_0:Shared
 H_0:Hp
 env:Env
 outer:List Env
 stack:List Env
 ex:List Addr
 fn:Str->Bool
 calm:Bool
 pn:Qp
 xe:Qs
def yo (l:List Env):List Addr:=l.filterMap (·.frame)
abbrev Cx.fs(X:Cx):List Addr:=yo X.outer
def Vis (sc:Scope)(x:Str):Prop:=sc.names.lookup x=some .local\/sc.names.lookup x=some .cell\/sc.names.lookup x=some .free
def Loc (sc:Scope)(x:Str):Prop:=sc.names.lookup x=some .local\/sc.names.lookup x=some .cell
def zRP (env:Env)(h:Heap)(m:Qm)(x:Str)(u:Value):Prop:=
 (env.kindOf x=some .local/\m x=some u)\/((env.kindOf x=some .cell\/env.kindOf x=some .free)/\∃ c,env.cells.lookup x=some c/\h.IsCell c (some u))
structure Cx.Ok(X:Cx):Prop where
 mod:Mod X.K X.mg X.base
 kind:X.env.scope.kind=.function
 glob:X.env.globals=mainGlobals
 blt:X.env.builtins=builtinsNs
 above:X.s_0.heap.objs.size<=X.env.locals
 inj:∀ x y c,X.env.cells.lookup x=some c->X.env.cells.lookup y=some c->x=y
 has:∀ x,(X.env.kindOf x=some .cell\/X.env.kindOf x=some .free)->∃ c,X.env.cells.lookup x=some c
 cab:∀ x c,X.fn x=true->X.env.cells.lookup x=some c->X.s_0.heap.objs.size<=c
 hd:X.calm=true->X.A.handled=none
 frames:X.A.frames=some X.stack
 stk:X.stack=X.outer\/(X.stack=X.env::X.outer/\X.env.frame=some X.env.locals)
 exf:∀ b∈X.ex,b≠X.env.locals/\∀ x c,X.env.cells.lookup x=some c->c≠b
 bs:∀ b o,X.base.get? b=some o->X.s_0.heap.get? b=some o/\X.H_0 b=none
 bsz:X.base.objs.size<=X.s_0.heap.objs.size
 noex:∀ b o,X.base.get? b=some o->b∉X.ex
 exfs:∀ b∈X.ex,b∉X.fs
 funs:X.s_0.heap.FunFrames X.base X.outer
 frf:∀ b∈X.fs,X.H_0 b=none
structure zK(X:Cx)(pins:Qp)(σ:List (Option V))(H:Hp)(s:Shared):Prop where
 ok:X.Ok
 os:s.os=X.s_0.os
 bare:AllBare s.gens
 base:Un X.fs X.ex X.H_0 H X.s_0.heap s.heap
 loc:∃ m,s.heap.Ns X.env.locals m/\∀ (i:Nat) (x:Str) (v:V),X.N[i]?=some x->σ[i]?=some (some v)->Vis X.env.scope x->∃ u,zr v u/\zRP X.env s.heap m x u
 cell:∀ x c,X.env.cells.lookup x=some c->∃ v,s.heap.IsCell c v
 free:H X.env.locals=none
 freeC:∀ x c,X.env.cells.lookup x=some c->H c=none
 pin:∀ p∈X.pn++pins,s.heap.get? p.1=some p.2/\H p.1=none/\p.1≠X.env.locals/\p.1∉X.fs/\∀ v,p.2.data≠.cell v
 hok:Za X.prog X.w H s.heap
 len:σ.length=X.N.length
section
variable {X:Cx}{pins:Qp}{σ:List (Option V)}{H H':Hp}{s:Shared}{h':Heap}
theorem Cx.Ok.nofr(ok:X.Ok){b:Addr}{o:Obj}(e:X.base.get? b=some o):b∉X.fs:=λhb=>by
 have:=(ok.funs.mem hb).1;rw[e] at this;cases this
theorem zK.bs(I:zK X pins σ H s):∀ b o,X.base.get? b=some o->s.heap.get? b=some o/\H b=none:=λb o e=>
 ⟨I.base.keep b o (I.ok.bs b o e).1 (I.ok.bs b o e).2 (I.ok.nofr e) (I.ok.noex b o e),I.base.free b o (I.ok.bs b o e).1 (I.ok.bs b o e).2 (I.ok.noex b o e)⟩
theorem zK.bk(I:zK X pins σ H s):∀ b o,X.base.get? b=some o->s.heap.get? b=some o:=λb o e=>(I.bs b o e).1
theorem zK.mod(I:zK X pins σ H s):Mod X.K X.mg X.base:=I.ok.mod
theorem zK.kIn(I:zK X pins σ H s):X.K.In s.heap:=I.ok.mod.kin.keeps I.bk
theorem zK.lt(I:zK X pins σ H s):X.env.locals<s.heap.objs.size:=let ⟨_,hn,_⟩:=I.loc;hn.lt
theorem zK.sz(I:zK X pins σ H s):X.s_0.heap.objs.size<=s.heap.objs.size:=WT I.ok.above (Vz I.lt)
theorem zK.nofs(I:zK X pins σ H s){a:Addr}(h:s.heap.objs.size<=a):a∉X.fs:=λhb=>by
 obtain⟨_,o,ho,_⟩:=I.ok.funs.mem hb;exact absurd (yU (Wl ho) (WT I.sz h)) (Vk _)
theorem zK.cne(I:zK X pins σ H s):∀ x c,X.env.cells.lookup x=some c->c≠X.env.locals:=λx c e z=>by
 obtain⟨v,o,ho,hd⟩:=I.cell x c e;obtain⟨m,⟨o',es,ep,ho',hd',_⟩,_⟩:=I.loc;rw[z,ho'] at ho;cases ho;rw[hd'] at hd;cases hd
theorem zK.funs(I:zK X pins σ H s):s.heap.FunFrames X.base X.outer:=by
 have all:∀ (l:List Env),(∀ b∈yo l,b∈X.fs)->X.s_0.heap.FunFrames X.base l->s.heap.FunFrames X.base l:=by
  intro l
  induction l with
 |nil=>intro _ _;trivial
 |cons env r ih=>
   intro hs hl;obtain⟨hk,⟨L,o,hf,hn,ho,hd⟩,hr⟩:=hl;have hL:L∈X.fs:=hs L (by unfold yo;rw[V1,hf];exact Wt);obtain⟨sl,e⟩:=I.base.slot L o ho (I.ok.frf L hL) hL λz=>I.ok.exfs L z hL
   exact⟨hk,⟨L,_,hf,hn,e,hd⟩,ih (λb hb=>hs b (by unfold yo;rw[V1,hf];exact We _ hb)) hr⟩
 exact all X.outer (λ_ hb=>hb) I.ok.funs
theorem zK.stack(I:zK X pins σ H s):s.heap.FunFrames X.base X.stack:=by
 rcases I.ok.stk with e|⟨e,hf⟩
 .rw[e];exact I.funs
 .rw[e];obtain⟨m,hn,_⟩:=I.loc;refine .cons (by rw[I.ok.kind];decide) hf hn ?_ I.funs;exact Heap.get?_none_of_le (WT I.ok.bsz I.ok.above)
theorem zK.stkSub(I:zK X pins σ H s):∀ b∈yo X.stack,b∈X.env.locals::X.fs:=λb hb=>by
 rcases I.ok.stk with e|⟨e,hf⟩
 .rw[e] at hb;exact We _ hb
 .rw[e] at hb;unfold yo at hb;rw[V1,hf] at hb;exact hb
theorem zK.stkFree(I:zK X pins σ H s):∀ b∈yo X.stack,H b=none:=λb hb=>by
 rcases Wc.mp (I.stkSub b hb) with e|hb
 .rw[e];exact I.free
 .obtain⟨_,o,ho,_⟩:=I.ok.funs.mem hb;exact I.base.free b o ho (I.ok.frf b hb) λz=>I.ok.exfs b z hb
theorem zK.step{g':Array GenState}{t':Nat}{d':Drawn}{ch:List Addr}(I:zK X pins σ H s)
  (hch:∀ b∈ch,(b∈X.ex\/X.s_0.heap.objs.size<=b)/\b≠X.env.locals/\(∀ x c,X.env.cells.lookup x=some c->c≠b)/\∀ p∈X.pn++pins,p.1≠b)
  (keep:∀ b o,b≠X.env.locals->b∉X.fs->b∉ch->s.heap.get? b=some o->H b=none->h'.get? b=some o)
  (slot:∀ b o,b≠X.env.locals->b∈X.fs->b∉ch->s.heap.get? b=some o->H b=none->∃ sl,h'.get? b=some {o with slots:=sl})(free:∀ b o,b∉ch->s.heap.get? b=some o->H b=none->H' b=none)
  (there:∀ b o,b∉ch->s.heap.get? b=some o->∃ o',h'.get? b=some o')
  (tups:∀ b xs,H b=some (.tup xs)->H' b=some (.tup xs))(frzs:∀ b o u,H b=some (.frz o u)->H' b=some (.frz o u))(tbls:∀ b ps,H b=some (.tbl ps)->∃ more,H' b=some (.tbl (ps++more)))
  (ns:∀ m,s.heap.Ns X.env.locals m->h'.Ns X.env.locals m)(hok:Za X.prog X.w H' h')(hg:AllBare g') :
  zK X pins σ H' {s with heap:=h',gens:=g',drawn:=d',toks:=t'}:=by
 have neL:∀ b o,X.s_0.heap.get? b=some o->b≠X.env.locals:=λb o e=>WE (yU (Wl e) I.ok.above)
 have neC:∀ b o,X.s_0.heap.get? b=some o->b∉X.ex->b∉ch:=λb o e hx hb=>by
  rcases (hch b hb).1 with z|z
  .exact hx z
  .exact absurd (yU (Wl e) z) (Vk _)
 have cellK:∀ x c,X.env.cells.lookup x=some c->∀ v,s.heap.IsCell c v->h'.IsCell c v:=λx c e v ⟨o,ho,hd⟩=>by
  have nch:c∉ch:=λz=>(hch c z).2.2.1 x c e rfl
  by_cases hc:c∈X.fs
  .obtain⟨sl,q⟩:=slot c o (I.cne x c e) hc nch ho (I.freeC x c e);exact⟨_,q,hd⟩
  .exact⟨o,keep c o (I.cne x c e) hc nch ho (I.freeC x c e),hd⟩
 refine⟨I.ok,I.os,hg,⟨λb o e n hb hx=>?_,λb o e n hb hx=>?_,λb o e n hx=>?_,λb o e hx=>?_,λb xs e=>tups b xs (I.base.tups b xs e),λb o xs e=>frzs b o xs (I.base.frzs b o xs e),λb ps e=>?_⟩,?_,λx c e=>?_,?_,λx c e=>?_,λp hp=>?_,hok,I.len⟩
 .exact keep b o (neL b o e) hb (neC b o e hx) (I.base.keep b o e n hb hx) (I.base.free b o e n hx)
 .obtain⟨sl,e1⟩:=I.base.slot b o e n hb hx;obtain⟨sl',e2⟩:=slot b _ (neL b o e) hb (neC b o e hx) e1 (I.base.free b o e n hx);exact⟨sl',e2⟩
 .obtain⟨o',e1⟩:=I.base.there b o e hx;exact free b o' (neC b o e hx) e1 (I.base.free b o e n hx)
 .obtain⟨o',e1⟩:=I.base.there b o e hx;exact there b o' (neC b o e hx) e1
 .obtain⟨m1,e1⟩:=I.base.tbls b ps e;obtain⟨m2,e2⟩:=tbls b _ e1;exact⟨m1++m2,by rw[e2,Array.append_assoc]⟩
 .obtain⟨m,hn,hl⟩:=I.loc;refine⟨m,ns m hn,λi x v e1 e2 e3=>?_⟩;obtain⟨u,r,l⟩:=hl i x v e1 e2 e3;refine⟨u,r,?_⟩;rcases l with l|⟨k,c,e,z⟩
  .exact .inl l
  .exact .inr ⟨k,c,e,cellK x c e _ z⟩
 .obtain⟨v,z⟩:=I.cell x c e;exact⟨v,cellK x c e v z⟩
 .obtain⟨m,⟨o,_,_,ho,_⟩,_⟩:=I.loc;exact free _ o (λz=>(hch _ z).2.1 rfl) ho I.free
 .obtain⟨v,o,ho,hd⟩:=I.cell x c e;exact free c o (λz=>(hch c z).2.2.1 x c e rfl) ho (I.freeC x c e)
 .obtain⟨e,n,ne,nf,d⟩:=I.pin p hp;have nch:p.1∉ch:=λz=>(hch p.1 z).2.2.2 p hp rfl
  exact⟨keep p.1 p.2 ne nf nch e n,free p.1 p.2 nch e n,ne,nf,d⟩
theorem zK.un{t':Nat}(I:zK X pins σ H s)(u:Un X.fs [] H H' s.heap h')(hok:Za X.prog X.w H' h'):zK X pins σ H' {s with heap:=h',toks:=t'}:=by
 obtain⟨m,⟨o,es,ep,ho,r⟩,_⟩:=id I.loc;obtain⟨sl,hL⟩:=u.any ho I.free (by simp)
 exact I.step (g':=s.gens) (d':=s.drawn) (ch:=[]) (λ_ z=>nomatch z) (λb o _ hb _ e n=>u.keep b o e n hb (by simp)) (λb o _ hb _ e n=>u.slot b o e n hb (by simp)) (λb o _ e n=>u.free b o e n (by simp)) (λb o _ e=>u.there b o e (by simp)) u.tups u.frzs u.tbls (λm' hm=>by
  obtain⟨o',es',ep',ho',r'⟩:=hm;rw[ho] at ho';cases ho';exact⟨_,es',ep',hL,r'⟩) hok I.bare
theorem zK.call{g':Array GenState}{t':Nat}{d':Drawn}{ch:List Addr}(I:zK X pins σ H s)(u:Un (yo X.stack) ch H H' s.heap h')(hok:Za X.prog X.w H' h')(hg:AllBare g')
  (hch:∀ b∈ch,(b∈X.ex\/X.s_0.heap.objs.size<=b)/\b≠X.env.locals/\(∀ x c,X.env.cells.lookup x=some c->c≠b)/\∀ p∈X.pn++pins,p.1≠b) :
  zK X pins σ H' {s with heap:=h',gens:=g',drawn:=d',toks:=t'}:=by
 obtain⟨m,⟨o,es,ep,ho,r⟩,_⟩:=id I.loc;obtain⟨sl,hL⟩:=u.any ho I.free λz=>(hch _ z).2.1 rfl
 exact I.step (ch:=ch) hch (λb o hL hb hc e n=>u.keep b o e n (λz=>(Wc.mp (I.stkSub b z)).elim hL hb) hc) (λb o _ _ hc e n=>u.any e n hc) (λb o hc e n=>u.free b o e n hc) (λb o hc e=>u.there b o e hc) u.tups u.frzs u.tbls (λm' hm=>by
  obtain⟨o',es',ep',ho',r'⟩:=hm;rw[ho] at ho';cases ho';exact⟨_,es',ep',hL,r'⟩) hok hg
theorem zK.turned{t':Nat}{it:Addr}(I:zK X pins σ H s)(k:∀ b o,b≠it->s.heap.get? b=some o->h'.get? b=some o)(hn:H it=none)(hL:it≠X.env.locals)
  (h1:it∈X.ex\/X.s_0.heap.objs.size<=it)(h2:∀ x c,X.env.cells.lookup x=some c->c≠it)(h3:∀ p∈X.pn++pins,p.1≠it):zK X pins σ H {s with heap:=h',toks:=t'}:=by
 have nit:∀ b u,H b=some u->b≠it:=λb u e z=>by rw[z,hn] at e;cases e
 refine I.step (g':=s.gens) (d':=s.drawn) (ch:=[it]) (λb hb=>?_) (λb o _ _ hc e _=>k b o (λz=>hc (by simp[z])) e) (λb o _ _ hc e _=>⟨o.slots,k b o (λz=>hc (by simp[z])) e⟩) (λ_ _ _ _ n=>n)
  (λb o hc e=>⟨o,k b o (λz=>hc (by simp[z])) e⟩) (λ_ _ e=>e) (λ_ _ _ e=>e) (λb ps e=>⟨#[],by rw[e];simp⟩) (λm hm=>?_) (λb u e=>?_) I.bare
 .have e:b=it:=by simpa using hb
  subst e;exact⟨h1,hL,h2,h3⟩
 .obtain⟨o,es,ep,ho,r⟩:=hm;exact⟨o,es,ep,k _ o (Ne.symm hL) ho,r⟩
 .refine (I.hok b u e).stay (λc v hc q=>k c v ?_ q) (λ_ q=>q) λ_ _ q=>q
  rcases hc with z|z
  .rw[z];exact nit b u e
  .exact nit c _ z
theorem zK.tok(I:zK X pins σ H s)(t:Nat):zK X pins σ H {s with toks:=t}:=I.un (h':=s.heap) (t':=t) Un.refl I.hok
theorem zK.kept{t':Nat}(I:zK X pins σ H s)(k:∀ b u,s.heap.get? b=some u->h'.get? b=some u):zK X pins σ H {s with heap:=h',toks:=t'}:=I.un (Un.kept k) (I.hok.kept k)
theorem zK.laid{a:Addr}{o:HO}{t':Nat}(I:zK X pins σ H s)(k:∀ b u,s.heap.get? b=some u->h'.get? b=some u)(hp:s.heap.objs.size<=a)(new:yj X.prog X.w (upd H a o) h' a o) :
  zK X pins σ (upd H a o) {s with heap:=h',toks:=t'}:=I.un (Un.laid k hp (I.hok.fresh hp)) (I.hok.laid k hp new)
theorem zK.write{x e:Addr}{o:HO}{t':Nat}(I:zK X pins σ H s)(mu:Mut (H x))(he:e=x\/H e=some (.own x))(k:∀ b u,b≠e->s.heap.get? b=some u->h'.get? b=some u)(heo:∃ u,h'.get? e=some u)
  (new:yj X.prog X.w (upd H x o) h' x o):zK X pins σ (upd H x o) {s with heap:=h',toks:=t'}:=I.un (Un.write mu he k heo) (I.hok.write mu he k heo new)
theorem zK.weak{σ':List (Option V)}(I:zK X pins σ H s)(hl:σ'.length=σ.length)(w:∀ (i:Nat) v,σ'[i]?=some (some v)->σ[i]?=some (some v)):zK X pins σ' H s:=
 ⟨I.ok,I.os,I.bare,I.base,let ⟨m,hn,hl'⟩:=I.loc;⟨m,hn,λi x v e1 e2 e3=>hl' i x v e1 (w i v e2) e3⟩,I.cell,I.free,I.freeC,I.pin,I.hok,hl.trans I.len⟩
theorem zK.pins_of{pins':Qp}(I:zK X pins σ H s)(h:∀ p∈pins',s.heap.get? p.1=some p.2/\H p.1=none/\p.1≠X.env.locals/\p.1∉X.fs/\∀ v,p.2.data≠.cell v):zK X pins' σ H s:=
 ⟨I.ok,I.os,I.bare,I.base,I.loc,I.cell,I.free,I.freeC,λp hp=>(Wp.mp hp).elim (λz=>I.pin p (XJ _ z)) (h p),I.hok,I.len⟩
theorem zE4{N:List Str}(hN:N.Nodup){i j:Nat}{x:Str}(a:N[i]?=some x)(b:N[j]?=some x):i=j:=by
 obtain⟨h1,e1⟩:=yQ a;obtain⟨h2,e2⟩:=yQ b;exact (List.getElem_inj hN).mp (e1.trans e2.symm)
theorem zDw{M:Model}{A:Around}{E:Qs}{i:Nat}{x:Str}{v:V}{u:Value}{Q:Unit->Shared->Prop}(I:zK X pins σ H s)(hN:X.N.Nodup)(hi:X.N[i]?=some x)(hx:Loc X.env.scope x)(r:zr v u)
  (h:∀ s',zK X pins (σ.set i (some v)) H s'->(∃ a,Heap.SameBut a s.heap s'.heap/\(a=X.env.locals\/X.env.cells.lookup x=some a))->Q () s')(hf:X.fn x=true\/X.env.scope.names.lookup x=some .local:=by first|exact .inl rfl|exact .inr rfl|assumption):wpAny M A (storeName X.env x u) Q E s:=by
 obtain⟨m,hn,hl⟩:=id I.loc;have hcls:(X.env.scope.kind==.class||(X.env.scope.kind==.module&&X.env.locals != X.env.globals))=false:=by rw[I.ok.kind];rfl
 have hiσ:i<σ.length:=by rw[I.len];exact (yQ hi).1
 have cne:=I.cne
 have tracked:∀ {a:Addr}{h':Heap},(∃ o,s.heap.get? a=some o/\H a=none)->Heap.SameBut a s.heap h'->Za X.prog X.w H h':=λ{a h'} ha hs b ob e=>by
  obtain⟨_,_,hfree⟩:=ha;refine (I.hok b ob e).stay (λc w' hc q=>(hs.2 c ?_).trans q) (λ_ q=>q) λ_ _ q=>q
  rintro rfl;rcases hc with rfl|hc
  .rw[hfree] at e;cases e
  .rw[hfree] at hc;cases hc
 rcases hx with hk|hk
 .refine wpAny_storeName_local hk hn (λh' hn' hs=>?_) hcls;obtain⟨oL,_,_,hoL,_⟩:=id hn;refine h _ ⟨I.ok,I.os,I.bare,⟨λb o e n hb hx=>?_,λb o e n hb hx=>?_,I.base.free,λb o e hx=>?_,I.base.tups,I.base.frzs,I.base.tbls⟩,⟨_,hn',λj y v' e1 e2 e3=>?_⟩,λy c e=>?_,I.free,I.freeC,λp hp=>?_,tracked ⟨oL,hoL,I.free⟩ hs,by simpa using I.len⟩ ⟨_,hs,.inl rfl⟩
  .exact (hs.2 b (WE (yU (Wl e) I.ok.above))).trans (I.base.keep b o e n hb hx)
  .obtain⟨sl,e1⟩:=I.base.slot b o e n hb hx;exact⟨sl,(hs.2 b (WE (yU (Wl e) I.ok.above))).trans e1⟩
  .obtain⟨o',e1⟩:=I.base.there b o e hx;exact⟨o',(hs.2 b (WE (yU (Wl e) I.ok.above))).trans e1⟩
  .by_cases hj:j=i
   .subst hj;rw[hi] at e1;cases e1;rw[VA hiσ] at e2;cases e2;exact⟨u,r,.inl ⟨hk,by simp⟩⟩
   .rw[W6 (Ne.symm hj)] at e2;obtain⟨u',r',q⟩:=hl j y v' e1 e2 e3;refine⟨u',r',?_⟩;rcases q with ⟨k,e⟩|⟨k,c,e,z⟩
    .refine .inl ⟨k,?_⟩;have:y≠x:=λe=>hj (zE4 hN e1 (e ▸ hi))
     simp[this,e]
    .exact .inr ⟨k,c,e,z.sameBut hs (cne y c e)⟩
  .obtain⟨w',z⟩:=I.cell y c e;exact⟨w',z.sameBut hs (cne y c e)⟩
  .obtain⟨e,n,ne,nf,d⟩:=I.pin p hp;exact⟨(hs.2 p.1 ne).trans e,n,ne,nf,d⟩
 .have hfn:X.fn x=true:=by
   rcases hf with z|z
   .exact z
   .rw[z] at hk;cases hk
  obtain⟨c,hc⟩:=I.ok.has x (.inl hk);obtain⟨w',z⟩:=I.cell x c hc;refine wpAny_storeName_cell I.ok.kind hk hc z (λh' hc' hs=>?_);obtain⟨oc,hoc,hocd⟩:=id z;refine h {s with heap:=h'} ⟨I.ok,I.os,I.bare,⟨λb o e n hb hx=>?_,λb o e n hb hx=>?_,I.base.free,λb o e hx=>?_,I.base.tups,I.base.frzs,I.base.tbls⟩,⟨m,hn.sameBut hs (Ne.symm (cne x c hc)),λj y v' e1 e2 e3=>?_⟩,λy c' e=>?_,I.free,I.freeC,λp hp=>?_,tracked ⟨oc,hoc,I.freeC x c hc⟩ hs,by simpa using I.len⟩ ⟨c,hs,.inr hc⟩
  .exact (hs.2 b (WE (yU (Wl e) (I.ok.cab x c hfn hc)))).trans (I.base.keep b o e n hb hx)
  .obtain⟨sl,e1⟩:=I.base.slot b o e n hb hx;exact⟨sl,(hs.2 b (WE (yU (Wl e) (I.ok.cab x c hfn hc)))).trans e1⟩
  .obtain⟨o',e1⟩:=I.base.there b o e hx;exact⟨o',(hs.2 b (WE (yU (Wl e) (I.ok.cab x c hfn hc)))).trans e1⟩
  .by_cases hj:j=i
   .subst hj;rw[hi] at e1;cases e1;rw[VA hiσ] at e2;cases e2;exact⟨u,r,.inr ⟨.inl hk,c,hc,hc'⟩⟩
   .rw[W6 (Ne.symm hj)] at e2;obtain⟨u',r',q⟩:=hl j y v' e1 e2 e3;refine⟨u',r',?_⟩;rcases q with q|⟨k,c',e,z'⟩
    .exact .inl q
    .refine .inr ⟨k,c',e,z'.sameBut hs ?_⟩;rintro rfl;exact hj (zE4 hN e1 (I.ok.inj _ _ _ e hc ▸ hi))
  .by_cases hcc:c'=c
   .subst hcc;exact⟨_,hc'⟩
   .obtain⟨w2,z2⟩:=I.cell y c' e;exact⟨w2,z2.sameBut hs hcc⟩
  .obtain⟨e,n,ne,nf,d⟩:=I.pin p hp;refine⟨(hs.2 p.1 ?_).trans e,n,ne,nf,d⟩;intro q;rw[q,hoc] at e;have q':oc=p.2:=WN e;exact d w' (by rw[<-q'];exact hocd)
theorem zHS{M:Model}{A:Around}{E:Qs}{i:Nat}{x:Str}{v:V}{u:Value}{Q:Unit->Shared->Prop}(I:zK X pins σ H s)(hN:X.N.Nodup)(hi:X.N[i]?=some x)(hx:Loc X.env.scope x)(r:zr v u)
  (h:∀ s',zK X pins (σ.set i (some v)) H s'->Q () s')(hf:X.fn x=true\/X.env.scope.names.lookup x=some .local:=by first|exact .inl rfl|exact .inr rfl|assumption):wpAny M A (storeName X.env x u) Q E s:=
 zDw I hN hi hx r (λs' I' _=>h s' I') hf
theorem zK.call'{s':Shared}{ch:List Addr}(I:zK X pins σ H s)(ho:s'.os=s.os)(u:Un (yo X.stack) ch H H' s.heap s'.heap)(hok:Za X.prog X.w H' s'.heap)(hg:AllBare s'.gens)
  (hch:∀ b∈ch,(b∈X.ex\/X.s_0.heap.objs.size<=b)/\b≠X.env.locals/\(∀ x c,X.env.cells.lookup x=some c->c≠b)/\∀ p∈X.pn++pins,p.1≠b):zK X pins σ H' s':=by
 obtain⟨h',g',d',t',o'⟩:=s';have e:o'=s.os:=ho;subst e;exact I.call (g':=g') (t':=t') (d':=d') u hok hg hch
end
abbrev XK:=Value->Option Addr->Hp->Prop
abbrev St:=List (Option V)
abbrev VK:=V->Hp->Prop
abbrev TE:=St->Hp->VK->Prop
abbrev TT:=St->Hp->(Bool->Hp->Prop)->Prop
abbrev TA:=St->Hp->(List V->Hp->Prop)->Prop
structure Yx where
 nx:St->Hp->Prop
 rt:VK
 bk:St->Hp->Prop:=λ_ _=>False
 ct:St->Hp->Prop:=λ_ _=>False
abbrev TS:=Yx->St->Hp->Prop
def EP (X:Cx)(pins:Qp)(σ:St)(Q:VK)(u:Value)(s':Shared):Prop:=∃ v H',zK X pins σ H' s'/\zr v u/\Q v H'
def TP (X:Cx)(pins:Qp)(σ:St)(Q:Bool->Hp->Prop)(b:Bool)(s':Shared):Prop:=∃ H',zK X pins σ H' s'/\Q b H'
def AP (X:Cx)(pins:Qp)(σ:St)(Q:List V->Hp->Prop)(us:List Value)(s':Shared):Prop:=∃ vs H',zK X pins σ H' s'/\zd vs us/\Q vs H'
def SP (X:Cx)(pins:Qp)(D:Yx)(f:Flow)(s':Shared):Prop:=
 match f with
|.next=>∃ σ' H',zK X pins σ' H' s'/\D.nx σ' H'
|.brk=>∃ σ' H',zK X pins σ' H' s'/\D.bk σ' H'
|.cont=>∃ σ' H',zK X pins σ' H' s'/\D.ct σ' H'
|.ret u=>∃ v σ' H',zK X pins σ' H' s'/\zr v u/\D.rt v H'
def PE (X:Cx)(e:Expr)(t:TE):Prop:=
 ∀ (pins:Qp) (s:Shared) (σ:St) (H:Hp) (Q:VK),zK X pins σ H s->t σ H Q->wpAny (model X.prog X.w) X.A (eval e X.env) (EP X pins σ Q) X.xe s
def PT (X:Cx)(e:Expr)(t:TT):Prop:=
 ∀ (pins:Qp) (s:Shared) (σ:St) (H:Hp) (Q:Bool->Hp->Prop),zK X pins σ H s->t σ H Q->wpAny (model X.prog X.w) X.A (isTrue e X.env (eval e X.env)) (TP X pins σ Q) X.xe s
def PW (X:Cx)(e:Expr)(t:TT):Prop:=
 ∀ (whole:Sem Value) (pins:Qp) (s:Shared) (σ:St) (H:Hp) (Q:Bool->Hp->Prop),zK X pins σ H s->t σ H Q->wpAny (model X.prog X.w) X.A (isTrue e X.env whole) (TP X pins σ Q) X.xe s
theorem PW.pt{X:Cx}{e:Expr}{t:TT}(h:PW X e t):PT X e t:=h _
def PA (X:Cx)(es:List Expr)(t:TA):Prop:=
 ∀ (pos:Pos) (pins:Qp) (s:Shared) (σ:St) (H:Hp) (Q:List V->Hp->Prop),zK X pins σ H s->t σ H Q->wpAny (model X.prog X.w) X.A (spliced (backTo pos (starEach es X.env))) (AP X pins σ Q) X.xe s
def PS (X:Cx)(st:Stmt)(t:TS):Prop:=
 ∀ (pins:Qp) (s:Shared) (σ:St) (H:Hp) (D:Yx),zK X pins σ H s->t D σ H->wpAny (model X.prog X.w) X.A (exec st X.env) (SP X pins D) X.xe s
def PSs (X:Cx)(st:List Stmt)(t:TS):Prop:=
 ∀ (pins:Qp) (s:Shared) (σ:St) (H:Hp) (D:Yx),zK X pins σ H s->t D σ H->wpAny (model X.prog X.w) X.A (execs st X.env) (SP X pins D) X.xe s
theorem zv{α:Type}{t:Sem α}{Q Q':α->Shared->Prop}{M:Model}{A:Around}{E:Qs}{s:Shared}(h:wpAny M A t Q E s)(hQ:∀ a s,Q a s->Q' a s):wpAny M A t Q' E s:=W8 h hQ λ_ _ x=>x
section
variable {X:Cx}
def zMI (i:Nat):TE:=λσ H Q=>∃ v,σ[i]?=some (some v)/\Q v H
def tC (v:V):TE:=λ_ H Q=>Q v H
theorem zK2{i:Nat}{x:Str}{pos:Pos}(hN:X.N[i]?=some x)(hv:Vis X.env.scope x)(hd:(x==("__debug__" : Str))=false:=by decide)(hcd:(x==("__classdict__" : Str))=false:=by decide):PE X (.Name x pos) (zMI i):=by
 intro pins s σ H Q I h;obtain⟨v,e,h⟩:=h;obtain⟨m,hn,hl⟩:=I.loc;obtain⟨u,r,l⟩:=hl i x v hN e hv;have fin:EP X pins σ Q u s:=⟨v,H,I,r,h⟩
 rcases l with ⟨hk,hm⟩|⟨hk,c,hc,hcell⟩
 .exact wpAny_Name (wpAny_loadName_local I.ok.kind hk hn hm fin) hd
 .rcases hk with hk|hk
  .exact wpAny_Name (wpAny_loadName_cell I.ok.kind hk hc hcell fin) hd
  .exact wpAny_Name (wpAny_loadName_free I.ok.kind hk hc hcell fin hcd) hd
theorem zJ{i j pos}:PE X (.Constant (.int i) j pos) (tC (.int i)):=λ_ _ _ H _ I h=>wpAny_Constant_int ⟨.int i,H,I.tok _,⟨_,rfl⟩,h⟩
theorem yk{b j pos}:PE X (.Constant (.bool b) j pos) (tC (.bl b)):=λ_ _ _ H _ I h=>Constant_bool ⟨.bl b,H,I,rfl,h⟩
def Gl (X:Cx)(x:Str):Prop:=X.env.kindOf x=some .globalImplicit
theorem zA5{E:Qs}{pins:Qp}{s:Shared}{σ:St}{H:Hp}{x:Str}{u:Value}{pos:Pos}{Q:Qs}(I:zK X pins σ H s)(hg:Gl X x)(hm:X.mg x=some u)(h:Q u s)
  (hd:(x==("__debug__" : Str))=false:=by decide):wpAny (model X.prog X.w) X.A (eval (.Name x pos) X.env) Q E s:=
 U8 I.ok.kind hg (Calls.loadGlobal_global (by rw[I.ok.glob];exact I.mod.glob.keeps I.bk) hm h) hd
theorem zCA{E:Qs}{pins:Qp}{s:Shared}{σ:St}{H:Hp}{x:Str}{u:Value}{pos:Pos}{Q:Qs}(I:zK X pins σ H s)(hg:Gl X x)(hm:X.mg x=none)(hv:bootBuiltins x=some u)(h:Q u s)
  (hn:x≠"__name__":=by decide)(hd:(x==("__debug__" : Str))=false:=by decide):wpAny (model X.prog X.w) X.A (eval (.Name x pos) X.env) Q E s:=by
 obtain⟨mb,h1,h2⟩:=I.mod.blt;exact U8 I.ok.kind hg (Calls.loadGlobal_builtin (by rw[I.ok.glob];exact I.mod.glob.keeps I.bk) hm (by rw[I.ok.blt];exact h1.keeps I.bk) ((h2 x hn).trans hv) h) hd
theorem zIt{x:Str}{v:V}{u:Value}{pos:Pos}(hg:Gl X x)(hm:X.mg x=some u)(r:zr v u)(hd:(x==("__debug__" : Str))=false:=by decide):PE X (.Name x pos) (tC v):=
 λ_ _ _ H _ I h=>zA5 I hg hm ⟨v,H,I,r,h⟩ hd
variable {a b:Expr}{ta tb:TE}{pos:Pos}
def PC (X:Cx)(op:CmpOp)(a b:Expr)(t:TE):Prop:=
 ∀ (pins:Qp) (s:Shared) (σ:St) (H:Hp) (Q:VK),zK X pins σ H s->t σ H Q->
  wpAny (model X.prog X.w) X.A (eval a X.env) (λv s₁=>wpAny (model X.prog X.w) X.A (eval b X.env) (λu s₂=>wpAny (model X.prog X.w) X.A (compareOp op v u) (EP X pins σ Q) X.xe s₂) X.xe s₁) X.xe s
theorem zMJ(b:Expr){op:CmpOp}(h:op≠.In)(h2:op≠.NotIn):behindInMarks op b=false:=by
 have e1:(op==CmpOp.In)=false:=by cases op <;> first|rfl|exact absurd rfl h
 have e2:(op==CmpOp.NotIn)=false:=by cases op <;> first|rfl|exact absurd rfl h2
 cases b <;> simp[behindInMarks,e1,e2]
def tB (t:TE):TT:=λσ H Q=>t σ H λx H1=>∃ c,x=.bl c/\Q c H1
theorem zFS{op:CmpOp}{t:TE}(h:PC X op a b t)(h1:behindInMarks op b=false:=by first|exact zMJ _ (by decide) (by decide)|rfl):PT X (.Compare a [op] [b] pos) (tB t):=by
 intro pins s σ H Q I hw;refine wpAny_isTrue_Compare1 (zv (h pins s σ H _ I hw) λv s1 h1=>zv h1 λu s2 h2=>zv h2 λc s3 ⟨x,H1,I1,r1,q1⟩=>?_) h1;obtain⟨d,rfl,q⟩:=q1;cases r1;exact Xi ⟨H1,I1,q⟩
theorem yT{e:Expr}{t:TE}(h:PE X e t)(he:∀ whole,isTrue e X.env whole=(do let v <-whole;standAt e.pos;holding [v] (truthy v)):=by intro _;rfl):PT X e (tB t):=by
 intro pins s σ H Q I hw;refine isTrue_plain (zv (h pins s σ H _ I hw) λv s1 ⟨x,H1,I1,r1,q1⟩=>?_) (he _);obtain⟨d,rfl,q⟩:=q1;cases r1;exact Xi ⟨H1,I1,q⟩
variable {tA tB':TT}{Zw:List Expr}
def zE5 (t u:TT):TT:=λσ H Q=>t σ H λc H1=>if c=true then u σ H1 Q else Q false H1
def tOr (t u:TT):TT:=λσ H Q=>t σ H λc H1=>if c=true then Q true H1 else u σ H1 Q
def zRQ (t:TT):TT:=λσ H Q=>t σ H λc H1=>Q (!c) H1
theorem zA6(ha:PT X a tA):PW X (.BoolOp .And [a] pos) tA:=by
 intro wh pins s σ H Q I h;refine isTrue_and (zv (ha pins s σ H Q I h) λc s1 e=>?_);cases c with
|true=>exact isTrue_and_nil e
|false=>exact e
theorem zAo(ha:PT X a tA):PW X (.BoolOp .Or [a] pos) tA:=by
 intro wh pins s σ H Q I h;refine isTrue_or (zv (ha pins s σ H Q I h) λc s1 e=>?_);cases c with
|false=>exact isTrue_or_nil e
|true=>exact e
theorem zCB(ha:PT X a tA)(hb:PW X (.BoolOp .And (b::Zw) pos) tB'):PW X (.BoolOp .And (a::b::Zw) pos) (zE5 tA tB'):=by
 intro wh pins s σ H Q I h;refine isTrue_and (zv (ha pins s σ H _ I h) λc s1 ⟨H1,I1,q1⟩=>?_);cases c with
|true=>exact hb wh pins s1 σ H1 Q I1 q1
|false=>exact⟨H1,I1,q1⟩
theorem zB0(ha:PT X a tA)(hb:PW X (.BoolOp .Or (b::Zw) pos) tB'):PW X (.BoolOp .Or (a::b::Zw) pos) (tOr tA tB'):=by
 intro wh pins s σ H Q I h;refine isTrue_or (zv (ha pins s σ H _ I h) λc s1 ⟨H1,I1,q1⟩=>?_);cases c with
|true=>exact⟨H1,I1,q1⟩
|false=>exact hb wh pins s1 σ H1 Q I1 q1
theorem Zi(ha:PT X a tA):PT X (.UnaryOp .Not a pos) (zRQ tA):=by
 intro pins s σ H Q I h;exact isTrue_not (ha pins s σ H (λc H1=>Q (!c) H1) I h)
def zBS (ta tb:TE):TE:=λσ H Q=>ta σ H λx H1=>∃ c,x=.bl c/\if c=true then tb σ H1 Q else Q (.bl false) H1
def zJq (ta tb:TE):TE:=λσ H Q=>ta σ H λx H1=>∃ c,x=.bl c/\if c=true then Q (.bl true) H1 else tb σ H1 Q
def zQj (ta:TE):TE:=λσ H Q=>ta σ H λx H1=>∃ c,x=.bl c/\Q (.bl (!c)) H1
theorem Yq{op}{t:TE}(h:PE X a t):PE X (.BoolOp op [a] pos) t:=λpins s σ H Q I hw=>BoolOp_one (h pins s σ H Q I hw)
theorem Yr(ha:PE X a ta)(hb:PE X (.BoolOp .And (b::Zw) pos) tb):PE X (.BoolOp .And (a::b::Zw) pos) (zBS ta tb):=by
 intro pins s σ H Q I h;refine BoolOp_and (zv (ha pins s σ H _ I h) λv s1 ⟨x,H1,I1,r1,q1⟩=>?_);obtain⟨c,rfl,q1⟩:=q1;cases r1;refine Xi ?_;cases c with
|true=>exact hb pins s1 σ H1 Q I1 q1
|false=>exact⟨.bl false,H1,I1,rfl,q1⟩
theorem zNE(ha:PE X a ta)(hb:PE X (.BoolOp .Or (b::Zw) pos) tb):PE X (.BoolOp .Or (a::b::Zw) pos) (zJq ta tb):=by
 intro pins s σ H Q I h;refine BoolOp_or (zv (ha pins s σ H _ I h) λv s1 ⟨x,H1,I1,r1,q1⟩=>?_);obtain⟨c,rfl,q1⟩:=q1;cases r1;refine Xi ?_;cases c with
|false=>exact hb pins s1 σ H1 Q I1 q1
|true=>exact⟨.bl true,H1,I1,rfl,q1⟩
theorem zPO(ha:PE X a ta):PE X (.UnaryOp .Not a pos) (zQj ta):=by
 intro pins s σ H Q I h;refine UnaryOp_ (zv (ha pins s σ H _ I h) λv s1 ⟨x,H1,I1,r1,q1⟩=>?_);obtain⟨c,rfl,q1⟩:=q1;cases r1;exact not_of (Xi ⟨.bl (!c),H1,I1,rfl,q1⟩)
def tIf (t:TT)(ta tb:TE):TE:=λσ H Q=>t σ H λc H1=>if c=true then ta σ H1 Q else tb σ H1 Q
theorem zMK{c:Expr}(hc:PT X c tA)(ha:PE X a ta)(hb:PE X b tb):PE X (.IfExp c a b pos) (tIf tA ta tb):=by
 intro pins s σ H Q I h;refine wpAny_IfExp (zv (hc pins s σ H _ I h) λd s1 ⟨H1,I1,q1⟩=>?_);cases d with
|true=>exact ha pins s1 σ H1 Q I1 q1
|false=>exact hb pins s1 σ H1 Q I1 q1
end
def zM (K:Qf)(H:Hp)(a:Addr)(xs:List V):Prop:=
 Rd H a (.lst xs)\/
  ∃ (o:Obj) (its:Array Value) (n:Nat),K.lookup a=some o/\o.cls=.type "list"/\o.dict=none/\o.data=.seq its n/\its.size<=sizeLine/\zd xs its.toList
def yH (K:Qf)(H:Hp)(a:Addr)(xs:List V):Prop:=
 Rd H a (.tup xs)\/
  ∃ (o:Obj) (its:Array Value) (n:Nat),K.lookup a=some o/\o.cls=.type "tuple"/\o.data=.seq its n/\its.size<=sizeLine/\zd xs its.toList
def zRR:Value->Option V
|.none=>some .non
|.bool b=>some (.bl b)
|.int i _=>some (.int i)
|.str x _=>some (.str x)
|.bytes b _=>some (.byt b)
|.float b _=>some (.flt b)
|.ref a=>some (.ref a)
|.type n=>some (.ty n)
|_=>none
theorem zr.abs{x:V}{u:Value}(r:zr x u):zRR u=some x:=by
 cases x with
|non=>cases r;rfl
|bl _=>cases r;rfl
|int _=>obtain⟨t,rfl⟩:=r;rfl
|str _=>obtain⟨t,rfl⟩:=r;rfl
|byt _=>obtain⟨t,rfl⟩:=r;rfl
|flt _=>obtain⟨t,rfl⟩:=r;rfl
|ref _=>cases r;rfl
|ty _=>cases r;rfl
theorem zr.inj{x y:V}{u:Value}(r:zr x u)(q:zr y u):x=y:=WN (r.abs.symm.trans q.abs)
theorem zd.inj:∀ {xs ys:List V}{us:List Value},zd xs us->zd ys us->xs=ys
|_,_,_,.nil,.nil=>rfl
|_,_,_,.cons r t,.cons r' t'=>by rw[r.inj r',zd.inj t t']
section
variable {X:Cx}{pins:Qp}{σ:St}{H:Hp}{s:Shared}{a:Addr}{xs ys:List V}
theorem zM.of{K:Qf}(h:H a=some (.lst xs)):zM K H a xs:=.inl (.inl h)
theorem yH.of{K:Qf}(h:H a=some (.tup xs)):yH K H a xs:=.inl (.inl h)
theorem zK.list(I:zK X pins σ H s)(h:zM X.K H a xs):∃ its:List Value,zd xs its/\PlainL s.heap a its.toArray/\xs.length<=sizeLine:=by
 rcases h with h|⟨o,its,n,hk,hc,hd,hs,hz,r⟩
 .obtain⟨z,its,n,r,e⟩:=h.ok I.hok;exact⟨its,r,⟨_,n,e,rfl,rfl,rfl⟩,z⟩
 .refine⟨its.toList,r,⟨o,n,I.kIn a o hk,hc,hd,by simpa using hs⟩,?_⟩;have e:=r.length;simp only[V2] at e;omega
theorem zK.tuple(I:zK X pins σ H s)(h:yH X.K H a xs):∃ its:List Value,zd xs its/\IsTup s.heap a its.toArray/\xs.length<=sizeLine:=by
 rcases h with h|⟨o,its,n,hk,hc,hs,hz,r⟩
 .obtain⟨z,its,r,p⟩:=h.ok I.hok;exact⟨its,r,p,z⟩
 .refine⟨its.toList,r,⟨o,I.kIn a o hk,hc,n,by simpa using hs⟩,?_⟩;have e:=r.length;simp only[V2] at e;omega
theorem zK.list_inj(I:zK X pins σ H s)(h:zM X.K H a xs)(h':zM X.K H a ys):xs=ys:=by
 obtain⟨its,r,⟨o,n,e,_,_,d⟩,_⟩:=I.list h;obtain⟨its',r',⟨o',n',e',_,_,d'⟩,_⟩:=I.list h';rw[e] at e';cases e';rw[d] at d';injection d' with d1 _
 have:its=its':=by simpa using WV Array.toList d1
 subst this;exact r.inj r'
theorem zK.tuple_inj(I:zK X pins σ H s)(h:yH X.K H a xs)(h':yH X.K H a ys):xs=ys:=by
 obtain⟨its,r,⟨o,e,_,n,d⟩,_⟩:=I.tuple h;obtain⟨its',r',⟨o',e',_,n',d'⟩,_⟩:=I.tuple h';rw[e] at e';cases e';rw[d] at d';injection d' with d1 _
 have:its=its':=by simpa using WV Array.toList d1
 subst this;exact r.inj r'
end
abbrev Cx.wish(X:Cx)(E:Qs):Cx:={X with xe:=E}
abbrev Cx.nox(X:Cx):Cx:=X.wish λ_ _=>False
theorem Cx.Ok.wish{X:Cx}(ok:X.Ok)(E:Qs):(X.wish E).Ok:=
 ⟨ok.mod,ok.kind,ok.glob,ok.blt,ok.above,ok.inj,ok.has,ok.cab,ok.hd,ok.frames,ok.stk,ok.exf,ok.bs,ok.bsz,ok.noex,ok.exfs,ok.funs,ok.frf⟩
theorem Cx.Ok.unwish{X:Cx}{E:Qs}(ok:(X.wish E).Ok):X.Ok:=
 ⟨ok.mod,ok.kind,ok.glob,ok.blt,ok.above,ok.inj,ok.has,ok.cab,ok.hd,ok.frames,ok.stk,ok.exf,ok.bs,ok.bsz,ok.noex,ok.exfs,ok.funs,ok.frf⟩
section
variable {X:Cx}{pins:Qp}{σ:St}{H:Hp}{s:Shared}{E:Qs}
theorem zK.wish(I:zK X pins σ H s)(E:Qs):zK (X.wish E) pins σ H s:=⟨I.ok.wish E,I.os,I.bare,I.base,I.loc,I.cell,I.free,I.freeC,I.pin,I.hok,I.len⟩
theorem zK.unwish(I:zK (X.wish E) pins σ H s):zK X pins σ H s:=⟨I.ok.unwish,I.os,I.bare,I.base,I.loc,I.cell,I.free,I.freeC,I.pin,I.hok,I.len⟩
theorem SP.unwish{D:Yx}{f:Flow}{s':Shared}(h:SP (X.wish E) pins D f s'):SP X pins D f s':=by
 cases f with
|next=>obtain⟨σ',H',I,q⟩:=h;exact⟨σ',H',I.unwish,q⟩
|brk=>obtain⟨σ',H',I,q⟩:=h;exact⟨σ',H',I.unwish,q⟩
|cont=>obtain⟨σ',H',I,q⟩:=h;exact⟨σ',H',I.unwish,q⟩
|ret u=>obtain⟨v,σ',H',I,r,q⟩:=h;exact⟨v,σ',H',I.unwish,r,q⟩
theorem PSs.nox{st:List Stmt}{t:TS}(h:PSs X.nox st t):PSs X st t:=λpins s σ H D I hw=>
 W8 (h pins s σ H D (I.wish _) hw) (λ_ _ q=>q.unwish) λ_ _ z=>False.elim z
end
section
variable {X:Cx}{st:Stmt}{Zw:List Stmt}{t u:TS}{e:Expr}{te:TE}{pos:Pos}
def Ze:TS:=λD σ H=>D.nx σ H
def YV (t u:TS):TS:=λD σ H=>t {D with nx:=u D} σ H
theorem zZ:PSs X [] Ze:=λ_ _ σ H _ I h=>XN ⟨σ,H,I,h⟩
theorem zD(h1:PS X st t)(h2:PSs X Zw u):PSs X (st::Zw) (YV t u):=by
 intro pins s σ H D I h;refine wpAny_execs_cons (zv (h1 pins s σ H {D with nx:=u D} I h) λf s1 q=>?_);cases f with
|next=>
  obtain⟨σ',H',I',q⟩:=q;exact h2 pins s1 σ' H' D I' q
|ret v=>exact q
|brk=>exact q
|cont=>exact q
theorem zE(h1:PS X st t):PSs X [st] t:=by
 intro pins s σ H D I h;refine wpAny_execs_cons (zv (h1 pins s σ H D I h) λf s1 q=>?_);cases f with
|next=>exact XN q
|ret v=>exact q
|brk=>exact q
|cont=>exact q
def zQk:TS:=λD σ H=>D.ct σ H
theorem zE0:PS X (.Continue pos) zQk:=λ_ _ σ H _ I h=>wpAny_Continue ⟨σ,H,I,h⟩
theorem zK.quiet{pins:Qp}{σ:St}{H:Hp}{s:Shared}(I:zK X pins σ H s):interactive X.env=false:=by simp[interactive,I.ok.kind]
def zQl (te:TE):TS:=λD σ H=>te σ H λ_ H1=>D.nx σ H1
theorem yf(he:PE X e te)(hs:swapsWith e none pos.line X.env=pure false:=by rfl):PS X (.Expr e pos) (zQl te):=by
 intro pins s σ H D I h;exact wpAny_Expr_any (zv (he pins s σ H _ I h) λv s1 ⟨x,H1,I1,r1,q1⟩=>⟨σ,H1,I1,q1⟩) I.quiet hs
def Yh (te:TE):TS:=λD σ H=>te σ H D.rt
theorem zS(he:PE X e te):PS X (.Return (some e) pos) (Yh te):=by
 intro pins s σ H D I h;exact wpAny_Return_some (zv (he pins s σ H _ I h) λv s1 ⟨x,H1,I1,r1,q1⟩=>⟨x,σ,H1,I1,r1,q1⟩)
def YO (c:TT)(t u:TS):TS:=λD σ H=>c σ H λb H1=>if b=true then t D σ H1 else u D σ H1
theorem zm{c:Expr}{a b:List Stmt}{tc:TT}(hc:PT X c tc)(ha:PSs X a t)(hb:PSs X b u):PS X (.If c a b pos) (YO tc t u):=by
 intro pins s σ H D I h;refine wpAny_If (zv (hc pins s σ H _ I h) λd s1 ⟨H1,I1,q1⟩=>?_);cases d with
|true=>exact ha pins s1 σ H1 D I1 q1
|false=>exact hb pins s1 σ H1 D I1 q1
end
abbrev TG:=V->St->Hp->(St->Hp->Prop)->Prop
abbrev TGs:=List V->St->Hp->(St->Hp->Prop)->Prop
def PG (X:Cx)(target:Expr)(t:TG):Prop:=
 ∀ (pins:Qp) (s:Shared) (σ:St) (H:Hp) (v:V) (u:Value) (Q:St->Hp->Prop),zK X pins σ H s->zr v u->t v σ H Q->
  wpAny (model X.prog X.w) X.A (assign target X.env u) (λ_ s'=>∃ σ' H',zK X pins σ' H' s'/\Q σ' H') X.xe s
def PGs (X:Cx)(ts:List Expr)(t:TGs):Prop:=
 ∀ (pins:Qp) (s:Shared) (σ:St) (H:Hp) (vs:List V) (us:List Value) (Q:St->Hp->Prop),zK X pins σ H s->zd vs us->t vs σ H Q->
  wpAny (model X.prog X.w) X.A (assignInOrder ((assignEach ts X.env).map (·.2)) us) (λ_ s'=>∃ σ' H',zK X pins σ' H' s'/\Q σ' H') X.xe s
abbrev zML:=V->V->V->Hp->(Hp->Prop)->Prop
def zPP (X:Cx)(t:zML):Prop:=
 ∀ (pins:Qp) (s:Shared) (σ:St) (H:Hp) (o i v:V) (ov iv u:Value) (Q:Hp->Prop),zK X pins σ H s->zr o ov->zr i iv->zr v u->t o i v H Q->
  wpAny (model X.prog X.w) X.A (setItem ov iv u) (λ_ s'=>∃ H',zK X pins σ H' s'/\Q H') X.xe s
section
variable {X:Cx}{pos:Pos}
def ZQ (i:Nat):TG:=λv σ H Q=>Q (σ.set i (some v)) H
theorem zV{i:Nat}{x:Str}(hN:X.N.Nodup)(hi:X.N[i]?=some x)(hx:Loc X.env.scope x)(hf:X.fn x=true\/X.env.scope.names.lookup x=some .local:=by first|exact .inl rfl|exact .inr rfl|assumption):PG X (.Name x pos) (ZQ i):=by
 intro pins s σ H v u Q I r h;exact wpAny_assign_Name (zHS I hN hi hx r (λs' I'=>⟨_,H,I',h⟩) hf)
def zRS:TGs:=λvs σ H Q=>vs=[]/\Q σ H
def zQm (t:TG)(u:TGs):TGs:=λvs σ H Q=>∃ v r,vs=v::r/\t v σ H λσ' H'=>u r σ' H' Q
theorem Zl:PGs X [] zRS:=by
 intro pins s σ H vs us Q I r h;obtain⟨e,h⟩:=h;subst e;cases r;exact assignInOrder_nil ⟨σ,H,I,h⟩
theorem zw{e:Expr}{es:List Expr}{t:TG}{u:TGs}(h1:PG X e t)(h2:PGs X es u)
  (hs:(assignEach (e::es) X.env).map (·.2)=assign e X.env::(assignEach es X.env).map (·.2):=by rfl):PGs X (e::es) (zQm t u):=by
 intro pins s σ H vs us Q I r h;obtain⟨v,vr,e1,h⟩:=h;subst e1;cases r with
|cons r rr=>
  rw[hs];refine assignInOrder_cons (zv (h1 pins s σ H _ _ _ I r h) λ_ s1 ⟨σ1,H1,I1,q1⟩=>?_);exact h2 pins s1 σ1 H1 _ _ Q I1 rr q1
def zRT (K:Qf)(n:Nat)(t:TGs):TG:=λv σ H Q=>∃ a xs,v=.ref a/\yH K H a xs/\xs.length=n/\t xs σ H Q
theorem YG{es:List Expr}{k:Nat}{t:TGs}{n:Nat}(hc:X.calm=true)(h:PGs X es t)
  (hn:(assignEach es X.env).length=n:=by rfl)(hst:(assignEach es X.env).findIdx? (·.1)=none:=by rfl):PG X (.Tuple es k pos) (zRT X.K n t):=by
 intro pins s σ H v u Q I r hw;obtain⟨a,xs,e1,hq,hl,hw⟩:=hw;subst e1;cases r;obtain⟨its,rv,ht,hz⟩:=I.tuple hq;refine assign_Tuple_tuple (I.ok.hd hc) ht (by simp[hn,<-hl,rv.length]) hst λh' hx=>?_
 have I1:zK X pins σ H {s with heap:=h'}:=I.kept (t':=s.toks) λb o e=>hx b o (WE (Wl e)) e
 exact h pins _ σ H xs _ Q I1 (by simpa using rv) hw
def zRU (to ti:TE)(t:zML):TG:=λv σ H Q=>to σ H λo H1=>ti σ H1 λi H2=>t o i v H2 λH3=>Q σ H3
theorem zK3{o i:Expr}{to ti:TE}{t:zML}(ho:PE X o to)(hi:PE X i ti)(hs:zPP X t)
  (ha:∀ v,assign (.Subscript o i pos) X.env v=(do
   let ov <-holding [v] (eval o X.env)
   let iv <-holding [v,ov] (eval i X.env)
   standAt pos
   holding [v,ov,iv] (setItem ov iv v)
   release [v,ov,iv] []):=by intro _;rfl):PG X (.Subscript o i pos) (zRU to ti t):=by
 intro pins s σ H v u Q I r h;rw[ha];refine Wh (XH (zv (ho pins s σ H _ I h) λov s1 ⟨x,H1,I1,r1,q1⟩=>?_));refine Wh (XH (zv (hi pins s1 σ H1 _ I1 q1) λiv s2 ⟨y,H2,I2,r2,q2⟩=>?_));refine Wh (Ug (Wh (XH (zv (hs pins s2 σ H2 x y v ov iv u _ I2 r1 r2 r q2) λ_ s3 ⟨H3,I3,q3⟩=>?_))));exact wpAny_release ⟨σ,H3,I3,q3⟩
def YQ (te:TE)(g:TG):TS:=λD σ H=>te σ H λx H1=>g x σ H1 D.nx
theorem zK4{tg e:Expr}{te:TE}{g:TG}(he:PE X e te)(hg:PG X tg g)(hs:swapsWithSole [tg] e pos.line X.env=pure false:=by rfl)(hw:swappedStores [tg] e X.env=pure none:=by rfl)
  (h1:(assignEach [tg] X.env).map (·.2)=[assign tg X.env]:=by rfl):PS X (.Assign [tg] e pos) (YQ te g):=by
 intro pins s σ H D I h;refine wpAny_Assign_stores (zv (he pins s σ H _ I h) λv s1 ⟨x,H1,I1,r1,q1⟩=>?_) hs hw;rw[h1];exact zv (hg pins s1 σ H1 x v _ I1 r1 q1) λ_ s2 q=>q
theorem zb{i:Nat}{x:Str}{e:Expr}{te:TE}{pos':Pos}(hN:X.N.Nodup)(hi:X.N[i]?=some x)(hx:Loc X.env.scope x)(he:PE X e te)(hs:swapsWith e (some (.Name x pos')) pos.line X.env=pure false:=by rfl)(hf:X.fn x=true\/X.env.scope.names.lookup x=some .local:=by first|exact .inl rfl|exact .inr rfl|assumption) :
  PS X (.Assign [.Name x pos'] e pos) (YQ te (ZQ i)):=by
 intro pins s σ H D I h;refine wpAny_Assign_Name (zv (he pins s σ H _ I h) λv s1 ⟨y,H1,I1,r1,q1⟩=>?_) hs;exact zHS I1 hN hi hx r1 (λs2 I2=>⟨_,H1,I2,q1⟩) hf
def zPQ (c:TT)(tb:TS):TS:=λD σ H=>∃ W:Nat->St->Hp->Prop,(∃ m,W m σ H)/\∀ m σ H,W m σ H->
 c σ H λb H1=>if b=true then ∃ N:St->Hp->Prop,(∀ σ' H',N σ' H'->∃ m',m'<m/\W m' σ' H')/\tb {D with nx:=N,ct:=N,bk:=D.nx} σ H1 else D.nx σ H1
theorem zCC{c:Expr}{body:List Stmt}{tc:TT}{tb:TS}(hp:PassesOwn (model X.prog X.w) X.A X.env X.xe)(hc:PT X c tc)(hb:PSs X body tb):PS X (.While c body [] pos) (zPQ tc tb):=by
 intro pins s σ H D I h;obtain⟨W,⟨m0,w0⟩,turn⟩:=h;refine wpAny_While (codeAny_whileLoop (λn s'=>∃ σ' H',zK X pins σ' H' s'/\W n σ' H') ?_ m0 ⟨σ,H,I,w0⟩);rintro n s1 ⟨σ1,H1,I1,w1⟩;refine Xa hp (zv (hc pins s1 σ1 H1 _ I1 (turn n σ1 H1 w1)) λb s2 ⟨H2,I2,q2⟩=>?_);cases b with
|true=>
  obtain⟨N,hN,q2⟩:=q2;rw[Wb rfl];refine Xa hp (zv (hb pins s2 σ1 H2 _ I2 q2) λf s3 q3=>?_);cases f with
 |next=>
   obtain⟨σ3,H3,I3,n3⟩:=q3;obtain⟨m',hm,w3⟩:=hN σ3 H3 n3;exact⟨m',hm,σ3,H3,I3,w3⟩
 |cont=>
   obtain⟨σ3,H3,I3,n3⟩:=q3;obtain⟨m',hm,w3⟩:=hN σ3 H3 n3;exact⟨m',hm,σ3,H3,I3,w3⟩
 |brk=>exact q3
 |ret v=>exact q3
|false=>
  rw[Wa Wv];exact XN ⟨σ1,H2,I2,q2⟩
end
structure It where
 go:Nat->Hp->Prop
 yld:Nat->Hp->V->Hp->Prop
 stop:Nat->Hp->Prop
def zCD (X:Cx)(pins:Qp)(H:Hp)(b:Addr):Prop:=
 H b=none/\b≠X.env.locals/\b∉X.fs/\(b∈X.ex\/X.s_0.heap.objs.size<=b)/\(∀ x c,X.env.cells.lookup x=some c->c≠b)/\∀ p∈X.pn++pins,p.1≠b
theorem zK.fpOk{X:Cx}{pins:Qp}{σ:St}{H H':Hp}{s:Shared}{b:Addr}(I:zK X pins σ H s)(hb:s.heap.objs.size<=b)(hn:H' b=none):zCD X pins H' b:=by
 refine⟨hn,UP (yU I.lt hb),I.nofs hb,.inr (WT I.sz hb),λx c e z=>?_,λp hp z=>?_⟩
 .obtain⟨v,q⟩:=I.cell x c e;exact absurd (yU q.lt (by rw[z];exact hb)) (Vk _)
 .exact absurd (yU (Wl (I.pin p hp).1) (by rw[z];exact hb)) (Vk _)
structure zDx(P:Program)(w:World)(K:Qf)(tg:Expr)(J:It)(fp:List Addr)(it:Addr)(tn:Nat->Heap->Prop):Prop where
 mem:it∈fp
 obj:∀ i h,tn i h->∀ b∈fp,∃ o,h.get? b=some o/\∀ v,o.data≠.cell v
 keep:∀ i h h',tn i h->(∀ b∈fp,∀ o,h.get? b=some o->h'.get? b=some o)->tn i h'
 item:∀ (X:Cx),X.prog=P->X.w=w->X.K=K->X.calm=true->∀ (i:Nat) (pins:Qp) (s:Shared) (σ:St) (H:Hp) (E:Qs),zK X pins σ H s->(∀ b∈fp,zCD X pins H b)->tn i s.heap->J.go i H->
  wpAny (model P w) X.A (pyNext (.ref it)) (λr s1=>∃ u,r=some u/\
   wpAny (model P w) X.A (letOwnedTupleGo tg (.ref it) u) (λ_ s2=>∃ x H',zK X pins σ H' s2/\zr x u/\J.yld i H x H'/\tn (i+1) s2.heap/\∀ b∈fp,H' b=none) E s1) E s
 done:∀ (X:Cx),X.prog=P->X.w=w->X.K=K->X.calm=true->∀ (i:Nat) (pins:Qp) (s:Shared) (σ:St) (H:Hp) (E:Qs),zK X pins σ H s->(∀ b∈fp,zCD X pins H b)->tn i s.heap->J.stop i H->
  wpAny (model P w) X.A (pyNext (.ref it)) (λr s1=>r=none/\zK X pins σ H s1) E s
 self:∀ (A:Around) (i:Nat) (s:Shared) (Q:Qs) (E:Qs),tn i s.heap->Q (.ref it) s->wpAny (model P w) A (pyIter (.ref it)) Q E s
abbrev TI:=St->Hp->(It->Hp->Prop)->Prop
def PIE (X:Cx)(pins:Qp)(σ:St)(tg:Expr)(R:It->Hp->Prop)(itv:Value)(s2:Shared):Prop:=
 ∃ (it:Addr) (fp:List Addr) (tn:Nat->Heap->Prop) (J:It) (H':Hp),itv=.ref it/\zK X pins σ H' s2/\zDx X.prog X.w X.K tg J fp it tn/\tn 0 s2.heap/\(∀ b∈fp,zCD X pins H' b)/\R J H'
def PI (X:Cx)(tg iter:Expr)(wi:TI):Prop:=
 ∀ (pins:Qp) (s:Shared) (σ:St) (H:Hp) (R:It->Hp->Prop),zK X pins σ H s->wi σ H R->
  wpAny (model X.prog X.w) X.A (eval iter X.env) (λv s1=>wpAny (model X.prog X.w) X.A (pyIter v) (PIE X pins σ tg R) X.xe s1) X.xe s
theorem zFT{M:Model}{A:Around}{E:Qs}{s:Shared}{tg:Expr}{it:Addr}{u:Value}{o:Obj}{n:String}{vs:Array Value}{Q:Unit->Shared->Prop}(ho:s.heap.get? it=some o)(hc:o.cls=.type n)(hd:o.data=.fields vs)
    (hn:["enumerate","zip","dict_itemiterator","dict_reverseitemiterator","odict_iterator","itertools.zip_longest","itertools.pairwise"].contains n=false)(hQ:Q () s):wpAny M A (letOwnedTupleGo tg (.ref it) u) Q E s:=by
  unfold letOwnedTupleGo
  cases tg <;> first
   |exact WK hQ
   |(cases u <;> first
     |exact WK hQ
     |(refine Wh (wpAny_load ho ?_)
       rw[hc,hd];show wpAny M A (if (["enumerate","zip","dict_itemiterator","dict_reverseitemiterator","odict_iterator","itertools.zip_longest","itertools.pairwise"].contains n&&vs[0]?==some (rawInt _))=true then _ else _) Q E s;rw[Wa (by intro h;rw[hn,V5] at h;cases h)];exact WK hQ))
def Itl (K:Qf)(a:Addr):It:=
 ⟨λi H=>∃ xs x,zM K H a xs/\xs[i]?=some x,λi H x H'=>H'=H/\∀ xs,zM K H a xs->xs[i]?=some x,λi H=>∃ xs,zM K H a xs/\xs.length<=i⟩
def Itt (K:Qf)(a:Addr):It:=
 ⟨λi H=>∃ xs x,yH K H a xs/\xs[i]?=some x,λi H x H'=>H'=H/\∀ xs,yH K H a xs->xs[i]?=some x,λi H=>∃ xs,yH K H a xs/\xs.length<=i⟩
def Itr (lo:Int)(n:Nat):It:=⟨λi _=>i<n,λi H x H'=>H'=H/\x=.int (lo+i),λi _=>n<=i⟩
theorem zK5{P:Program}{w:World}{K:Qf}{tg:Expr}(a it:Addr):zDx P w K tg (Itl K a) [it] it (λi h=>h.IsListIter it a i) where
 mem:=by simp
 obj:=λi h st b hb=>by
  have e:b=it:=by simpa using hb
  subst e;obtain⟨o,e,c,d⟩:=st;exact⟨o,e,λv z=>by rw[d] at z;cases z⟩
 keep:=λi h h' st k=>st.at λo e=>k it (by simp) o e
 item:=by
  intro X hP hw hK hc i pins s σ H E I hf st hg;subst hP hw hK;obtain⟨xs,x,hq,hx⟩:=hg;obtain⟨its,rv,p,hz⟩:=I.list hq;obtain⟨u,hu,ru⟩:=rv.get hx;obtain⟨f0,f1,f2,f3,f4,f5⟩:=hf it (by simp);refine wpAny_pyNext_list_item st p.isList (x:=u) (by simpa using hu) λh' st' sb=>?_
  have I1:zK X pins σ H {s with heap:=h'}:=I.turned (t':=s.toks) (λb o hb e=>(sb.2 b hb).trans e) f0 f1 f3 f4 f5;obtain⟨o,e,c,d⟩:=id st';exact⟨u,rfl,zFT (s:={s with heap:=h'}) e c d (by decide) ⟨x,H,I1,ru,⟨rfl,λys hy=>by rw[I.list_inj hy hq];exact hx⟩,st',λb hb=>(hf b hb).1⟩⟩
 done:=by
  intro X hP hw hK hc i pins s σ H E I hf st hg;subst hP hw hK;obtain⟨xs,hq,hx⟩:=hg;obtain⟨its,rv,p,hz⟩:=I.list hq;obtain⟨f0,f1,f2,f3,f4,f5⟩:=hf it (by simp);have hl:=rv.length;exact wpAny_pyNext_list_end (I.ok.hd hc) st p.isList (by simp;omega) λh' eb=>⟨rfl,I.turned (t':=s.toks) (λb o hb e=>eb b o hb e) f0 f1 f3 f4 f5⟩
 self:=λ_ _ _ _ _ st h=>wpAny_pyIter_listiter st h
theorem zJr{P:Program}{w:World}{K:Qf}{tg:Expr}(a it:Addr):zDx P w K tg (Itt K a) [it] it (λi h=>h.IsTupleIter it a i) where
 mem:=by simp
 obj:=λi h st b hb=>by
  have e:b=it:=by simpa using hb
  subst e;obtain⟨o,e,c,d⟩:=st;exact⟨o,e,λv z=>by rw[d] at z;cases z⟩
 keep:=λi h h' st k=>st.at λo e=>k it (by simp) o e
 item:=by
  intro X hP hw hK hc i pins s σ H E I hf st hg;subst hP hw hK;obtain⟨xs,x,hq,hx⟩:=hg;obtain⟨its,rv,p,hz⟩:=I.tuple hq;obtain⟨u,hu,ru⟩:=rv.get hx;obtain⟨f0,f1,f2,f3,f4,f5⟩:=hf it (by simp);refine wpAny_pyNext_tuple_item st (show s.heap.IsTuple a its.toArray from p) (x:=u) (by simpa using hu) λh' st' sb=>?_
  have I1:zK X pins σ H {s with heap:=h'}:=I.turned (t':=s.toks) (λb o hb e=>(sb.2 b hb).trans e) f0 f1 f3 f4 f5;obtain⟨o,e,c,d⟩:=id st';exact⟨u,rfl,zFT (s:={s with heap:=h'}) e c d (by decide) ⟨x,H,I1,ru,⟨rfl,λys hy=>by rw[I.tuple_inj hy hq];exact hx⟩,st',λb hb=>(hf b hb).1⟩⟩
 done:=by
  intro X hP hw hK hc i pins s σ H E I hf st hg;subst hP hw hK;obtain⟨xs,hq,hx⟩:=hg;obtain⟨its,rv,p,hz⟩:=I.tuple hq;obtain⟨f0,f1,f2,f3,f4,f5⟩:=hf it (by simp);have hl:=rv.length;exact wpAny_pyNext_tuple_end (I.ok.hd hc) st (show s.heap.IsTuple a its.toArray from p) (by simp;omega) λh' eb=>⟨rfl,I.turned (t':=s.toks) (λb o hb e=>eb b o hb e) f0 f1 f3 f4 f5⟩
 self:=λ_ _ _ _ _ st h=>wpAny_pyIter_tupleiter st h
theorem zJs{P:Program}{w:World}{K:Qf}{tg:Expr}(it:Addr)(lo:Int)(n:Nat):zDx P w K tg (Itr lo n) [it] it (λi h=>IsRangeIter h it (lo+(i:Nat)*1) ((n:Int)-(i:Nat)) 1) where
 mem:=by simp
 obj:=λi h st b hb=>by
  have e:b=it:=by simpa using hb
  subst e
  exact⟨_,st,λv z=>by
   have z':Data.fields _=Data.cell v:=z;cases z'⟩
 keep:=λi h h' st k=>k it (by simp) _ st
 item:=by
  intro X hP hw hK hc i pins s σ H E I hf st hg;subst hP hw hK;obtain⟨f0,f1,f2,f3,f4,f5⟩:=hf it (by simp);have W:=Walks.range (prog:=X.prog) (w:=X.w) (I.ok.hd hc) it lo 1 n;refine W.item i s _ _ hg st λv h' tk hv st' kk=>?_
  obtain⟨t,rfl⟩:=hv;have I1:zK X pins σ H {s with heap:=h',toks:=tk}:=I.turned (λb o hb e=>kk b o (by simpa using hb) e) f0 f1 f3 f4 f5;refine⟨_,rfl,zFT (s:={s with heap:=h',toks:=tk}) (n:="range_iterator") st' rfl rfl (by decide) ⟨.int (lo+i),H,I1,⟨t,?_⟩,⟨rfl,rfl⟩,st',λb hb=>(hf b hb).1⟩⟩;rw[Int.mul_one]
 done:=by
  intro X hP hw hK hc i pins s σ H E I hf st hg;subst hP hw hK;obtain⟨f0,f1,f2,f3,f4,f5⟩:=hf it (by simp);exact wpAny_pyNext_range_end (I.ok.hd hc) st (by have:n<=i:=hg;omega) λh' eb=>⟨rfl,I.turned (t':=s.toks) (λb o hb e=>eb b o hb e) f0 f1 f3 f4 f5⟩
 self:=λ_ _ _ _ _ st h=>wpAny_pyIter_rangeiter st h
section
variable {X:Cx}{tg:Expr}
def zQn (K:Qf)(tl:TE):TI:=λσ H R=>tl σ H λx H1=>∃ a,x=.ref a/\(∃ xs,zM K H1 a xs)/\R (Itl K a) H1
def zRV (K:Qf)(tl:TE):TI:=λσ H R=>tl σ H λx H1=>∃ a,x=.ref a/\(∃ xs,yH K H1 a xs)/\R (Itt K a) H1
theorem ZF{l:Expr}{tl:TE}(hl:PE X l tl):PI X tg l (zQn X.K tl):=by
 intro pins s σ H R I h;refine zv (hl pins s σ H _ I h) λv s1 ⟨x,H1,I1,r1,q1⟩=>?_
 obtain⟨a,e,⟨xs,hq⟩,q⟩:=q1;subst e;cases r1;obtain⟨its,rv,p,hz⟩:=I1.list hq;refine wpAny_pyIter_list p.isList ?_;refine⟨s1.heap.objs.size,[s1.heap.objs.size],_,_,H1,rfl,I1.kept (t':=s1.toks) λb o e=>Wf _ e,zK5 a _,⟨_,WG _ rfl,rfl,rfl⟩,λb hb=>?_,q⟩;have e:b=s1.heap.objs.size:=by simpa using hb
 subst e;exact I1.fpOk (Wd _) (I1.hok.fresh (Wd _))
theorem zHT{l:Expr}{tl:TE}(hl:PE X l tl):PI X tg l (zRV X.K tl):=by
 intro pins s σ H R I h;refine zv (hl pins s σ H _ I h) λv s1 ⟨x,H1,I1,r1,q1⟩=>?_
 obtain⟨a,e,⟨xs,hq⟩,q⟩:=q1;subst e;cases r1;obtain⟨its,rv,p,hz⟩:=I1.tuple hq;refine wpAny_pyIter_tuple (show s1.heap.IsTuple a its.toArray from p) ?_;refine⟨s1.heap.objs.size,[s1.heap.objs.size],_,_,H1,rfl,I1.kept (t':=s1.toks) λb o e=>Wf _ e,zJr a _,⟨_,WG _ rfl,rfl,rfl⟩,λb hb=>?_,q⟩;have e:b=s1.heap.objs.size:=by simpa using hb
 subst e;exact I1.fpOk (Wd _) (I1.hok.fresh (Wd _))
theorem zHU{pins:Qp}{σ:St}{H:Hp}{s:Shared}{R:It->Hp->Prop}{E:Qs}{lo hi:Int}{t u v:Tok}{tk:Nat}(I:zK X pins σ H s)(h1 : -(2^62)<=lo)(h2:lo<2^62)(h3 : -(2^62)<=hi)(h4:hi<2^62)
  (q:R (Itr lo (hi-lo).toNat) H):wpAny (model X.prog X.w) X.A (pyIter (.ref s.heap.objs.size)) (PIE X pins σ tg R) E {s with heap:=s.heap.push {cls:=.type "range",data:=.fields #[.int lo t,.int hi u,.int 1 v]},toks:=tk}:=by
 refine wpAny_pyIter_range (IsRange.new ..) (small_one h1 h2 h3 h4) ?_;have I1:zK X pins σ H {s with heap:=s.heap.push {cls:=.type "range",data:=.fields #[.int lo t,.int hi u,.int 1 v]},toks:=tk}:=I.kept λb o e=>Wf _ e
 refine⟨(s.heap.push {cls:=.type "range",data:=.fields #[.int lo t,.int hi u,.int 1 v]}).objs.size,[(s.heap.push {cls:=.type "range",data:=.fields #[.int lo t,.int hi u,.int 1 v]}).objs.size],_,_,H,rfl,
  I1.kept (t':=tk) λb o e=>Wf _ e,zJs _ lo (hi-lo).toNat,?_,λb hb=>?_,q⟩
 .have e1:lo+((0:Nat):Int)*1=lo:=by simp
  have e2:(((hi-lo).toNat:Nat):Int)-((0:Nat):Int)=Builtin.Range.rangeSize lo hi 1:=by rw[rangeSize_one];split <;> omega
  show IsRangeIter _ _ (lo+((0:Nat):Int)*1) ((((hi-lo).toNat:Nat):Int)-((0:Nat):Int)) 1;rw[e1,e2];exact WG _ rfl
 .have e:b=(s.heap.push {cls:=.type "range",data:=.fields #[.int lo t,.int hi u,.int 1 v]}).objs.size:=by simpa using hb
  subst e;exact I1.fpOk (Wd _) (I1.hok.fresh (Wd _))
def zQo (ta:TA):TI:=λσ H R=>ta σ H λvs H1=>∃ j:Int,vs=[.int j]/\-(2^62)<=j/\j<2^62/\R (Itr 0 j.toNat) H1
def zQp (ta:TA):TI:=λσ H R=>ta σ H λvs H1=>∃ i j:Int,vs=[.int i,.int j]/\(-(2^62)<=i/\i<2^62/\-(2^62)<=j/\j<2^62)/\R (Itr i (j-i).toNat) H1
theorem zBf{a:Expr}{ta:TA}{p pos:Pos}(hg:Gl X "range")(hm:X.mg "range" = none)(ha:PA X [a] ta)(hs:starEach [a] X.env=[(false,eval a X.env)]:=by rfl):PI X tg (.Call (.Name "range" p) [a] [] pos) (zQo ta):=by
 intro pins s σ H R I h;refine Call_ (zCA I hg hm boot_range (Vw (zv (ha pos pins s σ H _ I h) λus s1 ⟨vs,H1,I1,r1,q1⟩=>?_) hs rfl));obtain⟨j,e,q1,q2,q⟩:=q1;subst e;cases r1 with
|cons r rr=>
  cases rr;obtain⟨t,rfl⟩:=r;exact call_range_1 (zHU I1 (by omega) (by omega) q1 q2 (by simpa using q))
theorem zGg{a b:Expr}{ta:TA}{p pos:Pos}(hg:Gl X "range")(hm:X.mg "range" = none)(ha:PA X [a,b] ta)(hs:starEach [a,b] X.env=[(false,eval a X.env),(false,eval b X.env)]:=by rfl)(hs2:starEach [b] X.env=[(false,eval b X.env)]:=by rfl) :
  PI X tg (.Call (.Name "range" p) [a,b] [] pos) (zQp ta):=by
 intro pins s σ H R I h;refine Call_ (zCA I hg hm boot_range (Vw (zv (ha pos pins s σ H _ I h) λus s1 ⟨vs,H1,I1,r1,q1⟩=>?_) (by rw[hs,hs2]) (by rw[hs2];rfl)));obtain⟨i,j,e,⟨q1,q2,q3,q4⟩,q⟩:=q1;subst e;cases r1 with
|cons r rr=>
  cases rr with
 |cons r' rr=>
   cases rr;obtain⟨t,rfl⟩:=r;obtain⟨t',rfl⟩:=r';exact call_range_2 (zHU I1 q1 q2 q3 q4 q)
def zRW (wi:TI)(g:TG)(tb:TS):TS:=λD σ H=>wi σ H λJ H1=>∃ W:Nat->Nat->St->Hp->Prop,(∃ m,W 0 m σ H1)/\∀ i m σ H,W i m σ H->
 (J.stop i H/\D.nx σ H)\/(J.go i H/\∃ N:St->Hp->Prop,(∀ σ' H',N σ' H'->∃ m',m'<m/\W (i+1) m' σ' H')/\∀ x H',J.yld i H x H'->g x σ H' λσ2 H2=>tb {D with nx:=N,ct:=N,bk:=D.nx} σ2 H2)
def zDy (fp:List Addr)(h:Heap):Qp:=fp.filterMap λb=>(h.get? b).map λo=>(b,o)
theorem zDS{fp:List Addr}{h:Heap}{b:Addr}{o:Obj}(hb:b∈fp)(e:h.get? b=some o):(b,o)∈zDy fp h:=VG.mpr ⟨b,hb,by rw[e];rfl⟩
theorem zK6{fp:List Addr}{h:Heap}{p:Addr×Obj}(hp:p∈zDy fp h):p.1∈fp/\h.get? p.1=some p.2:=by
 obtain⟨b,hb,e⟩:=VG.mp hp;cases q:h.get? b with
|none=>rw[q] at e;cases e
|some o=>
  rw[q] at e;have e':(b,o)=p:=WN e;subst e';exact⟨hb,q⟩
theorem zK.pinned{pins:Qp}{σ:St}{H:Hp}{s:Shared}{fp:List Addr}(I:zK X pins σ H s)(hf:∀ b∈fp,zCD X pins H b)(ho:∀ b∈fp,∃ o,s.heap.get? b=some o/\∀ v,o.data≠.cell v):zK X (pins++zDy fp s.heap) σ H s:=
 I.pins_of λp hp=>(Wp.mp hp).elim (λz=>I.pin p (Vj _ z)) λz=>by
  obtain⟨hb,e⟩:=zK6 z;obtain⟨f0,f1,f2,_⟩:=hf p.1 hb;obtain⟨o,e',d⟩:=ho p.1 hb;rw[e] at e';cases e';exact⟨e,f0,f1,f2,d⟩
theorem zK.unpinned{pins pl:Qp}{σ:St}{H:Hp}{s:Shared}(I:zK X (pins++pl) σ H s):zK X pins σ H s:=I.pins_of λp hp=>I.pin p (Vj _ (XJ _ hp))
theorem yI{iter:Expr}{body:List Stmt}{wi:TI}{g:TG}{tb:TS}{pos:Pos}(hp:PassesOwn (model X.prog X.w) X.A X.env X.xe)(hc:X.calm=true)(hi:PI X tg iter wi)(hg:PG X tg g)(hb:PSs X body tb)
  (hs:∀ x,foldedSetIterable iter X.env x=pure x:=by intro _;rfl):PS X (.For tg iter body [] pos) (zRW wi g tb):=by
 intro pins s σ H D I h;refine wpAny_For (zv (hi pins s σ H _ I h) λv s1 h1=>zv h1 λitv s2 h2=>?_) hs;obtain⟨it,fp,tn,J,H2,e,I2,T,st2,f2,W,⟨m0,w0⟩,turn⟩:=h2;subst e;have stat:∀ {H':Hp},(∀ b∈fp,H' b=none)->∀ b∈fp,zCD X pins H' b:=λhn b hb=>⟨hn b hb,(f2 b hb).2⟩
 refine codeAny_forLoop_any (λn s'=>∃ i σ' H',zK X pins σ' H' s'/\tn i s'.heap/\(∀ b∈fp,H' b=none)/\W i n σ' H') ?_ m0 ⟨0,σ,H2,I2,st2,λb hb=>(f2 b hb).1,w0⟩;rintro n s3 ⟨i,σ3,H3,I3,st3,fr3,w3⟩;rcases turn i n σ3 H3 w3 with ⟨stop,qn⟩|⟨go,N,hN,step⟩
 .refine Xa hp (zv (T.done X rfl rfl rfl hc i pins s3 σ3 H3 X.xe I3 (stat fr3) st3 stop) λr s4 ⟨hr,I4⟩=>?_);subst hr;exact XN ⟨σ3,H3,I4,qn⟩
 .refine Xa hp (zv (T.item X rfl rfl rfl hc i pins s3 σ3 H3 X.xe I3 (stat fr3) st3 go) λr s4 ⟨u,hr,h4⟩=>?_);subst hr;refine Xa hp (zv h4 λ_ s5 ⟨x,H5,I5,r5,y5,st5,fr5⟩=>?_);have I5':=I5.pinned (stat fr5) (T.obj _ _ st5);refine Xa hp (zv (hg _ s5 σ3 H5 x u _ I5' r5 (step x H5 y5)) λ_ s6 ⟨σ6,H6,I6,q6⟩=>?_);refine Xa hp (zv (hb _ s6 σ6 H6 _ I6 q6) λf s7 q7=>?_)
  have again:∀ {σ7:St}{H7:Hp},zK X (pins++zDy fp s5.heap) σ7 H7 s7->N σ7 H7->∃ m,m<n/\∃ i σ' H',zK X pins σ' H' s7/\tn i s7.heap/\(∀ b∈fp,H' b=none)/\W i m σ' H':=λ{σ7 H7} I7 n7=>by
   obtain⟨m',hm,w7⟩:=hN σ7 H7 n7;refine⟨m',hm,i+1,σ7,H7,I7.unpinned,T.keep _ _ _ st5 λb hb o e=>(I7.pin (b,o) (Vj _ (Vj _ (zDS hb e)))).1,λb hb=>?_,w7⟩;obtain⟨o,e,d⟩:=T.obj _ _ st5 b hb;exact (I7.pin (b,o) (Vj _ (Vj _ (zDS hb e)))).2.1
  cases f with
 |next=>obtain⟨σ7,H7,I7,n7⟩:=q7;exact again I7 n7
 |cont=>obtain⟨σ7,H7,I7,n7⟩:=q7;exact again I7 n7
 |brk=>obtain⟨σ7,H7,I7,q7⟩:=q7;exact⟨σ7,H7,I7.unpinned,q7⟩
 |ret v=>obtain⟨x7,σ7,H7,I7,r7,q7⟩:=q7;exact⟨x7,σ7,H7,I7.unpinned,r7,q7⟩
end
theorem Y5{K:Qf}{a:Addr}{xs:List V}{g:TG}{tb:TS}{D:Yx}{σ:St}{H:Hp}(Pv:Nat->St->Hp->Prop)(h0:Pv 0 σ H)(hl:∀ i σ H,i<=xs.length->Pv i σ H->zM K H a xs)
  (hs:∀ i x σ H,xs[i]?=some x->Pv i σ H->g x σ H λσ2 H2=>tb {D with nx:=Pv (i+1),ct:=Pv (i+1),bk:=D.nx} σ2 H2)(hd:∀ σ H,Pv xs.length σ H->D.nx σ H) :
  ∃ W:Nat->Nat->St->Hp->Prop,(∃ m,W 0 m σ H)/\∀ i m σ H,W i m σ H->
   ((Itl K a).stop i H/\D.nx σ H)\/((Itl K a).go i H/\∃ N:St->Hp->Prop,(∀ σ' H',N σ' H'->∃ m',m'<m/\W (i+1) m' σ' H')/\∀ x H',(Itl K a).yld i H x H'->g x σ H' λσ2 H2=>tb {D with nx:=N,ct:=N,bk:=D.nx} σ2 H2):=by
 refine⟨λi m σ H=>m=xs.length-i/\i<=xs.length/\Pv i σ H,⟨xs.length,by simp,WH _,h0⟩,?_⟩;rintro i m σ H ⟨rfl,hi,p⟩;have q:=hl i σ H hi p;by_cases hlt:i<xs.length
 .refine .inr ⟨⟨xs,xs[i],q,by simp[hlt]⟩,Pv (i+1),λσ' H' p'=>⟨xs.length-(i+1),by omega,rfl,hlt,p'⟩,λx H' y=>?_⟩;obtain⟨e,y⟩:=y;subst e;exact hs i x σ _ (y xs q) p
 .have e:i=xs.length:=by omega
  subst e;exact .inl ⟨⟨xs,q,Wd _⟩,hd σ H p⟩
theorem zF8{K:Qf}{a:Addr}{xs:List V}{g:TG}{tb:TS}{D:Yx}{σ:St}{H:Hp}(Pv:Nat->St->Hp->Prop)(h0:Pv 0 σ H)(hl:∀ i σ H,i<=xs.length->Pv i σ H->yH K H a xs)
  (hs:∀ i x σ H,xs[i]?=some x->Pv i σ H->g x σ H λσ2 H2=>tb {D with nx:=Pv (i+1),ct:=Pv (i+1),bk:=D.nx} σ2 H2)(hd:∀ σ H,Pv xs.length σ H->D.nx σ H) :
  ∃ W:Nat->Nat->St->Hp->Prop,(∃ m,W 0 m σ H)/\∀ i m σ H,W i m σ H->
   ((Itt K a).stop i H/\D.nx σ H)\/((Itt K a).go i H/\∃ N:St->Hp->Prop,(∀ σ' H',N σ' H'->∃ m',m'<m/\W (i+1) m' σ' H')/\∀ x H',(Itt K a).yld i H x H'->g x σ H' λσ2 H2=>tb {D with nx:=N,ct:=N,bk:=D.nx} σ2 H2):=by
 refine⟨λi m σ H=>m=xs.length-i/\i<=xs.length/\Pv i σ H,⟨xs.length,by simp,WH _,h0⟩,?_⟩;rintro i m σ H ⟨rfl,hi,p⟩;have q:=hl i σ H hi p;by_cases hlt:i<xs.length
 .refine .inr ⟨⟨xs,xs[i],q,by simp[hlt]⟩,Pv (i+1),λσ' H' p'=>⟨xs.length-(i+1),by omega,rfl,hlt,p'⟩,λx H' y=>?_⟩;obtain⟨e,y⟩:=y;subst e;exact hs i x σ _ (y xs q) p
 .have e:i=xs.length:=by omega
  subst e;exact .inl ⟨⟨xs,q,Wd _⟩,hd σ H p⟩
theorem Y6{lo:Int}{n:Nat}{g:TG}{tb:TS}{D:Yx}{σ:St}{H:Hp}(Pv:Nat->St->Hp->Prop)(h0:Pv 0 σ H)
  (hs:∀ i σ H,i<n->Pv i σ H->g (.int (lo+i)) σ H λσ2 H2=>tb {D with nx:=Pv (i+1),ct:=Pv (i+1),bk:=D.nx} σ2 H2)(hd:∀ σ H,Pv n σ H->D.nx σ H) :
  ∃ W:Nat->Nat->St->Hp->Prop,(∃ m,W 0 m σ H)/\∀ i m σ H,W i m σ H->
   ((Itr lo n).stop i H/\D.nx σ H)\/((Itr lo n).go i H/\∃ N:St->Hp->Prop,(∀ σ' H',N σ' H'->∃ m',m'<m/\W (i+1) m' σ' H')/\∀ x H',(Itr lo n).yld i H x H'->g x σ H' λσ2 H2=>tb {D with nx:=N,ct:=N,bk:=D.nx} σ2 H2):=by
 refine⟨λi m σ H=>m=n-i/\i<=n/\Pv i σ H,⟨n,by simp,WH _,h0⟩,?_⟩;rintro i m σ H ⟨rfl,hi,p⟩;by_cases hlt:i<n
 .refine .inr ⟨hlt,Pv (i+1),λσ' H' p'=>⟨n-(i+1),by omega,rfl,hlt,p'⟩,λx H' y=>?_⟩;obtain⟨e,y⟩:=y;subst e y;exact hs i σ _ hlt p
 .have e:i=n:=by omega
  subst e;exact .inl ⟨Wd _,hd σ H p⟩
abbrev R2:=V->V->Hp->VK->Prop
def Y7 (X:Cx)(f:Value->Value->Sem Value)(r:R2):Prop:=
 ∀ (pins:Qp) (s:Shared) (σ:St) (H:Hp) (x y:V) (v u:Value) (Q:VK),zK X pins σ H s->zr x v->zr y u->r x y H Q->
  wpAny (model X.prog X.w) X.A (f v u) (EP X pins σ Q) X.xe s
def UnR (X:Cx)(f:Value->Sem Value)(r:V->Hp->VK->Prop):Prop:=
 ∀ (pins:Qp) (s:Shared) (σ:St) (H:Hp) (x:V) (v:Value) (Q:VK),zK X pins σ H s->zr x v->r x H Q->
  wpAny (model X.prog X.w) X.A (f v) (EP X pins σ Q) X.xe s
def zAp (X:Cx)(f:Value)(r:List V->Hp->VK->Prop):Prop:=
 ∀ (pins:Qp) (s:Shared) (σ:St) (H:Hp) (xs:List V) (us:List Value) (Q:VK),zK X pins σ H s->zd xs us->r xs H Q->
  wpAny (model X.prog X.w) X.A (call f us) (EP X pins σ Q) X.xe s
def tOp (r:R2)(ta tb:TE):TE:=λσ H Q=>ta σ H λx H1=>tb σ H1 λy H2=>r x y H2 Q
def tUn (r:V->Hp->VK->Prop)(ta:TE):TE:=λσ H Q=>ta σ H λx H1=>r x H1 Q
def rI (C:Int->Int->Prop)(g:Int->Int->V):R2:=λx y H Q=>∃ i j,x=.int i/\y=.int j/\C i j/\Q (g i j) H
def rI0 (g:Int->Int->V):R2:=λx y H Q=>∃ i j,x=.int i/\y=.int j/\Q (g i j) H
def rU (g:Int->V):V->Hp->VK->Prop:=λx H Q=>∃ i,x=.int i/\Q (g i) H
section
variable {X:Cx}{a b c:Expr}{ta tb tc:TE}{pos:Pos}
theorem zMM(ha:PE X a ta)(hb:PE X b tb){pins:Qp}{s:Shared}{σ:St}{H:Hp}{R:V->V->Hp->Prop}(I:zK X pins σ H s)
  (h:ta σ H λx H1=>tb σ H1 λy H2=>R x y H2){Q:Qs}{f:Value->Value->Sem Value}
  (hf:∀ v u s2 x y H2,zK X pins σ H2 s2->zr x v->zr y u->R x y H2->wpAny (model X.prog X.w) X.A (f v u) Q X.xe s2) :
  wpAny (model X.prog X.w) X.A (eval a X.env) (λv s₁=>wpAny (model X.prog X.w) X.A (eval b X.env) (λu s₂=>wpAny (model X.prog X.w) X.A (f v u) Q X.xe s₂) X.xe s₁) X.xe s:=by
 refine zv (ha pins s σ H _ I h) λv s1 ⟨x,H1,I1,r1,q1⟩=>?_
 refine zv (hb pins s1 σ H1 _ I1 q1) λu s2 ⟨y,H2,I2,r2,q2⟩=>?_
 exact hf v u s2 x y H2 I2 r1 r2 q2
theorem zi{op:Operator}{r:R2}(ho:Y7 X (binaryOp op) r)(ha:PE X a ta)(hb:PE X b tb):PE X (.BinOp a op b pos) (tOp r ta tb):=by
 intro pins s σ H Q I h;exact wpAny_BinOp (zMM ha hb I h λv u s2 x y H2 I2 rx ry q=>ho pins s2 σ H2 x y v u Q I2 rx ry q)
theorem zHE{op:UnaryOp}{r:V->Hp->VK->Prop}(ho:UnR X (unaryOp op) r)(ha:PE X a ta):PE X (.UnaryOp op a pos) (tUn r ta):=by
 intro pins s σ H Q I h;exact UnaryOp_ (zv (ha pins s σ H _ I h) λv s1 ⟨x,H1,I1,r1,q1⟩=>ho pins s1 σ H1 x v Q I1 r1 q1)
theorem opI{f:Value->Value->Sem Value}{C:Int->Int->Prop}{g:Int->Int->Int}
  (rule:∀ (i j:Int) (t u:Tok) (s:Shared) (Q:Qs) (E:Qs),C i j->Q (.int (g i j) s.toks) {s with toks:=s.toks+1}->wpAny (model X.prog X.w) X.A (f (.int i t) (.int j u)) Q E s) :
  Y7 X f (rI C λi j=>.int (g i j)):=by
 intro pins s σ H x y v u Q I rx ry h;obtain⟨i,j,rfl,rfl,hc,q⟩:=h;obtain⟨t,rfl⟩:=rx;obtain⟨t',rfl⟩:=ry;exact rule i j t t' s _ _ hc ⟨.int (g i j),H,I.tok _,⟨_,rfl⟩,q⟩
theorem zPR{f:Value->Value->Sem Value}{g:Int->Int->Int}
  (rule:∀ (i j:Int) (t u:Tok) (s:Shared) (Q:Qs) (E:Qs),Q (.int (g i j) s.toks) {s with toks:=s.toks+1}->wpAny (model X.prog X.w) X.A (f (.int i t) (.int j u)) Q E s) :
  Y7 X f (rI0 λi j=>.int (g i j)):=by
 intro pins s σ H x y v u Q I rx ry h;obtain⟨i,j,rfl,rfl,q⟩:=h;obtain⟨t,rfl⟩:=rx;obtain⟨t',rfl⟩:=ry;exact rule i j t t' s _ _ ⟨.int (g i j),H,I.tok _,⟨_,rfl⟩,q⟩
theorem zJt{f:Value->Value->Sem Value}{g:Int->Int->Bool}
  (rule:∀ (i j:Int) (t u:Tok) (s:Shared) (Q:Qs) (E:Qs),Q (.bool (g i j)) s->wpAny (model X.prog X.w) X.A (f (.int i t) (.int j u)) Q E s) :
  Y7 X f (rI0 λi j=>.bl (g i j)):=by
 intro pins s σ H x y v u Q I rx ry h;obtain⟨i,j,rfl,rfl,q⟩:=h;obtain⟨t,rfl⟩:=rx;obtain⟨t',rfl⟩:=ry;exact rule i j t t' s _ _ ⟨.bl (g i j),H,I,rfl,q⟩
def zRX (i j:Int):Prop:=0<j/\j<1073741824
def zMN (i j:Int):Prop:=(-(2^64)<i/\i<2^64)\/(-(2^64)<j/\j<2^64)
theorem zMN.ok{i j:Int}(h:zMN i j):IntMulOk i j:=by
 rcases h with ⟨h1,h2⟩|⟨h1,h2⟩
 .exact .of_left (intBits_le_64 h1 h2)
 .exact .of_right (intBits_le_64 h1 h2)
theorem yP:Y7 X (binaryOp .Add) (rI0 λi j=>.int (i+j)):=zPR λ_ _ _ _ _ _ _ q=>add_int q
theorem ZL:Y7 X (binaryOp .Sub) (rI0 λi j=>.int (i-j)):=zPR λ_ _ _ _ _ _ _ q=>sub_int q
theorem YH:Y7 X (binaryOp .Mult) (rI zMN λi j=>.int (i*j)):=opI λ_ _ _ _ _ _ _ hc q=>mul_int q hc.ok
theorem zNo:Y7 X (binaryOp .FloorDiv) (rI zRX λi j=>.int (i/j)):=opI λi j _ _ _ _ _ hc q=>by
 have h1:(0:Int)<j:=hc.1;have h2:j<1073741824:=hc.2;exact floordiv_int (by omega) (by rw[Int.fdiv_eq_ediv_of_nonneg i (by omega)];exact q) (.inl (PyProof.noPylong_small (by omega)))
theorem zPS:Y7 X (binaryOp .Mod) (rI (λ_ j=>0<j) λi j=>.int (i%j)):=opI λi j _ _ _ _ _ hc q=>by
 have h1:(0:Int)<j:=hc;exact mod_int' (by omega) (by rw[Int.fmod_eq_emod_of_nonneg i (by omega)];exact q)
theorem unI{f:Value->Sem Value}{g:Int->Int}
  (rule:∀ (i:Int) (t:Tok) (s:Shared) (Q:Qs) (E:Qs),Q (.int (g i) s.toks) {s with toks:=s.toks+1}->wpAny (model X.prog X.w) X.A (f (.int i t)) Q E s) :
  UnR X f (rU λi=>.int (g i)):=by
 intro pins s σ H x v Q I rx h;obtain⟨i,rfl,q⟩:=h;obtain⟨t,rfl⟩:=rx;exact rule i t s _ _ ⟨.int (g i),H,I.tok _,⟨_,rfl⟩,q⟩
theorem zFU:UnR X (unaryOp .USub) (rU λi=>.int (-i)):=unI λ_ _ _ _ _ q=>neg_int q
end
def zPT:V->V->Bool
|.non,.non=>true|.non,.int _=>true|.int _,.non=>true|.non,.bl _=>true|.bl _,.non=>true|.non,.str _=>true|.str _,.non=>true
|.int _,.int _=>true|.bl _,.bl _=>true|.str _,.str _=>true|.byt _,.byt _=>true
|.int _,.str _=>true|.str _,.int _=>true|.bl _,.str _=>true|.str _,.bl _=>true
|_,_=>false
def rEq:R2:=λx y H Q=>zPT x y=true/\Q (.bl (decide (x=y))) H
def rNe:R2:=λx y H Q=>zPT x y=true/\Q (.bl (!decide (x=y))) H
theorem zIu{i j:Int}:decide (V.int i=V.int j)=(i==j):=by
 rw[Wx];simp
theorem zK7{i j:Bool}:decide (V.bl i=V.bl j)=(i==j):=by
 rw[Wx];simp
theorem zIv{i j:Str}:decide (V.str i=V.str j)=(i==j):=by
 rw[Wx];simp
theorem zIw{i j:Array UInt8}:decide (V.byt i=V.byt j)=(i.toList==j.toList):=by
 rw[Wx];cases i;cases j;simp
section
variable {X:Cx}{a b c:Expr}{ta tb tc:TE}{pos:Pos}
theorem yK{pins:Qp}{σ:St}{H:Hp}{s:Shared}{Q:VK}{k k':Bool}(I:zK X pins σ H s)(q:Q (.bl k) H)(e:k=k'):EP X pins σ Q (.bool k') s:=by
 subst e;exact⟨.bl k,H,I,rfl,q⟩
theorem zAX:Y7 X (compareOp .Eq) rEq:=by
 intro pins s σ H x y v u Q I rx ry h;obtain⟨hs,q⟩:=h;cases x with
|non=>
  cases rx;cases y with
 |non=>cases ry;exact PySem.EqNone.eq_none_none (yK I q (by simp))
 |bl j=>cases ry;exact PySem.EqNone.eq_none_bool (yK I q (by simp))
 |int j=>obtain⟨t',rfl⟩:=ry;exact PySem.EqNone.eq_none_int (yK I q (by simp))
 |str j=>obtain⟨t',rfl⟩:=ry;exact PySem.EqNone.eq_none_str (yK I q (by simp))
 |_=>exact absurd (show false=true from hs) Wv
|bl i=>
  cases rx;cases y with
 |non=>cases ry;exact PySem.EqNone.eq_bool_none (yK I q (by simp))
 |bl j=>cases ry;exact eq_bool (yK I q zK7)
 |str j=>obtain⟨t',rfl⟩:=ry;exact PySem.EqMixed.eq_bool_str (yK I q (by simp))
 |_=>exact absurd (show false=true from hs) Wv
|int i=>
  obtain⟨t,rfl⟩:=rx;cases y with
 |non=>cases ry;exact PySem.EqNone.eq_int_none (yK I q (by simp))
 |int j=>obtain⟨t',rfl⟩:=ry;exact eq_int (yK I q zIu)
 |str j=>obtain⟨t',rfl⟩:=ry;exact PySem.EqMixed.eq_int_str (yK I q (by simp))
 |_=>exact absurd (show false=true from hs) Wv
|str i=>
  obtain⟨t,rfl⟩:=rx;cases y with
 |non=>cases ry;exact PySem.EqNone.eq_str_none (yK I q (by simp))
 |bl j=>cases ry;exact PySem.EqMixed.eq_str_bool (yK I q (by simp))
 |int j=>obtain⟨t',rfl⟩:=ry;exact PySem.EqMixed.eq_str_int (yK I q (by simp))
 |str j=>obtain⟨t',rfl⟩:=ry;exact eq_str (yK I q zIv)
 |_=>exact absurd (show false=true from hs) Wv
|byt i=>
  obtain⟨t,rfl⟩:=rx;cases y with
 |byt j=>obtain⟨t',rfl⟩:=ry;exact PySem.W.eq_bytes (yK I q zIw)
 |_=>exact absurd (show false=true from hs) Wv
|_=>cases y <;> exact absurd (show false=true from hs) Wv
theorem zEX:Y7 X (compareOp .NotEq) rNe:=by
 intro pins s σ H x y v u Q I rx ry h;obtain⟨hs,q⟩:=h;cases x with
|non=>
  cases rx;cases y with
 |non=>cases ry;exact PySem.EqNone.ne_none_none (yK I q (by simp))
 |bl j=>cases ry;exact PySem.EqNone.ne_none_bool (yK I q (by simp))
 |int j=>obtain⟨t',rfl⟩:=ry;exact PySem.EqNone.ne_none_int (yK I q (by simp))
 |str j=>obtain⟨t',rfl⟩:=ry;exact PySem.EqNone.ne_none_str (yK I q (by simp))
 |_=>exact absurd (show false=true from hs) Wv
|bl i=>
  cases rx;cases y with
 |non=>cases ry;exact PySem.EqNone.ne_bool_none (yK I q (by simp))
 |bl j=>cases ry;exact ne_bool (yK I q (WV not zK7))
 |str j=>obtain⟨t',rfl⟩:=ry;exact PySem.EqMixed.ne_bool_str (yK I q (by simp))
 |_=>exact absurd (show false=true from hs) Wv
|int i=>
  obtain⟨t,rfl⟩:=rx;cases y with
 |non=>cases ry;exact PySem.EqNone.ne_int_none (yK I q (by simp))
 |int j=>obtain⟨t',rfl⟩:=ry;exact ne_int (yK I q (WV not zIu))
 |str j=>obtain⟨t',rfl⟩:=ry;exact PySem.EqMixed.ne_int_str (yK I q (by simp))
 |_=>exact absurd (show false=true from hs) Wv
|str i=>
  obtain⟨t,rfl⟩:=rx;cases y with
 |non=>cases ry;exact PySem.EqNone.ne_str_none (yK I q (by simp))
 |bl j=>cases ry;exact PySem.EqMixed.ne_str_bool (yK I q (by simp))
 |int j=>obtain⟨t',rfl⟩:=ry;exact PySem.EqMixed.ne_str_int (yK I q (by simp))
 |str j=>obtain⟨t',rfl⟩:=ry;exact ne_str (yK I q (WV not zIv))
 |_=>exact absurd (show false=true from hs) Wv
|byt i=>
  obtain⟨t,rfl⟩:=rx;cases y with
 |byt j=>obtain⟨t',rfl⟩:=ry;exact PySem.W.ne_bytes (yK I q (WV not zIw))
 |_=>exact absurd (show false=true from hs) Wv
|_=>cases y <;> exact absurd (show false=true from hs) Wv
theorem Zf:Y7 X (compareOp .Lt) (rI0 λi j=>.bl (decide (i<j))):=zJt λ_ _ _ _ _ _ _ q=>lt_int q
theorem zHF:Y7 X (compareOp .LtE) (rI0 λi j=>.bl (decide (i<=j))):=zJt λ_ _ _ _ _ _ _ q=>le_int q
theorem Zx:Y7 X (compareOp .Gt) (rI0 λi j=>.bl (decide (j<i))):=zJt λ_ _ _ _ _ _ _ q=>gt_int q
theorem zHG:Y7 X (compareOp .GtE) (rI0 λi j=>.bl (decide (j<=i))):=zJt λ_ _ _ _ _ _ _ q=>ge_int q
theorem zY(b:Expr){op:CmpOp}(h:op≠.In:=by decide)(h2:op≠.NotIn:=by decide):behindInMarks op b=false:=by
 have e1:(op==CmpOp.In)=false:=by cases op <;> first|rfl|exact absurd rfl h
 have e2:(op==CmpOp.NotIn)=false:=by cases op <;> first|rfl|exact absurd rfl h2
 cases b <;> simp[behindInMarks,e1,e2]
theorem yO{op:CmpOp}{r:R2}(ho:Y7 X (compareOp op) r)(ha:PE X a ta)(hb:PE X b tb)(hm:behindInMarks op b=false):PE X (.Compare a [op] [b] pos) (tOp r ta tb):=by
 intro pins s σ H Q I h;exact wpAny_Compare1 (zMM ha hb I h λv u s2 x y H2 I2 rx ry q=>ho pins s2 σ H2 x y v u Q I2 rx ry q) hm
def zQq (t:TE):TT:=λσ H Q=>t σ H λx H'=>∃ k,x=.bl k/\Q k H'
theorem zj{op:CmpOp}{r:R2}(ho:Y7 X (compareOp op) r)(ha:PE X a ta)(hb:PE X b tb)(hm:behindInMarks op b=false):PT X (.Compare a [op] [b] pos) (zQq (tOp r ta tb)):=by
 intro pins s σ H Q I h
 refine wpAny_isTrue_Compare1 (zv (ha pins s σ H _ I h) λv s1 ⟨x,H1,I1,r1,q1⟩=>zv (hb pins s1 σ H1 _ I1 q1) λu s2 ⟨y,H2,I2,r2,q2⟩=>
  zv (ho pins s2 σ H2 x y v u _ I2 r1 r2 q2) λc s3 ⟨z,H3,I3,r3,k,e,q3⟩=>?_) hm
 subst e;cases r3;exact Xi ⟨H3,I3,q3⟩
theorem zFV:(sizeLine:Nat)<2^63:=by rw[UC];decide
theorem zHH{x:V}{us:List Value}(r:zd [x] us):∃ u,us=[u]/\zr x u:=by
 cases r with
|cons r1 r2=>cases r2;exact⟨_,rfl,r1⟩
theorem zJu{x y:V}{us:List Value}(r:zd [x,y] us):∃ u w',us=[u,w']/\zr x u/\zr y w':=by
 cases r with
|cons r1 r2=>
  cases r2 with
 |cons r3 r4=>cases r4;exact⟨_,_,rfl,r1,r3⟩
theorem zGh(hc:X.calm=true):zAp X (.builtin "max") (λxs H Q=>∃ i j,xs=[.int i,.int j]/\Q (.int (if j>i then j else i)) H):=by
 intro pins s σ H xs us Q I r h;obtain⟨i,j,rfl,q⟩:=h;obtain⟨u,w',rfl,⟨t,rfl⟩,⟨t',rfl⟩⟩:=zJu r;refine max_two_ints (I.ok.hd hc) λh' tk k=>⟨_,H,I.kept k,?_,q⟩
 by_cases hj:j>i
 .rw[Wb hj,Wb hj];exact⟨_,rfl⟩
 .rw[Wa hj,Wa hj];exact⟨_,rfl⟩
theorem zGi(hc:X.calm=true):zAp X (.builtin "min") (λxs H Q=>∃ i j,xs=[.int i,.int j]/\Q (.int (if j<i then j else i)) H):=by
 intro pins s σ H xs us Q I r h;obtain⟨i,j,rfl,q⟩:=h;obtain⟨u,w',rfl,⟨t,rfl⟩,⟨t',rfl⟩⟩:=zJu r;refine min_two_ints (I.ok.hd hc) λh' tk k=>⟨_,H,I.kept k,?_,q⟩
 by_cases hj:j<i
 .rw[Wb hj,Wb hj];exact⟨_,rfl⟩
 .rw[Wa hj,Wa hj];exact⟨_,rfl⟩
end
structure zF9(h:Heap)(x dx C:Addr)(mA:Qm):Prop where
 obj:h.get? x=some (PySem.W.instObj C dx)
 ns:h.Ns1 dx mA
 ne:dx≠x
theorem zK8{h:Heap}{dx:Addr}{mA:Qm}(n:h.Ns1 dx mA):∃ od,h.get? dx=some od/\∀ name,PySem.W.lookIn name od=some (mA name):=by
 obtain⟨o,es,ep,ho,hd,hk,_,hm⟩:=n;refine⟨o,ho,λname=>?_⟩;have e:=hm name;unfold nsFind findBy at e;rw[<-UL] at e;unfold PySem.W.lookIn;rw[hd];dsimp only;split
 .rename_i y q
  rw[q] at e;exact WV some e
 .rename_i q
  rw[q] at e
  have a:es.toList.any (·.refKey)=false:=by
   rw[List.any_eq_false];intro y hy;obtain⟨z,t,hkey⟩:=hk y (Array.mem_toList_iff.mp hy);simp[DictEntry.refKey,hkey]
  have a':¬ es.toList.any (·.refKey)=true:=by rw[a];exact Wv
  rw[Wa a'];exact WV some e
theorem zF9.look{h:Heap}{x dx C:Addr}{mA:Qm}(I:zF9 h x dx C mA):∃ od,PySem.W.InstAt h x (PySem.W.instObj C dx) C (some od)/\∀ name,PySem.W.lookIn name od=some (mA name):=
 let ⟨od,ho,hl⟩:=zK8 I.ns
 ⟨od,⟨I.obj,rfl,rfl,ho⟩,hl⟩
section
variable {prog:Program}{w:World}{A:Around}{E:Qs}{s:Shared}{K:Qf}{x dx C f:Addr}{mA:Qm}{name:Str}{v:Value}
theorem zNp{expr:Bool}{Q:Qs}(X:K.In s.heap)(I:zF9 s.heap x dx C mA)(hg:PySem.W.plainGet K C name=true)(hh:PySem.W.hasDictIn K C=true)
  (ha:PySem.W.findIn K (.ref C) name=some none)(hv:mA name=some v)(hv':PySem.W.handedIn v=true)(h:Q v {s with toks:=s.toks+1}) :
  wpAny (model prog w) A (getAttr (.ref x) name expr) Q E s:=by
 obtain⟨od,J,hl⟩:=I.look;exact PySem.W.get_value X J (PySem.W.plainGet_of hg).1 (PySem.W.findObj_own hh ha rfl (by rw[hl,hv])) hv' h
theorem zNq{ns:List Str}{Q:Unit->Shared->Prop}(X:K.In s.heap)(I:zF9 s.heap x dx C mA)
  (hs:PySem.W.findIn K (.ref C) "__setattr__" = some (some (.builtin "object.__setattr__")))(hp:PySem.W.plainOver K C=true)(ht:PySem.W.takerIn K C name=some none)(hh:PySem.W.hasDictIn K C=true)
  (hw:PySem.Within mA ns)(hsz:ns.length<=sizeLine)
  (h:∀ h',zF9 h' x dx C (λy=>if y=name then some v else mA y)->Heap.SameBut dx s.heap h'->Q () {s with heap:=h',toks:=s.toks+2}) :
  wpAny (model prog w) A (setAttr (.ref x) name v) Q E s:=by
 obtain⟨od,J,hl⟩:=I.look;refine PySem.W.set_plain X J hs (PySem.W.osa_open (s:={s with toks:=s.toks+1}) (r:=none) X J hp ht λb=>?_);obtain⟨cd,hc,hd'⟩:=PySem.W.any_some hh;have hx:s.heap.get? x=some ⟨.ref C,some dx,.plain,#[]⟩:=I.obj;refine Wh (WK (Wh (Wh (wpAny_loadPart hx (Wh (PySem.W.Looks.here (s:={s with toks:=s.toks+1}) (PySem.W.looks_clsIn X hc) ?_))))));rw[hd'];refine WK (a:=some dx) (Wh (WK (Wh ?_)));refine wpAny_nsSet1 (s:={s with toks:=s.toks+1}) I.ns λh' hn2 hs2=>?_
 obtain⟨oD,esD,epD,hoD,hdD,hcD⟩:=hn2.count (PySem.Within.cons name v hw);refine Wh (wpAny_lookBehind hoD (by rw[hdD];exact pastItsLine_dict (WT hcD (by rw[WD];omega))) ?_);exact WK (h _ ⟨(hs2.2 _ (Ne.symm I.ne)).trans I.obj,hn2,I.ne⟩ hs2)
theorem zHV{R:Result->Shared->Prop}{vs:List Value}{kw:List (Str×Value)}(X:K.In s.heap)(hm:PySem.W.makesIn K C=true)
  (hi:PySem.W.findIn K (.ref C) "__init__" = some (some (.ref f)))(hf:PySem.W.typeIn K (.ref f)=some (.type "function"))
  (h:codeAny (model prog w) (A.under (.builtin "type.__call__" ⟨.ref C::vs,kw⟩)) (.call (.ref f) ⟨.ref (s.heap.objs.size+1)::vs,kw⟩) (PySem.W.InitBack (s.heap.objs.size+1) R)
   {s with heap:=(s.heap.push PySem.W.emptyDict).push (PySem.W.instObj C s.heap.objs.size)}) :
  codeAny (model prog w) A (.call (.ref C) ⟨vs,kw⟩) R s:=by
 obtain⟨hh,g,d,t,os⟩:=s;exact PySem.W.make_core (PySem.W.makes_of X hm) (PySem.W.looks_findIn X hi) (λself=>PySem.W.bind_fn X self hf) (.inl rfl) h
end
def yr (f:Str)(v:V):List (Str×V)->List (Str×V)
|[]=>[(f,v)]
|(g,x)::r=>if g=f then (g,v)::r else (g,x)::yr f v r
theorem yR(f g:Str)(v:V):∀ fs:List (Str×V),(yr f v fs).lookup g=if g=f then some v else fs.lookup g
|[]=>by
  show List.lookup g [(f,v)]=_;by_cases h:g=f
  .have hb:(g==f)=true:=Vs.mpr h;simp only[List.lookup,hb,Wb h]
  .have hb:(g==f)=false:=Vd.mpr h;simp only[List.lookup,hb,Wa h]
|(k,x)::r=>by
  have ih:=yR f g v r;rw[show yr f v ((k,x)::r)=(if k=f then (k,v)::r else (k,x)::yr f v r) from rfl];by_cases hk:k=f
  .rw[Wb hk];by_cases h:g=k
   .have hb:(g==k)=true:=Vs.mpr h;simp only[List.lookup,hb,Wb (h.trans hk)]
   .have hb:(g==k)=false:=Vd.mpr h;simp only[List.lookup,hb,Wa (λe:g=f=>h (e.trans hk.symm))]
  .rw[Wa hk];by_cases h:g=k
   .have hb:(g==k)=true:=Vs.mpr h;simp only[List.lookup,hb,Wa (λe:g=f=>hk (h.symm.trans e))]
   .have hb:(g==k)=false:=Vd.mpr h;simp only[List.lookup,hb];exact ih
theorem zDz(f:Str)(v:V):∀ fs:List (Str×V),f∈(yr f v fs).map (·.1)/\∀ g,g∈fs.map (·.1)->g∈(yr f v fs).map (·.1)
|[]=>⟨by simp[yr],λg h=>by simp at h⟩
|(k,x)::r=>by
  obtain⟨i1,i2⟩:=zDz f v r;rw[show yr f v ((k,x)::r)=(if k=f then (k,v)::r else (k,x)::yr f v r) from rfl];by_cases hk:k=f
  .rw[Wb hk];subst hk;exact⟨by simp,λg h=>by simpa using h⟩
  .rw[Wa hk];refine⟨?_,λg h=>?_⟩
   .rw[Wj];exact We _ i1
   .rw[Wj] at h ⊢;rcases Wc.mp h with e|e
    .exact Wc.mpr (.inl e)
    .exact We _ (i2 g e)
theorem zCo(f:Str)(v:V):∀ fs:List (Str×V),(yr f v fs).length<=fs.length+1
|[]=>by simp[yr]
|(k,x)::r=>by
  have ih:=zCo f v r;rw[show yr f v ((k,x)::r)=(if k=f then (k,v)::r else (k,x)::yr f v r) from rfl];by_cases hk:k=f
  .rw[Wb hk,WD,WD];omega
  .rw[Wa hk,WD,WD];omega
theorem Yg.some_of{v:V}{o:Option Value}(r:Yg (some v) o):∃ u,o=some u/\zr v u:=by
 cases o with
|none=>exact (show False from r).elim
|some u=>exact⟨u,rfl,r⟩
theorem Yg.none_of{o:Option Value}(r:Yg none o):o=none:=by
 cases o with
|none=>rfl
|some u=>exact (show False from r).elim
theorem zK9{v:V}{u:Value}(r:zr v u):PySem.W.handedIn u=true:=by
 cases v with
|non=>cases (show u=Value.none from r);rfl
|bl b=>cases (show u=Value.bool b from r);rfl
|int i=>obtain⟨t,e⟩:=(show ∃ t,u=Value.int i t from r);cases e;rfl
|str x=>obtain⟨t,e⟩:=(show ∃ t,u=Value.str x t from r);cases e;rfl
|byt b=>obtain⟨t,e⟩:=(show ∃ t,u=Value.bytes b t from r);cases e;rfl
|flt b=>obtain⟨t,e⟩:=(show ∃ t,u=Value.float b t from r);cases e;rfl
|ref a=>cases (show u=Value.ref a from r);rfl
|ty n=>cases (show u=Value.type n from r);rfl
section
variable {P:Program}{w:World}{H H':Hp}{h h':Heap}{a C dx:Addr}{fs fs':List (Str×V)}
theorem zIx(hok:Za P w H h)(e:H a=some (.ins C dx fs)):∃ mA,zF9 h a dx C mA/\(∀ f,Yg (fs.lookup f) (mA f))/\PySem.Within mA (fs.map (·.1))/\fs.length<=1000/\H dx=some (.own a):=by
 obtain⟨d,z,ne,ob,mA,n,r,q⟩:=(show yj P w H h a (.ins C dx fs) from hok a _ e)
 exact⟨mA,⟨ob,n,ne⟩,r,q,z,d⟩
end
structure Y8(K:Qf)(C:Addr):Prop where
 pg:PySem.W.plainGet K C Str.empty=true
 hd:PySem.W.hasDictIn K C=true
 po:PySem.W.plainOver K C=true
 sa:PySem.W.findIn K (.ref C) "__setattr__" = some (some (.builtin "object.__setattr__"))
theorem Y8.get{K:Qf}{C:Addr}(c:Y8 K C)(f:Str):PySem.W.plainGet K C f=true:=c.pg
def zl (K:Qf)(C:Addr)(f:Str):Prop:=PySem.W.findIn K (.ref C) f=some none
theorem zl.taker{K:Qf}{C:Addr}{f:Str}(n:zl K C f):PySem.W.takerIn K C f=some none:=by
 unfold PySem.W.takerIn;rw[show PySem.W.findIn K (.ref C) f=some none from n];rfl
section
variable {X:Cx}{pins:Qp}{σ:St}{H:Hp}{s:Shared}{a C dx:Addr}{fs:List (Str×V)}{f:Str}{v:V}{A:Around}{E:Qs}
theorem zJv{b:Bool}{Q:Qs}(I:zK X pins σ H s)(e:H a=some (.ins C dx fs))(c:Y8 X.K C)(n:zl X.K C f)(l:fs.lookup f=some v)
  (h:∀ u s',zK X pins σ H s'->zr v u->Q u s'):wpAny (model X.prog X.w) A (getAttr (.ref a) f b) Q E s:=by
 obtain⟨mA,O,r,_,_,_⟩:=zIx I.hok e;obtain⟨u,hu,ru⟩:=Yg.some_of (v:=v) (o:=mA f) (by rw[<-l];exact r f);exact zNp I.kIn O (c.get f) c.hd n hu (zK9 ru) (h u _ (I.tok _) ru)
theorem zJw{y:V}{u:Value}{Q:Unit->Shared->Prop}(I:zK X pins σ H s)(e:H a=some (.ins C dx fs))(c:Y8 X.K C)(n:zl X.K C f)(hl:fs.length<1000)(ry:zr y u)
  (h:∀ s',zK X pins σ (upd H a (.ins C dx (yr f y fs))) s'->Q () s'):wpAny (model X.prog X.w) A (setAttr (.ref a) f u) Q E s:=by
 obtain⟨mA,O,r,wi,_,ho⟩:=zIx I.hok e;have hz:(fs.map (·.1)).length<=sizeLine:=by rw[zc,UC];omega
 refine zNq I.kIn O c.sa c.po n.taker c.hd wi hz λh' O' sb=>h _ ?_
 have hd:∃ o,h'.get? dx=some o:=let ⟨o,_,_,e',_⟩:=O'.ns;⟨o,e'⟩;refine I.write (x:=a) (e:=dx) (by rw[e];exact True.intro) (.inr ho) (λb q hb z=>(sb.2 b hb).trans z) hd ?_;refine⟨by rw[zG O.ne];exact ho,?_,O.ne,O'.obj,_,O'.ns,λg=>?_,λg hg=>?_⟩
 .have:=zCo f y fs;omega
 .show Yg ((yr f y fs).lookup g) (if g=f then some u else mA g);rw[yR];by_cases q:g=f
  .rw[Wb q,Wb q];exact ry
  .rw[Wa q,Wa q];exact r g
 .by_cases q:g=f
  .rw[q];exact (zDz f y fs).1
  .refine (zDz f y fs).2 g (wi g λz=>hg ?_);show (if g=f then some u else mA g)=none;rw[Wa q];exact z
theorem zK.made(I:zK X pins σ H s):zK X pins σ (upd (upd H s.heap.objs.size (.own (s.heap.objs.size+1))) (s.heap.objs.size+1) (.ins C s.heap.objs.size []))
  {s with heap:=(s.heap.push PySem.W.emptyDict).push (PySem.W.instObj C s.heap.objs.size)}:=by
 have e1:(s.heap.push PySem.W.emptyDict).get? s.heap.objs.size=some PySem.W.emptyDict:=WG s.heap rfl
 have e2:((s.heap.push PySem.W.emptyDict).push (PySem.W.instObj C s.heap.objs.size)).get? (s.heap.objs.size+1)=some (PySem.W.instObj C s.heap.objs.size):=by
  have:=WG (s.heap.push PySem.W.emptyDict) (o:=PySem.W.instObj C s.heap.objs.size) rfl
  rwa [Vn] at this
 have e3:(s.heap.push PySem.W.emptyDict).Ns s.heap.objs.size (λ_=>none):=⟨PySem.W.emptyDict,#[],_,e1,rfl,(λe he=>absurd he (by simp)),λ_=>rfl⟩
 have I1:=I.laid (a:=s.heap.objs.size) (o:=.own (s.heap.objs.size+1)) (h':=s.heap.push PySem.W.emptyDict) (t':=s.toks) (λb u q=>Wf _ q) (Wd _) ⟨_,e1⟩;refine I1.laid (a:=s.heap.objs.size+1) (o:=.ins C s.heap.objs.size []) (t':=s.toks) (λb u q=>Wf _ q) (Us (Vn _ _)) ?_;have ne:s.heap.objs.size≠s.heap.objs.size+1:=WE (Xm _);refine⟨by rw[zG ne,zF],WH _,ne,e2,λ_=>none,(Heap.Ns1.of_empty e3).at λo q=>Wf _ q,λ_=>True.intro,λy hy=>absurd rfl hy⟩
theorem zIy{prog:Program}{w:World}{env:Env}{e:Expr}{f:Str}{pos:Pos}{s:Shared}{Q:Qs}(hb:attributeBase e f env (eval e env)=eval e env)
  (h:wpAny (model prog w) A (eval e env) (λo s₁=>wpAny (model prog w) A (getAttr o f true) Q E s₁) E s):wpAny (model prog w) A (eval (.Attribute e f pos) env) Q E s:=
 Attribute_any_ h (by rw[arm_eval_Attribute,hb])
end
def zPU (K:Qf)(ta:TE)(f:Str):TE:=λσ H Q=>ta σ H λx H1=>∃ a C dx fs v,x=.ref a/\H1 a=some (.ins C dx fs)/\Y8 K C/\zl K C f/\fs.lookup f=some v/\Q v H1
def zRY (K:Qf)(ta tv:TE)(f:Str):TS:=λD σ H=>tv σ H λy H1=>ta σ H1 λx H2=>∃ a C dx fs,x=.ref a/\H2 a=some (.ins C dx fs)/\Y8 K C/\zl K C f/\fs.length<1000/\
 D.nx σ (upd H2 a (.ins C dx (yr f y fs)))
section
variable {X:Cx}{o e value:Expr}{f:Str}{pos pos' tpos:Pos}{ta tv:TE}
theorem zQ(he:PE X e ta)(hb:attributeBase e f X.env (eval e X.env)=eval e X.env):PE X (.Attribute e f pos) (zPU X.K ta f):=by
 intro pins s σ H Q I h;refine zIy hb (zv (he pins s σ H _ I h) λu s1 ⟨x,H1,I1,rx,a,C,dx,fs,v,ex,ea,c,n,l,q⟩=>?_);subst ex;obtain rfl:u=Value.ref a:=rx;exact zJv I1 ea c n l λu' s2 I2 ru=>⟨v,H1,I2,ru,q⟩
theorem ZG(ha:PE X o ta)(hv:PE X value tv)(hs:swapsWith value (some (.Attribute o f pos')) pos.line X.env=pure false):PS X (.Assign [.Attribute o f pos'] value pos) (zRY X.K ta tv f):=by
 intro pins s σ H D I h;refine XB (zv (hv pins s σ H _ I h) λu s1 ⟨y,H1,I1,ry,q⟩=>zv (ha pins s1 σ H1 _ I1 q) λov s2 ⟨x,H2,I2,rx,a,C,dx,fs,ex,ea,c,n,l,q2⟩=>?_) hs;subst ex;obtain rfl:ov=Value.ref a:=rx;exact zJw I2 ea c n l ry λs3 I3=>⟨σ,_,I3,q2⟩
end
structure zt(k:Nat)(A:Around):Prop where
 hd:A.handled=none
 dp:A.depth+3*k+5<recursionLimit
 un:A.units+16*k+200<cLine
theorem zt.mono{j k:Nat}{A:Around}(r:zt k A)(h:j<=k):zt j A:=⟨r.hd,by have:=r.dp;omega,by have:=r.un;omega⟩
theorem zt.deeper{k:Nat}{A:Around}(r:zt (k+1) A)(env:Env):zt k (A.deeper env):=
 ⟨r.hd,by have:=r.dp;show A.depth+1+3*k+5<_;omega,by have:=r.un;show A.units+3+16*k+200<_;omega⟩
theorem zFW{A:Around}{C:Addr}{us:List Value}{kw:List (Str×Value)}:(A.under (.builtin "type.__call__" ⟨.ref C::us,kw⟩)).depth=A.depth+1:=by
 first|rfl|simp[Around.under,Code.weight,Code.isCreation,Code.isGuard,Code.isCaller,Code.frames,Code.isFrame,guardIds]
theorem zFX{A:Around}{C:Addr}{us:List Value}{kw:List (Str×Value)}:(A.under (.builtin "type.__call__" ⟨.ref C::us,kw⟩)).units=A.units+1:=by
 first|rfl|simp[Around.under,Code.cUnits,Code.frames,Code.isFrame]
theorem zt.make{k:Nat}{A:Around}(r:zt (k+1) A)(C:Addr)(us:List Value)(kw:List (Str×Value)):zt k (A.under (.builtin "type.__call__" ⟨.ref C::us,kw⟩)):=
 ⟨r.hd,by have:=r.dp;rw[zFW];omega,by have:=r.un;rw[zFX];omega⟩
theorem zt.depth{k:Nat}{A:Around}(r:zt k A):A.depth<recursionLimit:=by have:=r.dp;omega
theorem zt.units{k:Nat}{A:Around}(r:zt k A):A.units+64<cLine:=by have:=r.un;omega
def zRZ:TA:=λ_ H Q=>Q [] H
def zQr (ta:TE)(tr:TA):TA:=λσ H Q=>ta σ H λx H1=>tr σ H1 λxs H2=>Q (x::xs) H2
section
variable {X:Cx}{e:Expr}{es:List Expr}{te:TE}{t:TA}{pos:Pos}
theorem zC:PA X [] zRZ:=λ_ _ _ _ H Q I h=>Calls.spliced_nil ⟨[],H,I,.nil,h⟩
theorem zA(ha:PE X e te)(hr:PA X es t)(hs:starEach (e::es) X.env=(false,eval e X.env)::starEach es X.env:=by rfl):PA X (e::es) (zQr te t):=by
 intro pos pins s σ H Q I h;rw[hs];show wpAny _ _ (spliced ((false,eval e X.env)::backTo pos (starEach es X.env))) _ _ s;refine Calls.spliced_cons (zv (ha pins s σ H _ I h) λu s1 ⟨x,H1,I1,r1,q1⟩=>?_);exact zv (hr pos pins s1 σ H1 _ I1 q1) λus s2 ⟨xs,H2,I2,r2,q2⟩=>⟨x::xs,H2,I2,.cons r1 r2,q2⟩
def zRa (t:TA):TE:=λσ H Q=>t σ H λxs H1=>xs.length<=sizeLine/\∀ p,H1 p=none->Q (.ref p) (upd H1 p (.tup xs))
def zRb (t:TA):TE:=λσ H Q=>t σ H λxs H1=>xs.length<=sizeLine/\∀ p,H1 p=none->Q (.ref p) (upd H1 p (.lst xs))
theorem Y9{x1}(h:PA X es t):PE X (.Tuple es x1 pos) (zRa t):=by
 intro pins s σ H Q I hq;refine wpAny_Tuple_spliced (zv (h pos pins s σ H _ I hq) λus s1 ⟨xs,H1,I1,r,z,q⟩=>⟨by rw[<-r.length];exact z,?_⟩);have hf:H1 s1.heap.objs.size=none:=I1.hok.fresh (Wd _);refine⟨.ref s1.heap.objs.size,upd H1 s1.heap.objs.size (.tup xs),I1.laid (t':=s1.toks) (λb u e=>Wf _ e) (Wd _) ?_,rfl,q _ hf⟩;exact⟨z,us,r,⟨_,WG _ rfl,rfl,_,rfl⟩⟩
theorem yd(h:PA X es t):PE X (.List es pos) (zRb t):=by
 intro pins s σ H Q I hq;refine wpAny_List_spliced (zv (h pos pins s σ H _ I hq) λus s1 ⟨xs,H1,I1,r,z,q⟩=>⟨by rw[<-r.length];exact z,?_⟩);have hf:H1 s1.heap.objs.size=none:=I1.hok.fresh (Wd _);refine⟨.ref s1.heap.objs.size,upd H1 s1.heap.objs.size (.lst xs),I1.laid (t':=s1.toks) (λb u e=>Wf _ e) (Wd _) ?_,rfl,q _ hf⟩;exact⟨z,us,0,r,WG _ rfl⟩
end
abbrev Sp:=List V->Hp->VK->XK->Prop
abbrev CXT:=List Env->Hp->Shared->XK->Qs
structure zCp(P:Program)(w:World)(K:Qf)(mg:Qm)(base:Heap)(A:Around)(outer:List Env)(s:Shared)(H:Hp):Prop where
 frames:A.frames=some outer
 mod:Mod K mg base
 bs:∀ b o,base.get? b=some o->s.heap.get? b=some o/\H b=none
 bsz:base.objs.size<=s.heap.objs.size
 funs:s.heap.FunFrames base outer
 frf:∀ b∈yo outer,H b=none
 hok:Za P w H s.heap
 bare:AllBare s.gens
def CE (outer:List Env)(P:Program)(w:World)(H:Hp)(s:Shared)(Q:VK)(u:Value)(s':Shared):Prop:=
 ∃ v H',s'.os=s.os/\AllBare s'.gens/\Un (yo outer) [] H H' s.heap s'.heap/\Za P w H' s'.heap/\zr v u/\Q v H'
def CR (CX:CXT)(outer:List Env)(P:Program)(w:World)(H:Hp)(s:Shared)(Q:VK)(E:XK)(r:Result)(s':Shared):Prop:=
 match r with
|.ok (.ret u)=>CE outer P w H s Q u s'
|.ok _=>False
|.error e=>CX outer H s E e s'
structure Yy(P:Program)(w:World)(K:Qf)(mg:Qm)(base:Heap)(CX:CXT)(k:Nat)(f:Addr)(fd:FuncData)(ps:List Str)(sp:Sp):Prop where
 len:∀ vs H Q E,sp vs H Q E->vs.length=ps.length
 run:∀ (A:Around) (outer:List Env) (s:Shared) (H:Hp) (args:Args) (us:List Value) (vs:List V) (Q:VK) (E:XK),zt k A->zCp P w K mg base A outer s H->BindsTo s fd args (ps.zip us)->zd vs us->sp vs H Q E->
  codeAny (model P w) A (.call (.ref f) args) (CR CX outer P w H s Q E) s
theorem zCp.make{P:Program}{w:World}{K:Qf}{mg:Qm}{base:Heap}{A:Around}{outer:List Env}{s:Shared}{H:Hp}(e:zCp P w K mg base A outer s H)(C:Addr)(us:List Value)(kw:List (Str×Value)) :
  zCp P w K mg base (A.under (.builtin "type.__call__" ⟨.ref C::us,kw⟩)) outer s H:=⟨by first|exact e.frames|(simpa[Around.under,Code.envs,Code.isFrame,pushEnvs] using e.frames),e.mod,e.bs,e.bsz,e.funs,e.frf,e.hok,e.bare⟩
section
variable {X:Cx}{pins:Qp}{σ:St}{H:Hp}{s s':Shared}
theorem zK.env0(I:zK X pins σ H s):zCp X.prog X.w X.K X.mg X.base X.A X.stack s H:=
 ⟨I.ok.frames,I.ok.mod,I.bs,WT I.ok.bsz I.sz,I.stack,I.stkFree,I.hok,I.bare⟩
theorem zK.after{Q:VK}{u:Value}(I:zK X pins σ H s)(h:CE X.stack X.prog X.w H s Q u s'):EP X pins σ Q u s':=by
 obtain⟨v,H',os,bare,un,hok,r,q⟩:=h;obtain⟨hh,g,d,t,os'⟩:=s';obtain rfl:os'=s.os:=os;exact⟨v,H',I.call (h':=hh) (g':=g) (d':=d) (t':=t) (ch:=[]) un hok bare (λb z=>absurd z (by simp)),r,q⟩
end
def zHI (sp:Sp)(dvs:List V)(E:XK)(t:TA):TE:=λσ H Q=>t σ H λvs H1=>sp (vs++dvs) H1 Q E
def zJx (C:Addr)(sp:Sp)(dvs:List V)(E:XK)(t:TA):TE:=λσ H Q=>t σ H λvs H1=>∀ x dx,H1 x=none->H1 dx=none->dx≠x->
 sp (.ref x::(vs++dvs)) (upd (upd H1 dx (.own x)) x (.ins C dx [])) (λv H2=>v=.non/\Q (.ref x) H2) E
def ZK (K:Qf)(fd:FuncData)(ps:List Str)(ds:List Value):Prop:=
 ∀ (s:Shared) (us:List Value),K.In s.heap->(us++ds).length=ps.length->BindsTo s fd ⟨us,[]⟩ (ps.zip (us++ds))
theorem ZK.all{K:Qf}{fd:FuncData}{ps:List Str}(h:∀ us:List Value,us.length=ps.length->bindArgs fd ⟨us,[]⟩=pure (ps.zip us)):ZK K fd ps []:=λs us _ hl=>by
 rw[VD] at hl ⊢;exact .of_eq (h us hl)
def Ys (CX:CXT)(X:Cx)(E:XK):Prop:=∀ (pins:Qp) (σ:St) (H:Hp) (s:Shared) (e:Value) (s':Shared),zK X pins σ H s->CX X.stack H s E e s'->X.xe e s'
section
variable {X:Cx}{CX:CXT}{k:Nat}{f C:Addr}{fd:FuncData}{ps:List Str}{sp:Sp}{dvs:List V}{ds:List Value}{E:XK}{x m:Str}{p pos apos:Pos}{e o:Expr}{es:List Expr}{ta:TE}{t:TA}
theorem zPV{pins:Qp}{σ:St}{H:Hp}{s:Shared}{Q:VK}{us:List Value}{vs:List V}(F:Yy X.prog X.w X.K X.mg X.base CX k f fd ps sp)(hr:zt k X.A)(hb:ZK X.K fd ps ds)(hd:zd dvs ds)(hx:Ys CX X E)
  (I:zK X pins σ H s)(r:zd vs us)(h:sp (vs++dvs) H Q E):wpAny (model X.prog X.w) X.A (call (.ref f) us) (EP X pins σ Q) X.xe s:=by
 have r2:zd (vs++dvs) (us++ds):=r.append hd;have hl:(us++ds).length=ps.length:=by rw[<-r2.length];exact F.len _ _ _ _ h
 refine UJ (Xt (F.run X.A X.stack s H ⟨us,[]⟩ (us++ds) (vs++dvs) Q E hr I.env0 (hb s us I.kIn hl) r2 h) λr s' hq=>?_);cases r with
|error e=>exact hx pins σ H s e s' I hq
|ok fl=>
  cases fl with
 |ret u=>exact I.after hq
 |next=>exact False.elim hq
 |brk=>exact False.elim hq
 |cont=>exact False.elim hq
theorem zGA(F:Yy X.prog X.w X.K X.mg X.base CX k f fd ps sp)(hr:zt k X.A)(hg:Gl X x)(hm:X.mg x=some (.ref f))(hk:PySem.W.keepIn X.K (.ref f)=true)(hb:ZK X.K fd ps ds)(hd:zd dvs ds)(hx:Ys CX X E)
  (ha:PA X (e::es) t)(hdb:(x==("__debug__" : Str))=false:=by decide)(he:starEach (e::es) X.env=(false,eval e X.env)::starEach es X.env:=by rfl)(hpl:(backTo pos (starEach es X.env)).any (·.1)=false:=by rfl) :
  PE X (.Call (.Name x p) (e::es) [] pos) (zHI sp dvs E t):=by
 intro pins s σ H Q I h;refine VT (zA5 I hg hm ?_ hdb);refine Xs (h₀:=X.base) I.ok.mod.kin hk (zv (ha pos pins s σ H _ I h) λus s1 ⟨vs,H1,I1,r,q⟩=>⟨I1.kIn,?_⟩) he hpl;exact zPV F hr hb hd hx I1 r q
structure Mk(K:Qf)(C f:Addr):Prop where
 makes:PySem.W.makesIn K C=true
 init:PySem.W.findIn K (.ref C) "__init__" = some (some (.ref f))
 fn:PySem.W.isFn K (.ref f)=true
 kp:PySem.W.keepIn K (.ref C)=true
theorem zMO{pins:Qp}{σ:St}{H:Hp}{s:Shared}{Q:VK}{us:List Value}{vs:List V}(M:Mk X.K C f)(F:Yy X.prog X.w X.K X.mg X.base CX k f fd ps sp)(hr:zt (k+1) X.A)(hb:ZK X.K fd ps ds)(hd:zd dvs ds)
  (hx:Ys CX X E)(I:zK X pins σ H s)(r:zd vs us)
  (h:∀ x dx,H x=none->H dx=none->dx≠x->sp (.ref x::(vs++dvs)) (upd (upd H dx (.own x)) x (.ins C dx [])) (λv H2=>v=.non/\Q (.ref x) H2) E) :
  wpAny (model X.prog X.w) X.A (call (.ref C) us) (EP X pins σ Q) X.xe s:=by
 have hq:=h (s.heap.objs.size+1) s.heap.objs.size (I.hok.fresh (Nat.le_succ _)) (I.hok.fresh (Wd _)) (WE (Xm _));have I2:=zK.made (C:=C) I;have r2:zd (V.ref (s.heap.objs.size+1)::(vs++dvs)) (Value.ref (s.heap.objs.size+1)::(us++ds)):=.cons rfl (r.append hd)
 have hl:(Value.ref (s.heap.objs.size+1)::us++ds).length=ps.length:=by
  have e:=r2.length;rw[F.len _ _ _ _ hq] at e;exact e.symm
 refine UJ (zHV (f:=f) I.kIn M.makes M.init (Vs.mp M.fn) (Xt (F.run _ X.stack _ _ ⟨Value.ref (s.heap.objs.size+1)::us,[]⟩ (Value.ref (s.heap.objs.size+1)::(us++ds)) _ _ E (hr.make C us [])
  (I2.env0.make C us []) (hb _ (Value.ref (s.heap.objs.size+1)::us) I2.kIn hl) r2 hq) λr s' hq'=>?_))
 cases r with
|error e=>exact hx pins σ _ _ e s' I2 hq'
|ok fl=>
  cases fl with
 |ret u=>
   obtain⟨v,H',I3,rv,ev,q3⟩:=I2.after hq';subst ev;exact⟨rv,⟨V.ref (s.heap.objs.size+1),H',I3,rfl,q3⟩⟩
 |next=>exact False.elim hq'
 |brk=>exact False.elim hq'
 |cont=>exact False.elim hq'
theorem zNr(M:Mk X.K C f)(F:Yy X.prog X.w X.K X.mg X.base CX k f fd ps sp)(hr:zt (k+1) X.A)(hg:Gl X x)(hm:X.mg x=some (.ref C))(hb:ZK X.K fd ps ds)(hd:zd dvs ds)(hx:Ys CX X E)
  (ha:PA X (e::es) t)(hdb:(x==("__debug__" : Str))=false:=by decide)(he:starEach (e::es) X.env=(false,eval e X.env)::starEach es X.env:=by rfl)(hpl:(backTo pos (starEach es X.env)).any (·.1)=false:=by rfl) :
  PE X (.Call (.Name x p) (e::es) [] pos) (zJx C sp dvs E t):=by
 intro pins s σ H Q I h;refine VT (zA5 I hg hm ?_ hdb);refine Xs (h₀:=X.base) I.ok.mod.kin M.kp (zv (ha pos pins s σ H _ I h) λus s1 ⟨vs,H1,I1,r,q⟩=>⟨I1.kIn,?_⟩) he hpl;exact zMO M F hr hb hd hx I1 r q
end
structure zO(N P:List Str)(sc:Scope):Prop where
 kind:sc.kind=.function
 co:sc.isCoroutine=false
 gen:sc.isGenerator=false
 nd:N.Nodup
 pre:N.take P.length=P
 par:∀ x∈P,sc.names.lookup x=some .local\/sc.names.lookup x=some .cell
 nofree:∀ y∈sc.names,y.2≠.free
theorem yG{N P:List Str}{sc:Scope}(h:sc.kind=.function/\sc.isCoroutine=false/\sc.isGenerator=false/\N.Nodup/\N.take P.length=P/\(∀ x∈P,sc.names.lookup x=some .local\/sc.names.lookup x=some .cell)/\∀ y∈sc.names,y.2≠.free):zO N P sc:=⟨h.1,h.2.1,h.2.2.1,h.2.2.2.1,h.2.2.2.2.1,h.2.2.2.2.2.1,h.2.2.2.2.2.2⟩
theorem zGj{kindOf:Str->Option NameKind}{x:Str}:∀ {binds:List (Str×Value)}{m:Qm},(∀ v,(x,v)∉binds)->bindL kindOf binds m x=m x
|[],_,_=>rfl
|(n,v)::r,m,h=>by
  unfold bindL;rw[zGj λw hw=>h w (We _ hw)];split
  .have:x≠n:=by rintro rfl;exact h v Wt
   simp[this]
  .rfl
theorem zGk{kindOf:Str->Option NameKind}{x:Str}:∀ {binds:List (Str×Value)}{m:Qm},(∀ v,(x,v)∉binds)->bindC kindOf binds m x=m x
|[],_,_=>rfl
|(n,v)::r,m,h=>by
  unfold bindC;rw[zGk λw hw=>h w (We _ hw)];split
  .rfl
  .have:x≠n:=by rintro rfl;exact h v Wt
   simp[this]
theorem zGl{kindOf:Str->Option NameKind}{x:Str}{v:Value}:∀ {P:List Str}{vs:List Value}{i:Nat}{m:Qm},P.Nodup->P[i]?=some x->vs[i]?=some v->kindOf x=some .local->
  bindL kindOf (P.zip vs) m x=some v
|[],_,_,_,_,h,_,_=>by simp at h
|_::_,[],_,_,_,_,h,_=>by simp at h
|p::P,w::vs,0,m,nd,h1,h2,hk=>by
  simp at h1 h2;subst h1;subst h2;show bindL kindOf ((p,w)::P.zip vs) m p=_;unfold bindL;rw[zGj λv hv=>(Vh.mp nd).1 (XS hv).1,Wb hk];simp
|p::P,w::vs,i+1,m,nd,h1,h2,hk=>by
  show bindL kindOf ((p,w)::P.zip vs) m x=_;unfold bindL;exact zGl (i:=i) (Vh.mp nd).2 (by simpa using h1) (by simpa using h2) hk
theorem zGm{kindOf:Str->Option NameKind}{x:Str}{v:Value}:∀ {P:List Str}{vs:List Value}{i:Nat}{m:Qm},P.Nodup->P[i]?=some x->vs[i]?=some v->kindOf x≠some .local->
  bindC kindOf (P.zip vs) m x=some v
|[],_,_,_,_,h,_,_=>by simp at h
|_::_,[],_,_,_,_,h,_=>by simp at h
|p::P,w::vs,0,m,nd,h1,h2,hk=>by
  simp at h1 h2;subst h1;subst h2;show bindC kindOf ((p,w)::P.zip vs) m p=_;unfold bindC;rw[zGk λv hv=>(Vh.mp nd).1 (XS hv).1,Wa hk];simp
|p::P,w::vs,i+1,m,nd,h1,h2,hk=>by
  show bindC kindOf ((p,w)::P.zip vs) m x=_;unfold bindC;exact zGm (i:=i) (Vh.mp nd).2 (by simpa using h1) (by simpa using h2) hk
def Yi (N:List Str)(vs:List V):St:=vs.map some++List.replicate (N.length-vs.length) none
def ZT (CX:CXT)(P:Program)(w:World)(K:Qf)(mg:Qm)(base:Heap)(N:List Str)(qual:Str)(scope:Scope)(f:Addr)(cd:Value)(A:Around)(outer:List Env)(s:Shared)(H:Hp)(E:XK):Cx where
 prog:=P
 w:=w
 K:=K
 mg:=mg
 base:=base
 A:=A.deeper (envOfC qual scope s.heap.objs.size f cd)
 N:=N
 s_0:=s
 H_0:=H
 env:=envOfC qual scope s.heap.objs.size f cd
 outer:=outer
 stack:=envOfC qual scope s.heap.objs.size f cd::outer
 ex:=[]
 calm:=true
 fn:=λ_=>true
 pn:=[]
 xe:=λe s'=>wpAny (model P w) (A.deeper (envOfC qual scope s.heap.objs.size f cd)) (leaving (envOfC qual scope s.heap.objs.size f cd) e) (λ_ s''=>CX outer H s E e s'') (λe' s''=>CX outer H s E e' s'') s'
theorem zHW{sc:Scope}{n:Nat}{x:Str}(h:sc.names.lookup x=some .cell):∃ c,(cellsFrom n sc.names []).lookup x=some c:=by
 have q:=Uq sc.names n [] (.inl h);exact Option.isSome_iff_exists.mp q
theorem zGn{CX:CXT}{P:Program}{w:World}{K:Qf}{mg:Qm}{base:Heap}{N ps:List Str}{qual:Str}{scope:Scope}{f:Addr}{cd:Value}{A:Around}{outer:List Env}{s s1:Shared}{H:Hp}{E:XK}{us:List Value}{vs:List V}
  (S:zO N ps scope)(hd:A.handled=none)(e0:zCp P w K mg base A outer s H)(hl:vs.length=ps.length)(r:zd vs us)
  (x:InCallC s s.heap.objs.size (bindL (envOfC qual scope s.heap.objs.size f cd).kindOf (ps.zip us) λ_=>none) (cellsFrom (s.heap.objs.size+1) scope.names []) (bindC (envOfC qual scope s.heap.objs.size f cd).kindOf (ps.zip us) λ_=>none) s1) :
  zK (ZT CX P w K mg base N qual scope f cd A outer s H E) [] (Yi N vs) H s1:=by
 have hpl:ps.length<=N.length:=by have:=WV List.length S.pre;rw[Wy] at this;omega
 obtain⟨h1,tk,rfl,hk⟩:=x.done;have noA:∀ b:Addr,b∉(ZT CX P w K mg base N qual scope f cd A outer s H E).ex:=λb z=>absurd (show b∈([]:List Addr) from z) (by simp)
 refine⟨⟨e0.mod,S.kind,rfl,rfl,Wd _,λy z c h1 h2=>?_,λy hy=>?_,λy c _ h=>?_,λ_=>hd,Around.frames_deeper e0.frames,.inr ⟨rfl,rfl⟩,λb z=>absurd z (noA b),e0.bs,e0.bsz,λb _ _=>noA b,λb z=>absurd z (noA b),e0.funs,e0.frf⟩,
  rfl,e0.bare,Un.kept hk,⟨_,x.toInCall.ns,λi y v h1 h2 h3=>?_⟩,λy c h=>⟨_,x.cell y c h⟩,e0.hok.fresh (Wd _),λy c h=>?_,λp hp=>absurd (show p∈([]:Qp) from hp) (by simp),e0.hok.kept hk,?_⟩
 .exact name_of_addr x.apart (WL h1) (WL h2)
 .have hy:scope.names.lookup y=some .cell\/scope.names.lookup y=some .free:=hy;rcases hy with hy|hy
  .exact zHW hy
  .exact absurd rfl (S.nofree _ (WL hy))
 .exact Vz (x.above y c (WL h))
 .have hi:i<vs.length:=by
   unfold Yi at h2;by_cases hi:i<vs.length
   .exact hi
   .rw[VB (by simpa using hi)] at h2;rw[V4] at h2;split at h2 <;> cases h2
  have ha:vs[i]?=some v:=by
   unfold Yi at h2;rw[W7 (by simpa using hi),WQ] at h2;cases e:vs[i]? with
  |none=>rw[e] at h2;cases h2
  |some a=>rw[e] at h2;cases h2;rfl
  obtain⟨u,hu,rv⟩:=r.get ha
  have hp:ps[i]?=some y:=by
   rw[<-S.pre,Uk (by omega)];exact h1
  have ndP:ps.Nodup:=by rw[<-S.pre];exact S.nd.sublist (List.take_sublist _ _)
  refine⟨u,rv,?_⟩;rcases S.par y (ZZ hp) with k|k
  .exact .inl ⟨k,zGl ndP hp hu k⟩
  .obtain⟨c,e⟩:=zHW (n:=s.heap.objs.size+1) k;refine .inr ⟨.inl k,c,e,?_⟩;have q:=x.cell y c e;rw[zGm ndP hp hu (by show scope.names.lookup y≠_;rw[k];decide)] at q;exact q
 .exact e0.hok.fresh (Vz (x.above y c (WL h)))
 .unfold Yi;show _=N.length;rw[Wr,zc,VF];omega
theorem zNF{CX:CXT}{P:Program}{w:World}{K:Qf}{mg:Qm}{base:Heap}{k:Nat}{f:Addr}{name qual:Str}{params:Arguments}{body:List Stmt}{scope:Scope}{dV kV doc pm cdv ct oc:Value}{an od:Option Addr}
  {osl:Array (Option Value)}{N ps:List Str}{sp:Sp}(lk:K.lookup f=some ⟨oc,od,.func (PySem.W.fnOf name qual params body scope dV kV doc pm an cdv ct),osl⟩) (hcd:PySem.W.codeIn K cdv qual=true) (S:zO N ps scope)
  (len:∀ vs H Q E,sp vs H Q E->vs.length=ps.length)
  (hbody:∀ (A:Around) (outer:List Env) (s:Shared) (H:Hp) (vs:List V) (Q:VK) (E:XK),zt k (A.deeper (envOfC qual scope s.heap.objs.size f cdv))->sp vs H Q E->
   ∃ t,PSs (ZT CX P w K mg base N qual scope f cdv A outer s H E) body t/\t {nx:=λ_ H'=>Q .non H',rt:=Q} (Yi N vs) H) :
  Yy P w K mg base CX (k+1) f (PySem.W.fnOf name qual params body scope dV kV doc pm an cdv ct) ps sp:=by
 refine⟨len,λA outer s H args us vs Q E hr e0 hb r hsp=>?_⟩;have hl:=len _ _ _ _ hsp;have KX:K.In s.heap:=e0.mod.kin.keeps λb o e=>(e0.bs b o e).1
 have lim:s.heap.NoLimit:=e0.mod.nolimit.keeps λb o e=>(e0.bs b o e).1
 have hkind:∀ y∈ps.zip us,scope.names.lookup y.1=some .local\/(scope.names.lookup y.1=some .cell/\((cellsFrom (s.heap.objs.size+1) scope.names []).lookup y.1).isSome=true):=λ⟨n,v⟩ hy=>by
  rcases S.par n (XS hy).1 with q|q
  .exact .inl q
  .exact .inr ⟨q,Uq _ _ _ (.inl q)⟩
 refine codeAny_call_function hr.depth (KX _ _ lk) rfl S.co S.gen rfl (PySem.W.codeRec_of KX hcd) (hb _ _ _ _ ?_);refine U6 S.kind hkind λenv he s1 x=>?_
 subst he;refine⟨lim.keeps x.toInCall.keep,codeAny_func ?_⟩;obtain⟨t,ht,hq⟩:=hbody A outer s H vs Q E (hr.deeper _) hsp;have I:zK (ZT CX P w K mg base N qual scope f cdv A outer s H E) [] (Yi N vs) H s1:=zGn S hr.hd e0 hl r x;refine W8 (ht [] s1 (Yi N vs) H _ I hq) (λfl s' hs=>?_) λe s' hs=>hs
 have fin:∀ {σ':St}{H':Hp}{v:V}{u:Value},zK (ZT CX P w K mg base N qual scope f cdv A outer s H E) [] σ' H' s'->zr v u->Q v H'->CE outer P w H s Q u s':=
  λ{σ' H' v u} J rv q=>⟨v,H',J.os,J.bare,J.base,J.hok,rv,q⟩
 cases fl with
|ret u=>
  obtain⟨v,σ',H',J,rv,q⟩:=hs;exact fin J rv q
|next=>
  obtain⟨σ',H',J,q⟩:=hs;exact fin (v:=V.non) (u:=Value.none) J rfl q
|brk=>
  obtain⟨_,_,_,q⟩:=hs;exact False.elim q
|cont=>
  obtain⟨_,_,_,q⟩:=hs;exact False.elim q
section
variable {X:Cx}{x:Str}{p pos:Pos}{e:Expr}{es:List Expr}{t:TA}{id T:String}{r:List V->Hp->VK->Prop}
def tCB (r:List V->Hp->VK->Prop)(t:TA):TE:=λσ H Q=>t σ H λvs H1=>r vs H1 Q
theorem ZU(hc:zAp X (.builtin id) r)(hg:Gl X x)(hm:X.mg x=none)(hv:bootBuiltins x=some (.builtin id))(ha:PA X (e::es) t)(hn:x≠"__name__":=by decide)(hdb:(x==("__debug__" : Str))=false:=by decide)
  (he:starEach (e::es) X.env=(false,eval e X.env)::starEach es X.env:=by rfl)(hpl:(backTo pos (starEach es X.env)).any (·.1)=false:=by rfl):PE X (.Call (.Name x p) (e::es) [] pos) (tCB r t):=by
 intro pins s σ H Q I h;refine VT (zCA I hg hm hv ?_ hn hdb);exact PyProof.Rows.callWith_builtin1 (zv (ha pos pins s σ H _ I h) λus s1 ⟨vs,H1,I1,r1,q1⟩=>hc pins s1 σ H1 vs us Q I1 r1 q1) he hpl
theorem zGo(hc:zAp X (.type T) r)(hg:Gl X x)(hm:X.mg x=none)(hv:bootBuiltins x=some (.type T))(ha:PA X (e::es) t)(hn:x≠"__name__":=by decide)(hdb:(x==("__debug__" : Str))=false:=by decide)
  (he:starEach (e::es) X.env=(false,eval e X.env)::starEach es X.env:=by rfl)(hpl:(backTo pos (starEach es X.env)).any (·.1)=false:=by rfl):PE X (.Call (.Name x p) (e::es) [] pos) (tCB r t):=by
 intro pins s σ H Q I h;refine VT (zCA I hg hm hv ?_ hn hdb);exact Vw (zv (ha pos pins s σ H _ I h) λus s1 ⟨vs,H1,I1,r1,q1⟩=>hc pins s1 σ H1 vs us Q I1 r1 q1) he hpl
end
end L2
namespace HT
open PySem PyProof.Rows
theorem eqAt_int(A:Around)(s:Shared)(a:Int)(t:Tok)(c:Int)(u:Tok):∃ e,SeqAt.EqAt A s (.int a t) (.int c u) e/\(e=true↔a=c):=
 ⟨(a==c),SeqAt.EqAt.int_int a t c u,by simp⟩
section
variable {prog:Program}{w:World}{A:Around}{E:Qs}{s:Shared}
def sIx (n d:Nat):Option Int->Nat
|none=>d
|some v=>if v<0 then (v+(n:Int)).toNat else min v.toNat n
theorem sIx_none(n d:Nat):sIx n d none=d:=rfl
theorem sIx_nat(n d k:Nat):sIx n d (some (k:Int))=min k n:=by
 show (if (k:Int)<0 then ((k:Int)+(n:Int)).toNat else min (k:Int).toNat n)=min k n;rw[Wa (by omega),Ve]
end
end HT
namespace L2
open PySem PySem.Spec PyProof.Rows
abbrev TO:=St->Hp->(Option Int->Hp->Prop)->Prop
def PO (X:Cx)(e:Option Expr)(t:TO):Prop:=
 ∀ (pins:Qp) (s:Shared) (σ:St) (H:Hp) (Q:Option Int->Hp->Prop),zK X pins σ H s->t σ H Q->
  wpAny (model X.prog X.w) X.A (evalPart e X.env) (λu s'=>∃ o H',zK X pins σ H' s'/\IsPart u o/\Q o H') X.xe s
def zNs:TO:=λ_ H Q=>Q none H
def zQs (t:TE):TO:=λσ H Q=>t σ H λx H1=>∃ i,x=.int i/\Q (some i) H1
theorem zFY{ns:List Int}:∀ {us:List Value},zd (ns.map V.int) us->IntsAre us ns:=by
 induction ns with
|nil=>intro us r;rw[V6] at r;cases r;exact .nil
|cons n ns ih=>
  intro us r;rw[Wj] at r;cases r with
 |cons r1 r2=>
   obtain⟨t,e⟩:=r1;subst e;exact .cons n t (ih r2)
section
variable {X:Cx}{e:Expr}{te:TE}{lo hi:Option Expr}{tl th:TO}{pos p2:Pos}
theorem zNt:PO X none zNs:=by
 intro pins s σ H Q I h;rw[evalPart_none];exact WK ⟨none,H,I,.none,h⟩
theorem zA7(h:PE X e te):PO X (some e) (zQs te):=by
 intro pins s σ H Q I hw;rw[evalPart_some];refine zv (h pins s σ H _ I hw) λu s1 ⟨x,H1,I1,r1,q1⟩=>?_
 obtain⟨i,rfl,q⟩:=q1;obtain⟨t,rfl⟩:=r1;exact⟨some i,H1,I1,.int i t,q⟩
def SlR (X:Cx)(r:V->Option Int->Option Int->Hp->VK->Prop):Prop:=
 ∀ (pins:Qp) (s:Shared) (σ:St) (H:Hp) (x:V) (v vl vu:Value) (lo hi:Option Int) (sl:Addr) (Q:VK),zK X pins σ H s->zr x v->s.heap.IsSliceOf sl vl vu .none->IsPart vl lo->IsPart vu hi->r x lo hi H Q->
  ∃ T id,typeLookup (.type T) "__getitem__" = pure (some (.builtin id))/\s.TypeIs v T/\wpAny (model X.prog X.w) X.A (getItem v (.ref sl)) (EP X pins σ Q) X.xe s
def tSl (r:V->Option Int->Option Int->Hp->VK->Prop)(te:TE)(tl th:TO):TE:=λσ H Q=>te σ H λx H1=>tl σ H1 λl H2=>th σ H2 λu H3=>r x l u H3 Q
theorem zDT{r:V->Option Int->Option Int->Hp->VK->Prop}(hr:SlR X r)(he:PE X e te)(hl:PO X lo tl)(hu:PO X hi th):PE X (.Subscript e (.Slice lo hi none p2) pos) (tSl r te tl th):=by
 intro pins s σ H Q I h;refine Subscript_ (zv (he pins s σ H _ I h) λv s1 ⟨x,H1,I1,r1,q1⟩=>?_);refine wpAny_Slice (zv (hl pins s1 σ H1 _ I1 q1) λvl s2 ⟨l,H2,I2,pl,q2⟩=>zv (hu pins s2 σ H2 _ I2 q2) λvu s3 ⟨u,H3,I3,pu,q3⟩=>?_);rw[evalPart_none];refine WK ?_;have I4:zK X pins σ H3 {s3 with heap:=s3.heap.push {cls:=.type "slice",data:=.fields #[vl,vu,.none]}}:=I3.kept (t':=s3.toks) λb ob q=>Wf _ q
 obtain⟨T,id,hT,ht,hg⟩:=hr pins {s3 with heap:=s3.heap.push {cls:=.type "slice",data:=.fields #[vl,vu,.none]}} σ H3 x v vl vu l u s3.heap.objs.size Q I4 r1 (Heap.IsSliceOf.new ..) pl pu q3;show wpAny (model X.prog X.w) X.A (subscriptTail e (.Slice lo hi none p2) v (.ref s3.heap.objs.size)) (EP X pins σ Q) X.xe {s3 with heap:=s3.heap.push {cls:=.type "slice",data:=.fields #[vl,vu,.none]}};exact tail_any (ops:=[.ref s3.heap.objs.size,v]) ht hT hg (by with_unfolding_all rfl)
def zCE (xs:List V)(lo hi:Option Int):List V:=(xs.drop (HT.sIx xs.length 0 lo)).take (HT.sIx xs.length xs.length hi-HT.sIx xs.length 0 lo)
theorem zIf(xs:List V)(lo hi:Option Int):(zCE xs lo hi).length<=xs.length:=by
 unfold zCE;rw[Wy,VS];omega
end
def ixN (n:Nat)(i:Int):Option Nat:=if 0<=i then (if i<n then some i.toNat else none) else if -(n:Int)<=i then some (i+n).toNat else none
def atI {α:Type}(xs:List α)(i:Int):Option α:=(ixN xs.length i).bind λj=>xs[j]?
theorem zIz{n:Nat}{i:Int}{j:Nat}(h:ixN n i=some j):seqIndex? i n=some j/\j<n/\-(n:Int)<=i/\i<n:=by
 unfold ixN at h;by_cases h0:0<=i
 .rw[Wb h0] at h;by_cases h1:i<n
  .rw[Wb h1] at h;have e:i.toNat=j:=WN h;exact⟨by rw[seqIndex_of h0 h1,e],by omega,by omega,h1⟩
  .rw[Wa h1] at h;cases h
 .rw[Wa h0] at h;by_cases h1 : -(n:Int)<=i
  .rw[Wb h1] at h;have e:(i+n).toNat=j:=WN h;exact⟨by rw[seqIndex_neg (by omega) h1,e],by omega,h1,by omega⟩
  .rw[Wa h1] at h;cases h
theorem zI0{α:Type}{xs:List α}{i:Int}{v:α}(h:atI xs i=some v):∃ j,seqIndex? i xs.length=some j/\xs[j]?=some v/\j<xs.length/\-(xs.length:Int)<=i/\i<xs.length:=by
 unfold atI at h;cases e:ixN xs.length i with
|none=>rw[e] at h;cases h
|some j=>
  rw[e] at h;obtain⟨h1,h2,h3,h4⟩:=zIz e;exact⟨j,h1,h,h2,h3,h4⟩
theorem zNu{α:Type}{xs:List α}{j:Nat}{v:α}(h:xs[j]?=some v):atI xs (j:Int)=some v:=by
 have hj:j<xs.length:=(yQ h).1
 have e:ixN xs.length (j:Int)=some j:=by
  unfold ixN;rw[Wb (by omega),Wb (by omega)];simp
 unfold atI;rw[e];exact h
def zNv (b:Expr):Prop:=∀ o i,subscripted b false o i=operate [o,i] (getItem o i)
def IxR (X:Cx)(r:R2):Prop:=
 ∀ (value slice:Expr) (pins:Qp) (s:Shared) (σ:St) (H:Hp) (x y:V) (v u:Value) (Q:VK),zK X pins σ H s->zr x v->zr y u->r x y H Q->
  subscripted slice false v u=operate [v,u] (getItem v u)->wpAny (model X.prog X.w) X.A (subscriptTail value slice v u) (EP X pins σ Q) X.xe s
def MtR (X:Cx)(id:String)(r:V->List V->Hp->VK->Prop):Prop:=
 ∀ (pins:Qp) (s:Shared) (σ:St) (H:Hp) (x:V) (xs:List V) (v:Value) (us:List Value) (Q:VK),zK X pins σ H s->zr x v->zd xs us->r x xs H Q->
  wpAny (model X.prog X.w) X.A (call (.builtin id) (v::us)) (EP X pins σ Q) X.xe s
section
variable {X:Cx}{a b:Expr}{ta tb:TE}{pos:Pos}
theorem zf{r:R2}(hr:IxR X r)(ha:PE X a ta)(hb:PE X b tb)(hs:zNv b):PE X (.Subscript a b pos) (tOp r ta tb):=by
 intro pins s σ H Q I h;exact Subscript_ (zMM ha hb I h λv u s2 x y H2 I2 rx ry q=>hr a b pins s2 σ H2 x y v u Q I2 rx ry q (hs _ _))
def zPW (K:Qf):R2:=λx y H Q=>∃ p xs i v,x=.ref p/\y=.int i/\zM K H p xs/\atI xs i=some v/\Q v H
def zRc (K:Qf):R2:=λx y H Q=>∃ p xs i v,x=.ref p/\y=.int i/\yH K H p xs/\atI xs i=some v/\Q v H
theorem za:IxR X (zPW X.K):=by
 intro value slice pins s σ H x y v u Q I rx ry h hs;obtain⟨p,xs,i,z,rfl,rfl,hq,he,q⟩:=h;cases rx;obtain⟨t,rfl⟩:=ry;obtain⟨its,r,pl,hz⟩:=I.list hq;obtain⟨j,h1,h2,h3,h4,h5⟩:=zI0 he;obtain⟨w,ew,rw'⟩:=r.get h2;have hl:=r.length;have hn:=zFV;have fin:EP X pins σ Q w s:=⟨z,H,I,rw',q⟩
 by_cases h0:0<=i
 .have hj:i.toNat=j:=by
   rw[seqIndex_of h0 h5] at h1;exact WN h1
  exact item_listR pl.isList h0 (by omega) (by rw[hj];simpa using ew) fin hs
 .have hj:(i+(its.toArray.size:Int)).toNat=j:=by
   rw[seqIndex_neg (by omega) h4] at h1;rw[WA,<-hl];exact WN h1
  exact subscriptTail_builtinR (x:=w) pl.isList.typeIs slot_list_getitem.lookup
   (wpAny_getItem_list_neg (Q:=λr s'=>r=w/\EP X pins σ Q r s') pl.isList (by omega) (by rw[WA] <;> omega) (by omega) (by rw[hj];simpa using ew) ⟨rfl,fin⟩) hs
theorem zAq:IxR X (zRc X.K):=by
 intro value slice pins s σ H x y v u Q I rx ry h hs;obtain⟨p,xs,i,z,rfl,rfl,hq,he,q⟩:=h;cases rx;obtain⟨t,rfl⟩:=ry;obtain⟨its,r,pl,hz⟩:=I.tuple hq;obtain⟨j,h1,h2,h3,h4,h5⟩:=zI0 he;obtain⟨w,ew,rw'⟩:=r.get h2;have hl:=r.length;have hn:=zFV;have fin:EP X pins σ Q w s:=⟨z,H,I,rw',q⟩
 exact subscriptTail_builtinR (x:=w) pl.typeIs slot_tuple_getitem.lookup
  (getItem_tuple (j:=j) (Q:=λr s'=>r=w/\EP X pins σ Q r s') pl (by omega) (by omega) (by rw[WA,<-hl];exact h1) (by simpa using ew) ⟨rfl,fin⟩) hs
theorem zJy(its:List Value)(n j:Nat)(u:Value):Obj.mapSeq (·.setIfInBounds j u) {cls:=.type "list",data:=.seq its.toArray n}={cls:=.type "list",data:=.seq (its.set j u).toArray n}:=by
 simp[Obj.mapSeq]
theorem zK.lst{pins:Qp}{σ:St}{H:Hp}{s:Shared}{p:Addr}{xs:List V}(I:zK X pins σ H s)(h:H p=some (.lst xs)) :
  ∃ (its:List Value) (n:Nat),zd xs its/\s.heap.get? p=some {cls:=.type "list",data:=.seq its.toArray n}/\xs.length<=sizeLine:=by
 obtain⟨z,its,n,r,e⟩:=I.hok p _ h;exact⟨its,n,r,e,z⟩
theorem zK.lstUpd{pins:Qp}{σ:St}{H:Hp}{s:Shared}{p:Addr}{xs ys:List V}{its its':List Value}{n n':Nat}{f:Obj->Obj}(I:zK X pins σ H s)(h:H p=some (.lst xs))
  (ho:s.heap.get? p=some {cls:=.type "list",data:=.seq its.toArray n})(hf:f {cls:=.type "list",data:=.seq its.toArray n}={cls:=.type "list",data:=.seq its'.toArray n'})(r:zd ys its')(hz:ys.length<=sizeLine)(t:Nat) :
  zK X pins σ (upd H p (.lst ys)) {s with heap:=s.heap.update p f,toks:=t}:=by
 have e:(s.heap.update p f).get? p=some {cls:=.type "list",data:=.seq its'.toArray n'}:=by
  rw[UA f ho (by rw[hf] <;> rfl),hf]
 refine I.write (x:=p) (e:=p) (by rw[h];trivial) (.inl rfl) (λb u hb q=>(Uw _ _ (Ne.symm hb)).trans q) ⟨_,e⟩ ?_;exact⟨hz,its',n',r,e⟩
def zQt:V->V->V->Hp->(Hp->Prop)->Prop:=λo i v H Q=>∃ p xs k j,o=.ref p/\i=.int k/\H p=some (.lst xs)/\ixN xs.length k=some j/\Q (upd H p (.lst (xs.set j v)))
theorem zHX:zPP X zQt:=by
 intro pins s σ H o i v ov iv u Q I ro ri rv h;obtain⟨p,xs,k,j,rfl,rfl,hp,hj,q⟩:=h;cases ro;obtain⟨t,rfl⟩:=ri;obtain⟨its,n,r,ho,hz⟩:=I.lst hp;obtain⟨h1,h2,h3,h4⟩:=zIz hj;have hl:=r.length;have hn:=zFV
 have I':zK X pins σ (upd H p (.lst (xs.set j v))) {s with heap:=s.heap.update p (Obj.mapSeq (·.setIfInBounds j u))}:=
  I.lstUpd hp ho (zJy its n j u) (r.set rv j) (by rw[VO];exact hz) s.toks
 by_cases h0:0<=k
 .have hk:k.toNat=j:=by
   rw[seqIndex_of h0 h4] at h1;exact WN h1
  exact PySem.W.ki_setAt ho h0 (by omega) (by rw[WA,<-hl];exact h4) (by rw[hk];exact⟨_,I',q⟩)
 .have hk:(k+(its.toArray.size:Int)).toNat=j:=by
   rw[seqIndex_neg (by omega) h3] at h1;rw[WA,<-hl];exact WN h1
  exact PySem.W.ki_setBack ho (by omega) (by rw[WA,<-hl];exact h3) (by omega) (by rw[hk];exact⟨_,I',q⟩)
theorem zHY(lo hi:Option Int)(n:Nat):(sliceBounds lo hi none n).1=((HT.sIx n 0 lo:Nat):Int)/\(sliceBounds lo hi none n).2.1=((HT.sIx n n hi:Nat):Int)/\(sliceBounds lo hi none n).2.2=1:=by
 refine⟨?_,?_,rfl⟩
 .cases lo with
 |none=>simp[sliceBounds,HT.sIx]
 |some i=>
   simp only[sliceBounds,HT.sIx,Option.getD_none,show (1:Int)>0 by decide,UH];by_cases h:i<0
   .simp only[h,UH] <;> omega
   .simp only[h,UD] <;> omega
 .cases hi with
 |none=>simp[sliceBounds,HT.sIx]
 |some i=>
   simp only[sliceBounds,HT.sIx,Option.getD_none,show (1:Int)>0 by decide,UH];by_cases h:i<0
   .simp only[h,UH] <;> omega
   .simp only[h,UD] <;> omega
theorem zHB(its:List Value)(lo hi:Option Int):slicePick its.toArray lo hi none=((its.drop (HT.sIx its.length 0 lo)).take (HT.sIx its.length its.length hi-HT.sIx its.length 0 lo)).toArray:=by
 obtain⟨h1,h2,h3⟩:=zHY lo hi its.toArray.size;unfold slicePick;rw[h1,h2,h3];simp only[sliceRange_one,pick_run,WA] <;> rfl
def zRd (K:Qf):V->Option Int->Option Int->Hp->VK->Prop:=λx lo hi H Q=>∃ a xs,x=.ref a/\zM K H a xs/\∀ p,H p=none->Q (.ref p) (upd H p (.lst (zCE xs lo hi)))
theorem zEY:SlR X (zRd X.K):=by
 intro pins s σ H x v vl vu lo hi sl Q I rx hs pl pu h;obtain⟨a,xs,rfl,hx,q⟩:=h;cases rx;obtain⟨its,r,ht,hz⟩:=I.list hx;have hlen:=r.length;refine⟨"list",_,slot_list_getitem.lookup,ht.isList.typeIs,?_⟩;refine wpAny_getItem_list_slice ht.isList hs pl pu .none (by simp) ?_ (by rw[WA] <;> omega);rw[zHB,<-hlen];refine⟨.ref s.heap.objs.size,_,I.laid (t':=s.toks) (o:=.lst (zCE xs lo hi)) (λb ob q=>Wf _ q) (Wd _) ?_,rfl,q _ (I.hok.fresh (Wd _))⟩;exact⟨WT (zIf xs lo hi) hz,_,0,(r.drop (HT.sIx xs.length 0 lo)).take (HT.sIx xs.length xs.length hi-HT.sIx xs.length 0 lo),WG _ rfl⟩
def zBT:V->Bool
|.non=>true
|.bl _=>true
|.int _=>true
|.str _=>true
|_=>false
def eqV:V->V->Bool
|.non,.non=>true
|.bl a,.bl b=>a==b
|.bl a,.int b=>(if a then 1 else 0)==b
|.int a,.bl b=>a==(if b then 1 else 0)
|.int a,.int b=>a==b
|.str a,.str b=>a==b
|_,_=>false
theorem zPX{A:Around}{s:Shared}{y x:V}{u v:Value}(ry:zr y u)(rx:zr x v)(fy:zBT y=true)(fx:zBT x=true):SeqAt.EqAt A s u v (eqV y x):=by
 cases y with
|non=>
  cases ry;cases x with
 |non=>cases rx;exact SeqAt.EqAt.same _
 |bl b=>cases rx;exact SeqAt.EqAt.none_bool b
 |int b=>obtain⟨t,rfl⟩:=rx;exact SeqAt.EqAt.none_int b t
 |str b=>obtain⟨t,rfl⟩:=rx;exact SeqAt.EqAt.none_str b t
 |_=>exact absurd (show false=true from fx) Wv
|bl a=>
  cases ry;cases x with
 |non=>cases rx;exact SeqAt.EqAt.bool_none a
 |bl b=>cases rx;exact SeqAt.EqAt.bool_bool a b
 |int b=>obtain⟨t,rfl⟩:=rx;exact SeqAt.EqAt.bool_int a b t
 |str b=>obtain⟨t,rfl⟩:=rx;exact SeqAt.EqAt.bool_str a b t
 |_=>exact absurd (show false=true from fx) Wv
|int a=>
  obtain⟨t',rfl⟩:=ry;cases x with
 |non=>cases rx;exact SeqAt.EqAt.int_none a t'
 |bl b=>cases rx;exact SeqAt.EqAt.int_bool a t' b
 |int b=>obtain⟨t,rfl⟩:=rx;exact SeqAt.EqAt.int_int a t' b t
 |str b=>obtain⟨t,rfl⟩:=rx;exact SeqAt.EqAt.int_str a t' b t
 |_=>exact absurd (show false=true from fx) Wv
|str a=>
  obtain⟨t',rfl⟩:=ry;cases x with
 |non=>cases rx;exact SeqAt.EqAt.str_none a t'
 |bl b=>cases rx;exact SeqAt.EqAt.str_bool a t' b
 |int b=>obtain⟨t,rfl⟩:=rx;exact SeqAt.EqAt.str_int a t' b t
 |str b=>obtain⟨t,rfl⟩:=rx;exact SeqAt.EqAt.str_str a t' b t
 |_=>exact absurd (show false=true from fx) Wv
|_=>exact absurd (show false=true from fy) Wv
def eqU (x:V)(u:Value):Bool:=match u with
|.none=>eqV .non x
|.bool b=>eqV (.bl b) x
|.int i _=>eqV (.int i) x
|.str z _=>eqV (.str z) x
|_=>false
theorem zLA{x y:V}{u:Value}(r:zr y u)(f:zBT y=true):eqU x u=eqV y x:=by
 cases y with
|non=>cases r;rfl
|bl b=>cases r;rfl
|int i=>obtain⟨t,rfl⟩:=r;rfl
|str z=>obtain⟨t,rfl⟩:=r;rfl
|_=>exact absurd (show false=true from f) Wv
theorem zC8{x:V}:∀ {xs:List V}{us:List Value},zd xs us->xs.all zBT=true->us.any (eqU x)=xs.any λy=>eqV y x
|_,_,.nil,_=>rfl
|y::xs,u::us,.cons r t,f=>by
  rw[Xp,yZ] at f;rw[Xf,Xf,zLA r f.1,zC8 t f.2]
theorem zCF{A:Around}{s:Shared}{x:V}{v:Value}(rx:zr x v)(fx:zBT x=true):∀ {xs:List V}{us:List Value},zd xs us->xs.all zBT=true->∀ u∈us,SeqAt.EqAt A s u v (eqU x u)
|_,_,.nil,_=>λu hu=>by cases hu
|y::xs,u::us,.cons r t,f=>λu' hu=>by
  rw[Xp,yZ] at f;rcases Wc.mp hu with rfl|hu
  .rw[zLA r f.1];exact zPX r rx f.1 fx
  .exact zCF rx fx t f.2 u' hu
def inV (x:V)(xs:List V):Bool:=xs.any λy=>eqV y x
def rIn (K:Qf)(neg:Bool):R2:=λx y H Q=>∃ p xs,y=.ref p/\(zM K H p xs\/yH K H p xs)/\zBT x=true/\xs.all zBT=true/\Q (.bl (if neg then !inV x xs else inV x xs)) H
theorem zLB:Y7 X (compareOp .In) (rIn X.K false):=by
 intro pins s σ H x y v u Q I rx ry h;obtain⟨p,xs,rfl,hq,fx,fs,q⟩:=h;cases ry;rcases hq with hq|hq
 .obtain⟨its,r,pl,hz⟩:=I.list hq;refine SeqAt.in_listAt (eqU x) pl.isList (λw hw=>zCF rx fx r fs w (by simpa using hw)) ⟨.bl _,H,I,rfl,?_⟩;rw[show its.toArray.any (eqU x)=its.any (eqU x) by simp,zC8 r fs];exact q
 .obtain⟨its,r,pl,hz⟩:=I.tuple hq;refine SeqAt.in_tupleAt (eqU x) pl (λw hw=>zCF rx fx r fs w (by simpa using hw)) ⟨.bl _,H,I,rfl,?_⟩;rw[show its.toArray.any (eqU x)=its.any (eqU x) by simp,zC8 r fs];exact q
theorem zHZ:Y7 X (compareOp .NotIn) (rIn X.K true):=by
 intro pins s σ H x y v u Q I rx ry h;obtain⟨p,xs,rfl,hq,fx,fs,q⟩:=h;cases ry;rcases hq with hq|hq
 .obtain⟨its,r,pl,hz⟩:=I.list hq;refine SeqAt.notIn_listAt (eqU x) pl.isList (λw hw=>zCF rx fx r fs w (by simpa using hw)) ⟨.bl _,H,I,rfl,?_⟩;rw[show its.toArray.any (eqU x)=its.any (eqU x) by simp,zC8 r fs];exact q
 .obtain⟨its,r,pl,hz⟩:=I.tuple hq;refine SeqAt.notIn_tupleAt (eqU x) pl (λw hw=>zCF rx fx r fs w (by simpa using hw)) ⟨.bl _,H,I,rfl,?_⟩;rw[show its.toArray.any (eqU x)=its.any (eqU x) by simp,zC8 r fs];exact q
theorem zHa:zAp X (.builtin "len") (λxs H Q=>∃ p ys,xs=[.ref p]/\(zM X.K H p ys\/yH X.K H p ys)/\Q (.int ys.length) H):=by
 intro pins s σ H xs us Q I r h;obtain⟨p,ys,rfl,hq,q⟩:=h;obtain⟨u,rfl,rx⟩:=zHH r;cases rx;have hn:=zFV;rcases hq with hq|hq
 .obtain⟨its,r',pl,hz⟩:=I.list hq;have hlen:=r'.length;exact Calls.call_len_list pl.isList (by simp only[WA] <;> omega) ⟨.int ys.length,H,I.tok _,⟨s.toks+1,by rw[WA,hlen]⟩,q⟩
 .obtain⟨its,r',pl,hz⟩:=I.tuple hq;have hlen:=r'.length;exact len_tuple pl (by simp only[WA] <;> omega) ⟨.int ys.length,H,I.tok _,⟨s.toks+1,by rw[WA,hlen]⟩,q⟩
theorem zHC:zAp X (.type "tuple") (λxs H Q=>∃ p ys,xs=[.ref p]/\((zM X.K H p ys/\∀ l,H l=none->Q (.ref l) (upd H l (.tup ys)))\/(yH X.K H p ys/\Q (.ref p) H))):=by
 intro pins s σ H xs us Q I r h;obtain⟨p,ys,rfl,h⟩:=h;obtain⟨u,rfl,rx⟩:=zHH r;cases rx;rcases h with ⟨hq,q⟩|⟨hq,q⟩
 .obtain⟨its,r',pl,hz⟩:=I.list hq;have hlen:=r'.length;refine call_tuple_list pl.isList (λh' kp=>?_) (by simp only[WA] <;> omega);have I1:zK X pins σ H {s with heap:=h'}:=I.kept (t':=s.toks) kp
  have I2:zK X pins σ (upd H h'.objs.size (.tup ys)) {s with heap:=h'.push {cls:=.type "tuple",data:=.seq its.toArray}}:=
   I1.laid (t':=s.toks) (λb o e=>Wf _ e) (Wd _) (show yj X.prog X.w _ _ _ (.tup ys) from ⟨hz,its,r',IsTup.new _ _⟩)
  exact⟨.ref h'.objs.size,_,I2,rfl,q _ (I1.hok.fresh (Wd _))⟩
 .obtain⟨its,r',pl,hz⟩:=I.tuple hq;exact call_tuple_same pl ⟨.ref p,H,I,rfl,q⟩
def tyV (K:Qf)(T:String)(x:V)(H:Hp):Prop:=match x with
|.str _=>T = "str"
|.int _=>T = "int"
|.ref p=>(T = "list"/\∃ xs,zM K H p xs)\/(T = "tuple"/\∃ o,K.lookup p=some o/\o.cls=.type "tuple"/\o.dict=none)\/
   (T = "dict"/\((∃ kvs,H p=some (.dK kvs))\/∃ kvs,H p=some (.dT kvs)))\/(T = "set"/\∃ S n,H p=some (.set S n))
|_=>False
theorem zLC{pins:Qp}{σ:St}{H:Hp}{s:Shared}{T:String}{x:V}{v:Value}(I:zK X pins σ H s)(r:zr x v)(ty:tyV X.K T x H) :
  s.TypeIs v T/\∀ a,v=.ref a->∃ ob,s.heap.get? a=some ob/\ob.dict=none:=by
 cases x with
|str z=>
  obtain⟨t,rfl⟩:=r;cases (show T = "str" from ty);exact⟨typeIs_str s z t,λ_ e=>nomatch e⟩
|int i=>
  obtain⟨t,rfl⟩:=r;cases (show T = "int" from ty);exact⟨typeIs_int s i t,λ_ e=>nomatch e⟩
|ref p=>
  cases r;rcases ty with ⟨rfl,xs,hq⟩|⟨rfl,o,hk,hc,hd⟩|⟨rfl,hk⟩|⟨rfl,S,n,hk⟩
  .obtain⟨its,_,pl,_⟩:=I.list hq;refine⟨pl.isList.typeIs,λa e=>?_⟩;cases e;obtain⟨o,n,e,c,hd,_⟩:=pl;exact⟨o,e,hd⟩
  .refine⟨⟨o,I.kIn p o hk,hc⟩,λa e=>?_⟩;cases e;exact⟨o,I.kIn _ o hk,hd⟩
  .have z:∃ o,s.heap.get? p=some o/\o.ExactDict:=by
    rcases hk with ⟨kvs,hk⟩|⟨kvs,hk⟩
    .obtain⟨_,_,_,_,o,_,_,e,ex,_⟩:=I.hok p _ hk;exact⟨o,e,ex⟩
    .obtain⟨_,_,_,_,o,_,_,e,ex,_⟩:=I.hok p _ hk;exact⟨o,e,ex⟩
   obtain⟨o,e,ex⟩:=z;refine⟨⟨o,e,ex.1⟩,λa e2=>?_⟩;cases e2;exact⟨o,e,ex.2.1⟩
  .obtain⟨o,_,_,_,e,ex,_⟩:=I.hok p _ hk;refine⟨⟨o,e,ex.1⟩,λa e2=>?_⟩;cases e2;exact⟨o,e,ex.2.1⟩
|_=>exact False.elim ty
def zRe (K:Qf)(T:String)(r:V->List V->Hp->VK->Prop)(to:TE):TE:=λσ H Q=>to σ H λx H1=>tyV K T x H1/\r x [] H1 Q
def tBM (K:Qf)(T:String)(r:V->List V->Hp->VK->Prop)(to:TE)(t:TA):TE:=λσ H Q=>to σ H λx H1=>tyV K T x H1/\t σ H1 λxs H2=>r x xs H2 Q
variable {o e:Expr}{es:List Expr}{to:TE}{t:TA}{name:Str}{apos cpos:Pos}{T id:String}{r:V->List V->Hp->VK->Prop}
theorem zPY(pa:PlainAttrs T)(slot:Slot T name id)(hty:typeOf (.builtin id)=pure (.type "method_descriptor"))(hm:MtR X id r)(ho:PE X o to)
  (hbase:attributeBase o name X.env (eval o X.env)=eval o X.env:=by rfl)(hline:(apos.endLine==cpos.line)=true:=by rfl):PE X (.Call (.Attribute o name apos) [] [] cpos) (zRe X.K T r to):=by
 intro pins s σ H Q I h;refine wpAny_Call_method0_late hbase hline (zv (ho pins s σ H _ I h) λv s1 ⟨x,H1,I1,r1,ty,q1⟩=>?_);obtain⟨h1,h2⟩:=zLC I1 r1 ty;exact⟨T,id,pa,slot,hty,h1,h2,Calls.callWith_builtin rfl (PySem.evalArgs_none (hm pins s1 σ H1 x [] v [] Q I1 r1 .nil q1))⟩
theorem zAG(pa:PlainAttrs T)(slot:Slot T name id)(hty:typeOf (.builtin id)=pure (.type "method_descriptor"))(hm:MtR X id r)(ho:PE X o to)(ha:PA X (e::es) t)
  (hbase:attributeBase o name X.env (eval o X.env)=eval o X.env:=by rfl)
  (hfew:((backTo cpos (starEach (e::es) X.env)).all (λx=>!x.1)&&(backToKw cpos (keywordEach [] X.env)).all (λx=>x.1.isSome)
   && decide ((e::es).length+([]:List Keyword).length+(if ([]:List Keyword).isEmpty then 0 else 1)<30))=true:=by rfl)
  (hline:(apos.endLine==cpos.line)=true:=by rfl)(hs:starEach (e::es) X.env=(false,eval e X.env)::starEach es X.env:=by rfl)(hplain:(backTo cpos (starEach es X.env)).any (·.1)=false:=by rfl) :
  PE X (.Call (.Attribute o name apos) (e::es) [] cpos) (tBM X.K T r to t):=by
 intro pins s σ H Q I h;refine wpAny_Call_method_late hbase hfew hline rfl (zv (ho pins s σ H _ I h) λv s1 ⟨x,H1,I1,r1,ty,q1⟩=>?_);obtain⟨h1,h2⟩:=zLC I1 r1 ty;refine⟨T,id,pa,slot,hty,h1,h2,?_⟩;have hA:=ha cpos pins s1 σ H1 _ I1 q1;rw[hs] at hA ⊢;refine Calls.callWith_builtin (by show (false||(backTo cpos (starEach es X.env)).any (·.1))=false;rw[hplain] <;> rfl) (Calls.evalArgs_plain ?_);exact zv hA λus s2 ⟨vs,H2,I2,r2,q2⟩=>hm pins s2 σ H2 x vs v us Q I2 r1 r2 q2
end
def MtM (X:Cx)(id:String)(r:V->List V->Hp->VK->Prop):Prop:=
 ∀ (pins:Qp) (s:Shared) (σ:St) (H:Hp) (x:V) (xs:List V) (v:Value) (us:List Value) (Q:VK),zK X pins σ H s->zr x v->zd xs us->r x xs H Q->
  wpAny (model X.prog X.w) X.A (call (.builtin id) (v::us)) (EP X pins σ Q) X.xe s
theorem zd.one:∀ {x:V}{us:List Value},zd [x] us->∃ u,us=[u]/\zr x u
|_,_,.cons r .nil=>⟨_,rfl,r⟩
theorem zd.zero:∀ {us:List Value},zd [] us->us=[]
|_,.nil=>rfl
theorem zd.dropLast{xs:List V}{us:List Value}(h:zd xs us):zd xs.dropLast us.dropLast:=by
 induction h with
|nil=>exact .nil
|cons r t ih=>
  cases t with
 |nil=>exact .nil
 |cons q t'=>exact .cons r ih
theorem zJz{α:Type}(l:List α):l.eraseIdx (l.length-1)=l.dropLast:=by
 induction l with
|nil=>rfl
|cons a r ih=>
  cases r with
 |nil=>rfl
 |cons b r=>
   have e:(a::b::r).length-1=((b::r).length-1)+1:=by
    have h1:(a::b::r).length=r.length+2:=rfl;have h2:(b::r).length=r.length+1:=rfl;omega
   rw[e,List.eraseIdx_cons_succ,ih]
   all_goals rfl
section
variable {X:Cx}{pins:Qp}{σ:St}{H:Hp}{s:Shared}{l b:Addr}{xs ys zs:List V}
theorem zK.lset{its its':List Value}{n:Nat}{f:Array Value->Array Value}{t':Nat}(I:zK X pins σ H s)(hH:H l=some (.lst xs))
  (e:s.heap.get? l=some {cls:=.type "list",data:=.seq its.toArray n})(hf:f its.toArray=its'.toArray)(hv:zd ys its')(hz:ys.length<=sizeLine) :
  zK X pins σ (upd H l (.lst ys)) {s with heap:=s.heap.update l (Obj.mapSeq f),toks:=t'}:=by
 have q:=PySem.IsL.update e f;rw[hf] at q;refine I.write (x:=l) (e:=l) (by rw[hH];exact trivial) (.inl rfl) (λb' u hb hu=>(Uw s.heap (Obj.mapSeq f) (Ne.symm hb)).trans hu) ⟨_,q⟩ ?_;exact⟨hz,its',_,hv,q⟩
theorem zK.lnew{its:List Value}{t':Nat}(I:zK X pins σ H s)(hv:zd ys its)(hz:ys.length<=sizeLine) :
  zK X pins σ (upd H s.heap.objs.size (.lst ys)) {s with heap:=s.heap.push {cls:=.type "list",data:=.seq its.toArray},toks:=t'}:=
 I.laid (λ_ _ q=>Wf _ q) (Wd _) ⟨hz,its,0,hv,WG _ rfl⟩
theorem zK.fresh(I:zK X pins σ H s):H s.heap.objs.size=none:=I.hok.fresh (Wd _)
theorem zK.lstM(I:zK X pins σ H s)(hH:H l=some (.lst xs)):xs.length<=sizeLine/\∃ (its:List Value) (n:Nat),zd xs its/\xs.length=its.length/\s.heap.get? l=some {cls:=.type "list",data:=.seq its.toArray n}:=by
 obtain⟨z,its,n,r,e⟩:=I.hok l _ hH;exact⟨z,its,n,r,r.length,e⟩
end
section
variable {X:Cx}
def zNw:V->List V->Hp->VK->Prop:=λx vs H Q=>∃ l xs y,x=.ref l/\vs=[y]/\H l=some (.lst xs)/\xs.length<sizeLine/\Q .non (upd H l (.lst (xs++[y])))
theorem ZO:MtM X "list.append" zNw:=by
 intro pins s σ H x vs v us Q I rx rv h;obtain⟨l,xs,y,rfl,rfl,hH,hz,q⟩:=h;cases rx;obtain⟨u,rfl,ru⟩:=rv.one;obtain⟨z,its,n,r,hl,e⟩:=I.lstM hH;refine call_meets F.slot_list_append ⟨_,e,rfl⟩ F.entry_list_append (F.args_list_append_2 _ _) (PySem.list_append l its.toArray n u (by rw[WA];omega)) ⟨e,?_⟩;refine⟨.non,_,I.lset (its':=its++[u]) hH e (by simp) (r.append (.cons ru .nil)) ?_,rfl,q⟩;rw[Wr,VV];omega
def zRf:V->List V->Hp->VK->Prop:=λx vs H Q=>∃ l xs y,x=.ref l/\vs=[]/\H l=some (.lst xs)/\xs[xs.length-1]?=some y/\Q y (upd H l (.lst xs.dropLast))
theorem zPZ:MtM X "list.pop" zRf:=by
 intro pins s σ H x vs v us Q I rx rv h;obtain⟨l,xs,y,rfl,rfl,hH,hy,q⟩:=h;cases rx;have hus:=rv.zero;subst hus;obtain⟨z,its,n,r,hl,e⟩:=I.lstM hH;obtain⟨u,hu,ru⟩:=r.get hy
 have hy':its.toArray[its.toArray.size-1]?=some u:=by
  show its.toArray[its.length-1]?=some u;rw[<-Array.getElem?_toList,<-hl];exact hu
 refine call_meets F.slot_list_pop ⟨_,e,rfl⟩ F.entry_list_pop (F.args_list_pop_1 _) (MeetsSeq.list_pop_last l its.toArray n u hy' (by rw[WA];omega)) ⟨e,?_⟩;refine⟨y,_,I.lset (its':=its.dropLast) hH e ?_ r.dropLast ?_,ru,q⟩
 .show its.toArray.eraseIdxIfInBounds (its.toArray.size-1)=its.dropLast.toArray;rw[WA,List.eraseIdxIfInBounds_toArray,zJz]
 .rw[List.length_dropLast];omega
def zRg:R2:=λx y H Q=>∃ l b xs zs,x=.ref l/\y=.ref b/\H l=some (.lst xs)/\H b=some (.lst zs)/\xs.length+zs.length<=sizeLine/\∀ p,H p=none->Q (.ref p) (upd H p (.lst (xs++zs)))
theorem zPa:Y7 X (binaryOp .Add) zRg:=by
 intro pins s σ H x y v u Q I rx ry h;obtain⟨l,b,xs,zs,rfl,rfl,hH,hB,hz,q⟩:=h;cases rx;cases ry;obtain⟨z,its,n,r,hl,e⟩:=I.lstM hH;obtain⟨z2,its2,n2,r2,hl2,e2⟩:=I.lstM hB;refine PySem.P.add_list e e2 ?_ (by rw[WA,WA];omega);have ea:its.toArray++its2.toArray=(its++its2).toArray:=by simp
 rw[ea];exact⟨.ref _,_,I.lnew (t':=s.toks) (r.append r2) (by rw[Wr];omega),rfl,q _ I.fresh⟩
end
theorem zd.ints:∀ {ns:List Int}{us:List Value},zd (ns.map V.int) us->IntsAre us ns
|[],us,h=>by
  rw[V6] at h;cases h;exact IntsAre.nil
|n::ns,us,h=>by
  rw[Wj] at h;cases h with
 |cons r t=>
   obtain⟨k,rfl⟩:=r;exact IntsAre.cons n k (zd.ints t)
theorem zd.ref1{a:Addr}{us:List Value}(r:zd [V.ref a] us):us=[Value.ref a]:=by
 cases r with
|cons r t=>
  cases t;cases r;rfl
section
variable {prog:Program}{w:World}{A:Around}{E:Qs}{s:Shared}{l:Addr}{its:List Value}{ns:List Int}{Q:Qs}
theorem zNx(hh:A.handled=none)(hl:s.heap.IsList l its.toArray)(hi:IntsAre its ns)
  (h:∀ h' tk t',(∀ b o,s.heap.get? b=some o->h'.get? b=some o)->Q (.int ns.sum t') {s with heap:=h',toks:=tk}):wpAny (model prog w) A (call (.builtin "sum") [.ref l]) Q E s:=by
 obtain⟨xs,e⟩:=hi.allInts.items;have hn:numsOf (intItems xs).toList=ns:=by rw[<-e];exact hi.numsOf
 rw[nums_intItems] at hn;rw[e] at hl;refine PySem.sum_intListG hh hl λh' tk t' hk=>?_
 have:=h h' tk t' hk;rw[preSum_eq,Ws (by simp),hn];exact this
theorem zNy(hh:A.handled=none)(hl:s.heap.IsList l its.toArray)(hi:IntsAre its ns)(hne:0<ns.length)
  (h:∀ h' tk M t',(∀ b o,s.heap.get? b=some o->h'.get? b=some o)->M∈ns->(∀ a,a∈ns->a<=M)->Q (.int M t') {s with heap:=h',toks:=tk}):wpAny (model prog w) A (call (.builtin "max") [.ref l]) Q E s:=by
 obtain⟨xs,e⟩:=hi.allInts.items;have hn:numsOf (intItems xs).toList=ns:=by rw[<-e];exact hi.numsOf
 rw[nums_intItems] at hn;subst hn;rw[e] at hl;have hsz:0<xs.size:=by simpa using hne
 refine PySem.max_intList hh hl hsz λv h' tk hv hk=>?_
 obtain⟨t,rfl⟩:=intItems_at hv;obtain⟨h1,h2⟩:=argBest_gt (numAt xs) (xs.size-1);refine h h' tk _ t hk ?_ λa ha=>?_
 .rw[Vx];exact PySem.getD_mem (by rw[zc,V2];omega)
 .obtain⟨j,hj,rfl⟩:=mem_getD ha;rw[zc,V2] at hj;rw[<-Vx];exact h2 j (by omega)
theorem zNz(hh:A.handled=none)(hl:s.heap.IsList l its.toArray)(hi:IntsAre its ns)(hne:0<ns.length)
  (h:∀ h' tk M t',(∀ b o,s.heap.get? b=some o->h'.get? b=some o)->M∈ns->(∀ a,a∈ns->M<=a)->Q (.int M t') {s with heap:=h',toks:=tk}):wpAny (model prog w) A (call (.builtin "min") [.ref l]) Q E s:=by
 obtain⟨xs,e⟩:=hi.allInts.items;have hn:numsOf (intItems xs).toList=ns:=by rw[<-e];exact hi.numsOf
 rw[nums_intItems] at hn;subst hn;rw[e] at hl;have hsz:0<xs.size:=by simpa using hne
 refine PySem.min_intList hh hl hsz λv h' tk hv hk=>?_
 obtain⟨t,rfl⟩:=intItems_at hv;obtain⟨h1,h2⟩:=argBest_lt (numAt xs) (xs.size-1);refine h h' tk _ t hk ?_ λa ha=>?_
 .rw[Vx];exact PySem.getD_mem (by rw[zc,V2];omega)
 .obtain⟨j,hj,rfl⟩:=mem_getD ha;rw[zc,V2] at hj;rw[<-Vx];exact h2 j (by omega)
end
section
variable {X:Cx}
def zRh (K:Qf):List V->Hp->VK->Prop:=λvs H Q=>∃ (a:Addr) (ns:List Int),vs=[V.ref a]/\zM K H a (ns.map V.int)/\Q (.int ns.sum) H
def zRi (K:Qf):List V->Hp->VK->Prop:=λvs H Q=>∃ (a:Addr) (ns:List Int),vs=[V.ref a]/\zM K H a (ns.map V.int)/\0<ns.length/\∀ m,m∈ns->(∀ y,y∈ns->y<=m)->Q (.int m) H
def zRj (K:Qf):List V->Hp->VK->Prop:=λvs H Q=>∃ (a:Addr) (ns:List Int),vs=[V.ref a]/\zM K H a (ns.map V.int)/\0<ns.length/\∀ m,m∈ns->(∀ y,y∈ns->m<=y)->Q (.int m) H
theorem zLD(hc:X.calm=true):zAp X (.builtin "sum") (zRh X.K):=by
 intro pins s σ H vs us Q I r h;obtain⟨a,ns,rfl,hs,q⟩:=h;obtain⟨its,rv,hl,_⟩:=I.list hs;rw[zd.ref1 r];exact zNx (I.ok.hd hc) hl.isList rv.ints λh' tk t' hk=>⟨.int _,H,I.kept hk,⟨_,rfl⟩,q⟩
theorem zHb(hc:X.calm=true):zAp X (.builtin "max") (zRi X.K):=by
 intro pins s σ H vs us Q I r h;obtain⟨a,ns,rfl,hs,hne,q⟩:=h;obtain⟨its,rv,hl,_⟩:=I.list hs;rw[zd.ref1 r];exact zNy (I.ok.hd hc) hl.isList rv.ints hne λh' tk m t' hk h1 h2=>⟨.int _,H,I.kept hk,⟨_,rfl⟩,q m h1 h2⟩
theorem zLE(hc:X.calm=true):zAp X (.builtin "min") (zRj X.K):=by
 intro pins s σ H vs us Q I r h;obtain⟨a,ns,rfl,hs,hne,q⟩:=h;obtain⟨its,rv,hl,_⟩:=I.list hs;rw[zd.ref1 r];exact zNz (I.ok.hd hc) hl.isList rv.ints hne λh' tk m t' hk h1 h2=>⟨.int _,H,I.kept hk,⟨_,rfl⟩,q m h1 h2⟩
end
mutual
inductive Dp(K:Qf)(H:Hp):V->PyData->Prop
|non:Dp K H .non .none
|bl (b:Bool):Dp K H (.bl b) (.bool b)
|int (i:Int):Dp K H (.int i) (.int i)
|str (x:Str):Dp K H (.str x) (.str x)
|lst {a:Addr}{xs:List V}{ds:List PyData}:zM K H a xs->zB1 K H xs ds->Dp K H (.ref a) (.list ds)
|tup {a:Addr}{xs:List V}{ds:List PyData}:yH K H a xs->zB1 K H xs ds->Dp K H (.ref a) (.tuple ds)
inductive zB1(K:Qf)(H:Hp):List V->List PyData->Prop
|nil:zB1 K H [] []
|cons {v:V}{vs:List V}{d:PyData}{ds:List PyData}:Dp K H v d->zB1 K H vs ds->zB1 K H (v::vs) (d::ds)
end
section
variable {X:Cx}{pins:Qp}{σ:St}{H:Hp}{s:Shared}
mutual
theorem Dp.reads(I:zK X pins σ H s):∀ (d:PyData) (v:V) (u:Value),Dp X.K H v d->zr v u->∃ as,Reads s.heap u d as
|.none,_,_,h,r=>by
  cases h;cases r;exact⟨_,Reads.none⟩
|.bool b,_,_,h,r=>by
  cases h;cases r;exact⟨_,Reads.bool b⟩
|.int i,_,_,h,r=>by
  cases h;obtain⟨t,rfl⟩:=r;exact⟨_,Reads.int i t⟩
|.str x,_,_,h,r=>by
  cases h;obtain⟨t,rfl⟩:=r;exact⟨_,Reads.str x t⟩
|.list ds,_,_,h,r=>by
  cases h with
 |lst hs ha=>
   cases r;obtain⟨its,rv,⟨o,n,ho,hc,_,hd⟩,_⟩:=I.list hs;obtain⟨as,hr⟩:=Dp.readsAll I ds _ its ha rv;exact⟨_,Reads.list ho hc hd hr⟩
|.tuple ds,_,_,h,r=>by
  cases h with
 |tup hs ha=>
   cases r;obtain⟨its,rv,⟨o,ho,hc,n,hd⟩,_⟩:=I.tuple hs;obtain⟨as,hr⟩:=Dp.readsAll I ds _ its ha rv;exact⟨_,Reads.tuple ho hc hd hr⟩
|.dict _,_,_,h,_=>by cases h
theorem Dp.readsAll(I:zK X pins σ H s):∀ (ds:List PyData) (vs:List V) (us:List Value),zB1 X.K H vs ds->zd vs us->∃ as,ReadsAll s.heap us ds as
|[],_,_,h,r=>by
  cases h;cases r;exact⟨_,ReadsAll.nil⟩
|d::ds,_,_,h,r=>by
  cases h with
 |cons h1 h2=>
   cases r with
  |cons r1 r2=>
    obtain⟨as,q1⟩:=Dp.reads I d _ _ h1 r1;obtain⟨bs,q2⟩:=Dp.readsAll I ds _ _ h2 r2;exact⟨_,ReadsAll.cons q1 q2⟩
end
end
section
variable {X:Cx}
def zRk (K:Qf):R2:=λx y H Q=>∃ d e,Dp K H x d/\Dp K H y e/\SeqAt.shaped d=true/\SeqAt.shaped e=true/\Q (.bl (!PyData.eqv d e)) H
theorem zPb(hu:X.A.units+64<cLine):Y7 X (compareOp .NotEq) (zRk X.K):=by
 intro pins s σ H x y v u Q I rx ry h;obtain⟨d,e,hd,he,sd,se,q⟩:=h;obtain⟨as,r1⟩:=Dp.reads I d x v hd rx;obtain⟨bs,r2⟩:=Dp.reads I e y u he ry;exact SeqAt.compareNe_shaped r1 r2 sd se hu ⟨.bl _,H,I,rfl,q⟩
end
abbrev zLF(h:Heap)(c:Addr)(v:Option Value):Prop:=h.IsCell c v
def zRl (scope sc:Scope):Scope:=
 {scope with names:=scope.names.map λ(n,k)=>if (k==.free&&sc.kind==.function&&sc.names.lookup n==some .cell) then (n,.cell) else (n,k)}
def yl (cells:List (Str×Addr)):List (Str×NameKind)->List (Str×Addr)->List (Str×Addr)
|[],acc=>acc
|(n,k)::r,acc=>if k==.free then yl cells r ((n,(cells.lookup n).getD 0)::acc) else yl cells r acc
theorem zD0(env:Env)(f:Str×NameKind->List (Str×Addr)->Sem (ForInStep (List (Str×Addr))))
  (hf:∀ n k c,f (n,k) c=if k==.free then (do let a <-cellOf env n;pure (.yield ((n,a)::c))) else pure (.yield c)) :
  ∀ (names:List (Str×NameKind)) (acc:List (Str×Addr)),(∀ y∈names,y.2=.free->∃ c,env.cells.lookup y.1=some c)->forIn names acc f=pure (yl env.cells names acc)
|[],acc,_=>by rw[List.forIn_nil];rfl
|(n,k)::r,acc,h=>by
  rw[List.forIn_cons,hf];have ih:=λacc=>zD0 env f hf r acc λy hy=>h y (We _ hy)
  unfold yl;by_cases hk:(k==NameKind.free)=true
  .rw[Wb hk,Wb hk];obtain⟨c,hc⟩:=h (n,k) Wt (by simpa using hk);have e:cellOf env n=pure c:=by unfold cellOf;rw[hc]
   rw[e];have e2:(env.cells.lookup n).getD 0=c:=by rw[hc];rfl
   rw[e2];exact ih _
  .rw[Wa hk,Wa hk];exact ih _
theorem zJ0{scope:Scope}{env:Env}(h:∀ y∈scope.names,y.2=.free->∃ c,env.cells.lookup y.1=some c):closureFor scope env=pure (yl env.cells scope.names []):=by
 simp only[closureFor];rw[zD0 env _ (λn k c=>rfl) scope.names [] h];rfl
theorem zDU{α:Type}:∀ {l:List (Str×α)}{n:Str}{c:α},(n,c)∈l->∃ c',l.lookup n=some c'
|(k,v)::r,n,c,h=>by
  rw[V3];cases hb:n==k with
 |true=>exact⟨_,rfl⟩
 |false=>
   rcases Wc.mp h with e|h
   .cases e;simp at hb
   .exact zDU h
theorem zBU{cells:List (Str×Addr)}:∀ {names:List (Str×NameKind)}{acc:List (Str×Addr)}{n:Str}{c:Addr},(n,c)∈yl cells names acc->(n,c)∈acc\/((n,.free)∈names/\c=(cells.lookup n).getD 0)
|[],_,_,_,h=>.inl h
|(m,k)::r,acc,n,c,h=>by
  unfold yl at h;split at h
  .rename_i hk
   have hk:k=.free:=by simpa using hk
   rcases zBU h with h|⟨h1,h2⟩
   .rcases Wc.mp h with e|h
    .cases e;exact .inr ⟨hk ▸ Wt,rfl⟩
    .exact .inl h
   .exact .inr ⟨We _ h1,h2⟩
  .rcases zBU h with h|⟨h1,h2⟩
   .exact .inl h
   .exact .inr ⟨We _ h1,h2⟩
theorem zCq{cells:List (Str×Addr)}:∀ {names:List (Str×NameKind)}{acc:List (Str×Addr)}{p:Str×Addr},p∈acc->p∈yl cells names acc
|[],_,_,h=>h
|(m,k)::r,acc,p,h=>by
  unfold yl;split
  .exact zCq (We _ h)
  .exact zCq h
theorem zCr{cells:List (Str×Addr)}:∀ {names:List (Str×NameKind)}{acc:List (Str×Addr)}{n:Str},(n,.free)∈names->(n,(cells.lookup n).getD 0)∈yl cells names acc
|(m,k)::r,acc,n,h=>by
  unfold yl;rcases Wc.mp h with e|h
  .cases e;exact zCq Wt
  .split
   .exact zCr h
   .exact zCr h
theorem zBg:∀ {names:List (Str×NameKind)}{h:Heap}{acc:List (Str×Addr)}{x:Str}{c:Addr},(x,c)∈cellsFrom h.objs.size names acc->
  (x,c)∈acc\/((x,.cell)∈names/\h.objs.size<=c/\zLF (pushCells h names) c none)
|[],_,_,_,_,h=>.inl h
|(n,k)::r,h,acc,x,c,hm=>by
  unfold cellsFrom at hm;unfold pushCells;split at hm
  .rename_i hk
   rw[Wb hk];have hk:k=.cell:=by simpa using hk
   rw[<-Vn h {cls:=.type "cell",data:=.cell none}] at hm;rcases zBg hm with hm|⟨h1,h2,h3⟩
   .rcases Wc.mp hm with e|hm
    .cases e;exact .inr ⟨hk ▸ Wt,Wd _,_,Uy r _ _ _ (WG _ rfl),rfl⟩
    .exact .inl hm
   .rw[Vn] at h2;exact .inr ⟨We _ h1,Ue h2,h3⟩
  .rename_i hk
   rw[Wa hk];rcases zBg hm with hm|⟨h1,h2,h3⟩
   .exact .inl hm
   .exact .inr ⟨We _ h1,h2,h3⟩
theorem zCd:∀ {names:List (Str×NameKind)}{n:Nat}{acc:List (Str×Addr)}{p:Str×Addr},p∈acc->p∈cellsFrom n names acc
|[],_,_,_,h=>h
|(m,k)::r,n,acc,p,h=>by
  unfold cellsFrom;split
  .exact zCd (We _ h)
  .exact zCd h
theorem zD1:∀ {names:List (Str×NameKind)}{n:Nat}{acc:List (Str×Addr)}{x:Str},(x,.cell)∈names->∃ c,(x,c)∈cellsFrom n names acc
|(m,k)::r,n,acc,x,h=>by
  unfold cellsFrom;rcases Wc.mp h with e|h
  .cases e;exact⟨n,zCd Wt⟩
  .split
   .exact zD1 h
   .exact zD1 h
theorem zD2:∀ {names:List (Str×NameKind)}{h:Heap}{acc:List (Str×Addr)}{x y:Str}{c:Addr},(∀ p∈acc,p.2<h.objs.size)->(∀ x y c,(x,c)∈acc->(y,c)∈acc->x=y)->
  (x,c)∈cellsFrom h.objs.size names acc->(y,c)∈cellsFrom h.objs.size names acc->x=y
|[],_,_,_,_,_,_,hi,h1,h2=>hi _ _ _ h1 h2
|(n,k)::r,h,acc,x,y,c,hl,hi,h1,h2=>by
  unfold cellsFrom at h1 h2;split at h1
  .rename_i hk
   rw[Wb hk] at h2;rw[<-Vn h {cls:=.type "cell",data:=.cell none}] at h1 h2;refine zD2 (h:=h.push _) (λp hp=>?_) (λx y c a b=>?_) h1 h2
   .rw[Vn];rcases Wc.mp hp with rfl|hp
    .exact Xm _
    .exact UQ (hl p hp)
   .rcases Wc.mp a with e|a <;> rcases Wc.mp b with e'|b
    .cases e;cases e';rfl
    .cases e;exact absurd (hl _ b) (Vk _)
    .cases e';exact absurd (hl _ a) (Vk _)
    .exact hi _ _ _ a b
  .rename_i hk
   rw[Wa hk] at h2;exact zD2 hl hi h1 h2
theorem zIg{M:Model}{A:Around}{E:Qs}{s:Shared}{scope:Scope}{globals:Addr}{closure:List (Str×Addr)}{qual:Str}{func:Option Addr}{code:Value}{around:Env}{builtins:Addr}{Q:Env->Shared->Prop}
  (h:Q (newEnv scope s.heap.objs.size globals (cellsFrom (s.heap.objs.size+1) scope.names closure) qual func code (some around) builtins)
   {s with heap:=pushCells (s.heap.push {cls:=.type "dict",data:=.dict #[]}) scope.names}) :
  wpAny M A (newFunctionEnv scope globals closure [] qual func code (some around) builtins) Q E s:=by
 simp only[newFunctionEnv,Option.isSome_some,UH];refine Wh (wpAny_alloc ?_);refine Wh (wpAny_layCells _ (λn k c=>rfl) scope.names closure _ _ ?_);rw[show ({s with heap:=s.heap.push {cls:=.type "dict",data:=.dict #[]}}:Shared).heap.objs.size=s.heap.objs.size+1 from Vn ..];rw[List.forIn_nil];exact Wh (WK (WK h))
theorem zCs{sc:Scope}:∀ {names:List (Str×NameKind)}{x:Str}{k:NameKind},
  (names.map λ(n,k)=>if (k==NameKind.free&&sc.kind==.function&&sc.names.lookup n==some .cell) then (n,NameKind.cell) else (n,k)).lookup x=some k->
  ∃ k',names.lookup x=some k'/\(k=k'\/(k'=.free/\k=.cell))
|[],_,_,h=>by simp at h
|(n,k₀)::r,x,k,h=>by
  have ih:=@zCs sc r x k;have h':List.lookup x ((if (k₀==NameKind.free&&sc.kind==.function&&sc.names.lookup n==some .cell)=true then (n,NameKind.cell) else (n,k₀))::(r.map _))=some k:=h;cases hx:x==n with
 |true=>
   simp only[V3,hx];by_cases hc:(k₀==NameKind.free&&sc.kind==.function&&sc.names.lookup n==some .cell)=true
   .rw[Wb hc] at h';simp only[V3,hx] at h';cases h';simp only[yZ,Vs] at hc;exact⟨k₀,rfl,.inr ⟨hc.1.1,rfl⟩⟩
   .rw[Wa hc] at h';simp only[V3,hx] at h';cases h';exact⟨_,rfl,.inl rfl⟩
 |false=>
   simp only[V3,hx];by_cases hc:(k₀==NameKind.free&&sc.kind==.function&&sc.names.lookup n==some .cell)=true
   .rw[Wb hc] at h';simp only[V3,hx] at h';exact ih h'
   .rw[Wa hc] at h';simp only[V3,hx] at h';exact ih h'
structure zFZ(N:List Str)(sc scope:Scope)(own:List (Str×Nat)):Prop where
 kind:scope.kind=.function
 uniq:∀ y∈scope.names,scope.names.lookup y.1=some y.2
 ix:∀ p∈own,N[p.2]?=some p.1
 free:∀ y∈scope.names,y.2=.free->sc.names.lookup y.1=some .cell\/sc.names.lookup y.1=some .free
 own:∀ y∈scope.names,y.2=.local\/y.2=.cell->y.1∈own.map (·.1)\/y.1∉N
def Zp (σ:St):List Nat->St
|[]=>σ
|v::vs=>(Zp σ vs).set v none
theorem zCt(σ:St):∀ vs:List Nat,(Zp σ vs).length=σ.length
|[]=>rfl
|v::vs=>by unfold Zp;rw[VO,zCt σ vs]
theorem zD3{σ:St}{i:Nat}{x:V}:∀ {vs:List Nat},(Zp σ vs)[i]?=some (some x)->σ[i]?=some (some x)/\i∉vs
|[],h=>⟨h,by simp⟩
|v::vs,h=>by
  unfold Zp at h;by_cases hi:v=i
  .subst hi;by_cases hv:v<(Zp σ vs).length
   .rw[VA hv] at h;cases h
   .rw[W3 (by simpa using hv)] at h;cases h
  .rw[W6 hi] at h;obtain⟨h1,h2⟩:=zD3 h;exact⟨h1,by simp only[Wc,not_or];exact⟨λe=>hi e.symm,h2⟩⟩
abbrev Cx.blk(X:Cx)(s:Shared)(H:Hp)(scope:Scope)(cenv:Env)(fp:List Addr):Cx:={X with s_0:=s,H_0:=H,env:=cenv,outer:=X.stack,ex:=fp,fn:=λx=>scope.names.lookup x==some .cell,pn:=[],xe:=λ_ _=>False}
section
variable {X:Cx}{pins:Qp}{σ:St}{H:Hp}{s:Shared}
theorem zIh{scope:Scope}{own:List (Str×Nat)}{fp:List Addr}(I:zK X pins σ H s)(ok:zFZ X.N X.env.scope scope own)(hN:X.N.Nodup)(hfp:∀ b∈fp,zCD X pins H b/\b<s.heap.objs.size) :
  zK (X.blk s H scope (compEnvC scope (cellsFrom (s.heap.objs.size+1) scope.names (yl X.env.cells scope.names [])) s.heap.objs.size X.env) fp) [] (Zp σ (own.map (·.2))) H {s with heap:=pushCells (s.heap.push {cls:=.type "dict",data:=.dict #[]}) scope.names}:=by
 have hfree:∀ y∈scope.names,y.2=.free->∃ c,X.env.cells.lookup y.1=some c:=λy hy e=>by
  rcases ok.free y hy e with k|k
  .exact I.ok.has _ (.inl k)
  .exact I.ok.has _ (.inr k)
 generalize hcenv:compEnvC scope (cellsFrom (s.heap.objs.size+1) scope.names (yl X.env.cells scope.names [])) s.heap.objs.size X.env=cenv;have kp:∀ b o,s.heap.get? b=some o->(pushCells (s.heap.push {cls:=.type "dict",data:=.dict #[]}) scope.names).get? b=some o:=λb o e=>Uy _ _ _ _ (Wf _ e)
 have hL:cenv.locals=s.heap.objs.size:=by rw[<-hcenv];rfl
 have hcl:cenv.cells=cellsFrom (s.heap.objs.size+1) scope.names (yl X.env.cells scope.names []):=by rw[<-hcenv];rfl
 have hsc:cenv.scope=zRl scope X.env.scope:=by rw[<-hcenv];rfl
 rw[<-Vn s.heap {cls:=.type "dict",data:=.dict #[]}] at hcl
 have cm:∀ {y c},(y,c)∈yl X.env.cells scope.names []->X.env.cells.lookup y=some c/\c<s.heap.objs.size:=λ{y c} hm=>by
  rcases zBU hm with hm|⟨h1,rfl⟩
  .cases hm
  .obtain⟨c,hc⟩:=hfree _ h1 rfl;rw[hc];obtain⟨w,z⟩:=I.cell _ _ hc;exact⟨rfl,z.lt⟩
 have mem:∀ {y c},cenv.cells.lookup y=some c->(X.env.cells.lookup y=some c/\c<s.heap.objs.size)\/(s.heap.objs.size+1<=c/\zLF (pushCells (s.heap.push {cls:=.type "dict",data:=.dict #[]}) scope.names) c none):=λ{y c} e=>by
  rw[hcl] at e;rcases zBg (WL e) with hm|⟨_,h2,h3⟩
  .exact .inl (cm hm)
  .rw[Vn] at h2;exact .inr ⟨h2,h3⟩
 have look:∀ {y},scope.names.lookup y=some .free->∃ c,cenv.cells.lookup y=some c/\X.env.cells.lookup y=some c:=λ{y} hl=>by
  have hy:(y,NameKind.free)∈scope.names:=WL hl;obtain⟨c',e'⟩:=zDU (zCd (names:=scope.names) (n:=(s.heap.push {cls:=.type "dict",data:=.dict #[]}).objs.size) (zCr (cells:=X.env.cells) (acc:=[]) hy));rw[<-hcl] at e';refine⟨c',e',?_⟩;rw[hcl] at e';rcases zBg (WL e') with hm|⟨h1,_,_⟩
  .exact (cm hm).1
  .have:=ok.uniq _ h1;rw[hl] at this;cases this
 have okB:(X.blk s H scope cenv fp).Ok:=by
  refine⟨I.ok.mod,by show cenv.scope.kind=_;rw[hsc];exact ok.kind,by show cenv.globals=_;rw[<-hcenv];exact I.ok.glob,by show cenv.builtins=_;rw[<-hcenv];exact I.ok.blt,by show s.heap.objs.size<=cenv.locals;rw[hL];exact Wd _,
   λy z c e1 e2=>?_,λy hy=>?_,λy c z e=>?_,I.ok.hd,I.ok.frames,.inl rfl,λb hb=>⟨?_,λy c e z=>?_⟩,I.bs,WT I.ok.bsz I.sz,λb o e hb=>?_,λb hb z=>?_,I.stack,I.stkFree⟩
  .have e1:cenv.cells.lookup y=some c:=e1;have e2:cenv.cells.lookup z=some c:=e2;rw[hcl] at e1 e2;refine zD2 (λp hp=>?_) (λy z c a b=>I.ok.inj y z c (cm a).1 (cm b).1) (WL e1) (WL e2);rw[Vn];exact UQ (cm (y:=p.1) (c:=p.2) hp).2
  .show ∃ c,cenv.cells.lookup y=some c
   have key:∀ k,cenv.kindOf y=some k->(k=.cell\/k=.free)->∃ c,cenv.cells.lookup y=some c:=λk hk hk'=>by
    unfold Env.kindOf at hk;rw[hsc] at hk;obtain⟨k',e,r⟩:=zCs hk
    have:k'=.cell\/k'=.free:=by
     rcases r with rfl|⟨rfl,_⟩
     .exact hk'
     .exact .inr rfl
    rcases this with rfl|rfl
    .obtain⟨c,hm⟩:=zD1 (n:=(s.heap.push {cls:=.type "dict",data:=.dict #[]}).objs.size) (acc:=yl X.env.cells scope.names []) (WL e);obtain⟨c',e'⟩:=zDU hm;exact⟨c',by rw[hcl];exact e'⟩
    .obtain⟨c,h1,_⟩:=look e;exact⟨c,h1⟩
   rcases hy with hy|hy
   .exact key _ hy (.inl rfl)
   .exact key _ hy (.inr rfl)
  .have z:(scope.names.lookup y==some NameKind.cell)=true:=z;have z:scope.names.lookup y=some .cell:=by simpa using z
   have e:cenv.cells.lookup y=some c:=e;rw[hcl] at e;rcases zBg (WL e) with hm|⟨_,h2,_⟩
   .rcases zBU hm with hm|⟨h1,_⟩
    .cases hm
    .have q:=ok.uniq _ h1;rw[z] at q;cases q
   .rw[Vn] at h2;exact Ue h2
  .show b≠cenv.locals;rw[hL];exact WE (hfp b hb).2
  .have e:cenv.cells.lookup y=some c:=e;rcases mem e with ⟨h1,_⟩|⟨h1,_⟩
   .exact (hfp b hb).1.2.2.2.2.1 y c h1 z
   .have h2:s.heap.objs.size+1<=b:=by rw[<-z];exact h1
    exact absurd (yU (hfp b hb).2 (Ue h2)) (Vk _)
  .rcases (hfp b hb).1.2.2.2.1 with z|z
   .exact I.ok.noex b o e z
   .exact absurd (yU (Wl e) (WT I.ok.bsz z)) (Vk _)
  .rcases Wc.mp (I.stkSub b z) with z|z
   .exact (hfp b hb).1.2.1 z
   .exact (hfp b hb).1.2.2.1 z
 refine⟨okB,rfl,I.bare,Un.kept kp,⟨λ_=>none,?_,λi y av e1 e2 e3=>?_⟩,λy c e=>?_,?_,λy c e=>?_,λp hp=>?_,I.hok.kept kp,by rw[zCt];exact I.len⟩
 .show Heap.Ns _ cenv.locals _;rw[hL];exact Heap.Ns.keeps (Heap.Ns.new ..) λb o e=>Uy _ _ _ _ e
 .obtain⟨e2,hne⟩:=zD3 e2
  have hfr:scope.names.lookup y=some .free/\(cenv.kindOf y=some .cell\/cenv.kindOf y=some .free):=by
   have key:∀ k,cenv.scope.names.lookup y=some k->k=.local\/k=.cell\/k=.free->scope.names.lookup y=some .free/\(cenv.kindOf y=some .cell\/cenv.kindOf y=some .free):=λk hk hk'=>by
    have hk0:=hk;rw[hsc] at hk;obtain⟨k',e,r⟩:=zCs hk
    have no:¬ (k'=.local\/k'=.cell):=λhh=>by
     rcases ok.own _ (WL e) hh with e'|e'
     .obtain⟨p,hp,hpy⟩:=Wg.mp e';have e3:=ok.ix p hp;have:p.1=y:=hpy;rw[this] at e3;exact hne (Wg.mpr ⟨p,hp,zE4 hN e3 e1⟩)
     .exact e' (ZZ e1)
    rcases r with rfl|⟨rfl,rfl⟩
    .rcases hk' with rfl|rfl|rfl
     .exact absurd (.inl rfl) no
     .exact absurd (.inr rfl) no
     .exact⟨e,.inr hk0⟩
    .exact⟨e,.inl hk0⟩
   have e3:Vis cenv.scope y:=e3;rcases e3 with e3|e3|e3
   .exact key _ e3 (.inl rfl)
   .exact key _ e3 (.inr (.inl rfl))
   .exact key _ e3 (.inr (.inr rfl))
  obtain⟨m,hn,hl⟩:=I.loc;have hvis:Vis X.env.scope y:=(ok.free _ (WL hfr.1) rfl).elim (λk=>.inr (.inl k)) (λk=>.inr (.inr k));obtain⟨w,r,q⟩:=hl i y av e1 e2 hvis;refine⟨w,r,.inr ⟨hfr.2,?_⟩⟩;obtain⟨c,h1,h2⟩:=look hfr.1;rcases q with ⟨k,_⟩|⟨_,c',e',z⟩
  .have k:X.env.scope.names.lookup y=some .local:=k;rcases ok.free _ (WL hfr.1) rfl with k'|k' <;> rw[show X.env.scope.names.lookup y=_ from k'] at k <;> cases k
  .rw[h2] at e';cases e';exact⟨c,h1,z.keeps kp⟩
 .have e:cenv.cells.lookup y=some c:=e;rcases mem e with ⟨h1,_⟩|⟨_,z⟩
  .obtain⟨w,z⟩:=I.cell y c h1;exact⟨w,z.keeps kp⟩
  .exact⟨_,z⟩
 .show H cenv.locals=none;rw[hL];exact I.hok.fresh (Wd _)
 .have e:cenv.cells.lookup y=some c:=e;rcases mem e with ⟨h1,_⟩|⟨h1,_⟩
  .exact I.freeC y c h1
  .exact I.hok.fresh (Ue h1)
 .exact absurd (show p∈([]:Qp)++[] from hp) (by simp)
theorem zPc{E:Qs}{D:Addr}{xs:List V}{y:V}{v:Value}{Q:Qs}(I:zK X pins σ H s)(hD:H D=some (.lst xs))(hz:xs.length<sizeLine)(r:zr y v)
  (h:∀ s',zK X pins σ (upd H D (.lst (xs++[y]))) s'->Q .none s'):wpAny (model X.prog X.w) X.A (call (.builtin "list.append") [.ref D,v]) Q E s:=by
 obtain⟨hz',its,n,ri,e⟩:=I.hok D _ hD;have hl:=ri.length;refine append_at (hsz:=by rw[WA];omega) e λh' sb ho'=>?_
 refine h {s with heap:=h'} (I.write (t':=s.toks) (by rw[hD];trivial) (.inl rfl) (λb u hb q=>(sb.2 b hb).trans q) ⟨_,ho'⟩ ⟨by rw[Wr];exact hz,its++[v],n+1,ri.append (.cons r .nil),?_⟩);rw[ho'];simp
def PTs (X:Cx)(ifs:List Expr)(t:TT):Prop:=
 ∀ (pins:Qp) (s:Shared) (σ:St) (H:Hp) (Q:Bool->Hp->Prop),zK X pins σ H s->t σ H Q->
  wpAny (model X.prog X.w) X.A (forIn ifs true λc r=>if r=true then do let ok <-isTrue c X.env (eval c X.env);pure (ForInStep.yield ok) else pure (ForInStep.yield r)) (TP X pins σ Q) X.xe s
def zRm:TT:=λ_ H Q=>Q true H
theorem Zm:PTs X [] zRm:=λ_ _ _ H _ I h=>wpAny_tests_nil ⟨H,I,h⟩
end
theorem zGB{α:Type}{t:Sem α}{Q Q':α->Shared->Prop}{M:Model}{A:Around}{E:Qs}{s:Shared}(h:wpAny M A t Q (λ_ _=>False) s)(hQ:∀ a s,Q a s->Q' a s):wpAny M A t Q' E s:=W8 h hQ λ_ _ z=>False.elim z
theorem zHc{prog:Program}{w:World}{A:Around}{R:Result->Shared->Prop}{s:Shared}{elt target iter:Expr}{ifs:List Expr}{scope:Scope}{pos:Pos}{it acc:Value}{env:Env}(I:Nat->Shared->Prop)
  (turn:∀ n s,I n s->wpAny (model prog w) A (pyNext it) (λr s₁=>match r with
  |none=>R (.ok .next) s₁
  |some v=>wpAny (model prog w) A (letOwnedTupleGo target it v) (λ_ s₁'=>wpAny (model prog w) A (assign target env v) (λ_ s₂=>
     wpAny (model prog w) A (forIn ifs true λc r=>if r=true then do let ok <-isTrue c env (eval c env);pure (ForInStep.yield ok) else pure (ForInStep.yield r)) (λok s₃=>
      if ok=true then wpAny (model prog w) A (eval elt env) (λx s₄=>
       wpAny (model prog w) A (call (.builtin "list.append") [acc,x]) (λ_ s₅=>∃ m,m<n/\I m s₅) (notedBy (model prog w) A env λe s'=>R (.error e) s') s₄) (notedBy (model prog w) A env λe s'=>R (.error e) s') s₃
      else ∃ m,m<n/\I m s₃) (notedBy (model prog w) A env λe s'=>R (.error e) s') s₂) (notedBy (model prog w) A env λe s'=>R (.error e) s') s₁') (notedBy (model prog w) A env λe s'=>R (.error e) s') s₁) (notedBy (model prog w) A env λe s'=>R (.error e) s') s)
  (n:Nat)(h:I n s) :
  codeAny (model prog w) A (.compLoop (.ListComp elt [⟨target,iter,ifs,0⟩] scope pos) 0 it acc env) R s:=by
 refine codeAny_loop rfl I (λn s hI=>?_) n h;show wpAny _ A ((compTurn (.ListComp elt [⟨target,iter,ifs,0⟩] scope pos) 0 it acc env).onRaise (λx=>do noteFrame x env;theTreesLotGoes x)) _ _ s;refine wpAny_noted ?_;rw[compTurn_list];refine Wh (Ug (Wh (W8 (turn n s hI) (λr s₁ h₁=>?_) λ_ _ h'=>h')));cases r with
|none=>exact WK h₁
|some v=>
  refine Wh (W8 h₁ (λ_ s₁' h₁'=>?_) λ_ _ h'=>h');refine Wh (W8 h₁' (λ_ s₂ h₂=>Wh (W8 h₂ (λok s₃ h₃=>?_) λ_ _ h'=>h')) λ_ _ h'=>h');cases ok with
 |false=>exact WK ⟨rfl,h₃⟩
 |true=>
   exact Wh (Wh (W8 h₃ (λx s₄ h₄=>Wh (W8 h₄ (λ_ s₅ h₅=>WK (WK ⟨rfl,h₅⟩)) λ_ _ h'=>h')) λ_ _ h'=>h'))
section
variable {X:Cx}
def tLc (wi:TI)(g:TG)(tt:TT)(te:TE)(vs:List Nat):TE:=λσ H Q=>wi σ H λJ H1=>∀ D,H1 D=none->∃ W:Nat->Nat->Hp->Prop,(∃ m,W 0 m (upd H1 D (.lst [])))/\∀ i m H,W i m H->
 (J.stop i H/\Q (.ref D) H)\/(J.go i H/\∃ Nx:Hp->Prop,(∀ H',Nx H'->∃ m',m'<m/\W (i+1) m' H')/\∀ x H',J.yld i H x H'->g x (Zp σ vs) H' λσ2 H2=>Zp σ2 vs=Zp σ vs/\tt σ2 H2 λb H3=>
  if b=true then te σ2 H3 λy H4=>∃ acc,H4 D=some (.lst acc)/\acc.length<sizeLine/\Nx (upd H4 D (.lst (acc++[y]))) else Nx H3)
theorem zI1{pins:Qp}{s:Shared}{σ:St}{H:Hp}{Q:VK}{elt tg iter:Expr}{ifs:List Expr}{scope:Scope}{own:List (Str×Nat)}{pos pos':Pos}{wi:TI}{g:TG}{tt:TT}{te:TE}{use:Option (Value->Sem Unit)}{Qf:Qs}
  (hc:X.calm=true)(hN:X.N.Nodup)(I:zK X pins σ H s)(hi:PI X tg iter wi)(ok:zFZ X.N X.env.scope scope own)
  (hg:∀ (s:Shared) (H:Hp) (C:Addr) (cl:List (Str×Addr)) (fp:List Addr),PG (X.blk s H scope (compEnvC scope cl C X.env) fp) tg g)(ht:∀ (s:Shared) (H:Hp) (C:Addr) (cl:List (Str×Addr)) (fp:List Addr),PTs (X.blk s H scope (compEnvC scope cl C X.env) fp) ifs tt)
  (he:∀ (s:Shared) (H:Hp) (C:Addr) (cl:List (Str×Addr)) (fp:List Addr),PE (X.blk s H scope (compEnvC scope cl C X.env) fp) elt te)(hs:∀ x,foldedSetIterable iter X.env x=pure x)
  (h:tLc wi g tt te (own.map (·.2)) σ H Q)
  (hRR:∀ D C s' m H',zK X pins σ H' s'->Q (.ref D) H'->s'.heap.Ns C m->zCD X pins H' C->compPost (model X.prog X.w) X.A X.xe use Qf (.ref D) C (.ok .next) s') :
  wpAny (model X.prog X.w) X.A (comprehension (.ListComp elt [⟨tg,iter,ifs,0⟩] scope pos) scope X.env pos' (newList []) false (eval iter X.env) use) Qf X.xe s:=by
 have hfree:∀ y∈scope.names,y.2=.free->∃ c,X.env.cells.lookup y.1=some c:=λy hy e=>by
  rcases ok.free y hy e with k|k
  .exact I.ok.has _ (.inl k)
  .exact I.ok.has _ (.inr k)
 refine wpAny_comprehension_free (use:=use) rfl hs (zJ0 hfree) ok.kind (λy hy e=>by rw[ok.uniq y hy,e])
  (zv (hi pins s σ H _ I h) λxv s1 hx=>zv hx λitv s2 h2=>?_)
 obtain⟨it,fp,tn,J,H2,e,I2,T,st2,f2,q⟩:=h2;subst e;refine wpAny_newObj_type (zIg ?_) (by show 0<=sizeLine;decide);generalize hD:s2.heap.objs.size=D;have hDn:H2 D=none:=I2.hok.fresh (Us hD);obtain⟨W,⟨m0,w0⟩,turn⟩:=q D hDn;generalize hs3:({s2 with heap:=s2.heap.push {cls:=.type "list",data:=.seq ([]:List Value).toArray}}:Shared)=s3
 have I3:zK X pins σ (upd H2 D (.lst [])) s3:=by
  rw[<-hs3];refine I2.laid (t':=s2.toks) (λb o e=>Wf _ e) (Us hD) ⟨WH _,[],0,.nil,?_⟩;rw[<-hD];exact WG _ rfl
 have h3:s3.heap=s2.heap.push {cls:=.type "list",data:=.seq ([]:List Value).toArray}:=by rw[<-hs3]
 have sz:∀ b∈fp,b<s2.heap.objs.size:=λb hb=>by
  obtain⟨o,e,_⟩:=T.obj _ _ st2 b hb;exact Wl e
 have f3:∀ b∈fp,zCD X pins (upd H2 D (.lst [])) b/\b<s3.heap.objs.size:=λb hb=>by
  have hlt:=sz b hb;refine⟨⟨?_,(f2 b hb).2⟩,by rw[h3,Vn];exact UQ hlt⟩;rw[zG (by rw[<-hD];exact WE hlt)];exact (f2 b hb).1
 have st3:tn 0 s3.heap:=T.keep _ _ _ st2 λb _ o e=>by rw[h3];exact Wf _ e
 have I4:=zIh I3 ok hN f3;have pg:=hg s3 (upd H2 D (.lst [])) s3.heap.objs.size (cellsFrom (s3.heap.objs.size+1) scope.names (yl X.env.cells scope.names [])) fp;have pt:=ht s3 (upd H2 D (.lst [])) s3.heap.objs.size (cellsFrom (s3.heap.objs.size+1) scope.names (yl X.env.cells scope.names [])) fp;have pe:=he s3 (upd H2 D (.lst [])) s3.heap.objs.size (cellsFrom (s3.heap.objs.size+1) scope.names (yl X.env.cells scope.names [])) fp;show codeAny _ _ (.compStart (.ListComp elt [⟨tg,iter,ifs,0⟩] scope pos) 0 (.ref it) (.ref D) (compEnvC scope (cellsFrom (s3.heap.objs.size+1) scope.names (yl X.env.cells scope.names [])) s3.heap.objs.size X.env)) (compPost (model X.prog X.w) X.A X.xe use Qf (.ref D) s3.heap.objs.size) {s3 with heap:=pushCells (s3.heap.push {cls:=.type "dict",data:=.dict #[]}) scope.names};have nfp:∀ b∈fp,(upd H2 D (.lst [])) b=none:=λb hb=>(f3 b hb).1.1
 generalize hce:compEnvC scope (cellsFrom (s3.heap.objs.size+1) scope.names (yl X.env.cells scope.names [])) s3.heap.objs.size X.env=ce at I4 pg pt pe ⊢;have cL:ce.locals=s3.heap.objs.size:=by subst hce;rfl
 generalize hH3:upd H2 D (.lst [])=H3 at I3 I4 pg pt pe w0 nfp f3;generalize hs4:({s3 with heap:=pushCells (s3.heap.push {cls:=.type "dict",data:=.dict #[]}) scope.names}:Shared)=s4 at I4 ⊢;have st4:tn 0 s4.heap:=T.keep _ _ _ st3 λb _ o e=>by rw[<-hs4];exact Uy _ _ _ _ (Wf _ e)
 have stat:∀ {σ':St}{H':Hp}{s':Shared},zK (X.blk s3 H3 scope ce fp) [] σ' H' s'->(∀ b∈fp,H' b=none)->∀ b∈fp,zCD (X.blk s3 H3 scope ce fp) [] H' b:=λ{σ' H' s'} I' hn b hb=>
  ⟨hn b hb,(I'.ok.exf b hb).1,I'.ok.exfs b hb,.inl hb,λx c e=>(I'.ok.exf b hb).2 x c e,λp hp=>absurd (show p∈([]:Qp)++[] from hp) (by simp)⟩
 have loop:codeAny (model X.prog X.w) X.A (.compLoop (.ListComp elt [⟨tg,iter,ifs,0⟩] scope pos) 0 (.ref it) (.ref D) ce) (compPost (model X.prog X.w) X.A X.xe use Qf (.ref D) s3.heap.objs.size) s4:=by
  refine zHc (λn s'=>∃ i H',zK (X.blk s3 H3 scope ce fp) [] (Zp σ (own.map (·.2))) H' s'/\tn i s'.heap/\(∀ b∈fp,H' b=none)/\W i n H') ?_ m0 ⟨0,H3,I4,st4,nfp,w0⟩;rintro n s5 ⟨i,H5,I5,st5,n5,w5⟩;rcases turn i n H5 w5 with ⟨stop,qq⟩|⟨go,Nx,hNx,step⟩
  .have td:=T.done (X.blk s3 H3 scope ce fp) rfl rfl rfl hc i [] s5 _ H5 (λ_ _=>False) I5 (stat I5 n5) st5 stop;refine zGB td λr s6 ⟨hr,I6⟩=>?_
   subst hr;have I7:zK X pins σ H5 s6:=I3.call' (ch:=fp) I6.os I6.base I6.hok I6.bare λb hb=>⟨(f3 b hb).1.2.2.2.1,(f3 b hb).1.2.1,(f3 b hb).1.2.2.2.2.1,(f3 b hb).1.2.2.2.2.2⟩
   have nC:H5 s3.heap.objs.size=none:=by
    have z:H5 ce.locals=none:=I6.free;rw[cL] at z;exact z
   obtain⟨m,hn,_⟩:=I6.loc;have hn:s6.heap.Ns ce.locals m:=hn;rw[cL] at hn;exact hRR D s3.heap.objs.size s6 m H5 I7 qq hn (I3.fpOk (Wd _) nC)
  .have ti:=T.item (X.blk s3 H3 scope ce fp) rfl rfl rfl hc i [] s5 _ H5 (λ_ _=>False) I5 (stat I5 n5) st5 go;refine zGB ti λr s6 ⟨u,hr,h6⟩=>?_
   subst hr;refine zGB h6 λ_ s7 ⟨x,H7,I7,r7,y7,st7,n7⟩=>?_
   have I7':=I7.pinned (stat I7 n7) (T.obj _ _ st7);refine zGB (pg _ s7 _ H7 x u _ I7' r7 (step x H7 y7)) λ_ s8 ⟨σ8,H8,I8,hw8,q8⟩=>?_
   refine zGB (pt _ s8 σ8 H8 _ I8 q8) λb s9 ⟨H9,I9,q9⟩=>?_
   have fin:∀ {s':Shared}{H':Hp},zK (X.blk s3 H3 scope ce fp) ([]++zDy fp s7.heap) σ8 H' s'->Nx H'->∃ m,m<n/\∃ i H',zK (X.blk s3 H3 scope ce fp) [] (Zp σ (own.map (·.2))) H' s'/\tn i s'.heap/\(∀ b∈fp,H' b=none)/\W i m H':=λ{s' H'} I' nx=>by
    obtain⟨m',hm,w'⟩:=hNx H' nx
    have pin':∀ b∈fp,∀ o,s7.heap.get? b=some o->s'.heap.get? b=some o/\H' b=none:=λb hb o e=>
     let z:=I'.pin (b,o) (Vj _ (Vj _ (zDS hb e)))
     ⟨z.1,z.2.1⟩
    have hl:(Zp σ (own.map (·.2))).length=σ8.length:=by rw[<-hw8,zCt]
    refine⟨m',hm,i+1,H',(I'.unpinned (pins:=[])).weak hl (λj v e=>?_),T.keep _ _ _ st7 λb hb o e=>(pin' b hb o e).1,λb hb=>?_,w'⟩
    .rw[<-hw8] at e;exact (zD3 e).1
    .obtain⟨o,e,_⟩:=T.obj _ _ st7 b hb;exact (pin' b hb o e).2
   cases b with
  |false=>
    simp only[Bool.false_eq_true,UD] at q9 ⊢;exact fin I9 q9
  |true=>
    simp only[UH] at q9 ⊢;refine zGB (pe _ s9 σ8 H9 _ I9 q9) λz s10 ⟨yv,H10,I10,r10,acc,hD10,hz10,nx⟩=>?_
    exact zPc (X:=X.blk s3 H3 scope ce fp) I10 hD10 hz10 r10 λs11 I11=>fin I11 nx
 exact codeAny_compStart_list loop (T.self X.A 0 _ _ _ st4 loop)
theorem zFa{elt tg iter:Expr}{ifs:List Expr}{scope:Scope}{own:List (Str×Nat)}{pos:Pos}{wi:TI}{g:TG}{tt:TT}{te:TE}(hc:X.calm=true)(hN:X.N.Nodup)(hi:PI X tg iter wi)(ok:zFZ X.N X.env.scope scope own)
  (hg:∀ (s:Shared) (H:Hp) (C:Addr) (cl:List (Str×Addr)) (fp:List Addr),PG (X.blk s H scope (compEnvC scope cl C X.env) fp) tg g)(ht:∀ (s:Shared) (H:Hp) (C:Addr) (cl:List (Str×Addr)) (fp:List Addr),PTs (X.blk s H scope (compEnvC scope cl C X.env) fp) ifs tt)
  (he:∀ (s:Shared) (H:Hp) (C:Addr) (cl:List (Str×Addr)) (fp:List Addr),PE (X.blk s H scope (compEnvC scope cl C X.env) fp) elt te)(hs:∀ x,foldedSetIterable iter X.env x=pure x:=by intro _;rfl) :
  PE X (.ListComp elt [⟨tg,iter,ifs,0⟩] scope pos) (tLc wi g tt te (own.map (·.2))):=by
 intro pins s σ H Q I h;rw[eval_ListComp];refine zI1 hc hN I hi ok hg ht he hs h λD C s' m H' I' q hn f=>⟨m,hn,λh'' sb=>?_⟩
 obtain⟨f0,f1,f2,f3,f4,f5⟩:=f;exact⟨.ref D,H',I'.turned (t':=s'.toks) (λb o hb e=>(sb.2 b hb).trans e) f0 f1 f3 f4 f5,rfl,q⟩
theorem Yj{i:Nat}{y:Str}{py:Pos}{elt tg iter:Expr}{ifs:List Expr}{scope:Scope}{own:List (Str×Nat)}{pos spos:Pos}{wi:TI}{g:TG}{tt:TT}{te:TE}(hc:X.calm=true)(hN:X.N.Nodup)(hy:X.N[i]?=some y)(hyl:X.env.scope.names.lookup y=some .local)
  (hsw:swapsWith (.ListComp elt [⟨tg,iter,ifs,0⟩] scope pos) (some (.Name y py)) spos.line X.env=pure true)(hi:PI X tg iter wi)(ok:zFZ X.N X.env.scope scope own)
  (hg:∀ (s:Shared) (H:Hp) (C:Addr) (cl:List (Str×Addr)) (fp:List Addr),PG (X.blk s H scope (compEnvC scope cl C X.env) fp) tg g)(ht:∀ (s:Shared) (H:Hp) (C:Addr) (cl:List (Str×Addr)) (fp:List Addr),PTs (X.blk s H scope (compEnvC scope cl C X.env) fp) ifs tt)
  (he:∀ (s:Shared) (H:Hp) (C:Addr) (cl:List (Str×Addr)) (fp:List Addr),PE (X.blk s H scope (compEnvC scope cl C X.env) fp) elt te)(hs:∀ x,foldedSetIterable iter X.env x=pure x:=by intro _;rfl) :
  PS X (.Assign [.Name y py] (.ListComp elt [⟨tg,iter,ifs,0⟩] scope pos) spos) (YQ (tLc wi g tt te (own.map (·.2))) (ZQ i)):=by
 intro pins s σ H D I h;rw[exec_Assign_Name_used _ _ _ _ hsw];refine Wh (Ug (Wh ?_));show wpAny _ X.A (do let _ <-comprehension (.ListComp elt [⟨tg,iter,ifs,0⟩] scope pos) scope X.env (firstIterPos [⟨tg,iter,ifs,0⟩] pos) (newList []) false (eval iter X.env) (some (assign (.Name y py) X.env))) _ _ s;have h:tLc wi g tt te (own.map (·.2)) σ H (λx H1=>ZQ i x σ H1 D.nx):=h;refine Wh (zv (zI1 (Qf:=λ_ s'=>SP X pins D .next s') hc hN I hi ok hg ht he hs h λL C s' m H' I' q hn f=>?_) λ_ s' hq=>WK (WK hq));show wpAny _ _ (assign (.Name y py) X.env (.ref L)) _ _ _;refine wpAny_assign_Name (zDw (v:=V.ref L) I' hN hy (.inl hyl) rfl (λs2 I2 ⟨a,sb,ha⟩=>?_) (.inr hyl));obtain⟨f0,f1,f2,f3,f4,f5⟩:=f
 have haC:C≠a:=by
  rcases ha with z|z
  .rw[z];exact f1
  .exact λe=>f4 y a z e.symm
 refine⟨m,hn.sameBut sb haC,λh3 sb3=>?_⟩;exact⟨_,H',I2.turned (t':=s2.toks) (λb o hb e=>(sb3.2 b hb).trans e) f0 f1 f3 f4 f5,q⟩
end
theorem Yv{K:Qf}{a:Addr}{xs:List V}{g:TG}{tt:TT}{te:TE}{vs:List Nat}{σ:St}{H1:Hp}{D:Addr}{Qd:Hp->Prop}(Pv:Nat->Hp->Prop)(h0:Pv 0 (upd H1 D (.lst [])))(hl:∀ i H,i<=xs.length->Pv i H->zM K H a xs)
  (hs:∀ i x H,xs[i]?=some x->Pv i H->g x (Zp σ vs) H λσ2 H2=>Zp σ2 vs=Zp σ vs/\tt σ2 H2 λb H3=>
   if b=true then te σ2 H3 λy H4=>∃ acc,H4 D=some (.lst acc)/\acc.length<sizeLine/\Pv (i+1) (upd H4 D (.lst (acc++[y]))) else Pv (i+1) H3) (hd:∀ H,Pv xs.length H->Qd H) :
  ∃ W:Nat->Nat->Hp->Prop,(∃ m,W 0 m (upd H1 D (.lst [])))/\∀ i m H,W i m H->
   ((Itl K a).stop i H/\Qd H)\/((Itl K a).go i H/\∃ Nx:Hp->Prop,(∀ H',Nx H'->∃ m',m'<m/\W (i+1) m' H')/\∀ x H',(Itl K a).yld i H x H'->g x (Zp σ vs) H' λσ2 H2=>Zp σ2 vs=Zp σ vs/\tt σ2 H2 λb H3=>
    if b=true then te σ2 H3 λy H4=>∃ acc,H4 D=some (.lst acc)/\acc.length<sizeLine/\Nx (upd H4 D (.lst (acc++[y]))) else Nx H3):=by
 refine⟨λi m H=>m=xs.length-i/\i<=xs.length/\Pv i H,⟨xs.length,by simp,WH _,h0⟩,?_⟩;rintro i m H ⟨rfl,hi,p⟩;have q:=hl i H hi p;by_cases hlt:i<xs.length
 .refine .inr ⟨⟨xs,xs[i],q,by simp[hlt]⟩,Pv (i+1),λH' p'=>⟨xs.length-(i+1),by omega,rfl,hlt,p'⟩,λx H' y=>?_⟩;obtain⟨e,y⟩:=y;subst e;exact hs i x _ (y xs q) p
 .have e:i=xs.length:=by omega
  subst e;exact .inl ⟨⟨xs,q,Wd _⟩,hd H p⟩
def zAL (N:List Str)(sc scope:Scope)(own:List (Str×Nat)):Bool:=
 (match scope.kind with |.function=>true|_=>false)&&(scope.names.all λy=>decide (scope.names.lookup y.1=some y.2))&&(own.all λp=>decide (N[p.2]?=some p.1)) &&
  (scope.names.all λy=>match y.2 with
  |.free=>(match sc.names.lookup y.1 with |some .cell=>true|some .free=>true|_=>false)
  |.local=>decide (y.1∈own.map (·.1))||decide (y.1∉N)
  |.cell=>decide (y.1∈own.map (·.1))||decide (y.1∉N)
  |_=>true)
theorem ZM{N:List Str}{sc scope:Scope}{own:List (Str×Nat)}(h:zAL N sc scope own=true):zFZ N sc scope own:=by
 unfold zAL at h;simp only[yZ,WI,ym] at h;obtain⟨⟨⟨h1,h2⟩,h3⟩,h4⟩:=h;refine⟨?_,h2,h3,λy hy e=>?_,λy hy e=>?_⟩
 .split at h1
  .assumption
  .cases h1
 .have q:=h4 y hy;simp only[e] at q;split at q <;> first|exact .inl (by assumption)|exact .inr (by assumption)|cases q
 .have q:=h4 y hy;rcases e with e|e <;> (simp only[e,Va,ym] at q;exact q)
section
variable {κ:Type} [DecidableEq κ]
def y8 (kvs:List (κ×V))(k:κ):Option V:=(kvs.find? λkv=>decide (kv.1=k)).map (·.2)
def YE (kvs:List (κ×V))(k:κ)(v:V):List (κ×V):=
 if (kvs.any λkv=>decide (kv.1=k))=true then kvs.map (λkv=>if kv.1=k then (kv.1,v) else kv) else kvs++[(k,v)]
theorem zMP{k:κ}:y8 ([]:List (κ×V)) k=none:=rfl
theorem Z0{p:κ×V}{r:List (κ×V)}{k:κ}(e:p.1=k):y8 (p::r) k=some p.2:=by simp[y8,VP,e]
theorem Z1{p:κ×V}{r:List (κ×V)}{k:κ}(e:¬ p.1=k):y8 (p::r) k=y8 r k:=by simp[y8,VP,e]
theorem zAe(k:κ):∀ kvs:List (κ×V),(kvs.any λkv=>decide (kv.1=k))=(y8 kvs k).isSome
|[]=>rfl
|p::r=>by
  rw[Xf];by_cases e:p.1=k
  .simp only[Z0 e,WJ e,UV,Option.isSome_some]
  .rw[Z1 e,WB e,Xg];exact zAe k r
theorem zHd(k j:κ)(y:V):∀ kvs:List (κ×V),y8 (kvs.map λkv=>if kv.1=k then (kv.1,y) else kv) j=(y8 kvs j).map λx=>if j=k then y else x
|[]=>rfl
|p::r=>by
  have ih:=zHd k j y r;rw[Wj];by_cases h:p.1=k
  .rw[Wb h];by_cases e:p.1=j
   .rw[Z0 (p:=(p.1,y)) e,Z0 e,VW,Wb (e.symm.trans h)]
   .rw[Z1 (p:=(p.1,y)) e,Z1 e,ih]
  .rw[Wa h];by_cases e:p.1=j
   .rw[Z0 (p:=p) e,Z0 e,VW,Wa (λz=>h (e.trans z))]
   .rw[Z1 (p:=p) e,Z1 e,ih]
theorem zGp(k j:κ)(y:V):∀ kvs:List (κ×V),y8 kvs k=none->y8 (kvs++[(k,y)]) j=if j=k then some y else y8 kvs j
|[],_=>by
  by_cases e:k=j
  .rw[Wb e.symm];exact Z0 (p:=(k,y)) e
  .rw[Wa (λz=>e z.symm)];exact Z1 (p:=(k,y)) e
|p::r,hn=>by
  rw[List.cons_append];have hk:¬ p.1=k:=λz=>by rw[Z0 z] at hn;cases hn
  rw[Z1 hk] at hn;have ih:=zGp k j y r hn;by_cases e:p.1=j
  .rw[Z0 e,Z0 e,Wa (λz=>hk (e.trans z))]
  .rw[Z1 e,Z1 e,ih]
theorem zMQ(kvs:List (κ×V))(k j:κ)(y:V):y8 (YE kvs k y) j=if j=k then some y else y8 kvs j:=by
 unfold YE;by_cases a:(kvs.any λkv=>decide (kv.1=k))=true
 .rw[Wb a,zHd];rw[zAe] at a;by_cases e:j=k
  .obtain⟨x,hx⟩:=Option.isSome_iff_exists.mp a;rw[Wb e,e,hx,VW,Wb rfl]
  .rw[Wa e];cases y8 kvs j with
  |none=>rfl
  |some x=>rw[VW,Wa e]
 .rw[Wa a];refine zGp k j y kvs ?_;rw[zAe] at a;cases q:y8 kvs k with
 |none=>rfl
 |some x=>rw[q] at a;exact (a rfl).elim
theorem zCu(kvs:List (κ×V))(k:κ)(v:V):(YE kvs k v).length<=kvs.length+1:=by
 unfold YE;split
 .rw[zc];omega
 .rw[Wr,WD,Xc];omega
theorem zMR{kvs:List (κ×V)}{k:κ}(v:V)(h:y8 kvs k=none):YE kvs k v=kvs++[(k,v)]:=by
 unfold YE;rw[zAe,h];exact Wa (by decide)
theorem Yg.isSome_eq{o:Option V}{u:Option Value}(r:Yg o u):o.isSome=u.isSome:=by
 cases o with
|none=>cases u with
 |none=>rfl
 |some _=>exact (show False from r).elim
|some _=>cases u with
 |none=>exact (show False from r).elim
 |some _=>rfl
theorem KV.val{kvs:List (κ×V)}{vs:List (κ×Value)}(r:KV kvs vs)(k:κ):Yg (y8 kvs k) (valueAt vs k):=by
 unfold KV at r
 induction r with
|nil=>exact True.intro
|@cons p q ps qs h t ih=>
  obtain⟨h1,h2⟩:=h;by_cases e:p.1=k
  .have e':q.1=k:=h1.symm.trans e;have b:valueAt (q::qs) k=some q.2:=by simp[valueAt,VP,e']
   rw[Z0 e,b];exact h2
  .have e':¬ q.1=k:=λz=>e (h1.trans z)
   have b:valueAt (q::qs) k=valueAt qs k:=by simp[valueAt,VP,e']
   rw[Z1 e,b];exact ih
theorem KV.any{kvs:List (κ×V)}{vs:List (κ×Value)}(r:KV kvs vs)(k:κ):(kvs.any λkv=>decide (kv.1=k))=vs.any λkv=>decide (kv.1=k):=by
 unfold KV at r
 induction r with
|nil=>rfl
|cons h t ih=>rw[Xf,Xf,ih,h.1]
theorem KV.repl{kvs:List (κ×V)}{vs:List (κ×Value)}(r:KV kvs vs)(k:κ){y:V}{u:Value}(ry:zr y u) :
  KV (kvs.map λkv=>if kv.1=k then (kv.1,y) else kv) (vs.map λkv=>if kv.1=k then (kv.1,u) else kv):=by
 unfold KV at r ⊢
 induction r with
|nil=>exact .nil
|@cons p q ps qs h t ih=>
  rw[Wj,Wj];refine .cons ?_ ih;obtain⟨h1,h2⟩:=h;by_cases e:p.1=k
  .rw[Wb e,Wb (h1.symm.trans e)];exact⟨h1,ry⟩
  .rw[Wa e,Wa (λz=>e (h1.trans z))];exact⟨h1,h2⟩
theorem KV.put{kvs:List (κ×V)}{vs:List (κ×Value)}(r:KV kvs vs)(k:κ){y:V}{u:Value}(ry:zr y u):KV (YE kvs k y) (stored vs k u):=by
 unfold YE stored;rw[r.any k];by_cases e:(vs.any λkv=>decide (kv.1=k))=true
 .rw[Wb e,Wb e];exact r.repl k ry
 .rw[Wa e,Wa e];exact Paired.snoc r ⟨rfl,ry⟩
theorem KV.length{kvs:List (κ×V)}{vs:List (κ×Value)}(r:KV kvs vs):kvs.length=vs.length:=Ui r
end
theorem zHJ{P:Program}{w:World}{k:yF}{u:Value}(r:zr (kV k) u):(yN P w).is k u=true:=by
 cases k with
|inl i=>obtain⟨t,e⟩:=(show ∃ t,u=Value.int i t from r);subst e;exact zId P w i t
|inr x=>obtain⟨t,e⟩:=(show ∃ t,u=Value.str x t from r);subst e;exact zIe P w x t
theorem zGq{P:Program}{w:World}:∀ {ks:List yF}{us:List Value},zd (ks.map kV) us->ItemsAre (yN P w) ks us
|[],_,r=>by rw[V6] at r;cases r;exact .nil
|k::ks,_,r=>by
  rw[Wj] at r;cases r with
 |cons h t=>exact .cons (zHJ h) (zGq t)
abbrev KT(H:Hp):List (List yF×V)->List (List yF×Addr×Value)->Prop:=Paired λp q=>p.1=q.1/\H q.2.1=some (.tup (p.1.map kV))/\zr p.2 q.2.2
theorem KT.val{H:Hp}{kvs:List (List yF×V)}{xs:List (List yF×Addr×Value)}(r:KT H kvs xs)(k:List yF):Yg (y8 kvs k) ((atKey xs k).map (·.2)):=by
 induction r with
|nil=>exact True.intro
|@cons p q ps qs h t ih=>
  obtain⟨h1,_,h2⟩:=h;by_cases e:p.1=k
  .have e':q.1=k:=h1.symm.trans e;have b:atKey (q::qs) k=some q.2:=by simp[atKey,VP,e']
   rw[Z0 e,b];exact h2
  .have e':¬ q.1=k:=λz=>e (h1.trans z)
   have b:atKey (q::qs) k=atKey qs k:=by simp[atKey,VP,e']
   rw[Z1 e,b];exact ih
theorem KT.repl{H:Hp}{kvs:List (List yF×V)}{xs:List (List yF×Addr×Value)}(r:KT H kvs xs)(k:List yF){y:V}{u:Value}(ry:zr y u) :
  KT H (kvs.map λkv=>if kv.1=k then (kv.1,y) else kv) (xs.map (putAt k u)):=by
 induction r with
|nil=>exact .nil
|@cons p q ps qs h t ih=>
  rw[Wj,Wj];refine .cons ?_ ih;obtain⟨h1,h2,h3⟩:=h;unfold putAt;by_cases e:p.1=k
  .rw[Wb e,Wb (h1.symm.trans e)];exact⟨h1,h2,ry⟩
  .rw[Wa e,Wa (λz=>e (h1.trans z))];exact⟨h1,h2,h3⟩
theorem KT.put{H:Hp}{kvs:List (List yF×V)}{xs:List (List yF×Addr×Value)}(r:KT H kvs xs)(k:List yF){b:Addr}{y:V}{u:Value}(hb:H b=some (.tup (k.map kV)))(ry:zr y u) :
  KT H (YE kvs k y) (storedH xs k b u):=by
 have e:(kvs.any λkv=>decide (kv.1=k))=(atKey xs k).isSome:=by
  rw[zAe,(r.val k).isSome_eq,UO]
 unfold YE storedH;rw[e];by_cases q:(atKey xs k).isSome=true
 .rw[Wb q,Wb q];exact r.repl k ry
 .rw[Wa q,Wa q];exact Paired.snoc r ⟨rfl,hb,ry⟩
theorem KT.keeps{H H':Hp}{kvs:List (List yF×V)}{xs:List (List yF×Addr×Value)}(r:KT H kvs xs)(ht:∀ b ys,H b=some (.tup ys)->H' b=some (.tup ys)):KT H' kvs xs:=
 Paired.mapP r λ_ _ z=>⟨z.1,ht _ _ z.2.1,z.2.2⟩
section
variable {P:Program}{w:World}{H:Hp}{h:Heap}{a:Addr}
theorem zNG{u:HO}(ok:Za P w H h)(e:Rd H a u):yj P w H h a u:=e.ok ok
theorem zJ1{kvs:List (yF×V)}(ok:Za P w H h)(e:Rd H a (.dK kvs)):kvs.length<=sizeLine/\(a==sysModules)=false/\∃ vs,KV kvs vs/\h.DictOf (yN P w) a vs:=
 show yj P w H h a (.dK kvs) from zNG ok e
theorem zQu{kvs:List (yF×V)}(ok:Za P w H h)(e:H a=some (.dK kvs)):kvs.length<=sizeLine/\(a==sysModules)=false/\∃ vs,KV kvs vs/\h.DictOf (yN P w) a vs:=zJ1 ok (.inl e)
theorem zD4{ks:List yF}(ok:Za P w H h)(e:H a=some (.tup (ks.map kV))):(tupleKind (yN P w)).is h ks a:=by
 obtain⟨_,its,r,o,h1,h2,n,h3⟩:=(show yj P w H h a (.tup (ks.map kV)) from ok a _ e)
 exact⟨o,its.toArray,n,h1,h2,h3,by simpa using zGq r⟩
theorem zHK{kvs:List (List yF×V)}(ok:Za P w H h)(e:Rd H a (.dT kvs)):kvs.length<=sizeLine/\(a==sysModules)=false/\
  ∃ xs,KT H kvs xs/\h.DictOfH (tupleKind (yN P w)) a xs:=by
 obtain⟨z,y,xs,r,o,es,ep,h1,h2,h3,h4,h5⟩:=(show yj P w H h a (.dT kvs) from zNG ok e)
 refine⟨z,y,xs,r,o,es,ep,h1,h2,h3,h4,λx hx=>?_,h5⟩
 have all:∀ {l:List (List yF×V)}{m:List (List yF×Addr×Value)},KT H l m->∀ x∈m,(tupleKind (yN P w)).is h x.1 x.2.1:=by
  intro l m q
  induction q with
 |nil=>intro x hx;exact nomatch hx
 |@cons p q ps qs hq t ih=>
   intro x hx;rcases Wc.mp hx with e|hx
   .subst e;exact zD4 ok (by rw[<-hq.1];exact hq.2.1)
   .exact ih x hx
 exact all r x hx
theorem zQv{kvs:List (List yF×V)}(ok:Za P w H h)(e:H a=some (.dT kvs)):kvs.length<=sizeLine/\(a==sysModules)=false/\
  ∃ xs,KT H kvs xs/\h.DictOfH (tupleKind (yN P w)) a xs:=zHK ok (.inl e)
end
def zBq (H:Hp)(a:Addr)(y:V)(r:Option V):Prop:=
 (∃ kvs k,Rd H a (.dK kvs)/\y=kV k/\r=y8 kvs k)\/∃ kvs k b,Rd H a (.dT kvs)/\y=.ref b/\H b=some (.tup (k.map kV))/\r=y8 kvs k
def zDV (H:Hp)(a:Addr)(y v:V)(H':Hp):Prop:=
 (∃ kvs k,H a=some (.dK kvs)/\y=kV k/\kvs.length<sizeLine/\H'=upd H a (.dK (YE kvs k v)))\/
 ∃ kvs k b,H a=some (.dT kvs)/\y=.ref b/\H b=some (.tup (k.map kV))/\kvs.length<sizeLine/\H'=upd H a (.dT (YE kvs k v))
theorem zBq.k{H:Hp}{a:Addr}{kvs:List (yF×V)}{k:yF}(e:H a=some (.dK kvs)):zBq H a (kV k) (y8 kvs k):=.inl ⟨kvs,k,.inl e,rfl,rfl⟩
theorem zBq.t{H:Hp}{a b:Addr}{kvs:List (List yF×V)}{k:List yF}(e:H a=some (.dT kvs))(eb:H b=some (.tup (k.map kV))):zBq H a (.ref b) (y8 kvs k):=.inr ⟨kvs,k,b,.inl e,rfl,eb,rfl⟩
theorem zDV.k{H:Hp}{a:Addr}{kvs:List (yF×V)}{k:yF}{v:V}(e:H a=some (.dK kvs))(hl:kvs.length<sizeLine):zDV H a (kV k) v (upd H a (.dK (YE kvs k v))):=.inl ⟨kvs,k,e,rfl,hl,rfl⟩
theorem zDV.t{H:Hp}{a b:Addr}{kvs:List (List yF×V)}{k:List yF}{v:V}(e:H a=some (.dT kvs))(eb:H b=some (.tup (k.map kV)))(hl:kvs.length<sizeLine) :
  zDV H a (.ref b) v (upd H a (.dT (YE kvs k v))):=.inr ⟨kvs,k,b,e,rfl,eb,hl,rfl⟩
section
variable {X:Cx}{pins:Qp}{σ:St}{H:Hp}{s:Shared}{a:Addr}{y v:V}{u r:Value}{o:Option V}{A:Around}{E:Qs}
theorem zK.big(I:zK X pins σ H s):sysModules<s.heap.objs.size:=by
 have h:mainGlobals<s.heap.objs.size:=(I.mod.glob.keeps I.bk).lt;exact Vy (by decide) h
theorem zRn{Q:Qs}(hu:A.units+1<cLine)(I:zK X pins σ H s)(g:zBq H a y o)(ry:zr y u)(h:∀ s',zK X pins σ H s'->Q (.bool o.isSome) s') :
  wpAny (model X.prog X.w) A (compareOp .In u (.ref a)) Q E s:=by
 rcases g with ⟨kvs,k,e,ey,l⟩|⟨kvs,k,b,e,ey,eb,l⟩
 .subst ey;obtain⟨z,hd,vs,rel,dd⟩:=zJ1 I.hok e;refine wpAny_in_of (zHJ ry) hd dd.mapOf ?_;rw[<-(rel.val k).isSome_eq,<-l];exact h _ (I.tok _)
 .subst ey;cases (show u=Value.ref b from ry);obtain⟨z,hd,xs,rel,dd⟩:=zHK I.hok e;refine wpAny_in_heap (UK hu) (zD4 I.hok eb) hd dd ?_;have q:=(rel.val k).isSome_eq;rw[UO] at q;rw[<-q,<-l];exact h _ (I.tok _)
theorem zN0{Q:Qs}(hu:A.units+1<cLine)(I:zK X pins σ H s)(g:zBq H a y o)(ry:zr y u)(h:∀ s',zK X pins σ H s'->Q (.bool (!o.isSome)) s') :
  wpAny (model X.prog X.w) A (compareOp .NotIn u (.ref a)) Q E s:=by
 rcases g with ⟨kvs,k,e,ey,l⟩|⟨kvs,k,b,e,ey,eb,l⟩
 .subst ey;obtain⟨z,hd,vs,rel,dd⟩:=zJ1 I.hok e;refine wpAny_notIn_of (zHJ ry) hd dd.mapOf ?_;rw[<-(rel.val k).isSome_eq,<-l];exact h _ (I.tok _)
 .subst ey;cases (show u=Value.ref b from ry);obtain⟨z,hd,xs,rel,dd⟩:=zHK I.hok e;refine wpAny_notIn_heap (UK hu) (zD4 I.hok eb) hd dd ?_;have q:=(rel.val k).isSome_eq;rw[UO] at q;rw[<-q,<-l];exact h _ (I.tok _)
theorem zI2{h':Heap}{t':Nat}{ob:HO}(I:zK X pins σ H s)(mu:Mut (H a))(hs:Heap.SameBut a s.heap h')(he:∃ q,h'.get? a=some q)(new:yj X.prog X.w (upd H a ob) h' a ob) :
  zK X pins σ (upd H a ob) {s with heap:=h',toks:=t'}:=
 I.write (x:=a) (e:=a) mu (.inl rfl) (λb q hb z=>(hs.2 b hb).trans z) he new
theorem zPd{P:Program}{w:World}{H':Hp}{h':Heap}{kvs:List (yF×V)}{vs:List (yF×Value)}(z:kvs.length<=sizeLine)(hd:(a==sysModules)=false)(rel:KV kvs vs)(dd:h'.DictOf (yN P w) a vs) :
  yj P w H' h' a (.dK kvs):=⟨z,hd,vs,rel,dd⟩
theorem zLG{H':Hp}{Q:Unit->Shared->Prop}(hu:A.units+1<cLine)(I:zK X pins σ H s)(g:zDV H a y v H')(ry:zr y u)(rv:zr v r)(h:∀ s',zK X pins σ H' s'->Q () s') :
  wpAny (model X.prog X.w) A (setItem (.ref a) u r) Q E s:=by
 rcases g with ⟨kvs,k,e,ey,l,eH⟩|⟨kvs,k,b,e,ey,eb,l,eH⟩
 .subst ey eH;obtain⟨z,hd,vs,rel,dd⟩:=zQu I.hok e;have hz:vs.length<=sizeLine:=by rw[<-rel.length];exact z
  have hl:(YE kvs k v).length<=sizeLine:=by have:=zCu kvs k v;omega
  refine wpAny_setItem_pairs (hsz:=hz) (zHJ ry) dd λh' dd' hs=>h _ ?_
  have he:∃ q,h'.get? a=some q:=let ⟨q,_,_,hq,_⟩:=dd';⟨q,hq⟩;exact zI2 I (by rw[e];exact True.intro) hs he (zPd hl hd (rel.put k rv) dd')
 .subst ey eH;cases (show u=Value.ref b from ry);obtain⟨z,hd,xs,rel,dd⟩:=zQv I.hok e;have hz:xs.length<=sizeLine:=by rw[<-Ui rel];exact z
  have hl:(YE kvs k v).length<=sizeLine:=by have:=zCu kvs k v;omega
  refine wpAny_setItem_heap (hsz:=hz) (UK hu) (zD4 I.hok eb) dd λh' dd' hs=>h _ ?_
  obtain⟨q,es,ep,hq,h2,h3,h4,_,h5⟩:=dd';refine zI2 I (by rw[e];exact True.intro) hs ⟨q,hq⟩ ⟨hl,hd,_,(rel.put k eb rv).keeps λc ys ec=>?_,q,es,ep,hq,h2,h3,h4,h5⟩;rw[zG (zQi ec e (λz=>nomatch z))];exact ec
end
def zRo (ty td:TE):TE:=λσ H Q=>ty σ H λy H1=>td σ H1 λx H2=>∃ a o,x=.ref a/\zBq H2 a y o/\Q (.bl o.isSome) H2
def zN1 (ty td:TE):TE:=λσ H Q=>ty σ H λy H1=>td σ H1 λx H2=>∃ a o,x=.ref a/\zBq H2 a y o/\Q (.bl (!o.isSome)) H2
def zQw (td ty tv:TE):TS:=λD σ H=>tv σ H λv H1=>td σ H1 λx H2=>ty σ H2 λy H3=>∃ a H4,x=.ref a/\zDV H3 a y v H4/\D.nx σ H4
section
variable {X:Cx}{o i e value:Expr}{pos pos' tpos:Pos}{td ty tv:TE}
theorem zHe(hu:X.A.units+1<cLine)(hi:PE X i ty)(ho:PE X o td):PC X .In i o (zRo ty td):=by
 intro pins s σ H Q I h;refine zv (hi pins s σ H _ I h) λiv s1 ⟨y,H1,I1,ry,q1⟩=>zv (ho pins s1 σ H1 _ I1 q1) λu s2 ⟨x,H2,I2,rx,a,ov,ex,g,q2⟩=>?_
 subst ex;obtain rfl:u=Value.ref a:=rx;exact zRn hu I2 g ry λs3 I3=>⟨.bl ov.isSome,H2,I3,rfl,q2⟩
theorem zLH(hu:X.A.units+1<cLine)(hi:PE X i ty)(ho:PE X o td):PC X .NotIn i o (zN1 ty td):=by
 intro pins s σ H Q I h;refine zv (hi pins s σ H _ I h) λiv s1 ⟨y,H1,I1,ry,q1⟩=>zv (ho pins s1 σ H1 _ I1 q1) λu s2 ⟨x,H2,I2,rx,a,ov,ex,g,q2⟩=>?_
 subst ex;obtain rfl:u=Value.ref a:=rx;exact zN0 hu I2 g ry λs3 I3=>⟨.bl (!ov.isSome),H2,I3,rfl,q2⟩
theorem zGC(hu:X.A.units+1<cLine)(ho:PE X o td)(hi:PE X i ty)(hv:PE X value tv)(hs:swapsWith value (some (.Subscript o i pos')) pos.line X.env=pure false) :
  PS X (.Assign [.Subscript o i pos'] value pos) (zQw td ty tv):=by
 intro pins s σ H D I h;refine wpAny_Assign_Subscript (zv (hv pins s σ H _ I h) λr s1 ⟨v,H1,I1,rv,q1⟩=>zv (ho pins s1 σ H1 _ I1 q1) λu s2 ⟨x,H2,I2,rx,q2⟩=>zv (hi pins s2 σ H2 _ I2 q2) λiv s3 ⟨y,H3,I3,ry,a,H4,ex,g,q3⟩=>?_) hs;subst ex;obtain rfl:u=Value.ref a:=rx;exact zLG hu I3 g ry rv λs4 I4=>⟨σ,H4,I4,q3⟩
end
theorem zMS{P:Program}{w:World}{H:Hp}(h:Heap)(hb:sysModules<h.objs.size):yj P w H (h.push {cls:=.type "dict",data:=.dict #[]}) h.objs.size (.dK []):=
 ⟨WH _,Vd.mpr (Ne.symm (WE hb)),[],.nil,Heap.DictOf.new h⟩
theorem zMT{P:Program}{w:World}{H:Hp}(h:Heap)(hb:sysModules<h.objs.size):yj P w H (h.push {cls:=.type "dict",data:=.dict #[]}) h.objs.size (.dT []):=
 ⟨WH _,Vd.mpr (Ne.symm (WE hb)),[],.nil,_,#[],0,WG _ rfl,⟨rfl,rfl,rfl⟩,rfl,rfl,Vl⟩
def zPe:TE:=λ_ H Q=>∀ p,H p=none->Q (.ref p) (upd H p (.dK []))
def zPf:TE:=λ_ H Q=>∀ p,H p=none->Q (.ref p) (upd H p (.dT []))
section
variable {X:Cx}{pos:Pos}
theorem zMU:PE X (.Dict [] [] pos) zPe:=λpins s σ H Q I h=>
 wpAny_Dict_empty ⟨.ref s.heap.objs.size,_,I.laid (a:=s.heap.objs.size) (o:=.dK []) (t':=s.toks) (λ_ _ q=>Wf _ q) (Wd _) (zMS s.heap I.big),rfl,h _ (I.hok.fresh (Wd _))⟩
theorem zHf:PE X (.Dict [] [] pos) zPf:=λpins s σ H Q I h=>
 wpAny_Dict_empty ⟨.ref s.heap.objs.size,_,I.laid (a:=s.heap.objs.size) (o:=.dT []) (t':=s.toks) (λ_ _ q=>Wf _ q) (Wd _) (zMT s.heap I.big),rfl,h _ (I.hok.fresh (Wd _))⟩
end
theorem zGD:typeLookup (.type "list") "keys" = pure none:=am_miss_of_fast (by first|decide +kernel|rfl)
theorem zHg:entryFor table "dict.update.loop" = some Builtin.«dict.update.loop»:=entryFor_of_tree (by kernel_rfl)
theorem zCG:plainId "dict.update.loop" = true:=by decide +kernel
section
variable {prog:Program}{w:World}{A:Around}{E:Qs}
theorem zLI{s:Shared}{a:Addr}{o:Obj}{xs:Array Value}{k:Nat}{Q:Option Value->Shared->Prop}(hx:s.heap.get? a=some o)(hc:o.cls=.type "list")(hdat:o.data=.seq xs k)(hd:o.dict=none)(hA:A.handled=none)
  (h:∀ h' tk,(∀ b ob,s.heap.get? b=some ob->h'.get? b=some ob)->Q none {s with heap:=h',toks:=tk}):wpAny (model prog w) A (getAttr? (.ref a) "keys") Q E s:=by
 obtain⟨c,dct,dat,sl⟩:=o;simp only at hc hdat hd;subst hc hdat hd;obtain⟨hp,g,d,tk,os⟩:=s;have hT:∀ tk',(⟨hp,g,d,tk',os⟩:Shared).TypeIs (.ref a) "list":=λ_=>⟨_,hx,rfl⟩
 have hmiss:=zGD;have hname:(["__module__","__name__","__qualname__","__doc__","__annotations__"]:List Str).contains "keys" = false:=by decide +kernel
 have hsz:("keys" : Str).length+100<=sizeLine:=by first|size_fits|decide +kernel
 have f1:=sub_AttributeError;have f3:=PySem.F.slot_list_getattribute.lookup;have f4:=PySem.F.slot_list_getattribute.bind (.ref a);have f5:=am_list_getattr_none;unfold getAttr? getAttrBy? getAttrBy
 repeat (any_goals (first|assumption|exact hT _|((with_reducible show wpAny _ _ (call (Value.builtin "list.__getattribute__") _ _) _ _ _);refine call_meets PySem.F.slot_list_getattribute (hT _) am_entry_list_getattribute (PySem.F.args_list_getattribute_2 _ _) (meets_getattribute_miss_list a xs k sl "keys" _ hmiss hname hsz) ⟨hx,hA,λh' tk' e hx'=>?_⟩)|wp_step))
 obtain⟨t',u',he⟩:=hx'.there;show wpAny _ _ (getattributeRaised _ _ _ _ _ _ _) _ _ _;unfold getattributeRaised
 repeat (any_goals (first|assumption|wp_step))
 all_goals first|exact h _ _ hx'.keeps|(dsimp only;repeat (any_goals (first|assumption|exact h _ _ hx'.keeps|wp_step)))
end
section
variable {X:Cx}
theorem zI3:∀ {ps:List Addr}{us:List Value},zd (ps.map V.ref) us->us=ps.map Value.ref
|[],us,r=>by
  rw[V6] at r;cases r;rfl
|p::ps,us,r=>by
  rw[Wj] at r;cases r with
 |cons h t=>
   cases h;rw[Wj,<-zI3 t]
end
theorem zGE:bootBuiltins "reversed" = some (.type "reversed"):=by decide +kernel
section
variable {X:Cx}{pins:Qp}{σ:St}{H:Hp}{s:Shared}{h':Heap}
theorem zK.turnedNew{t':Nat}{ch:List Addr}{T:Addr}{ob:HO}(I:zK X pins σ H s)(k:∀ b o,b∉ch->s.heap.get? b=some o->h'.get? b=some o)(hf:∀ b∈ch,zCD X pins H b)(hT:s.heap.objs.size<=T)
  (new:yj X.prog X.w (upd H T ob) h' T ob):zK X pins σ (upd H T ob) {s with heap:=h',toks:=t'}:=by
 have hn:H T=none:=I.hok.fresh hT
 have nit:∀ b u,H b=some u->b∉ch:=λb u e z=>by
  have q:=(hf b z).1;rw[q] at e;cases e
 refine I.step (g':=s.gens) (d':=s.drawn) (ch:=ch) (λb hb=>⟨(hf b hb).2.2.2.1,(hf b hb).2.1,(hf b hb).2.2.2.2.1,(hf b hb).2.2.2.2.2⟩) (λb o _ _ hc e _=>k b o hc e) (λb o _ _ hc e _=>⟨o.slots,k b o hc e⟩)
  (λb o _ e n=>?_) (λb o hc e=>⟨o,k b o hc e⟩) (λb xs e=>?_) (λb o u e=>?_) (λb ps e=>⟨#[],?_⟩) (λm hm=>?_) (λb u e=>?_) I.bare
 .rw[zG (WE (yU (Wl e) hT))];exact n
 .rw[zG (zN e hn)];exact e
 .rw[zG (zN e hn)];exact e
 .rw[zG (zN e hn),e];simp
 .obtain⟨o,es,ep,ho,r⟩:=hm;exact⟨o,es,ep,k _ o (λz=>(hf _ z).2.1 rfl) ho,r⟩
 .by_cases hb:b=T
  .subst hb;rw[zF] at e;cases e;exact new
  .rw[zG hb] at e;refine (I.hok b u e).stay (λc v hc q=>k c v ?_ q) (λc q=>by rw[zG (zN q hn)];exact q) λc xs q=>by rw[zG (zN q hn)];exact q
   rcases hc with z|z
   .rw[z];exact nit b u e
   .exact nit c _ z
end
section
variable {X:Cx}
theorem zLJ{tg:Expr}{pins:Qp}{σ:St}{H:Hp}{s:Shared}{R:It->Hp->Prop}{J:It}{tn:Nat->Heap->Prop}{tk:Nat}(I:zK X pins σ H s)(o:Obj)
  (T:zDx X.prog X.w X.K tg J [s.heap.objs.size] s.heap.objs.size tn)(st:tn 0 (s.heap.push o))(q:R J H):PIE X pins σ tg R (.ref s.heap.objs.size) {s with heap:=s.heap.push o,toks:=tk}:=by
 refine⟨s.heap.objs.size,[s.heap.objs.size],tn,J,H,rfl,I.kept λb ob e=>Wf _ e,T,st,λb hb=>?_,q⟩;have e:b=s.heap.objs.size:=by simpa using hb
 subst e;exact I.fpOk (Wd _) (I.hok.fresh (Wd _))
end
def Itc (lo c:Int)(n:Nat):It:=⟨λi _=>i<n,λi H x H'=>H'=H/\x=.int (lo+(i:Nat)*c),λi _=>n<=i⟩
theorem zIi{P:Program}{w:World}{K:Qf}{tg:Expr}(it:Addr)(lo c:Int)(n:Nat):zDx P w K tg (Itc lo c n) [it] it (λi h=>IsRangeIter h it (lo+(i:Nat)*c) ((n:Int)-(i:Nat)) c) where
 mem:=by simp
 obj:=λi h st b hb=>by
  have e:b=it:=by simpa using hb
  subst e;exact⟨_,st,λv z=>nomatch z⟩
 keep:=λi h h' st k=>k it (by simp) _ st
 item:=by
  intro X hP hw hK hc i pins s σ H E I hf st hg;subst hP hw hK;obtain⟨f0,f1,f2,f3,f4,f5⟩:=hf it (by simp);have W:=Walks.range (prog:=X.prog) (w:=X.w) (I.ok.hd hc) it lo c n;refine W.item i s _ _ hg st λv h' tk hv st' kk=>?_
  obtain⟨t,rfl⟩:=hv;have I1:zK X pins σ H {s with heap:=h',toks:=tk}:=I.turned (λb o hb e=>kk b o (by simpa using hb) e) f0 f1 f3 f4 f5;exact⟨_,rfl,zFT (s:={s with heap:=h',toks:=tk}) (n:="range_iterator") st' rfl rfl (by decide) ⟨.int (lo+(i:Nat)*c),H,I1,⟨t,rfl⟩,⟨rfl,rfl⟩,st',λb hb=>(hf b hb).1⟩⟩
 done:=by
  intro X hP hw hK hc i pins s σ H E I hf st hg;subst hP hw hK;obtain⟨f0,f1,f2,f3,f4,f5⟩:=hf it (by simp);exact wpAny_pyNext_range_end (I.ok.hd hc) st (by have:n<=i:=hg;omega) λh' eb=>⟨rfl,I.turned (t':=s.toks) (λb o hb e=>eb b o hb e) f0 f1 f3 f4 f5⟩
 self:=λA i s Q E st h=>wpAny_pyIter_rangeiter st h
def RgC (i j c:Int)(n:Nat):Prop:=c≠0/\c.natAbs<1073741824/\Builtin.Range.small i j c=true/\Builtin.Range.rangeSize i j c=n
def zQx (ta:TA):TI:=λσ H R=>ta σ H λvs H1=>∃ (i j c:Int) (n:Nat),vs=[.int i,.int j,.int c]/\RgC i j c n/\R (Itc i c n) H1
section
variable {X:Cx}{tg:Expr}
theorem zBh{a b c:Expr}{ta:TA}{p pos:Pos}(hg:Gl X "range")(hm:X.mg "range" = none)(ha:PA X [a,b,c] ta)
  (hs:starEach [a,b,c] X.env=(false,eval a X.env)::starEach [b,c] X.env:=by rfl)(hpl:(backTo pos (starEach [b,c] X.env)).any (·.1)=false:=by rfl) :
  PI X tg (.Call (.Name "range" p) [a,b,c] [] pos) (zQx ta):=by
 intro pins s σ H R I h;refine Call_ (zCA I hg hm boot_range (Vw (zv (ha pos pins s σ H _ I h) λus s1 ⟨vs,H1,I1,r1,q1⟩=>?_) hs hpl));obtain⟨i,j,k,n,e,⟨c0,c1,c2,c3⟩,q⟩:=q1;subst e;cases r1 with
|cons r rr=>
  cases rr with
 |cons r' rr=>
   cases rr with
  |cons r'' rr=>
    cases rr;obtain⟨t,rfl⟩:=r;obtain⟨t',rfl⟩:=r';obtain⟨t'',rfl⟩:=r'';refine call_range_3 c0 ?_ (.inl (PyProof.noPylong_small c1));refine wpAny_pyIter_range (IsRange.new ..) c2 ?_;have I2:zK X pins σ H1 {s1 with heap:=s1.heap.push {cls:=.type "range",data:=.fields #[.int i t,.int j t',.int k t'']}}:=I1.kept (t':=s1.toks) λb o e=>Wf _ e
    refine zLJ (tk:=s1.toks) I2 _ (zIi _ i k n) ?_ q;have e1:i+((0:Nat):Int)*k=i:=by simp
    have e2:(n:Int)-((0:Nat):Int)=Builtin.Range.rangeSize i j k:=by rw[c3];simp
    show IsRangeIter _ _ (i+((0:Nat):Int)*k) ((n:Int)-((0:Nat):Int)) k;rw[e1,e2];exact WG _ rfl
end
theorem zJ2{lo c:Int}{n:Nat}{g:TG}{tb:TS}{D:Yx}{σ:St}{H:Hp}(Pv:Nat->St->Hp->Prop)(h0:Pv 0 σ H)
  (hs:∀ i σ H,i<n->Pv i σ H->g (.int (lo+(i:Nat)*c)) σ H λσ2 H2=>tb {D with nx:=Pv (i+1),ct:=Pv (i+1),bk:=D.nx} σ2 H2)(hd:∀ σ H,Pv n σ H->D.nx σ H) :
  ∃ W:Nat->Nat->St->Hp->Prop,(∃ m,W 0 m σ H)/\∀ i m σ H,W i m σ H->
   ((Itc lo c n).stop i H/\D.nx σ H)\/((Itc lo c n).go i H/\∃ N:St->Hp->Prop,(∀ σ' H',N σ' H'->∃ m',m'<m/\W (i+1) m' σ' H')/\∀ x H',(Itc lo c n).yld i H x H'->g x σ H' λσ2 H2=>tb {D with nx:=N,ct:=N,bk:=D.nx} σ2 H2):=by
 refine⟨λi m σ H=>m=n-i/\i<=n/\Pv i σ H,⟨n,by simp,WH _,h0⟩,?_⟩;rintro i m σ H ⟨rfl,hi,p⟩;by_cases hlt:i<n
 .refine .inr ⟨hlt,Pv (i+1),λσ' H' p'=>⟨n-(i+1),by omega,rfl,hlt,p'⟩,λx H' y=>?_⟩;obtain⟨e,y⟩:=y;subst e y;exact hs i σ _ hlt p
 .have e:i=n:=by omega
  subst e;exact .inl ⟨Wd _,hd σ H p⟩
def Itv (K:Qf)(a:Addr)(n:Nat):It:=
 ⟨λi H=>i<n/\∃ (xs:List V) (x:V),zM K H a xs/\xs[n-1-i]?=some x,λi H x H'=>H'=H/\∀ xs,zM K H a xs->xs[n-1-i]?=some x,λi _=>n<=i⟩
theorem zMV{P:Program}{w:World}{K:Qf}{tg:Expr}(a it:Addr)(n:Nat):zDx P w K tg (Itv K a n) [it] it (λi h=>i<=n/\h.IsRevIter it a ((n:Int)-1-(i:Nat))) where
 mem:=by simp
 obj:=λi h st b hb=>by
  have e:b=it:=by simpa using hb
  subst e;obtain⟨_,o,e,c,d⟩:=st;exact⟨o,e,λv z=>by rw[d] at z;cases z⟩
 keep:=λi h h' st k=>⟨st.1,st.2.at λo e=>k it (by simp) o e⟩
 item:=by
  intro X hP hw hK hc i pins s σ H E I hf st hg;subst hP hw hK;obtain⟨hin,xs,x,hq,hx⟩:=hg;obtain⟨its,rv,p,hz⟩:=I.list hq;obtain⟨u,hu,ru⟩:=rv.get hx;obtain⟨f0,f1,f2,f3,f4,f5⟩:=hf it (by simp);obtain⟨_,hit⟩:=st;have e1:(n:Int)-1-((i:Nat):Int)=((n-1-i:Nat):Int):=by omega
  rw[e1] at hit;refine wpAny_pyNext_rev_item hit p.isList (x:=u) (by simpa using hu) λh' st' sb=>?_
  have e2:((n-1-i:Nat):Int)-1=(n:Int)-1-((i+1:Nat):Int):=by omega
  rw[e2] at st';have I1:zK X pins σ H {s with heap:=h'}:=I.turned (t':=s.toks) (λb o hb e=>(sb.2 b hb).trans e) f0 f1 f3 f4 f5;obtain⟨o,e,c,d⟩:=id st';exact⟨u,rfl,zFT (s:={s with heap:=h'}) e c d (by decide) ⟨x,H,I1,ru,⟨rfl,λys hy=>by rw[I.list_inj hy hq];exact hx⟩,⟨hin,st'⟩,λb hb=>(hf b hb).1⟩⟩
 done:=by
  intro X hP hw hK hc i pins s σ H E I hf st hg;subst hP hw hK;obtain⟨f0,f1,f2,f3,f4,f5⟩:=hf it (by simp);obtain⟨hin,hit⟩:=st;have hge:n<=i:=hg;have e1:(n:Int)-1-((i:Nat):Int) = -1:=by omega
  rw[e1] at hit;exact wpAny_pyNext_rev_end (I.ok.hd hc) hit λh' eb=>⟨rfl,I.turned (t':=s.toks) (λb o hb e=>eb b o hb e) f0 f1 f3 f4 f5⟩
 self:=λA i s Q E st h=>wpAny_pyIter_revIter st.2 h
def zRp (K:Qf)(ta:TA):TI:=λσ H R=>ta σ H λvs H1=>∃ (a:Addr) (xs:List V),vs=[.ref a]/\zM K H1 a xs/\R (Itv K a xs.length) H1
section
variable {X:Cx}{tg:Expr}
theorem zIj{e:Expr}{ta:TA}{p pos:Pos}(hg:Gl X "reversed")(hm:X.mg "reversed" = none)(ha:PA X [e] ta)(hs:starEach [e] X.env=[(false,eval e X.env)]:=by rfl):PI X tg (.Call (.Name "reversed" p) [e] [] pos) (zRp X.K ta):=by
 intro pins s σ H R I h;refine Call_ (zCA I hg hm zGE (Vw (zv (ha pos pins s σ H _ I h) λus s1 ⟨vs,H1,I1,r1,q1⟩=>?_) hs rfl));obtain⟨a,xs,e,hq,q⟩:=q1;subst e;cases r1 with
|cons r rr=>
  cases rr;cases r;obtain⟨its,rv,p',hz⟩:=I1.list hq;have hl:=rv.length;have e1:((its.toArray.size:Nat):Int)-1=(xs.length:Int)-1-((0:Nat):Int):=by simp only[WA];omega
  refine call_reversed_list p'.isList (wpAny_pyIter_revIter (l:=a) (i:=((its.toArray.size:Nat):Int)-1) ⟨_,WG _ rfl,rfl,rfl⟩ ?_);refine zLJ (tk:=s1.toks) I1 _ (zMV a _ xs.length) ⟨WH _,?_⟩ q;rw[<-e1];exact⟨_,WG _ rfl,rfl,rfl⟩
end
def Ite (K:Qf)(a:Addr):It:=
 ⟨λi H=>∃ (xs:List V) (x:V),zM K H a xs/\xs[i]?=some x,λi H v H'=>∃ T x,v=.ref T/\H T=none/\H'=upd H T (.tup [.int (i:Nat),x])/\∀ xs,zM K H a xs->xs[i]?=some x,λi H=>∃ xs:List V,zM K H a xs/\xs.length<=i⟩
theorem zLK{P:Program}{w:World}{K:Qf}{elts:List Expr}{kk:Nat}{tpos:Pos}(a e it:Addr) :
  zDx P w K (.Tuple elts kk tpos) (Ite K a) [e,it] e (λi h=>(∃ old,IsEnum h e it ((i:Nat):Int) old)/\h.IsListIter it a i/\e≠it) where
 mem:=by simp
 obj:=λi h st b hb=>by
  obtain⟨⟨old,he⟩,⟨o,ho,hc,hd⟩,_⟩:=st;have e':b=e\/b=it:=by simpa using hb
  rcases e' with z|z
  .rw[z];exact⟨_,he,λv q=>nomatch q⟩
  .rw[z];exact⟨o,ho,λv q=>by rw[hd] at q;cases q⟩
 keep:=λi h h' st k=>let ⟨⟨old,he⟩,hi,hne⟩:=st;⟨⟨old,k e (by simp) _ he⟩,hi.at λo q=>k it (by simp) o q,hne⟩
 item:=by
  intro X hP hw hK hc i pins s σ H E I hf st hg;subst hP hw hK;obtain⟨⟨old,he⟩,hit,hne⟩:=st;obtain⟨xs,x,hq,hx⟩:=hg;obtain⟨its,rv,p,hz⟩:=I.list hq;obtain⟨u,hu,ru⟩:=rv.get hx;have hel:e<s.heap.objs.size:=Wl he;have hil:it<s.heap.objs.size:=by obtain⟨_,q,_⟩:=hit;exact Wl q
  refine wpAny_pyNext_enum_item he hit p.isList (x:=u) (by simpa using hu) hne λh' ho hit' hT hsz hk=>?_
  refine⟨_,rfl,wpAny_letOwnedTupleGo_enum (s:={s with heap:=h',toks:=s.toks+1}) ho λh'' he' sb=>?_⟩;have hT2:h''.get? s.heap.objs.size=some {cls:=.type "tuple",data:=.seq #[.int i s.toks,u]}:=(sb.2 _ (UP hel)).trans hT
  have new:yj X.prog X.w (upd H s.heap.objs.size (.tup [.int (i:Nat),x])) h'' s.heap.objs.size (.tup [.int (i:Nat),x]):=
   ⟨by show 2<=sizeLine;decide,[.int i s.toks,u],.cons ⟨_,rfl⟩ (.cons ru .nil),⟨_,hT2,rfl,_,rfl⟩⟩
  have I1:zK X pins σ (upd H s.heap.objs.size (.tup [.int (i:Nat),x])) {s with heap:=h'',toks:=s.toks+1}:=
   I.turnedNew (ch:=[e,it]) (λb ob hb q=>(sb.2 b (λz=>hb (by simp[z]))).trans (hk b ob (λz=>hb (by simp[z])) (λz=>hb (by simp[z])) q)) hf (Wd _) new
  refine⟨.ref s.heap.objs.size,_,I1,rfl,⟨_,x,rfl,I.hok.fresh (Wd _),rfl,λys hy=>by rw[I.list_inj hy hq];exact hx⟩,⟨⟨u,?_⟩,hit'.at λo q=>(sb.2 it (Ne.symm hne)).trans q,hne⟩,λb hb=>?_⟩
  .have e1:((i+1:Nat):Int)=(i:Int)+1:=by omega
   rw[e1];exact he'
  .have hb':b<s.heap.objs.size:=by
    have e':b=e\/b=it:=by simpa using hb
    rcases e' with z|z
    .rw[z];exact hel
    .rw[z];exact hil
   rw[zG (WE hb')];exact (hf b hb).1
 done:=by
  intro X hP hw hK hc i pins s σ H E I hf st hg;subst hP hw hK;obtain⟨⟨old,he⟩,hit,hne⟩:=st;obtain⟨xs,hq,hx⟩:=hg;obtain⟨its,rv,p,hz⟩:=I.list hq;obtain⟨f0,f1,f2,f3,f4,f5⟩:=hf it (by simp);have hl:=rv.length;exact wpAny_pyNext_enum_end (I.ok.hd hc) he hit p.isList (by simp;omega) λh' eb=>⟨rfl,I.turned (t':=s.toks) (λb o hb q=>eb b o hb q) f0 f1 f3 f4 f5⟩
 self:=λA i s Q E st h=>let ⟨⟨_,he⟩,_⟩:=st;wpAny_pyIter_enum he h
def zQy (K:Qf)(ta:TA):TI:=λσ H R=>ta σ H λvs H1=>∃ a xs,vs=[.ref a]/\zM K H1 a xs/\R (Ite K a) H1
theorem YW{X:Cx}{e:Expr}{ta:TA}{p pos tpos:Pos}{elts:List Expr}{kk:Nat}(hg:Gl X "enumerate")(hm:X.mg "enumerate" = none)(ha:PA X [e] ta)(hs:starEach [e] X.env=[(false,eval e X.env)]:=by rfl) :
  PI X (.Tuple elts kk tpos) (.Call (.Name "enumerate" p) [e] [] pos) (zQy X.K ta):=by
 intro pins s σ H R I h;refine Call_ (zCA I hg hm boot_enumerate (Vw (zv (ha pos pins s σ H _ I h) λus s1 ⟨vs,H1,I1,r1,q1⟩=>?_) hs rfl));obtain⟨a,xs,ex,hq,q⟩:=q1;subst ex;cases r1 with
|cons r rr=>
  cases rr;cases r;obtain⟨its,rv,p',hz⟩:=I1.list hq;refine call_enumerate_list p'.isList λh' he hit hsz hk=>wpAny_pyIter_enum he ?_
  have I2:zK X pins σ H1 {s1 with heap:=h'}:=I1.kept (t':=s1.toks) hk;refine⟨s1.heap.objs.size+1,[s1.heap.objs.size+1,s1.heap.objs.size],_,_,H1,rfl,I2,zLK a (s1.heap.objs.size+1) s1.heap.objs.size,⟨⟨.none,he⟩,hit,Nat.succ_ne_self _⟩,λb hb=>?_,q⟩;have e':b=s1.heap.objs.size+1\/b=s1.heap.objs.size:=by simpa using hb
  have hle:s1.heap.objs.size<=b:=by
   rcases e' with z|z
   .rw[z];exact Um _ _
   .rw[z];exact Wd _
  exact I1.fpOk hle (I1.hok.fresh hle)
end L2
section
namespace TL
open PySem PySem.Builtin PySem.Builtin.Str PySem.StrLaws
abbrev tl(x:Str):List Nat:=x.cps.toList
def pre (S l:List Nat):Bool:=l.take S.length==S
def par (S:List Nat):List Nat->List Nat->Option (List Nat×List Nat)
|_,[]=>none
|acc,c::r=>if pre S (c::r)=true then some (acc,(c::r).drop S.length) else par S (acc++[c]) r
end TL
end
namespace L2
open PySem PySem.Spec PyProof.Rows
def zAH (s:Stmt)(j:Nat):Stmt:=match s with
|.ClassDef _ _ _ body _ _ _ _ _ _ _=>body.getD j (.Pass ⟨0,0,0,0⟩)
|_=>.Pass ⟨0,0,0,0⟩
def YF (s:Stmt):Arguments:=match s with
|.FunctionDef _ a _ _ _ _ _ _ _ _=>a
|_=>{posonlyargs:=[],args:=[],vararg:=none,kwonlyargs:=[],kw_defaults:=[],kwarg:=none,defaults:=[]}
def ZN (s:Stmt):List Stmt:=match s with
|.FunctionDef _ _ b _ _ _ _ _ _ _=>b
|_=>[]
def zI (s:Stmt):Scope:=match s with
|.FunctionDef _ _ _ _ _ _ sc _ _ _=>sc
|_=>{kind:=.function,names:=[],isGenerator:=false,isCoroutine:=false}
abbrev CX0:CXT:=λ_ _ _ _ _ _=>False
abbrev E0:XK:=λ_ _ _=>False
theorem zHL{X:Cx}:Ys CX0 X E0:=λ_ _ _ _ _ _ _ h=>h.elim
structure Fun(K:Qf)(x qual:Str)(st:Stmt)(f:Addr)(fd:FuncData):Prop where
 ex:∃ (oc:Value) (od:Option Addr) (kV doc pm:Value) (an:Option Addr) (cdv ct:Value) (osl:Array (Option Value)),
  fd=PySem.W.fnOf x qual (YF st) (ZN st) (zI st) .none kV doc pm an cdv ct/\K.lookup f=some ⟨oc,od,.func fd,osl⟩/\PySem.W.codeIn K cdv qual=true
 kp:PySem.W.keepIn K (.ref f)=true
section
variable {P:Program}{w:World}{K:Qf}{mg:Qm}{base:Heap}
theorem Fun.ok{x qual:Str}{st:Stmt}{f:Addr}{fd:FuncData}{N ps:List Str}{k:Nat}{sp:Sp}(F:Fun K x qual st f fd)(S:zO N ps (zI st))(len:∀ vs H Q E,sp vs H Q E->vs.length=ps.length)
  (hbody:∀ (cdv:Value) (A:Around) (outer:List Env) (s:Shared) (H:Hp) (vs:List V) (Q:VK) (E:XK),zt k (A.deeper (envOfC qual (zI st) s.heap.objs.size f cdv))->sp vs H Q E->
   ∃ t,PSs (ZT CX0 P w K mg base N qual (zI st) f cdv A outer s H E).nox (ZN st) t/\t {nx:=λ_ H'=>Q .non H',rt:=Q} (Yi N vs) H):Yy P w K mg base CX0 (k+1) f fd ps sp:=by
 obtain⟨oc,od,kV,doc,pm,an,cdv,ct,osl,rfl,lk,hcd⟩:=F.ex;refine zNF lk hcd S len λA outer s H vs Q E hr hsp=>?_
 obtain⟨t,h,q⟩:=hbody cdv A outer s H vs Q E hr hsp;exact⟨t,h.nox,q⟩
theorem Fun.binds{x qual:Str}{st:Stmt}{f:Addr}{fd:FuncData}{ps:List Str}(F:Fun K x qual st f fd)
  (h:∀ (kV doc pm:Value) (an:Option Addr) (cdv ct:Value) (us:List Value),us.length=ps.length->bindArgs (PySem.W.fnOf x qual (YF st) (ZN st) (zI st) .none kV doc pm an cdv ct) ⟨us,[]⟩=pure (ps.zip us)):ZK K fd ps []:=by
 obtain⟨oc,od,kV,doc,pm,an,cdv,ct,osl,rfl,lk,hcd⟩:=F.ex;exact .all (h kV doc pm an cdv ct)
theorem zBi{x qual:Str}{st:Stmt}{f:Addr}{oc:Value}{od an:Option Addr}{osl:Array (Option Value)}{kV doc pm cdv ct:Value}(l:K.lookup f=some ⟨oc,od,.func (PySem.W.fnOf x qual (YF st) (ZN st) (zI st) .none kV doc pm an cdv ct),osl⟩)
  (c:PySem.W.codeIn K cdv qual=true)(k:PySem.W.keepIn K (.ref f)=true):Fun K x qual st f (PySem.W.fnOf x qual (YF st) (ZN st) (zI st) .none kV doc pm an cdv ct):=⟨⟨oc,od,kV,doc,pm,an,cdv,ct,osl,rfl,l,c⟩,k⟩
end
theorem zHM{A:Around}{k:Nat}(hr:zt k A):A.units+1<cLine:=Yp (UI (by decide:1<=64) _) hr.units
section
variable {X:Cx}
theorem pv(i:Nat){x:Str}{pos:Pos}(hN:X.N[i]?=some x:=by rfl)(hv:Vis X.env.scope x:=by first|exact Or.inl rfl|exact Or.inr (Or.inl rfl)|exact Or.inr (Or.inr rfl))(hd:(x==("__debug__" : Str))=false:=by decide)
  (hcd:(x==("__classdict__" : Str))=false:=by decide):PE X (.Name x pos) (zMI i):=zK2 hN hv hd hcd
end
theorem zJ3{A B:Prop}(h:B):if false=true then A else B:=by
 rw[Wa Wv];exact h
theorem zDW{A B:Prop}(h:A):if true=true then A else B:=by
 rw[Wb rfl];exact h
def zH (H H':Hp):Prop:=∀ b o,H b=some o->H' b=some o
theorem zH.refl(H:Hp):zH H H:=λ_ _ h=>h
theorem zH.trans{H H1 H2:Hp}(a:zH H H1)(b:zH H1 H2):zH H H2:=λc o h=>b c o (a c o h)
theorem zH.seq{K:Qf}{H H':Hp}{a:Addr}{xs:List V}(e:zH H H')(h:zM K H a xs):zM K H' a xs:=by
 rcases h with (h|⟨o,h⟩)|h
 .exact .inl (.inl (e _ _ h))
 .exact .inl (.inr ⟨o,e _ _ h⟩)
 .exact .inr h
theorem y9{xs:List V}{z:Int}{j:Nat}{v:V}(e:z=(j:Int))(h:xs[j]?=some v):atI xs z=some v:=by
 rw[e];exact zNu h
theorem zH.made{H H1:Hp}{x dx C:Addr}(nx:H x=Option.none)(nd:H dx=Option.none)(k:∀ b o,(upd (upd H dx (.own x)) x (.ins C dx [])) b=some o->b≠x->H1 b=some o):zH H H1:=λb o e=>
 k b o (by rw[zG (zN e nx),zG (zN e nd)];exact e) (zN e nx)
end L2
end
section
set_option Elab.async false
set_option linter.all false
set_option maxRecDepth 100000
set_option maxHeartbeats 2000000
namespace L2
open PySem PySem.Spec PyProof.Rows
open PySem.W (WData Codec OpenSpec Well WellAll ReadsW ReadsAllW)
mutual
inductive Dw(K:Qf)(H:Hp):V->WData->Prop
|non:Dw K H .non .none
|bl (b:Bool):Dw K H (.bl b) (.bool b)
|int (i:Int):Dw K H (.int i) (.int i)
|str (x:Str):Dw K H (.str x) (.str x)
|byt (b:Array UInt8):Dw K H (.byt b) (.bytes b.toList)
|lst {a:Addr}{xs:List V}{ds:List WData}:zM K H a xs->zAY K H xs ds->Dw K H (.ref a) (.list ds)
|tup {a:Addr}{xs:List V}{ds:List WData}:yH K H a xs->zAY K H xs ds->Dw K H (.ref a) (.tuple ds)
inductive zAY(K:Qf)(H:Hp):List V->List WData->Prop
|nil:zAY K H [] []
|cons {v:V}{vs:List V}{d:WData}{ds:List WData}:Dw K H v d->zAY K H vs ds->zAY K H (v::vs) (d::ds)
end
theorem zI4{K:Qf}{H:Hp}:∀ ns:List Int,zAY K H (ns.map V.int) (ns.map WData.int)
|[]=>.nil
|n::r=>.cons (.int n) (zI4 r)
theorem zC9{K:Qf}{H:Hp}:∀ (ns:List Int) (xs:List V),zAY K H xs (ns.map WData.int)->xs=ns.map V.int
|[],xs,h=>by
  cases h;rfl
|n::r,xs,h=>by
  cases h with
 |cons h1 h2=>
   cases h1;rw[zC9 r _ h2] <;> rfl
section
variable {P:Program}{w:World}{K:Qf}{H:Hp}{h:Heap}{R:PySem.W.WRecords}{cl:Str->Option Addr}
theorem zPg{a:Addr}{xs:List V}(hok:Za P w H h)(KX:K.In h)(q:zM K H a xs):∃ (its:List Value) (o:Obj) (n:Nat),zd xs its/\h.get? a=some o/\o.cls=.type "list"/\o.data=.seq its.toArray n:=by
 rcases q with q|⟨o,its,n,e,hc,_,hd,_,hv⟩
 .obtain⟨_,its,n,hv,e⟩:=(show yj P w H h a (.lst xs) from q.ok hok)
  exact⟨its,_,n,hv,e,rfl,rfl⟩
 .exact⟨its.toList,o,n,hv,KX _ _ e,hc,by simp[hd]⟩
theorem zPh{a:Addr}{xs:List V}(hok:Za P w H h)(KX:K.In h)(q:yH K H a xs):∃ (its:List Value) (o:Obj) (n:Nat),zd xs its/\h.get? a=some o/\o.cls=.type "tuple"/\o.data=.seq its.toArray n:=by
 rcases q with q|⟨o,its,n,e,hc,hd,_,hv⟩
 .obtain⟨_,its,hv,o,e,hc,n,hd⟩:=(show yj P w H h a (.tup xs) from q.ok hok)
  exact⟨its,o,n,hv,e,hc,hd⟩
 .exact⟨its.toList,o,n,hv,KX _ _ e,hc,by simp[hd]⟩
mutual
theorem Dw.reads(hok:Za P w H h)(KX:K.In h):∀ (d:WData) (v:V) (u:Value),Dw K H v d->zr v u->∃ as,ReadsW R cl h u d as
|.none,_,_,x,r=>by
  cases x;cases r;exact⟨_,ReadsW.none⟩
|.bool b,_,_,x,r=>by
  cases x;cases r;exact⟨_,ReadsW.bool b⟩
|.int i,_,_,x,r=>by
  cases x;obtain⟨t,rfl⟩:=r;exact⟨_,ReadsW.int i t⟩
|.str s,_,_,x,r=>by
  cases x;obtain⟨t,rfl⟩:=r;exact⟨_,ReadsW.str s t⟩
|.bytes b,_,_,x,r=>by
  cases x;obtain⟨t,rfl⟩:=r;exact⟨_,ReadsW.bytes _ t⟩
|.list ds,_,_,x,r=>by
  cases x with
 |lst hs ha=>
   cases r;obtain⟨its,o,n,rv,ho,hc,hd⟩:=zPg hok KX hs;obtain⟨as,hr⟩:=Dw.readsAll hok KX ds _ its ha rv;exact⟨_,ReadsW.list ho hc hd hr⟩
|.tuple ds,_,_,x,r=>by
  cases x with
 |tup hs ha=>
   cases r;obtain⟨its,o,n,rv,ho,hc,hd⟩:=zPh hok KX hs;obtain⟨as,hr⟩:=Dw.readsAll hok KX ds _ its ha rv;exact⟨_,ReadsW.tuple ho hc hd hr⟩
|.float _,_,_,x,_=>by cases x
|.dict _,_,_,x,_=>by cases x
|.bytearray _,_,_,x,_=>by cases x
|.set _,_,_,x,_=>by cases x
|.frozenset _,_,_,x,_=>by cases x
|.obj _ _,_,_,x,_=>by cases x
theorem Dw.readsAll(hok:Za P w H h)(KX:K.In h):∀ (ds:List WData) (vs:List V) (us:List Value),zAY K H vs ds->zd vs us->∃ as,ReadsAllW R cl h us ds as
|[],_,_,x,r=>by
  cases x;cases r;exact⟨_,ReadsAllW.nil⟩
|d::ds,_,_,x,r=>by
  cases x with
 |cons h1 h2=>
   cases r with
  |cons r1 r2=>
    obtain⟨as,q1⟩:=Dw.reads hok KX d _ _ h1 r1;obtain⟨bs,q2⟩:=Dw.readsAll hok KX ds _ _ h2 r2;exact⟨_,ReadsAllW.cons q1 q2⟩
end
end
mutual
def plW:WData->Bool
|.none=>true
|.bool _=>true
|.int _=>true
|.str _=>true
|.bytes _=>true
|.list xs=>zBr xs
|.tuple xs=>zBr xs
|_=>false
def zBr:List WData->Bool
|[]=>true
|x::r=>plW x&&zBr r
end
theorem zHh{α:Type}{f:α->WData}(h:∀ a,plW (f a)=true):∀ l:List α,zBr (l.map f)=true
|[]=>rfl
|x::r=>by
  show (plW (f x)&&zBr (r.map f))=true;rw[h x,zHh h r] <;> rfl
theorem zBj:∀ (c:Codec) (a:c.denote),plW (c.enc a)=true
|.unit,_=>rfl
|.bool,_=>rfl
|.int _ _,_=>rfl
|.nat _ _,_=>rfl
|.u8,_=>rfl
|.bytes _ _,_=>rfl
|.text _ _ _ _,_=>rfl
|.list _ _ c,a=>zHh (λx=>zBj c x) a
|.pair c d,a=>by
  show (plW (c.enc a.1)&&(plW (d.enc a.2)&&true))=true;rw[zBj c a.1,zBj d a.2] <;> rfl
|.triple c d e,a=>by
  show (plW (c.enc a.1)&&(plW (d.enc a.2.1)&&(plW (e.enc a.2.2)&&true)))=true;rw[zBj c a.1,zBj d a.2.1,zBj e a.2.2] <;> rfl
|.option c,none=>rfl
|.option c,some x=>zBj c x
theorem zGr:∀ (cs:List Codec) (a:Codec.denoteAll cs),zBr (Codec.encAll cs a)=true
|[],_=>rfl
|c::cs,a=>by
  show (plW (c.enc a.1)&&zBr (Codec.encAll cs a.2))=true;rw[zBj c a.1,zGr cs a.2] <;> rfl
theorem zDX:∀ {xs:List WData}{d:WData},d∈xs->d.weight<=WData.weightAll xs
|[],d,h=>absurd h (by simp)
|x::r,d,h=>by
  show d.weight<=x.weight+1+WData.weightAll r;rcases Wc.mp h with e|m
  .rw[e];omega
  .have z:=zDX m;omega
def toV:Value->V
|.none=>.non
|.bool b=>.bl b
|.int i _=>.int i
|.str x _=>.str x
|.bytes b _=>.byt b
|.ref a=>.ref a
|_=>.non
def OkU (A:List Addr):Value->Prop
|.none=>True
|.bool _=>True
|.int _ _=>True
|.str _ _=>True
|.bytes _ _=>True
|.ref a=>a∈A
|_=>False
theorem OkU.mono{A B:List Addr}(h:∀ a∈A,a∈B):∀ {u:Value},OkU A u->OkU B u:=λ{u} x=>by
 cases u with
|ref a=>exact h a x
|none=>trivial
|bool b=>trivial
|int i t=>trivial
|str s t=>trivial
|bytes b t=>trivial
|_=>exact False.elim x
theorem zMW{A:List Addr}{u:Value}(x:OkU A u):zr (toV u) u:=by
 cases u with
|ref a=>rfl
|none=>rfl
|bool b=>rfl
|int i t=>exact⟨t,rfl⟩
|str s t=>exact⟨t,rfl⟩
|bytes b t=>exact⟨t,rfl⟩
|_=>exact False.elim x
theorem zA8{A:List Addr}:∀ {vs:List Value},(∀ u∈vs,OkU A u)->zd (vs.map toV) vs
|[],_=>.nil
|u::r,h=>.cons (zMW (h u (Wt ..))) (zA8 λx hx=>h x (We _ hx))
def zAZ (h:Heap)(A:List Addr)(a:Addr):Prop:=∃ vs:List Value,vs.length<=sizeLine/\(∀ u∈vs,OkU A u)/\
 (h.get? a=some {cls:=.type "list",data:=.seq vs.toArray}\/h.get? a=some {cls:=.type "tuple",data:=.seq vs.toArray})
theorem zAZ.mono{h:Heap}{A B:List Addr}{a:Addr}(k:∀ a∈A,a∈B)(x:zAZ h A a):zAZ h B a:=by
 obtain⟨vs,h1,h2,h3⟩:=x;exact⟨vs,h1,λu hu=>(h2 u hu).mono k,h3⟩
theorem zBV{P:Params}{h:Heap}:∀ {vs:List Value}{ds:List WData},WellAll P h vs ds->vs.length=ds.length
|_,_,.nil=>rfl
|_,_,.cons _ b=>by
  show _+1=_+1;rw[zBV b]
theorem zGs{P:Params}{h:Heap}{v:Value}{ds:List WData}(x:Well P h v (.list ds)):∃ (a:Addr) (vs:List Value),v=.ref a/\h.get? a=some {cls:=.type "list",data:=.seq vs.toArray}/\WellAll P h vs ds:=by
 cases x with
|list ho hall=>exact⟨_,_,rfl,ho,hall⟩
theorem zFb{P:Params}{h:Heap}{v:Value}{ds:List WData}(x:Well P h v (.tuple ds)):∃ (a:Addr) (vs:List Value),v=.ref a/\h.get? a=some {cls:=.type "tuple",data:=.seq vs.toArray}/\WellAll P h vs ds:=by
 cases x with
|tuple ho hall=>exact⟨_,_,rfl,ho,hall⟩
theorem zGt{P:Params}{h:Heap}{us:List Value}{d:WData}{ds:List WData}(x:WellAll P h us (d::ds)):∃ (v:Value) (vs:List Value),us=v::vs/\Well P h v d/\WellAll P h vs ds:=by
 cases x with
|cons a b=>exact⟨_,_,rfl,a,b⟩
theorem zI5{n:Nat}(h:n<=1048576):n<=sizeLine:=WT h (by decide)
section
variable {P:Params}{h:Heap}
mutual
theorem zMX:∀ (d:WData) (v:Value),Well P h v d->plW d=true->d.weight<=1048576->∃ A:List Addr,OkU A v/\∀ a∈A,zAZ h A a
|.none,_,x,_,_=>by
  cases x;exact⟨[],trivial,λa m=>absurd m (by simp)⟩
|.bool b,_,x,_,_=>by
  cases x;exact⟨[],trivial,λa m=>absurd m (by simp)⟩
|.int i,_,x,_,_=>by
  cases x;exact⟨[],trivial,λa m=>absurd m (by simp)⟩
|.str s,_,x,_,_=>by
  cases x;exact⟨[],trivial,λa m=>absurd m (by simp)⟩
|.bytes b,_,x,_,_=>by
  cases x;exact⟨[],trivial,λa m=>absurd m (by simp)⟩
|.list ds,_,x,p,z=>by
  obtain⟨a,vs,rfl,ho,hall⟩:=zGs x;have z2:WData.weightAll ds<=1048576:=z;obtain⟨A,h1,h2⟩:=zDY ds _ hall p λd hd=>WT (zDX hd) z2
  have k:∀ b∈A,b∈a::A:=λb hb=>We _ hb
  refine⟨a::A,Wt ..,λb hb=>?_⟩;rcases Wc.mp hb with e|m
  .rw[e];exact⟨vs,zI5 (by rw[zBV hall];exact WT (U1 ds) z2),λu hu=>(h1 u hu).mono k,.inl ho⟩
  .exact (h2 b m).mono k
|.tuple ds,_,x,p,z=>by
  obtain⟨a,vs,rfl,ho,hall⟩:=zFb x;have z2:WData.weightAll ds<=1048576:=z;obtain⟨A,h1,h2⟩:=zDY ds _ hall p λd hd=>WT (zDX hd) z2
  have k:∀ b∈A,b∈a::A:=λb hb=>We _ hb
  refine⟨a::A,Wt ..,λb hb=>?_⟩;rcases Wc.mp hb with e|m
  .rw[e];exact⟨vs,zI5 (by rw[zBV hall];exact WT (U1 ds) z2),λu hu=>(h1 u hu).mono k,.inr ho⟩
  .exact (h2 b m).mono k
|.float _,_,_,p,_=>Bool.noConfusion (show false=true from p)
|.dict _,_,_,p,_=>Bool.noConfusion (show false=true from p)
|.bytearray _,_,_,p,_=>Bool.noConfusion (show false=true from p)
|.set _,_,_,p,_=>Bool.noConfusion (show false=true from p)
|.frozenset _,_,_,p,_=>Bool.noConfusion (show false=true from p)
|.obj _ _,_,_,p,_=>Bool.noConfusion (show false=true from p)
theorem zDY:∀ (ds:List WData) (vs:List Value),WellAll P h vs ds->zBr ds=true->(∀ d∈ds,d.weight<=1048576)->∃ A:List Addr,(∀ u∈vs,OkU A u)/\∀ a∈A,zAZ h A a
|[],_,x,_,_=>by
  cases x;exact⟨[],λu m=>absurd m (by simp),λa m=>absurd m (by simp)⟩
|d::ds,_,x,p,z=>by
  obtain⟨v,vs,rfl,x1,x2⟩:=zGt x;have q:plW d=true/\zBr ds=true:=Bool.and_eq_true_iff.mp p;obtain⟨A,a1,a2⟩:=zMX d v x1 q.1 (z d (Wt ..));obtain⟨B,b1,b2⟩:=zDY ds vs x2 q.2 λe he=>z e (We _ he)
  have kA:∀ b∈A,b∈A++B:=λb hb=>Wp.mpr (.inl hb)
  have kB:∀ b∈B,b∈A++B:=λb hb=>Wp.mpr (.inr hb)
  refine⟨A++B,λu hu=>?_,λb hb=>?_⟩
  .rcases Wc.mp hu with e|m
   .rw[e];exact a1.mono kA
   .exact (b1 u m).mono kB
  .rcases Wp.mp hb with m|m
   .exact (a2 b m).mono kA
   .exact (b2 b m).mono kB
end
end
def zJ4 (o:Obj):Option HO:=match o.data with
|.seq vs _=>if (o.cls==Value.type "list")=true then some (.frz o (.lst (vs.toList.map toV))) else some (.frz o (.tup (vs.toList.map toV)))
|_=>none
def Yk (K:Qf)(h:Heap)(A:List Addr):Hp:=λb=>if b∈A then (if (K.lookup b).isNone=true then (h.get? b).bind zJ4 else none) else none
def zFc (H:Hp):Prop:=∀ b,H b=none\/∃ o u,H b=some (.frz o u)
theorem zHi(vs:List Value):zJ4 {cls:=.type "list",data:=.seq vs.toArray}=some (.frz {cls:=.type "list",data:=.seq vs.toArray} (.lst (vs.map toV))):=by
 show (if (Value.type "list" == Value.type "list")=true then some (HO.frz {cls:=.type "list",data:=.seq vs.toArray} (.lst (vs.toArray.toList.map toV))) else some (HO.frz {cls:=.type "list",data:=.seq vs.toArray} (.tup (vs.toArray.toList.map toV))))=_;rw[Wb (beq_self_eq_true _)]
theorem zHj(vs:List Value):zJ4 {cls:=.type "tuple",data:=.seq vs.toArray}=some (.frz {cls:=.type "tuple",data:=.seq vs.toArray} (.tup (vs.map toV))):=by
 show (if (Value.type "tuple" == Value.type "list")=true then some (HO.frz {cls:=.type "tuple",data:=.seq vs.toArray} (.lst (vs.toArray.toList.map toV))) else some (HO.frz {cls:=.type "tuple",data:=.seq vs.toArray} (.tup (vs.toArray.toList.map toV))))=_;rw[Wa (by decide)]
section
variable {P:Program}{w:World}{K:Qf}{h:Heap}{A:List Addr}
theorem zEZ{b:Addr}{o:Obj}(hb:b∈A)(hk:K.lookup b=none)(e:h.get? b=some o):Yk K h A b=zJ4 o:=by
 unfold Yk;rw[Wb hb,hk,Wb (show (none:Option Obj).isNone=true from rfl),e] <;> rfl
theorem zN2{b:Addr}{u:HO}(q:Yk K h A b=some u):b∈A/\K.lookup b=none:=by
 unfold Yk at q;by_cases hb:b∈A
 .rw[Wb hb] at q;cases hk:K.lookup b with
 |none=>exact⟨hb,rfl⟩
 |some o=>
   rw[hk,Wa (by simp)] at q;cases q
 .rw[Wa hb] at q;cases q
theorem zEa(ar:∀ a∈A,zAZ h A a){b:Addr}{u:HO}(q:Yk K h A b=some u):K.lookup b=none/\∃ vs:List Value,vs.length<=sizeLine/\(∀ u∈vs,OkU A u)/\
    ((h.get? b=some {cls:=.type "list",data:=.seq vs.toArray}/\u=.frz {cls:=.type "list",data:=.seq vs.toArray} (.lst (vs.map toV)))\/
     (h.get? b=some {cls:=.type "tuple",data:=.seq vs.toArray}/\u=.frz {cls:=.type "tuple",data:=.seq vs.toArray} (.tup (vs.map toV)))):=by
  obtain⟨hb,hk⟩:=zN2 q;obtain⟨vs,h1,h2,h3⟩:=ar b hb;refine⟨hk,vs,h1,h2,?_⟩;rcases h3 with e|e
  · rw[zEZ hb hk e,zHi] at q
    exact .inl ⟨e,(WN q).symm⟩
  · rw[zEZ hb hk e,zHj] at q
    exact .inr ⟨e,(WN q).symm⟩
theorem zLL(ar:∀ a∈A,zAZ h A a):zFc (Yk K h A):=λb=>by
 cases q:Yk K h A b with
|none=>exact .inl rfl
|some u=>
  obtain⟨_,vs,_,_,⟨_,e⟩|⟨_,e⟩⟩:=zEa ar q
  .exact .inr ⟨_,_,by rw[e]⟩
  .exact .inr ⟨_,_,by rw[e]⟩
theorem zN3(ar:∀ a∈A,zAZ h A a):Za P w (Yk K h A) h:=λb u q=>by
 obtain⟨_,vs,h1,h2,⟨e,rfl⟩|⟨e,rfl⟩⟩:=zEa ar q
 .exact⟨e,by rw[zc];exact h1,vs,_,zA8 h2,e⟩
 .exact⟨e,by rw[zc];exact h1,vs,zA8 h2,_,e,rfl,_,rfl⟩
theorem zEb{c c':Value}{vs us:List Value}(e:(some {cls:=c,data:=.seq vs.toArray}:Option Obj)=some {cls:=c',data:=.seq us.toArray}):c=c'/\vs=us:=by
 have e1:=WN e;have e2:c=c':=WV Obj.cls e1;have e3:Data.seq vs.toArray=Data.seq us.toArray:=WV Obj.data e1;injection e3 with e4
 refine⟨e2,?_⟩;have e5:=WV Array.toList e4;simpa using e5
theorem zRq(KX:K.In h)(ar:∀ a∈A,zAZ h A a){a:Addr}{vs:List Value}(ha:a∈A)(e:h.get? a=some {cls:=.type "list",data:=.seq vs.toArray}):(∀ u∈vs,OkU A u)/\zM K (Yk K h A) a (vs.map toV):=by
 obtain⟨us,h1,h2,h3⟩:=ar a ha
 have hu:us=vs:=by
  rcases h3 with q|q
  .rw[e] at q;exact (zEb q).2.symm
  .rw[e] at q;exact absurd (Value.type.inj (zEb q).1) (by decide)
 subst hu;refine⟨h2,?_⟩;cases hk:K.lookup a with
|none=>exact .inl (.inr ⟨_,by rw[zEZ ha hk e,zHi]⟩)
|some o=>
  have e2:=KX a o hk;rw[e] at e2;obtain rfl:=WN e2;exact .inr ⟨_,us.toArray,_,hk,rfl,rfl,rfl,by rw[WA];exact h1,by simpa using zA8 h2⟩
theorem zRr(KX:K.In h)(ar:∀ a∈A,zAZ h A a){a:Addr}{vs:List Value}(ha:a∈A)(e:h.get? a=some {cls:=.type "tuple",data:=.seq vs.toArray}):(∀ u∈vs,OkU A u)/\yH K (Yk K h A) a (vs.map toV):=by
 obtain⟨us,h1,h2,h3⟩:=ar a ha
 have hu:us=vs:=by
  rcases h3 with q|q
  .rw[e] at q;exact absurd (Value.type.inj (zEb q).1) (by decide)
  .rw[e] at q;exact (zEb q).2.symm
 subst hu;refine⟨h2,?_⟩;cases hk:K.lookup a with
|none=>exact .inl (.inr ⟨_,by rw[zEZ ha hk e,zHj]⟩)
|some o=>
  have e2:=KX a o hk;rw[e] at e2;obtain rfl:=WN e2;exact .inr ⟨_,us.toArray,_,hk,rfl,rfl,by rw[WA];exact h1,by simpa using zA8 h2⟩
mutual
theorem zPi{Pm:Params}(KX:K.In h)(ar:∀ a∈A,zAZ h A a):∀ (d:WData) (v:Value),Well Pm h v d->plW d=true->OkU A v->Dw K (Yk K h A) (toV v) d
|.none,_,x,_,_=>by
  cases x;exact .non
|.bool b,_,x,_,_=>by
  cases x;exact .bl b
|.int i,_,x,_,_=>by
  cases x;exact .int i
|.str s,_,x,_,_=>by
  cases x;exact .str s
|.bytes b,_,x,_,_=>by
  cases x;have z:=Dw.byt (K:=K) (H:=Yk K h A) b.toArray;exact z
|.list ds,_,x,p,hu=>by
  obtain⟨a,vs,rfl,ho,hall⟩:=zGs x;obtain⟨h2,hs⟩:=zRq KX ar hu ho;exact .lst hs (zFd KX ar ds _ hall p h2)
|.tuple ds,_,x,p,hu=>by
  obtain⟨a,vs,rfl,ho,hall⟩:=zFb x;obtain⟨h2,hs⟩:=zRr KX ar hu ho;exact .tup hs (zFd KX ar ds _ hall p h2)
|.float _,_,_,p,_=>Bool.noConfusion (show false=true from p)
|.dict _,_,_,p,_=>Bool.noConfusion (show false=true from p)
|.bytearray _,_,_,p,_=>Bool.noConfusion (show false=true from p)
|.set _,_,_,p,_=>Bool.noConfusion (show false=true from p)
|.frozenset _,_,_,p,_=>Bool.noConfusion (show false=true from p)
|.obj _ _,_,_,p,_=>Bool.noConfusion (show false=true from p)
theorem zFd{Pm:Params}(KX:K.In h)(ar:∀ a∈A,zAZ h A a):∀ (ds:List WData) (vs:List Value),WellAll Pm h vs ds->zBr ds=true->(∀ u∈vs,OkU A u)->zAY K (Yk K h A) (vs.map toV) ds
|[],_,x,_,_=>by
  cases x;exact .nil
|d::ds,_,x,p,hu=>by
  obtain⟨v,vs,rfl,x1,x2⟩:=zGt x;have q:plW d=true/\zBr ds=true:=Bool.and_eq_true_iff.mp p;exact .cons (zPi KX ar d v x1 q.1 (hu _ (Wt ..))) (zFd KX ar ds vs x2 q.2 λu m=>hu u (We _ m))
end
end
theorem zLM{P:Program}{w:World}{K:Qf}{mg mb:Qm}{CX:CXT}{k:Nat}{fa:Addr}{fd:FuncData}{ps:List Str}{sp:Sp}{s₁:Shared}{vals:List Value}{ds:List WData}{R:PySem.W.WRecords}{cl:Str->Option Addr}{d0:WData}
  (KX:K.In s₁.heap)(hns:s₁.heap.Ns mainGlobals mg)(hb:s₁.heap.Ns builtinsNs mb)(hbb:∀ x:Str,x≠"__name__"->mb x=bootBuiltins x)(hlim:s₁.heap.NoLimit)(hg:s₁.gens=#[])
  (hwl:WellAll w.params s₁.heap vals ds)(hpl:zBr ds=true)(hwt:∀ d∈ds,d.weight<=1048576)(hr:zt k callerA)
  (F:∀ base:Heap,K.In base->base.Ns mainGlobals mg->Yy P w K mg base CX k fa fd ps sp)(hbind:∀ (s:Shared) (us:List Value),us.length=ps.length->BindsTo s fd ⟨us,[]⟩ (ps.zip us))(hlen:ds.length=ps.length)
  (hsp:∀ (H:Hp) (xs:List V),zFc H->zAY K H xs ds->sp xs H (λv H'=>Dw K H' v d0) λ_ _ _=>False)
  (hCX:∀ H e s',CX [] H s₁ (λ_ _ _=>False) e s'->False) :
  codeAny (model P w) callerA (.call (.ref fa) ⟨vals,[]⟩) (λr s'=>∃ u as,r=.ok (.ret u)/\ReadsW R cl s'.heap u d0 as/\OldK s₁.heap s'.heap/\s'.os=s₁.os/\AllBare s'.gens) s₁:=by
 obtain⟨A,ho,ar⟩:=zDY ds vals hwl hpl hwt;have hO:zFc (Yk K s₁.heap A):=zLL ar;have hok:Za P w (Yk K s₁.heap A) s₁.heap:=zN3 ar;have hS:=zFd KX ar ds vals hwl hpl ho;have hV:=zA8 ho;have hK:∀ b u,Yk K s₁.heap A b=some u->K.lookup b=none:=λb u q=>(zEa ar q).1
 have noA:∀ {b:Addr}{o:Obj}{es:Array DictEntry}{ep:Nat},s₁.heap.get? b=some o->o.data=.dict es ep->Yk K s₁.heap A b=none:=λ{b o es ep} e d=>by
  cases q:Yk K s₁.heap A b with
 |none=>rfl
 |some u=>
   obtain⟨_,vs,_,_,⟨e2,_⟩|⟨e2,_⟩⟩:=zEa ar q
   .rw[e2] at e;cases e;have d':Data.seq vs.toArray _=Data.dict es ep:=d;cases d'
   .rw[e2] at e;cases e;have d':Data.seq vs.toArray _=Data.dict es ep:=d;cases d'
 generalize Yk K s₁.heap A=H at hO hok hS hK noA;have base_of:∀ {b:Addr}{o:Obj},s₁.heap.get? b=some o->H b=none->(zDR s₁.heap H).get? b=some o:=λe n=>zMH e n
 have nsK:∀ {b:Addr}{m:Qm},s₁.heap.Ns b m->(zDR s₁.heap H).Ns b m:=λ{b m} ⟨o,es,ep,e,d,r⟩=>⟨o,es,ep,base_of e (noA e d),d,r⟩
 have nK:∀ b o,K.lookup b=some o->H b=none:=λb o e=>by
  cases q:H b with
 |none=>rfl
 |some u=>
   rw[hK b u q] at e;cases e
 have hKb:K.In (zDR s₁.heap H):=λb o e=>base_of (KX b o e) (nK b o e)
 have hM:Mod K mg (zDR s₁.heap H):=⟨hKb,nsK hns,⟨mb,nsK hb,hbb⟩,let ⟨mc,h1,h2⟩:=hlim;⟨mc,nsK h1,h2⟩⟩
 have e0:zCp P w K mg (zDR s₁.heap H) callerA [] s₁ H:=⟨rfl,hM,λb o e=>zNm e,Us (zK1 _ _),trivial,λb hb=>absurd (show b∈([]:List Addr) from hb) (by simp),hok,.of_eq hg⟩
 have hl:vals.length=ps.length:=by rw[zBV hwl];exact hlen
 refine Xt ((F _ hKb (nsK hns)).run callerA [] s₁ H ⟨vals,[]⟩ vals (vals.map toV) _ _ hr e0 (hbind s₁ vals hl) hV (hsp H _ hO hS)) λr s' x=>?_
 cases r with
|error e=>exact (hCX H e s' x).elim
|ok fl=>
  cases fl with
 |next=>exact False.elim x
 |brk=>exact False.elim x
 |cont=>exact False.elim x
 |ret u=>
   obtain⟨v,H',os,bare,un,hok',r',q⟩:=x
   have kept:∀ b o,s₁.heap.get? b=some o->s'.heap.get? b=some o:=λb o e=>by
    cases q2:H b with
   |none=>exact un.keep b o e q2 (by intro z;exact absurd (show b∈([]:List Addr) from z) (by simp)) (by simp)
   |some u2=>
     rcases hO b with z|⟨ob,u3,z⟩
     .rw[q2] at z;cases z
     .have z2:=un.frzs b ob _ z;obtain⟨e1,_⟩:=hok b _ z;obtain⟨e2,_⟩:=hok' b _ z2;rw[e] at e1;cases e1;exact e2
   have KX':K.In s'.heap:=λb o e=>kept b o (KX b o e)
   obtain⟨as,hrd⟩:=Dw.reads (R:=R) (cl:=cl) hok' KX' d0 v u q r';exact⟨u,as,rfl,hrd,OldK.of_keep kept,os,bare⟩
theorem zGF{ds:List WData}(h:WData.layableAll ds=true):∀ d∈ds,d.weight<=1048576:=λd hd=>
 (PySem.W.layableW_iff.mp (WI.mp h d hd)).2.2
theorem zFe:∀ (cs:List Codec) (a:Codec.denoteAll cs),(Codec.encAll cs a).length=cs.length
|[],_=>rfl
|c::cs,a=>by
  show (Codec.encAll cs a.2).length+1=cs.length+1;rw[zFe cs a.2]
theorem zLN{r:OpenSpec}{k:Nat}{q:Program}{loose:List Str}{XP:(Qm)->Heap->Prop}{YP:World->Heap->Prop}{d:DefRec}{K:Params->Qf}{CX:World->CXT}{ps:List Str}{sp:World->Sp}
  (hwell:r.wellSaid=true)(hdf:d.params.defaults=[])(hlen:r.args.length=ps.length)(hr:zt k callerA)
  (hY:∀ (w:World) (h:Heap),YP w h->(K w.params).In h)
  (F:∀ (w:World) (mg:Qm) (fa:Addr) (h:Heap),YP w h->(K w.params).In h->h.Ns mainGlobals mg->mg d.name=some (.ref fa)->
   ∃ fd:FuncData,(∀ (s:Shared) (us:List Value),us.length=ps.length->BindsTo s fd ⟨us,[]⟩ (ps.zip us))/\
    ∀ base:Heap,(K w.params).In base->base.Ns mainGlobals mg->Yy r.prog w (K w.params) mg base (CX w) k fa fd ps (sp w))
  (hsp:∀ (w:World) (H:Hp) (xs:List V) (a:Codec.denoteAll r.args),zFc H->Codec.withinAll r.args a=true->Codec.app r.args r.asked a=true->zAY (K w.params) H xs (Codec.encAll r.args a)->
   sp w xs H (λv H'=>Dw (K w.params) H' v (r.ret.enc (Codec.app r.args r.f a))) λ_ _ _=>False)
  (hCX:∀ (w:World) (H:Hp) (s:Shared) (e:Value) (s':Shared),CX w [] H s (λ_ _ _=>False) e s'->False) :
  PySem.W.WalkOS q loose XP YP r d [] (λf vs=>PySem.call f vs):=by
 intro w s_0 s₁ mg mb G Y fa o pm cd doc dV kV ho hd hcd hD hmg hg args vals as hpre hlay hrd hwl hlo;obtain⟨a,e1,e2⟩:=PySem.W.os_pre_some hpre;obtain⟨e3,hwi⟩:=Codec.encAll_of_decAll r.args args a e1;subst e3;have KX:=hY w _ Y;obtain⟨fd,hb,hF⟩:=F w mg fa _ Y KX G.T.g hmg
 refine PySem.W.enter_call (Xt (zLM (R:=[]) (cl:=classAt s_0.heap) (d0:=r.ret.enc (Codec.app r.args r.f a)) KX G.T.g G.T.b G.T.builtins G.T.nolimit hg hwl (zGr _ _) (zGF hlay) hr hF hb (by rw[zFe];exact hlen)
  (λH xs hO hS=>hsp w H xs a hO hwi e2 hS) λH e s'=>hCX w H s₁ e s') λr' s' hq=>?_)
 obtain⟨u,as',rfl,h1,h2,h3,h4⟩:=hq;exact⟨.inl ⟨u,_,as',rfl,λ_=>rfl,h1,(OpenSpec.post_iff hwell hwi _ _).mpr rfl,λz=>Bool.noConfusion (show false=true from z)⟩,h2,h3,h4⟩
theorem zJ5{r:OpenSpec}{k:Nat}{q:Program}{loose:List Str}{XP:(Qm)->Heap->Prop}{YP:World->Heap->Prop}{d:DefRec}{K:Params->Qf}{CX:CXT}{ps:List Str}{sp:Qf->Sp}
  (hwell:r.wellSaid=true)(hdf:d.params.defaults=[])(hlen:r.args.length=ps.length)(hr:zt k callerA)
  (hY:∀ (w:World) (h:Heap),YP w h->(K w.params).In h)
  (F:∀ (w:World) (mg:Qm) (fa:Addr) (h:Heap),YP w h->(K w.params).In h->h.Ns mainGlobals mg->mg d.name=some (.ref fa)->
   ∃ fd:FuncData,(∀ (s:Shared) (us:List Value),us.length=ps.length->BindsTo s fd ⟨us,[]⟩ (ps.zip us))/\
    ∀ base:Heap,(K w.params).In base->base.Ns mainGlobals mg->Yy r.prog w (K w.params) mg base CX k fa fd ps (sp (K w.params)))
  (hsp:∀ (K:Qf) (H:Hp) (xs:List V) (a:Codec.denoteAll r.args),zFc H->Codec.withinAll r.args a=true->Codec.app r.args r.asked a=true->zAY K H xs (Codec.encAll r.args a)->
   sp K xs H (λv H'=>Dw K H' v (r.ret.enc (Codec.app r.args r.f a))) λ_ _ _=>False)
  (hCX:∀ (H:Hp) (s:Shared) (e:Value) (s':Shared),CX [] H s (λ_ _ _=>False) e s'->False) :
  PySem.W.WalkOS q loose XP YP r d [] (λf vs=>PySem.call f vs):=
 zLN (K:=K) (CX:=λ_=>CX) (sp:=λw=>sp (K w.params)) hwell hdf hlen hr hY F (λw H xs a h1 h2 h3 h4=>hsp (K w.params) H xs a h1 h2 h3 h4) λ_ H s e s'=>hCX H s e s'
end L2
end
set_option Elab.async false
set_option linter.all false
set_option maxRecDepth 100000
set_option maxHeartbeats 2000000
namespace Kn
open PySem PySem.Spec PyProof.Rows L2
open PySem.W (Codec)
structure Def(K:Qf)(mg:Qm)(x:Str)(st:Stmt)(ps:List Str)(f:Addr)(fd:FuncData):Prop where
 fn:Fun K x x st f fd
 at_:mg x=some (.ref f)
 bi:ZK K fd ps []
def zW (K:Qf)(mg:Qm)(x:Str)(st:Stmt)(ps:List Str):Prop:=∃ f fd,Def K mg x st ps f fd
theorem zP{K:Qf}{h:Heap}{mg:Qm}{x:Str}{st:Stmt}{ps:List Str}{f:Addr}{oc:Value}{od an:Option Addr}{osl:Array (Option Value)}{kV doc pm cdv ct:Value}(X:K.In h)(G:h.Ns mainGlobals mg)
  (a:PySem.W.nsIn K mainGlobals x=some (some (.ref f)))
  (l:K.lookup f=some ⟨oc,od,.func (PySem.W.fnOf x x (YF st) (ZN st) (zI st) .none kV doc pm an cdv ct),osl⟩)
  (c:PySem.W.codeIn K cdv x=true)(k:PySem.W.keepIn K (.ref f)=true)
  (b:∀ (kV doc pm:Value) (an:Option Addr) (cdv ct:Value) (us:List Value),us.length=ps.length->bindArgs (PySem.W.fnOf x x (YF st) (ZN st) (zI st) .none kV doc pm an cdv ct) ⟨us,[]⟩=pure (ps.zip us)):zW K mg x st ps:=
 ⟨f,_,zBi l c k,Vb X G a,(zBi l c k).binds b⟩
theorem zN4{K:Qf}{h:Heap}{mg:Qm}{x:Str}{st:Stmt}{ps:List Str}{fa f:Addr}{oc:Value}{od an:Option Addr}{osl:Array (Option Value)}{kV doc pm cdv ct:Value}(X:K.In h)(G:h.Ns mainGlobals mg)(hfa:mg x=some (.ref fa))
  (a:PySem.W.nsIn K mainGlobals x=some (some (.ref f)))
  (l:K.lookup f=some ⟨oc,od,.func (PySem.W.fnOf x x (YF st) (ZN st) (zI st) .none kV doc pm an cdv ct),osl⟩)
  (c:PySem.W.codeIn K cdv x=true)(k:PySem.W.keepIn K (.ref f)=true)
  (b:∀ (kV doc pm:Value) (an:Option Addr) (cdv ct:Value) (us:List Value),us.length=ps.length->bindArgs (PySem.W.fnOf x x (YF st) (ZN st) (zI st) .none kV doc pm an cdv ct) ⟨us,[]⟩=pure (ps.zip us)) :
  ∃ fd,Def K mg x st ps fa fd/\∀ (s:Shared) (us:List Value),us.length=ps.length->BindsTo s fd ⟨us,[]⟩ (ps.zip us):=by
 have e:=hfa.symm.trans (Vb X G a);cases e;exact⟨_,⟨zBi l c k,Vb X G a,(zBi l c k).binds b⟩,λs us hu=>.of_eq (b _ _ _ _ _ _ us hu)⟩
def Ok (P:Program)(w:World)(K:Qf)(mg:Qm)(base:Heap)(k:Nat)(x:Str)(ps:List Str)(sp:Sp):Prop:=
 ∃ f fd,Yy P w K mg base CX0 k f fd ps sp/\mg x=some (.ref f)/\PySem.W.keepIn K (.ref f)=true/\ZK K fd ps []
theorem zW.ok{P:Program}{w:World}{K:Qf}{mg:Qm}{base:Heap}{x:Str}{st:Stmt}{N ps:List Str}{k:Nat}{sp:Sp}(D:zW K mg x st ps)(S:zO N ps (zI st))(len:∀ vs H Q E,sp vs H Q E->vs.length=ps.length)
  (hbody:∀ (f:Addr) (cdv:Value) (A:Around) (outer:List Env) (s:Shared) (H:Hp) (vs:List V) (Q:VK) (E:XK),zt k (A.deeper (envOfC x (zI st) s.heap.objs.size f cdv))->sp vs H Q E->
   ∃ t,PSs (ZT CX0 P w K mg base N x (zI st) f cdv A outer s H E).nox (ZN st) t/\t {nx:=λ_ H'=>Q .non H',rt:=Q} (Yi N vs) H):Ok P w K mg base (k+1) x ps sp:=by
 obtain⟨f,fd,D⟩:=D;exact⟨f,fd,D.fn.ok S len (λcdv A outer s H vs Q E=>hbody f cdv A outer s H vs Q E),D.at_,D.fn.kp,D.bi⟩
section
variable {X:Cx}{k:Nat}{x:Str}{ps:List Str}{sp:Sp}{p pos:Pos}{e:Expr}{es:List Expr}{t:TA}
theorem zT(O:Ok X.prog X.w X.K X.mg X.base k x ps sp)(hr:zt k X.A)(ha:PA X (e::es) t)(hg:Gl X x:=by rfl)(hdb:(x==("__debug__" : Str))=false:=by decide)
  (he:starEach (e::es) X.env=(false,eval e X.env)::starEach es X.env:=by rfl)(hpl:(backTo pos (starEach es X.env)).any (·.1)=false:=by rfl) :
  PE X (.Call (.Name x p) (e::es) [] pos) (zHI sp [] E0 t):=by
 obtain⟨f,fd,F,m,kp,b⟩:=O;exact zGA F hr hg m kp b .nil zHL ha hdb he hpl
theorem ZA{n:Int}(hm:∃ u,X.mg x=some u/\zr (.int n) u)(hg:Gl X x:=by rfl)(hd:(x==("__debug__" : Str))=false:=by decide):PE X (.Name x pos) (tC (.int n)):=by
 obtain⟨u,h1,h2⟩:=hm;exact zIt hg h1 h2 hd
theorem yE(hm:X.mg "len" = none)(ha:PA X [e] t)(hg:Gl X "len":=by rfl)(hs:starEach [e] X.env=(false,eval e X.env)::starEach [] X.env:=by rfl)(hpl:(backTo pos (starEach [] X.env)).any (·.1)=false:=by rfl) :
  PE X (.Call (.Name "len" p) [e] [] pos) (λσ H Q=>t σ H λxs H1=>∃ q ys,xs=[.ref q]/\(zM X.K H1 q ys\/yH X.K H1 q ys)/\Q (.int ys.length) H1):=ZU zHa hg hm PySem.boot_len ha (he:=hs) (hpl:=hpl)
end
def yt (mg:Qm)(x:Str)(n:Int):Prop:=∃ u,mg x=some u/\zr (.int n) u
theorem YX{K:Qf}{h:Heap}{mg:Qm}{x:Str}{n:Int}{t:Tok}(X:K.In h)(G:h.Ns mainGlobals mg)(a:PySem.W.nsIn K mainGlobals x=some (some (.int n t))):yt mg x n:=⟨_,Vb X G a,t,rfl⟩
theorem ZB{Q:VK}{H:Hp}{b c:Bool}(h:Q (.bl b) H)(e:b=c):Q (.bl c) H:=e ▸ h
theorem zPj{Q:VK}{H:Hp}{b c:Int}(h:Q (.int b) H)(e:b=c):Q (.int c) H:=e ▸ h
theorem zp{A B:Prop}{c:Bool}(h1:c=true->A)(h2:c=false->B):if c=true then A else B:=by
 cases c
 .rw[Wa Wv];exact h2 rfl
 .rw[Wb rfl];exact h1 rfl
theorem zA9{t u:TT}{σ:L2.St}{H:Hp}{Q:Bool->Hp->Prop}{c d:Bool}(ht:∀ R:Bool->Hp->Prop,R c H->t σ H R)(hu:c=true->∀ R:Bool->Hp->Prop,R d H->u σ H R)(h:Q (c&&d) H):zE5 t u σ H Q:=by
 refine ht _ (zp (λhc=>hu hc _ ?_) λhc=>?_)
 .rw[hc,Xq] at h;exact h
 .rw[hc,V5] at h;exact h
theorem zD5{t u:TT}{σ:L2.St}{H:Hp}{Q:Bool->Hp->Prop}{c d:Bool}(ht:∀ R:Bool->Hp->Prop,R c H->t σ H R)(hu:c=false->∀ R:Bool->Hp->Prop,R d H->u σ H R)(h:Q (c||d) H):tOr t u σ H Q:=by
 refine ht _ (zp (λhc=>?_) λhc=>hu hc _ ?_)
 .rw[hc,UV] at h;exact h
 .rw[hc,Xg] at h;exact h
theorem Z2{ta tb:TE}{σ:L2.St}{H:Hp}{Q:VK}{c d:Bool}(ht:∀ R:VK,R (.bl c) H->ta σ H R)(hu:c=true->∀ R:VK,R (.bl d) H->tb σ H R)(h:Q (.bl (c&&d)) H):zBS ta tb σ H Q:=by
 refine ht _ ⟨_,rfl,zp (λhc=>hu hc _ ?_) λhc=>?_⟩
 .rw[hc,Xq] at h;exact h
 .rw[hc,V5] at h;exact h
theorem Z3{K:Qf}{a:Addr}{xs:List V}{g:TG}{tb:TS}{D:Yx}{σ:L2.St}{H:Hp}(Pv:Nat->L2.St->Hp->Prop)(h0:Pv 0 σ H)(hl:∀ i σ H,i<=xs.length->Pv i σ H->zM K H a xs)
  (hs:∀ i x σ H T,xs[i]?=some x->Pv i σ H->H T=none->g (.ref T) σ (upd H T (.tup [.int (i:Nat),x])) λσ2 H2=>tb {D with nx:=Pv (i+1),ct:=Pv (i+1),bk:=D.nx} σ2 H2)(hd:∀ σ H,Pv xs.length σ H->D.nx σ H) :
  ∃ W:Nat->Nat->L2.St->Hp->Prop,(∃ m,W 0 m σ H)/\∀ i m σ H,W i m σ H->
   ((Ite K a).stop i H/\D.nx σ H)\/((Ite K a).go i H/\∃ N:L2.St->Hp->Prop,(∀ σ' H',N σ' H'->∃ m',m'<m/\W (i+1) m' σ' H')/\∀ x H',(Ite K a).yld i H x H'->g x σ H' λσ2 H2=>tb {D with nx:=N,ct:=N,bk:=D.nx} σ2 H2):=by
 refine⟨λi m σ H=>m=xs.length-i/\i<=xs.length/\Pv i σ H,⟨xs.length,by simp,WH _,h0⟩,?_⟩;rintro i m σ H ⟨rfl,hi,p⟩;have q:=hl i σ H hi p;by_cases hlt:i<xs.length
 .refine .inr ⟨⟨xs,xs[i],q,by simp[hlt]⟩,Pv (i+1),λσ' H' p'=>⟨xs.length-(i+1),by omega,rfl,hlt,p'⟩,λv H' y=>?_⟩;obtain⟨T,x,e1,e2,e3,e4⟩:=y;subst e1 e3;exact hs i x σ H T (e4 xs q) p e2
 .have e:i=xs.length:=by omega
  subst e;exact .inl ⟨⟨xs,q,Wd _⟩,hd σ H p⟩
theorem zR{H H1:Hp}{p:Addr}{o:HO}(s:zH H H1)(n:H1 p=Option.none):zH H (L2.upd H1 p o):=λb u e=>by
 rw[zG (zN (s b u e) n)];exact s b u e
theorem yB{α:Type}{l:List α}{i:Nat}{x:α}(h:l[i]?=some x):l.take (i+1)=l.take i++[x]:=by
 rw[List.take_succ,h];rfl
theorem yz{α β:Type}{f:α->β}{l:List α}{i:Nat}{y:β}(h:(l.map f)[i]?=some y):∃ z,l[i]?=some z/\y=f z:=by
 rw[WQ] at h;cases e:l[i]? with
|none=>rw[e] at h;cases h
|some z=>rw[e] at h;exact⟨z,rfl,(WN h).symm⟩
theorem map_some{α β:Type}{f:α->β}{l:List α}{i:Nat}{z:α}(h:l[i]?=some z):(l.map f)[i]?=some (f z):=by rw[WQ,h];rfl
theorem bn0{P:List Value->Prop}(h:P [])(us:List Value)(e:us.length=0):P us:=by
 rw[List.length_eq_zero_iff.mp e];exact h
theorem bnS{n:Nat}{P:List Value->Prop}(h:∀ a us,List.length us=n->P (a::us))(us:List Value)(e:us.length=n+1):P us:=by
 cases us with
|nil=>cases e
|cons a us=>exact h a us (Nat.succ.inj e)
theorem YS{P:List Value->Prop}(h:∀ a,P [a]):∀ us:List Value,us.length=1->P us:=bnS λa=>bn0 (h a)
theorem bn2{P:List Value->Prop}(h:∀ a b,P [a,b]):∀ us:List Value,us.length=2->P us:=bnS λa=>bnS λb=>bn0 (h a b)
theorem bn3{P:List Value->Prop}(h:∀ a b c,P [a,b,c]):∀ us:List Value,us.length=3->P us:=bnS λa=>bnS λb=>bnS λc=>bn0 (h a b c)
theorem bn4{P:List Value->Prop}(h:∀ a b c d,P [a,b,c,d]):∀ us:List Value,us.length=4->P us:=bnS λa=>bnS λb=>bnS λc=>bnS λd=>bn0 (h a b c d)
theorem bn5{P:List Value->Prop}(h:∀ a b c d e,P [a,b,c,d,e]):∀ us:List Value,us.length=5->P us:=bnS λa=>bnS λb=>bnS λc=>bnS λd=>bnS λe=>bn0 (h a b c d e)
theorem bn6{P:List Value->Prop}(h:∀ a b c d e f,P [a,b,c,d,e,f]):∀ us:List Value,us.length=6->P us:=bnS λa=>bnS λb=>bnS λc=>bnS λd=>bnS λe=>bnS λf=>bn0 (h a b c d e f)
def YI (n lo hi:Int):Bool:=decide (lo<=n)&&decide (n<=hi)
theorem zPk{z:Int}(h:0<=z):KilnNeutral.nat z=some z.toNat:=by
 unfold KilnNeutral.nat;rw[Wa (by omega)]
end Kn
set_option autoImplicit false
namespace Kt
def zX:Nat->(Nat->Int)->Int
|0,_=>0
|n+1,f=>zX n f+f n
theorem zk{n:Nat}{f g:Nat->Int}(h:∀ i,i<n->f i=g i):zX n f=zX n g:=by
 induction n with
|zero=>rfl
|succ n ih=>simp only[zX];rw[ih (λi hi=>h i (by omega)),h n (by omega)]
theorem yJ{n:Nat}{f:Nat->Int}(h:∀ i,i<n->f i=0):zX n f=0:=by
 induction n with
|zero=>rfl
|succ n ih=>simp only[zX];rw[ih (λi hi=>h i (by omega)),h n (by omega)];rfl
theorem Zq(n:Nat)(f g:Nat->Int):zX n (λi=>f i+g i)=zX n f+zX n g:=by
 induction n with
|zero=>rfl
|succ n ih=>simp only[zX];rw[ih];omega
theorem zCH(n:Nat)(f:Nat->Int):zX n (λi=>- f i) = - zX n f:=by
 induction n with
|zero=>rfl
|succ n ih=>simp only[zX];rw[ih];omega
theorem zAA(n:Nat)(f g:Nat->Int):zX n (λi=>f i-g i)=zX n f-zX n g:=by
 induction n with
|zero=>rfl
|succ n ih=>simp only[zX];rw[ih];omega
theorem zBA(n:Nat)(c:Int)(f:Nat->Int):zX n (λi=>c*f i)=c*zX n f:=by
 induction n with
|zero=>simp[zX]
|succ n ih=>simp only[zX];rw[ih,Int.mul_add]
theorem zCe(n m:Nat)(f:Nat->Nat->Int):zX n (λa=>zX m (λb=>f a b))=zX m (λb=>zX n (λa=>f a b)):=by
 induction n with
|zero=>simp only[zX];rw[yJ λ_ _=>rfl]
|succ n ih=>simp only[zX];rw[ih,<-Zq]
theorem Zr{n k:Nat}{f:Nat->Int}(hk:k<n)(h:∀ i,i<n->i≠k->f i=0):zX n f=f k:=by
 induction n with
|zero=>omega
|succ n ih=>
  simp only[zX];by_cases e:k=n
  .subst e;rw[yJ λi hi=>h i (by omega) (by omega)];omega
  .rw[ih (by omega) λi hi=>h i (by omega),h n (by omega) (by omega)];omega
theorem zAR{n:Nat}{f:Nat->Int}(h:∀ i,i<n->0<=f i):0<=zX n f:=by
 induction n with
|zero=>exact VZ 0
|succ n ih=>
  simp only[zX];have:=ih (λi hi=>h i (by omega));have:=h n (by omega);omega
theorem zE6{n k:Nat}{f:Nat->Int}(h:∀ i,i<n->0<=f i)(hk:k<n)(hp:0<f k):0<zX n f:=by
 induction n with
|zero=>omega
|succ n ih=>
  simp only[zX];have:=zAR (n:=n) (f:=f) (λi hi=>h i (by omega));by_cases e:k=n
  .subst e;omega
  .have:=ih (λi hi=>h i (by omega)) (by omega);have:=h n (by omega);omega
theorem yh{a b:Int}(h:0<a):(0<a*b↔0<b)/\(a*b<0↔b<0)/\(a*b=0↔b=0):=by
 rcases W0 b 0 with hb|hb|hb
 .have:=Jb h hb;omega
 .subst hb;simp
 .have:=VY h hb;omega
theorem ngp{b:Int}:0 < -b↔b<0:=⟨Int.neg_of_neg_pos,Int.neg_pos_of_neg⟩
theorem ngn{b:Int} : -b<0↔0<b:=⟨Int.pos_of_neg_neg,Int.neg_neg_of_pos⟩
theorem zD6{a b:Int}(h:a<0):(0<a*b↔b<0)/\(a*b<0↔0<b)/\(a*b=0↔b=0):=by
 have q:=yh (a:=-a) (b:=-b) (Int.neg_pos_of_neg h);rw[Vq] at q;exact⟨q.1.trans ngp,q.2.1.trans ngn,q.2.2.trans Int.neg_eq_zero⟩
theorem cA{x y D:Int}(e:D = -(x+y))(h:x<=0)(k:y<0):0<D:=by omega
theorem cB{x y D:Int}(e:D=x+y)(h:0<=x)(k:0<y):0<D:=by omega
theorem zFf{α β γ δ p q r s D:Int}(h1:0<α)(h2:0<β)(h3:0<γ)(h4:0<δ)(hA:D = -(α*p+β*q))(hB:D=γ*r+δ*s)(nc:¬ (p*q<0/\r*s<0))(hs:0<s)(hq:r<0->q<0):0<D:=by
 by_cases hr:r<0
 .exact cA hA (Vt.mp λh=>nc ⟨Jb ((yh h1).1.mp h) (hq hr),Int.mul_neg_of_neg_of_pos hr hs⟩) ((yh h2).2.1.mpr (hq hr))
 .exact cB hB (Vm (Int.le_of_lt h3) (Vt.mp hr)) (VY h4 hs)
theorem zHN{α β γ δ p q r s D:Int}(h1:0<α)(h2:0<β)(h3:0<γ)(h4:0<δ)(hA:D = -(α*p+β*q))(hB:D=γ*r+δ*s)(nc:¬ (p*q<0/\r*s<0))(hs:s<0)(hq:0<r->0<q):D<0:=by
 have:=zFf (α:=α) (β:=β) (γ:=γ) (δ:=δ) (p:=-p) (q:=-q) (r:=-r) (s:=-s) (D:=-D) h1 h2 h3 h4 (by rw[hA];grind) (by rw[hB];grind) (by rw[Vq,Vq];exact nc) (by omega) (by omega);omega
def Sg (A s:Int):Prop:=(0<A↔0<s)/\(A<0↔s<0)/\(A=0↔s=0)
def Sn (A s:Int):Prop:=(0<A↔s<0)/\(A<0↔0<s)/\(A=0↔s=0)
theorem sga{A B C:Int}(e:A+B=C)(h:A<0)(k:0<C):0<B:=by omega
theorem sgb{A B C:Int}(e:A+B=C)(h:0<A)(k:C<0):B<0:=by omega
theorem sgc{x r s:Int}(d:x=r-s)(h:s<0)(g:0<r):0<x:=by omega
theorem sgd{x r s:Int}(d:x=r-s)(h:0<s)(g:r<0):x<0:=by omega
theorem sg1{A B C p q r s:Int}(k:Sg A s)(l:Sg B q)(m:Sg C (q-p))(e:A+B=C)(d:q-p=r-s):(s<0->0<r->0<q)/\(0<s->r<0->q<0):=
 ⟨λh g=>l.1.mp (sga e (k.2.1.mpr h) (m.1.mpr (sgc d h g))),λh g=>l.2.1.mp (sgb e (k.1.mpr h) (m.2.1.mpr (sgd d h g)))⟩
theorem sg2{A B C p q s:Int}(k:Sg A s)(l:Sg B q)(m:Sn C (q-p))(e:A+B=C):(q<0->-p<0->-s<0)/\(0<q->0 < -p->0 < -s):=
 ⟨λh g=>ngn.mpr (k.1.mp (sga ((V0 _ _).trans e) (l.2.1.mpr h) (m.1.mpr (sgd rfl (ngn.mp g) h)))),λh g=>ngp.mpr (k.2.1.mp (sgb ((V0 _ _).trans e) (l.1.mpr h) (m.2.1.mpr (sgc rfl (ngp.mp g) h))))⟩
theorem sg3{A B C p q r s:Int}(k:Sg A r)(l:Sg B p)(m:Sn C (q-p))(e:A+B=C)(d:q-p=r-s):(r<0->0<s->0<p)/\(0<r->s<0->p<0):=
 ⟨λh g=>l.1.mp (sga e (k.2.1.mpr h) (m.1.mpr (sgd d g h))),λh g=>l.2.1.mp (sgb e (k.1.mpr h) (m.2.1.mpr (sgc d g h)))⟩
theorem sg4{A B C p q r s:Int}(k:Sg A r)(l:Sg B p)(m:Sg C (q-p))(e:A+B=C)(d:q-p=r-s):(p<0->-q<0->-r<0)/\(0<p->0 < -q->0 < -r):=
 ⟨λh g=>ngn.mpr (k.1.mp (sga ((V0 _ _).trans e) (l.2.1.mpr h) (m.1.mpr (sgc rfl h (ngn.mp g))))),λh g=>ngp.mpr (k.2.1.mp (sgb ((V0 _ _).trans e) (l.1.mpr h) (m.2.1.mpr (sgd rfl h (ngp.mp g)))))⟩
theorem fnn{D s:Int}(h:D<0)(k:s<0):D≠0/\(0<D↔0<s):=by omega
theorem fpp{D s:Int}(h:0<D)(k:0<s):D≠0/\(0<D↔0<s):=by omega
theorem fpn{D s:Int}(h:0<D)(k:s<0):D≠0/\(0<D↔s<0):=by omega
theorem fnp{D s:Int}(h:D<0)(k:0<s):D≠0/\(0<D↔s<0):=by omega
theorem level{yu yv ya yb t p q r s D:Int}(t1:yu<t)(t2:t<yv)(t3:ya<t)(t4:t<yb)(hA:D = -((yb-t)*p+(t-ya)*q))(hB:D=(yv-t)*r+(t-yu)*s)(hD:q-p=r-s)
  (hI:(yv-yu)*r+(yb-ya)*p=(ya-yu)*(q-p))(hIV:(yv-yu)*s+(yb-ya)*q=(yb-yv)*(q-p))(nc:¬ (p*q<0/\r*s<0)) :
  (yv<yb->s≠0->D≠0/\(0<D↔0<s))/\(yb<yv->q≠0->D≠0/\(0<D↔q<0))/\(ya<yu->r≠0->D≠0/\(0<D↔0<r))/\(yu<ya->p≠0->D≠0/\(0<D↔p<0)):=by
 have e1:0<yv-yu:=WZ (VR t1 t2);have e2:0<yb-ya:=WZ (VR t3 t4);have u1:=WZ t1;have u2:=WZ t2;have u3:=WZ t3;have u4:=WZ t4;have k1:Sg _ _:=yh (b:=r) e1;have k2:Sg _ _:=yh (b:=p) e2;have k3:Sg _ _:=yh (b:=s) e1;have k4:Sg _ _:=yh (b:=q) e2;have hA':D = -((t-ya)*q+(yb-t)*p):=by rw[hA,V0]
 have hB':D=(t-yu)*s+(yv-t)*r:=by rw[hB,V0]
 have hA2:D=(yb-t)*(-p)+(t-ya)*(-q):=by rw[hA,UG,UG,Int.neg_add]
 have hB2:D = -((yv-t)*(-r)+(t-yu)*(-s)):=by rw[hB,UG,UG,<-Int.neg_add,Int.neg_neg]
 have hA3:D=(t-ya)*(-q)+(yb-t)*(-p):=by rw[hA2,V0]
 have hB3:D = -((t-yu)*(-s)+(yv-t)*(-r)):=by rw[hB2,V0]
 have nc1:¬ (q*p<0/\s*r<0):=by rw[VC q p,VC s r];exact nc
 have nc2:¬ (-r * -s<0/\-p * -q<0):=by rw[Vq,Vq];exact λh=>nc ⟨h.2,h.1⟩
 have nc3:¬ (-s * -r<0/\-q * -p<0):=by rw[Vq,Vq];exact λh=>nc1 ⟨h.2,h.1⟩
 have hD':q-p=r-s:=hD;refine⟨λh hs=>?_,λh hq=>?_,λh hr=>?_,λh hp=>?_⟩
 .have m:=sg1 k3 k4 (yh (a:=yb-yv) (b:=q-p) (WZ h)) hIV hD;rcases Ua hs with h0|h0
  .exact fnn (zHN u4 u3 u2 u1 hA hB nc h0 (m.1 h0)) h0
  .exact fpp (zFf u4 u3 u2 u1 hA hB nc h0 (m.2 h0)) h0
 .have m:=sg2 k3 k4 (zD6 (a:=yb-yv) (b:=q-p) (Int.sub_neg_of_lt h)) hIV;rcases Ua hq with h0|h0
  .exact fpn (zFf u2 u1 u4 u3 hB2 hA2 nc2 (Int.neg_pos_of_neg h0) (m.1 h0)) h0
  .exact fnp (zHN u2 u1 u4 u3 hB2 hA2 nc2 (Int.neg_neg_of_pos h0) (m.2 h0)) h0
 .have m:=sg3 k1 k2 (zD6 (a:=ya-yu) (b:=q-p) (Int.sub_neg_of_lt h)) hI hD;rcases Ua hr with h0|h0
  .exact fnn (zHN u3 u4 u1 u2 hA' hB' nc1 h0 (m.1 h0)) h0
  .exact fpp (zFf u3 u4 u1 u2 hA' hB' nc1 h0 (m.2 h0)) h0
 .have m:=sg4 k1 k2 (yh (a:=ya-yu) (b:=q-p) (WZ h)) hI hD;rcases Ua hp with h0|h0
  .exact fpn (zFf u1 u2 u3 u4 hB3 hA3 nc3 (Int.neg_pos_of_neg h0) (m.1 h0)) h0
  .exact fnp (zHN u1 u2 u3 u4 hB3 hA3 nc3 (Int.neg_neg_of_pos h0) (m.2 h0)) h0
def T (X Y:Nat->Int)(a b c:Nat):Int:=(X b-X a)*(Y c-Y b)-(Y b-Y a)*(X c-X b)
structure yX(n:Nat)(X Y:Nat->Int)(J:Nat->Nat->Prop):Prop where
 sym:∀ a b,J a b->J b a
 lt:∀ a b,J a b->a<n
 ne:∀ a b,J a b->a≠b
 inj:∀ a b,a<n->b<n->Y a=Y b->a=b
 even:∀ a,a<n->Y a%2=0
 on:∀ a b c,J a b->c<n->Y a<Y c->Y c<Y b->T X Y a b c≠0
 nc:∀ a b c d,J a b->J c d->¬ (T X Y a b c*T X Y a b d<0/\T X Y c d a*T X Y c d b<0)
structure Zu(n:Nat)(J:Nat->Nat->Prop)(d:Nat->Nat->Int):Prop where
 anti:∀ a b,d a b = - d b a
 supp:∀ a b,d a b≠0->J a b
 cons:∀ x,x<n->zX n (λu=>d u x)=0
def Dl (X Y:Nat->Int)(t:Int)(u v a b:Nat):Int:=(X a*(Y b-t)+X b*(t-Y a))*(Y v-Y u)-(X u*(Y v-t)+X v*(t-Y u))*(Y b-Y a)
section
variable {n:Nat}{X Y:Nat->Int}{J:Nat->Nat->Prop}{d:Nat->Nat->Int}
theorem zFg(a b:Nat):T X Y a b b=0:=by unfold T;grind
theorem zEc(a b:Nat):T X Y a b a=0:=by unfold T;grind
theorem zEd(a b c:Nat):T X Y a b c=T X Y b c a:=by unfold T;grind
theorem YY(a b c:Nat):T X Y a c b = - T X Y a b c:=by unfold T;grind
theorem yX.lt2(G:yX n X Y J){a b:Nat}(h:J a b):b<n:=G.lt b a (G.sym a b h)
theorem yX.yne(G:yX n X Y J){a b:Nat}(h:J a b):Y a≠Y b:=λe=>G.ne a b h (G.inj a b (G.lt a b h) (G.lt2 h) e)
theorem lz1{D A B x:Int}(hA:D = -(A+B*0))(m:Sg A x)(hx:x≠0):D≠0/\(0<D↔x<0):=by
 unfold Sg at m;rw[Vr] at hA;omega
theorem yX.level(G:yX n X Y J){u v a b:Nat}{t:Int}(e:J u v)(f:J a b)(ne:¬ (a=u/\b=v))(t1:Y u<t)(t2:t<Y v)(t3:Y a<t)(t4:t<Y b) :
  Dl X Y t u v a b≠0/\(Y v<Y b->(0<Dl X Y t u v a b↔0<T X Y a b v))/\(Y b<Y v->(0<Dl X Y t u v a b↔T X Y u v b<0))/\(b=v->(0<Dl X Y t u v a b↔T X Y u v a<0))/\
  (Y a<Y u->(0<Dl X Y t u v a b↔0<T X Y a b u))/\(Y u<Y a->(0<Dl X Y t u v a b↔T X Y u v a<0))/\(a=u->(0<Dl X Y t u v a b↔T X Y u v b<0)):=by
 have hA:Dl X Y t u v a b = -((Y b-t)*T X Y u v a+(t-Y a)*T X Y u v b):=by unfold Dl T;grind
 have hB:Dl X Y t u v a b=(Y v-t)*T X Y a b u+(t-Y u)*T X Y a b v:=by unfold Dl T;grind
 have hD:T X Y u v b-T X Y u v a=T X Y a b u-T X Y a b v:=by unfold T;grind
 have hI:(Y v-Y u)*T X Y a b u+(Y b-Y a)*T X Y u v a=(Y a-Y u)*(T X Y u v b-T X Y u v a):=by unfold T;grind
 have hIV:(Y v-Y u)*T X Y a b v+(Y b-Y a)*T X Y u v b=(Y b-Y v)*(T X Y u v b-T X Y u v a):=by unfold T;grind
 have L:=Kt.level t1 t2 t3 t4 hA hB hD hI hIV (G.nc u v a b e f);obtain⟨L1,L2,L3,L4⟩:=L
 have hbv:b=v->T X Y u v b=0/\T X Y u v a≠0:=by
  rintro rfl;refine⟨zFg _ _,λh0=>?_⟩;rcases W0 (Y a) (Y u) with h|h|h
  .refine G.on a b u f (G.lt _ _ e) h (by omega) ?_;have:=zEd (X:=X) (Y:=Y) u b a;have:=YY (X:=X) (Y:=Y) a u b;have:=zEd (X:=X) (Y:=Y) a b u;have:=zEd (X:=X) (Y:=Y) b u a;have:=YY (X:=X) (Y:=Y) u a b;unfold T at *
   grind
  .exact ne ⟨G.inj a u (G.lt _ _ f) (G.lt _ _ e) h,rfl⟩
  .exact G.on u b a e (G.lt _ _ f) h (by omega) h0
 have hau:a=u->T X Y u v a=0/\T X Y u v b≠0:=by
  rintro rfl;refine⟨zEc _ _,λh0=>?_⟩;rcases W0 (Y b) (Y v) with h|h|h
  .exact G.on a v b e (G.lt2 f) (by omega) h h0
  .exact ne ⟨rfl,G.inj b v (G.lt2 f) (G.lt2 e) h⟩
  .refine G.on a b v f (G.lt2 e) (by omega) h ?_;have:=YY (X:=X) (Y:=Y) a v b;omega
 have m1:=yh (a:=Y b-t) (b:=T X Y u v a) (by omega);have m2:=yh (a:=t-Y a) (b:=T X Y u v b) (by omega);have c1:Y v<Y b->T X Y a b v≠0:=λh=>G.on a b v f (G.lt2 e) (by omega) h
 have c2:Y b<Y v->T X Y u v b≠0:=λh=>G.on u v b e (G.lt2 f) (by omega) h
 have c3:Y a<Y u->T X Y a b u≠0:=λh=>G.on a b u f (G.lt _ _ e) h (by omega)
 have c4:Y u<Y a->T X Y u v a≠0:=λh=>G.on u v a e (G.lt _ _ f) h (by omega)
 refine⟨?_,λh=>(L1 h (c1 h)).2,λh=>(L2 h (c2 h)).2,λh=>?_,λh=>(L3 h (c3 h)).2,λh=>(L4 h (c4 h)).2,λh=>?_⟩
 .rcases W0 (Y b) (Y v) with h|h|h
  .exact (L2 h (c2 h)).1
  .have q:=hbv (G.inj b v (G.lt2 f) (G.lt2 e) h);rw[q.1] at hA;exact (lz1 hA m1 q.2).1
  .exact (L1 h (c1 h)).1
 .have q:=hbv h;rw[q.1] at hA;exact (lz1 hA m1 q.2).2
 .have q:=hau h;rw[q.1,V0] at hA;exact (lz1 hA m2 q.2).2
theorem Zu.flux(G:yX n X Y J)(C:Zu n J d)(φ:Nat->Int):zX n (λa=>zX n (λb=>if Y a<Y b then d a b*(φ b-φ a) else 0))=0:=by
 have h1:zX n (λa=>zX n (λb=>d a b*φ b))=0:=by
  rw[zCe];refine yJ λb hb=>?_
  rw[show (λa=>d a b*φ b)=(λa=>φ b*d a b) from funext λa=>VC _ _,zBA,C.cons b hb,Vr]
 have h2:zX n (λa=>zX n (λb=>d a b*φ b))=zX n (λa=>zX n (λb=>if Y a<Y b then d a b*φ b else 0))+zX n (λa=>zX n (λb=>if Y b<Y a then d a b*φ b else 0)):=by
  rw[<-Zq];refine zk λa ha=>?_
  rw[<-Zq];refine zk λb hb=>?_
  by_cases h:d a b=0
  .rw[h];simp
  .have:=G.yne (C.supp a b h);by_cases hl:Y a<Y b
   .rw[Wb hl,Wa (by omega)];omega
   .rw[Wa hl,Wb (by omega)];omega
 have h3:zX n (λa=>zX n (λb=>if Y b<Y a then d a b*φ b else 0)) = - zX n (λa=>zX n (λb=>if Y a<Y b then d a b*φ a else 0)):=by
  rw[zCe,<-zCH];refine zk λa ha=>?_
  rw[<-zCH];refine zk λb hb=>?_
  rw[C.anti b a];by_cases hl:Y a<Y b
  .rw[Wb hl,Wb hl,Int.neg_mul]
  .rw[Wa hl,Wa hl];rfl
 have h4:zX n (λa=>zX n (λb=>if Y a<Y b then d a b*(φ b-φ a) else 0))=zX n (λa=>zX n (λb=>if Y a<Y b then d a b*φ b else 0))-zX n (λa=>zX n (λb=>if Y a<Y b then d a b*φ a else 0)):=by
  rw[<-zAA];refine zk λa ha=>?_
  rw[<-zAA];refine zk λb hb=>?_
  by_cases hl:Y a<Y b
  .rw[Wb hl,Wb hl,Wb hl,Int.mul_sub]
  .rw[Wa hl,Wa hl,Wa hl];rfl
 omega
def ind (p:Prop)[Decidable p]:Int:=if p then 1 else 0
theorem ze{p q:Prop}[Decidable p][Decidable q](h:p↔q):ind p=ind q:=by
 unfold ind;by_cases hp:p
 .rw[Wb hp,Wb (h.mp hp)]
 .rw[Wa hp,Wa λhq=>hp (h.mpr hq)]
theorem zL{p:Prop}[Decidable p](h:¬ p):ind p=0:=Wa h
theorem yA{p:Prop}[Decidable p](h:p):ind p=1:=Wb h
def bot (X Y:Nat->Int)(u v a b:Nat):Int:=ind (Y a<Y u/\Y u<Y b/\0<T X Y a b u)+ind (a=u/\Y u<Y b/\T X Y u v b<0)
def tp (X Y:Nat->Int)(u v a b:Nat):Int:=ind (Y a<Y v/\Y v<Y b/\0<T X Y a b v)+ind (b=v/\Y a<Y v/\T X Y u v a<0)
def mid (X Y:Nat->Int)(t:Int)(u v a b:Nat):Int:=ind (Y a<t/\t<Y b/\0<Dl X Y t u v a b)
theorem tri{l x y z:Int}{E P1 P2 P3 D:Prop}[Decidable E][Decidable P1][Decidable P2][Decidable P3][Decidable D](c:l<x)(hz:z<y)(k1:y<x->(D↔P2))(k2:x<y->(D↔P1))(k3:E->(D↔P3))(i:x=y->E)(j:E->x=y) :
  ind (l<x/\x<y/\P1)+(ind (z<y/\y<x/\P2)+ind (E/\z<y/\P3))=ind D:=by
 rcases W0 x y with h|h|h
 .rw[ze (k2 h),ze (p:=l<x/\x<y/\P1) (q:=P1) ⟨λq=>q.2.2,λq=>⟨c,h,q⟩⟩,zL (p:=z<y/\y<x/\P2) (λq=>V9 h q.2.1),zL (p:=E/\_) (λq=>Ut h (j q.1))];exact XW _
 .rw[ze (k3 (i h)),zL (p:=l<x/\x<y/\P1) (λq=>Ut q.2.1 h),zL (p:=z<y/\y<x/\P2) (λq=>Uv q.2.1 h),ze (p:=E/\z<y/\P3) (q:=P3) ⟨λq=>q.2.2,λq=>⟨i h,hz,q⟩⟩,VQ,VQ]
 .rw[ze (k1 h),zL (p:=l<x/\x<y/\P1) (λq=>V9 h q.2.1),ze (p:=z<y/\y<x/\P2) (q:=P2) ⟨λq=>q.2.2,λq=>⟨hz,h,q⟩⟩,zL (p:=E/\_) (λq=>Uv h (j q.1)),VQ,XW]
theorem zRs{x y z w:Int}{E P1 P2 P3 D:Prop}[Decidable E][Decidable P1][Decidable P2][Decidable P3][Decidable D](c:x<w)(hz:y<z)(k1:x<y->(D↔P2))(k2:y<x->(D↔P1))(k3:E->(D↔P3))(i:x=y->E)(j:E->x=y) :
  ind (y<x/\x<w/\P1)+(ind (x<y/\y<z/\P2)+ind (E/\y<z/\P3))=ind D:=by
 rcases W0 x y with h|h|h
 .rw[ze (k1 h),zL (p:=y<x/\x<w/\P1) (λq=>V9 h q.1),ze (p:=x<y/\y<z/\P2) (q:=P2) ⟨λq=>q.2.2,λq=>⟨h,hz,q⟩⟩,zL (p:=E/\_) (λq=>Ut h (j q.1)),VQ,XW]
 .rw[ze (k3 (i h)),zL (p:=y<x/\x<w/\P1) (λq=>Uv q.1 h),zL (p:=x<y/\y<z/\P2) (λq=>Ut q.1 h),ze (p:=E/\y<z/\P3) (q:=P3) ⟨λq=>q.2.2,λq=>⟨i h,hz,q⟩⟩,VQ,VQ]
 .rw[ze (k2 h),ze (p:=y<x/\x<w/\P1) (q:=P1) ⟨λq=>q.2.2,λq=>⟨h,c,q⟩⟩,zL (p:=x<y/\y<z/\P2) (λq=>V9 h q.1),zL (p:=E/\_) (λq=>Uv h (j q.1))];exact XW _
theorem zRt{A B b t D:Int}(q1:A+t=D)(q2:B+b=D):A-B=b-t:=by omega
theorem zRu{A t D:Int}(q:A+t=D):A-0=D-t:=by omega
theorem nd{yu yv ya yb:Int}(h1:yu<yv)(h2:ya<yb)(h:yb<=yu\/yv<=ya):¬ (yu<yb/\yb<yv)/\¬ (yu<ya/\ya<yv)/\¬ (ya<yu/\yu<yb)/\¬ (ya<yv/\yv<yb)/\¬ (ya=yu/\yu<yb)/\¬ (yb=yv/\ya<yv):=by omega
theorem yX.step(G:yX n X Y J){u v a b:Nat}(e:J u v)(huv:Y u<Y v)(f:J a b)(hab:Y a<Y b) :
  ind (Y u<Y b/\Y b<Y v/\T X Y u v b<0)-ind (Y u<Y a/\Y a<Y v/\T X Y u v a<0)=bot X Y u v a b-tp X Y u v a b:=by
 have j1:a=u->Y a=Y u:=λh=>by rw[h]
 have j2:b=v->Y b=Y v:=λh=>by rw[h]
 unfold bot tp;by_cases same:a=u/\b=v
 .obtain⟨rfl,rfl⟩:=same;simp[ind,zFg,zEc]
 .by_cases hd:Y b<=Y u\/Y v<=Y a
  .obtain⟨n1,n2,n3,n4,n5,n6⟩:=nd huv hab hd;rw[zL (λq=>n1 ⟨q.1,q.2.1⟩),zL (λq=>n2 ⟨q.1,q.2.1⟩),zL (λq=>n3 ⟨q.1,q.2.1⟩),zL (λq=>n5 ⟨j1 q.1,q.2.1⟩),zL (λq=>n4 ⟨q.1,q.2.1⟩),zL (λq=>n6 ⟨j2 q.1,q.2.1⟩)];rfl
  .obtain⟨d1,d2⟩:=not_or.mp hd;have d1:=U7.mp d1;have d2:=U7.mp d2
   obtain⟨t,h1,h2,h3,h4⟩:∃ t,Y u<t/\t<Y v/\Y a<t/\t<Y b:=by
    have ea:=G.even a (G.lt _ _ f);have eb:=G.even b (G.lt2 f);have eu:=G.even u (G.lt _ _ e);have ev:=G.even v (G.lt2 e);clear j1 j2 hd;by_cases h:Y a<=Y u
    .exact⟨Y u+1,by omega,by omega,by omega,by omega⟩
    .exact⟨Y a+1,by omega,by omega,by omega,by omega⟩
   obtain⟨_,k1,k2,k3,k4,k5,k6⟩:=G.level e f same h1 h2 h3 h4;exact zRt (tri (l:=Y u) (D:=0<Dl X Y t u v a b) d1 d2 k1 k2 k3 (G.inj b v (G.lt2 f) (G.lt2 e)) j2) (zRs (w:=Y v) (D:=0<Dl X Y t u v a b) d2 d1 k4 k5 k6 (G.inj a u (G.lt _ _ f) (G.lt _ _ e)) j1)
theorem yX.stepM(G:yX n X Y J){u v a b:Nat}{t:Int}(e:J u v)(h1:Y u<t)(h2:t<Y v)(f:J a b)(hab:Y a<Y b)(ha:Y a≠t)(hb:Y b≠t) :
  ind (t<Y b/\Y b<Y v/\T X Y u v b<0)-ind (t<Y a/\Y a<Y v/\T X Y u v a<0)=mid X Y t u v a b-tp X Y u v a b:=by
 have s:=G.step e (VR h1 h2) f hab;unfold bot at s;unfold mid;have j1:a=u->Y a=Y u:=λh=>by rw[h]
 have j2:b=v->Y b=Y v:=λh=>by rw[h]
 by_cases c1:t<Y a
 .rw[ze (p:=t<Y b/\_) (q:=Y u<Y b/\Y b<Y v/\T X Y u v b<0) ⟨λq=>⟨VR h1 q.1,q.2⟩,λq=>⟨VR c1 hab,q.2⟩⟩,ze (p:=t<Y a/\_) (q:=Y u<Y a/\Y a<Y v/\T X Y u v a<0) ⟨λq=>⟨VR h1 q.1,q.2⟩,λq=>⟨c1,q.2⟩⟩,zL (p:=Y a<t/\_) (λq=>V9 c1 q.1)];rw[zL (p:=Y a<Y u/\_) (λq=>V9 (VR h1 c1) q.1),zL (p:=a=u/\_) (λq=>Uv (VR h1 c1) (j1 q.1)),XW] at s;exact s
 .have a1:Y a<t:=by have:=Vt.mp c1;clear s j1 j2 c1;omega
  rw[zL (p:=t<Y a/\_) (λq=>c1 q.1)];by_cases c2:Y b<t
  .rw[zL (p:=t<Y b/\_) (λq=>V9 c2 q.1),zL (p:=Y a<t/\_) (λq=>V9 c2 q.2.1)];unfold tp;rw[zL (p:=Y a<Y v/\_) (λq=>V9 (VR c2 h2) q.2.1),zL (p:=b=v/\_) (λq=>Ut (VR c2 h2) (j2 q.1))];rfl
  .have c4:t<Y b:=by have:=Vt.mp c2;clear s j1 j2 c1 c2;omega
   unfold tp;by_cases same:a=u/\b=v
   .obtain⟨rfl,rfl⟩:=same;rw[zL (p:=t<Y b/\_) (λq=>Int.lt_irrefl _ q.2.1),zL (p:=_/\_/\0<Dl X Y t a b a b) (by clear s j1 j2;unfold Dl;omega),zL (p:=Y a<Y b/\_) (λq=>Int.lt_irrefl _ q.2.1),zL (p:=b=b/\_) (by rw[zEc];exact λq=>Int.lt_irrefl _ q.2.2)];rfl
   .obtain⟨_,k1,k2,k3,_⟩:=G.level e f same h1 h2 a1 c4;rw[ze (p:=Y a<t/\t<Y b/\_) (q:=0<Dl X Y t u v a b) ⟨λh=>h.2.2,λh=>⟨a1,c4,h⟩⟩];have q:=tri (l:=t) (D:=0<Dl X Y t u v a b) c4 (VR a1 h2) k1 k2 k3 (G.inj b v (G.lt2 f) (G.lt2 e)) j2;exact zRu q
def yw (n:Nat)(Y:Nat->Int)(d:Nat->Nat->Int)(g:Nat->Nat->Int):Int:=zX n (λa=>zX n (λb=>if Y a<Y b then d a b*g a b else 0))
theorem zAj(C:Zu n J d){g h:Nat->Nat->Int}(e:∀ a b,J a b->Y a<Y b->g a b=h a b):yw n Y d g=yw n Y d h:=by
 refine zk λa ha=>zk λb hb=>?_
 by_cases hl:Y a<Y b
 .rw[Wb hl,Wb hl];by_cases h0:d a b=0
  .rw[h0];simp
  .rw[e a b (C.supp a b h0) hl]
 .rw[Wa hl,Wa hl]
theorem zI6(g h:Nat->Nat->Int):yw n Y d (λa b=>g a b-h a b)=yw n Y d g-yw n Y d h:=by
 unfold yw;rw[<-zAA];refine zk λa ha=>?_
 rw[<-zAA];refine zk λb hb=>?_
 by_cases hl:Y a<Y b
 .rw[Wb hl,Wb hl,Wb hl,Int.mul_sub]
 .rw[Wa hl,Wa hl,Wa hl];rfl
theorem zGG(g h:Nat->Nat->Int):yw n Y d (λa b=>g a b+h a b)=yw n Y d g+yw n Y d h:=by
 unfold yw;rw[<-Zq];refine zk λa ha=>?_
 rw[<-Zq];refine zk λb hb=>?_
 by_cases hl:Y a<Y b
 .rw[Wb hl,Wb hl,Wb hl,Int.mul_add]
 .rw[Wa hl,Wa hl,Wa hl];rfl
theorem Zu.botTop(G:yX n X Y J)(C:Zu n J d){u v:Nat}(e:J u v)(huv:Y u<Y v):yw n Y d (bot X Y u v)=yw n Y d (tp X Y u v):=by
 have h:=C.flux G (λp=>ind (Y u<Y p/\Y p<Y v/\T X Y u v p<0));have h2:yw n Y d (λa b=>ind (Y u<Y b/\Y b<Y v/\T X Y u v b<0)-ind (Y u<Y a/\Y a<Y v/\T X Y u v a<0))=0:=h;rw[zAj C (λa b f hab=>G.step e huv f hab),zI6] at h2;omega
theorem Zu.midTop(G:yX n X Y J)(C:Zu n J d){u v:Nat}{t:Int}(e:J u v)(h1:Y u<t)(h2:t<Y v)(ht:∀ p,p<n->Y p≠t):yw n Y d (mid X Y t u v)=yw n Y d (tp X Y u v):=by
 have h:=C.flux G (λp=>ind (t<Y p/\Y p<Y v/\T X Y u v p<0));have h2:yw n Y d (λa b=>ind (t<Y b/\Y b<Y v/\T X Y u v b<0)-ind (t<Y a/\Y a<Y v/\T X Y u v a<0))=0:=h;rw[zAj C (λa b f hab=>G.stepM e h1 (by assumption) f hab (ht a (G.lt _ _ f)) (ht b (G.lt2 f))),zI6] at h2;omega
end
def Tp (X Y:Nat->Int)(a b:Nat)(px py:Int):Int:=(X b-X a)*(py-Y b)-(Y b-Y a)*(px-X b)
def ll (X Y:Nat->Int)(v a b:Nat):Prop:=(Y v<Y a/\¬ Y v<Y b)\/((Y v<Y a↔Y v<Y b)/\T X Y v a b<0)
instance (X Y:Nat->Int)(v a b:Nat):Decidable (ll X Y v a b):=by unfold ll;infer_instance
def base (n:Nat)(X Y:Nat->Int)(d:Nat->Nat->Int)(px py:Int):Int:=yw n Y d (λa b=>ind (Y a<py/\py<Y b/\0<Tp X Y a b px py))
def ell (n:Nat)(X Y:Nat->Int)(d:Nat->Nat->Int)(v:Nat):Int:=base n X Y d (X v) (Y v)+zX n (λw=>ind (Y v<Y w)*d v w)
def Yt (n:Nat)(X Y:Nat->Int)(d:Nat->Nat->Int)(u v:Nat):Int:=ell n X Y d v-zX n (λw=>ind (w=u\/ll X Y v w u)*d v w)
def zD7 (n:Nat)(X Y:Nat->Int)(d:Nat->Nat->Int)(v u:Nat):Int:=ell n X Y d v-zX n (λw=>ind (ll X Y v w u)*d v w)
section
variable {n:Nat}{X Y:Nat->Int}{J:Nat->Nat->Prop}{d:Nat->Nat->Int}
theorem zD8(v a:Nat):¬ ll X Y v a a:=by
 unfold ll;rw[zFg];omega
theorem zHk{v u:Nat}(hu:u<n):zD7 n X Y d v u=Yt n X Y d u v+d v u:=by
 unfold zD7 Yt
 have:zX n (λw=>ind (w=u\/ll X Y v w u)*d v w)=zX n (λw=>ind (ll X Y v w u)*d v w)+d v u:=by
  have e:d v u=zX n (λw=>ind (w=u)*d v w):=by
   rw[Zr hu λi _ hi=>by rw[zL hi,V7],yA rfl,UF]
  rw[e,<-Zq];refine zk λw _=>?_
  by_cases h:w=u
  .subst h;rw[yA (Or.inl rfl),zL (zD8 v w),yA rfl];omega
  .rw[zL h,ze (p:=w=u\/_) (q:=ll X Y v w u) ⟨λk=>k.resolve_left h,Or.inr⟩];grind
 lia
theorem dne(C:Zu n J d){v w:Nat}{x y:Int}(h:J v w->x=y):x*d v w=y*d v w:=by
 by_cases h0:d v w=0
 .rw[h0,Vr,Vr]
 .rw[h (C.supp _ _ h0)]
theorem Zu.linUp(G:yX n X Y J)(C:Zu n J d){u v:Nat}(e:J u v)(huv:Y u<Y v):Yt n X Y d u v=yw n Y d (tp X Y u v)+d u v:=by
 have hu:=G.lt _ _ e;have hv:=G.lt2 e
 have hb:yw n Y d (tp X Y u v)=base n X Y d (X v) (Y v)+zX n (λw=>ind (Y w<Y v/\T X Y u v w<0)*d w v):=by
  have:yw n Y d (tp X Y u v)=yw n Y d (λa b=>ind (Y a<Y v/\Y v<Y b/\0<Tp X Y a b (X v) (Y v)))+yw n Y d (λa b=>ind (b=v/\Y a<Y v/\T X Y u v a<0)):=by
   rw[<-zGG];rfl
  rw[this];unfold base
  congr 1
  unfold yw;refine zk λw _=>?_
  rw[Zr hv λb _ hb=>by dsimp only;rw[zL (by omega),Vr,UN]];dsimp only;by_cases h:Y w<Y v
  .rw[Wb h,ze (p:=v=v/\_) (q:=Y w<Y v/\T X Y u v w<0) (by simp),VC]
  .rw[Wa h,zL (by omega),V7]
 rw[hb];unfold Yt ell
 have:zX n (λw=>ind (Y v<Y w)*d v w)-zX n (λw=>ind (w=u\/ll X Y v w u)*d v w)=zX n (λw=>ind (Y w<Y v/\T X Y u v w<0)*d w v)+d u v:=by
  have e1:d u v=zX n (λw=>ind (w=u)*d w v):=by
   rw[Zr hu λi _ hi=>by rw[zL hi,V7],yA rfl,UF]
  rw[e1,<-zAA,<-Zq];refine zk λw hw=>?_
  rw[<-Int.sub_mul,<-Int.add_mul,C.anti w v,UG,<-Int.neg_mul];refine dne C λf=>?_
  have yn:=G.yne f;have q:T X Y v w u=T X Y u v w:=(zEd u v w).symm;have e2:ll X Y v w u↔(Y v<Y w\/(¬ Y v<Y w/\T X Y u v w<0)):=by unfold ll;rw[q];omega
  by_cases hwu:w=u
  .subst hwu;rw[zL (by omega),yA (Or.inl rfl),zL (by rw[zEc];omega),yA rfl];grind
  .rw[ze (p:=w=u\/_) (q:=Y v<Y w\/(¬ Y v<Y w/\T X Y u v w<0)) (by rw[e2];omega),zL hwu];by_cases hl:Y v<Y w
   .rw[yA hl,yA (Or.inl hl),zL (by omega)];grind
   .rw[zL hl,ze (p:=Y v<Y w\/_) (q:=Y w<Y v/\T X Y u v w<0) (by omega)];omega
 omega
theorem Zu.edgeUp(G:yX n X Y J)(C:Zu n J d){u v:Nat}(e:J u v)(huv:Y u<Y v):zD7 n X Y d u v=Yt n X Y d u v:=by
 have hu:=G.lt _ _ e;have hv:=G.lt2 e
 have h1:zD7 n X Y d u v=yw n Y d (bot X Y u v)+d u v:=by
  have hb:yw n Y d (bot X Y u v)=base n X Y d (X u) (Y u)+zX n (λw=>ind (Y u<Y w/\T X Y u v w<0)*d u w):=by
   have:yw n Y d (bot X Y u v)=yw n Y d (λa b=>ind (Y a<Y u/\Y u<Y b/\0<Tp X Y a b (X u) (Y u)))+yw n Y d (λa b=>ind (a=u/\Y u<Y b/\T X Y u v b<0)):=by
    rw[<-zGG];rfl
   rw[this];unfold base
   congr 1
   unfold yw;rw[Zr hu]
   .refine zk λw _=>?_
    dsimp only;by_cases h:Y u<Y w
    .rw[Wb h,ze (p:=u=u/\_) (q:=Y u<Y w/\T X Y u v w<0) (by simp),VC]
    .rw[Wa h,zL (by omega),V7]
   .intro a _ ha;refine yJ λb _=>?_
    dsimp only;rw[zL (by omega),Vr,UN]
  rw[hb];unfold zD7 ell
  have:zX n (λw=>ind (Y u<Y w)*d u w)-zX n (λw=>ind (ll X Y u w v)*d u w)=zX n (λw=>ind (Y u<Y w/\T X Y u v w<0)*d u w)+d u v:=by
   have e1:d u v=zX n (λw=>ind (w=v)*d u w):=by
    rw[Zr hv λi _ hi=>by rw[zL hi,V7],yA rfl,UF]
   rw[e1,<-zAA,<-Zq];refine zk λw hw=>?_
   rw[<-Int.sub_mul,<-Int.add_mul];refine dne C λf=>?_
   have q:=YY (X:=X) (Y:=Y) u v w;have e2:ll X Y u w v↔(Y u<Y w/\T X Y u w v<0):=by unfold ll;omega
   rw[ze e2];by_cases hl:Y u<Y w
   .rw[yA hl];by_cases hwv:w=v
    .subst hwv;rw[zL (p:=_/\T X Y u w w<0) (by rw[zFg];omega),yA (p:=w=w) rfl];omega
    .rw[zL hwv]
     have nz:T X Y u v w≠0:=by
      rcases W0 (Y w) (Y v) with h|h|h
      .exact G.on u v w e hw hl h
      .exact absurd (G.inj w v hw hv h) hwv
      .have:=G.on u w v f hv huv h;omega
     by_cases hs:T X Y u v w<0
     .rw[zL (p:=Y u<Y w/\T X Y u w v<0) (by omega),yA (p:=Y u<Y w/\T X Y u v w<0) ⟨hl,hs⟩];omega
     .rw[yA (p:=Y u<Y w/\T X Y u w v<0) ⟨hl,by omega⟩,zL (p:=Y u<Y w/\T X Y u v w<0) (by omega)];omega
   .have:w≠v:=λh=>hl (by rw[h];exact huv)
    rw[zL hl,zL (p:=Y u<Y w/\T X Y u w v<0) (by omega),zL (p:=Y u<Y w/\T X Y u v w<0) (by omega),zL this];omega
  omega
 rw[h1,C.linUp G e huv,C.botTop G e huv]
theorem Zu.edge(G:yX n X Y J)(C:Zu n J d){u v:Nat}(e:J u v):zD7 n X Y d u v=Yt n X Y d u v:=by
 have:=G.yne e;by_cases h:Y u<Y v
 .exact C.edgeUp G e h
 .have k:=C.edgeUp G (G.sym _ _ e) (by omega);have a1:=zHk (n:=n) (X:=X) (Y:=Y) (d:=d) (v:=u) (u:=v) (G.lt2 e);have a2:=zHk (n:=n) (X:=X) (Y:=Y) (d:=d) (v:=v) (u:=u) (G.lt _ _ e);have:=C.anti u v
  lia
theorem Zu.rev(G:yX n X Y J)(C:Zu n J d){u v:Nat}(e:J u v):Yt n X Y d u v=Yt n X Y d v u+d u v:=by
 rw[<-C.edge G e,zHk (G.lt2 e)]
def Nx (X Y:Nat->Int)(J:Nat->Nat->Prop)(v p q:Nat):Prop:=J v q/\((∀ w,J v w->((w=p\/ll X Y v w p)↔ll X Y v w q))\/((∀ w,J v w->w=p\/ll X Y v w p)/\∀ w,J v w->¬ ll X Y v w q))
theorem Zu.cons2(C:Zu n J d){v:Nat}(hv:v<n):zX n (λw=>d v w)=0:=by
 rw[show (λw=>d v w)=(λw=>- d w v) from funext λw=>C.anti v w,zCH,C.cons v hv];rfl
theorem Zu.corner(G:yX n X Y J)(C:Zu n J d){v p q:Nat}(h:Nx X Y J v p q):Yt n X Y d p v=Yt n X Y d v q:=by
 obtain⟨jq,h⟩:=h;rw[<-C.edge G jq];unfold Yt zD7
 congr 1
 rcases h with h|⟨h1,h2⟩
 .refine zk λw _=>dne C λf=>ze (h w f)
 .rw[yJ (f:=λw=>ind (ll X Y v w q)*d v w) λw _=>by rw[dne C (y:=0) λf=>zL (h2 w f),V7],<-C.cons2 (G.lt _ _ jq)];refine zk λw _=>?_
  rw[dne C (y:=1) λf=>yA (h1 w f),UF]
theorem Zu.outer(G:yX n X Y J)(C:Zu n J d){v q:Nat}(hv:∀ w,w<n->Y w<=Y v)(jq:J v q)(hq:∀ w,J v w->¬ ll X Y v w q):Yt n X Y d v q=0:=by
 rw[<-C.edge G jq];unfold zD7 ell base;rw[yJ (f:=λw=>ind (ll X Y v w q)*d v w) λw _=>by rw[dne C (y:=0) λf=>zL (hq w f),V7]];rw[yJ (f:=λw=>ind (Y v<Y w)*d v w) λw hw=>by rw[zL (by have:=hv w hw;omega),V7]];unfold yw;rw[yJ λa _=>yJ λb hb=>by dsimp only;rw[zL (by have:=hv b hb;omega),Vr,UN]];rfl
theorem zRv{x y z a b c:Int}(hx:Sg x a)(hy:Sg y b)(hz:Sg z c)(e:x=y+z)(h1:b<0)(h2:c<0):a<0:=by
 have q1:=hy.2.1.mpr h1;have q2:=hz.2.1.mpr h2;exact hx.2.1.mp (by omega)
theorem zRw{x y z a b c:Int}(hx:Sn x a)(hy:Sn y b)(hz:Sn z c)(e:x=y+z)(h1:b<0)(h2:c<0):a<0:=by
 have q1:=hy.1.mpr h1;have q2:=hz.1.mpr h2;exact hx.1.mp (by omega)
theorem zHl(G:yX n X Y J){v a b c:Nat}(ja:J v a)(jb:J v b)(jc:J v c)(h1:ll X Y v a b)(h2:ll X Y v b c):ll X Y v a c:=by
 have ya:=G.yne ja;have yb:=G.yne jb;have yc:=G.yne jc;have id:(Y b-Y v)*T X Y v a c=(Y a-Y v)*T X Y v b c+(Y c-Y v)*T X Y v a b:=by unfold T;grind
 have ng:∀ x,Y v≠Y x->¬ Y v<Y x->Y x-Y v<0:=λx h1 h2=>by lia
 unfold ll at *
 rcases h1 with ⟨a1,a2⟩|⟨a1,a2⟩ <;> rcases h2 with ⟨b1,b2⟩|⟨b1,b2⟩
 .exact absurd b1 a2
 .exact .inl ⟨a1,λz=>a2 (b1.mpr z)⟩
 .exact .inl ⟨a1.mpr b1,b2⟩
 .refine .inr ⟨a1.trans b1,?_⟩;by_cases hb:Y v<Y b
  .exact zRv (yh (WZ hb)) (yh (WZ (a1.mpr hb))) (yh (WZ (b1.mp hb))) id b2 a2
  .exact zRw (zD6 (ng b yb hb)) (zD6 (ng a ya λz=>hb (a1.mp z))) (zD6 (ng c yc λz=>hb (b1.mpr z))) id b2 a2
theorem zEe(G:yX n X Y J){v a b:Nat}(ja:J v a)(jb:J v b)(h1:ll X Y v a b)(h2:ll X Y v b a):False:=zD8 v a (zHl G ja jb ja h1 h2)
theorem YZ(G:yX n X Y J){v a b:Nat}(ja:J v a)(jb:J v b)(hab:a≠b):ll X Y v a b\/ll X Y v b a:=by
 have ya:=G.yne ja;have yb:=G.yne jb;have s:=YY (X:=X) (Y:=Y) v a b;have la:=G.lt2 ja;have lb:=G.lt2 jb
 have nz:(Y v<Y a↔Y v<Y b)->T X Y v a b≠0:=by
  intro h h0;have c1:=zEd (X:=X) (Y:=Y) v a b;have c2:=zEd (X:=X) (Y:=Y) a b v;rcases W0 (Y a) (Y b) with k|k|k
  .by_cases hv:Y v<Y a
   .exact G.on v b a jb la hv k (by lia)
   .refine G.on a v b (G.sym _ _ ja) lb k (by omega) ?_;have:=YY (X:=X) (Y:=Y) a b v
    lia
  .exact hab (G.inj a b la lb k)
  .by_cases hv:Y v<Y b
   .exact G.on v a b ja lb hv k h0
   .refine G.on b v a (G.sym _ _ jb) la k (by grind) ?_
    lia
 unfold ll;by_cases h:(Y v<Y a↔Y v<Y b)
 .have:=nz h;omega
 .omega
open Classical in
noncomputable def rk (n:Nat) (X Y:Nat->Int) (J:Nat->Nat->Prop) (v w:Nat):Int:=zX n (λx=>if J v x/\ll X Y v x w then 1 else 0)
open Classical in
theorem Y2(G:yX n X Y J){v a b:Nat}(ja:J v a)(jb:J v b)(h:ll X Y v a b):rk n X Y J v a<rk n X Y J v b:=by
 have:0<zX n (λx=>(if J v x/\ll X Y v x b then 1 else 0)-(if J v x/\ll X Y v x a then (1:Int) else 0)):=by
  refine zE6 (k:=a) (λi _=>?_) (G.lt2 ja) ?_
  .by_cases h1:J v i/\ll X Y v i a
   .rw[Wb h1,Wb ⟨h1.1,zHl G h1.1 ja jb h1.2 h⟩];omega
   .rw[Wa h1];split <;> grind
  .rw[Wb ⟨ja,h⟩,Wa λk=>zD8 v a k.2];omega
 rw[zAA] at this;unfold rk;omega
open Classical in
theorem zFh{v w:Nat}:rk n X Y J v w<=n:=by
 unfold rk;generalize hf:(λx=>if J v x/\ll X Y v x w then (1:Int) else 0)=f
 have h1:∀ x,f x<=1:=by
  intro x;rw[<-hf];dsimp only;split <;> omega
 clear hf
 induction n with
|zero=>simp[zX]
|succ n ih=>
  simp only[zX];have:=h1 n;omega
theorem zFi(G:yX n X Y J){nx:Nat->Nat->Nat}(hnx:∀ p v,J p v->Nx X Y J v p (nx p v)){v:Nat}(h:Nat->Int)(hh:∀ w,J v w->h w=h (nx w v)) :
  ∀ (k:Nat) (w:Nat),J v w->(n:Int)-rk n X Y J v w<=k->∃ M,J v M/\(∀ x,J v x->x=M\/ll X Y v x M)/\h w=h M
|0,w,jw,hk=>by
  obtain⟨jq,s|s⟩:=hnx w v (G.sym _ _ jw)
  .have:=Y2 G jw jq ((s w jw).mp (Or.inl rfl));have:=zFh (n:=n) (X:=X) (Y:=Y) (J:=J) (v:=v) (w:=nx w v);omega
  .exact⟨w,jw,s.1,rfl⟩
|k+1,w,jw,hk=>by
  obtain⟨jq,s|s⟩:=hnx w v (G.sym _ _ jw)
  .have:=Y2 G jw jq ((s w jw).mp (Or.inl rfl));obtain⟨M,a,b,c⟩:=zFi G hnx h hh k (nx w v) jq (by omega);exact⟨M,a,b,(hh w jw).trans c⟩
  .exact⟨w,jw,s.1,rfl⟩
theorem around(G:yX n X Y J){nx:Nat->Nat->Nat}(hnx:∀ p v,J p v->Nx X Y J v p (nx p v)){v:Nat}(h:Nat->Int)(hh:∀ w,J v w->h w=h (nx w v)){a b:Nat}(ja:J v a)(jb:J v b):h a=h b:=by
 obtain⟨M,m1,m2,m3⟩:=zFi G hnx h hh _ a ja (UU _);obtain⟨M',k1,k2,k3⟩:=zFi G hnx h hh _ b jb (UU _)
 have e:M=M':=by
  rcases k2 M m1 with e|e
  .exact e
  .rcases m2 M' k1 with e'|e'
   .exact e'.symm
   .exact absurd e (λe=>zEe G m1 k1 e e')
 rw[m3,k3,e]
theorem zPl(G:yX n X Y J){v p p' q:Nat}(jp:J v p)(jp':J v p')(h:Nx X Y J v p q)(h':Nx X Y J v p' q):p=p':=by
 obtain⟨jq,s|s⟩:=h
 .obtain⟨_,s'|s'⟩:=h'
  .rcases (s' p jp).mpr ((s p jp).mp (Or.inl rfl)) with e|e
   .exact e
   .rcases (s p' jp').mpr ((s' p' jp').mp (Or.inl rfl)) with e'|e'
    .exact e'.symm
    .exact absurd e' (λe'=>zEe G jp jp' e e')
  .exact absurd ((s p jp).mp (Or.inl rfl)) (s'.2 p jp)
 .obtain⟨_,s'|s'⟩:=h'
  .exact absurd ((s' p' jp').mp (Or.inl rfl)) (s.2 p' jp')
  .rcases s'.1 p jp with e|e
   .exact e
   .rcases s.1 p' jp' with e'|e'
    .exact e'.symm
    .exact absurd e' (λe'=>zEe G jp jp' e e')
abbrev zh:=Nat×Nat
def ph (nx:Nat->Nat->Nat)(e:zh):zh:=(e.2,nx e.1 e.2)
def yC (nx:Nat->Nat->Nat):Nat->zh->zh
|0,e=>e
|k+1,e=>yC nx k (ph nx e)
def zU (nx:Nat->Nat->Nat):Nat->zh->List zh
|0,_=>[]
|k+1,e=>e::zU nx k (ph nx e)
variable {nx:Nat->Nat->Nat}
theorem ZV:∀ (k:Nat) (e:zh),yC nx (k+1) e=ph nx (yC nx k e)
|0,_=>rfl
|k+1,e=>ZV k (ph nx e)
theorem zAk:∀ (i j:Nat) (e:zh),yC nx (i+j) e=yC nx i (yC nx j e)
|i,0,e=>rfl
|i,j+1,e=>zAk i j (ph nx e)
theorem zn{x:zh}:∀ {k:Nat}{e:zh},x∈zU nx k e↔∃ i,i<k/\x=yC nx i e
|0,e=>by simp[zU]
|k+1,e=>by
  rw[zU,Wc,zn];constructor
  .rintro (h|⟨i,hi,h⟩)
   .exact⟨0,by grind,h⟩
   .exact⟨i+1,by omega,h⟩
  .rintro⟨i,hi,h⟩;cases i with
  |zero=>exact Or.inl h
  |succ i=>exact Or.inr ⟨i,by omega,h⟩
theorem ZW:∀ (k:Nat) (e:zh),(zU nx k e).length=k
|0,_=>rfl
|k+1,e=>WV (· + 1) (ZW k _)
theorem Zy(hnx:∀ p v,J p v->Nx X Y J v p (nx p v)):∀ (k:Nat) {e:zh},J e.1 e.2->J (yC nx k e).1 (yC nx k e).2
|0,_,h=>h
|k+1,e,h=>Zy hnx k (e:=ph nx e) (hnx _ _ h).1
theorem zFj(G:yX n X Y J)(hnx:∀ p v,J p v->Nx X Y J v p (nx p v)){a b:zh}(ja:J a.1 a.2)(jb:J b.1 b.2)(h:ph nx a=ph nx b):a=b:=by
 obtain⟨p,v⟩:=a;obtain⟨p',v'⟩:=b;have e1:v=v':=WV Prod.fst h;subst e1;have e2:nx p v=nx p' v:=WV Prod.snd h;have h':=hnx p' v jb;rw[<-e2] at h';have e3:p=p':=zPl G (G.sym _ _ ja) (G.sym _ _ jb) (hnx p v ja) h';rw[e3]
theorem zEf(G:yX n X Y J)(hnx:∀ p v,J p v->Nx X Y J v p (nx p v)):∀ (k:Nat) {a b:zh},J a.1 a.2->J b.1 b.2->yC nx k a=yC nx k b->a=b
|0,_,_,_,_,h=>h
|k+1,a,b,ja,jb,h=>zFj G hnx ja jb (zEf G hnx k (hnx _ _ ja).1 (hnx _ _ jb).1 h)
def dW (W:List zh)(a b:Nat):Int:=(W.count (a,b):Int)-(W.count (b,a):Int)
theorem zD9(x:Nat):∀ (W:List zh),(∀ e∈W,e.1<n)->zX n (λu=>(W.count (u,x):Int))=((W.countP (λe=>e.2==x)):Int)
|[],_=>by simpa using yJ λ_ _=>rfl
|e::W,h=>by
  have ih:=zD9 x W λe' he=>h e' (by simp[he])
  have h1:zX n (λu=>if e=(u,x) then (1:Int) else 0)=if e.2=x then 1 else 0:=by
   by_cases hx:e.2=x
   .rw[Wb hx,Zr (k:=e.1) (h e (by simp)),Wb (by rw[<-hx])];intro i _ hi;rw[Wa λhe=>hi (by rw[he])]
   .rw[Wa hx];exact yJ λi _=>Wa λhe=>hx (by rw[he])
  rw[XG]
  have h2:(λu=>((e::W).count (u,x):Int))=λu=>(W.count (u,x):Int)+(if e=(u,x) then (1:Int) else 0):=by
   funext u
   rw[Uz];by_cases he:e=(u,x)
   .rw[Wb he,Wb (by simp[he])];grind
   .rw[Wa he,Wa (by simpa using he)];grind
  rw[h2,Zq,ih,h1];by_cases hx:e.2=x
  .rw[Wb hx,Wb (by simpa using hx)];omega
  .rw[Wa hx,Wa (by simpa using hx)];omega
theorem zFk(a b:Nat):∀ (W:List zh),(W.map λe=>(e.2,e.1)).count (a,b)=W.count (b,a)
|[]=>rfl
|e::W=>by
  rw[Wj,Uz,Uz,zFk a b W]
  congr 1
  by_cases h:e=(b,a)
  .subst h;simp
  .rw[Wa (by intro k;apply h;have:=eq_of_beq k;obtain⟨e1,e2⟩:=e;simp at this;rw[this.1,this.2]),Wa (by simpa using h)]
theorem zLO(G:yX n X Y J){W:List zh}(hJ:∀ e∈W,J e.1 e.2)(hc:∀ x,W.countP (λe=>e.2==x)=W.countP (λe=>e.1==x)):Zu n J (dW W):=by
 refine⟨λa b=>by unfold dW;grind,λa b h=>?_,λx hx=>?_⟩
 .by_cases h1:(a,b)∈W
  .exact hJ _ h1
  .by_cases h2:(b,a)∈W
   .exact G.sym _ _ (hJ _ h2)
   .unfold dW at h;rw[XL h1,XL h2] at h;exact absurd rfl h
 .unfold dW;rw[zAA,zD9 x W λe he=>G.lt _ _ (hJ e he)]
  have h2:(λu=>(W.count (x,u):Int))=λu=>((W.map λe=>(e.2,e.1)).count (u,x):Int):=by
   funext u
   rw[zFk]
  rw[h2,zD9 x _ λe he=>by
   obtain⟨e',he',rfl⟩:=Wg.mp he;exact G.lt2 (hJ e' he')]
  rw[List.countP_map,hc x];have:((λ(e:zh)=>e.2==x)∘λ(e:zh)=>(e.2,e.1))=λe=>e.1==x:=rfl
  rw[this]
  grind
theorem zHm(x:Nat):∀ (k:Nat) (e:zh),((zU nx k e).countP (λe=>e.2==x):Int)-((zU nx k e).countP (λe=>e.1==x):Int)=(if (yC nx k e).1=x then 1 else 0)-(if e.1=x then 1 else 0)
|0,e=>by simp only[zU,yC,List.countP_nil];grind
|k+1,e=>by
  have ih:=zHm x k (ph nx e);rw[zU,XG,XG];have e1:(ph nx e).1=e.2:=rfl;rw[e1] at ih;rw[yC];simp only[Vs] at *
  split <;> split <;> simp_all <;> lia
theorem zI7(G:yX n X Y J)(hnx:∀ p v,J p v->Nx X Y J v p (nx p v)){k:Nat}{e:zh}(je:J e.1 e.2)(hk:(yC nx k e).1=e.1):Zu n J (dW (zU nx k e)):=by
 refine zLO G (λx hx=>?_) (λx=>?_)
 .obtain⟨i,_,rfl⟩:=zn.mp hx;exact Zy hnx i je
 .have:=zHm (nx:=nx) x k e;rw[hk] at this;omega
theorem zHn{W:List zh}(h:W.Nodup)(a b:Nat):dW W a b=ind ((a,b)∈W)-ind ((b,a)∈W):=by
 have c:∀ e:zh,(W.count e:Int)=ind (e∈W):=by
  intro e;by_cases he:e∈W
  .rw[yA he,h.count,Wb he];rfl
  .rw[zL he,XL he];rfl
 unfold dW;rw[c,c]
end
section
variable {n:Nat}{X Y:Nat->Int}{J:Nat->Nat->Prop}{nx:Nat->Nat->Nat}
structure Dr(n:Nat)(X Y:Nat->Int)(J:Nat->Nat->Prop)(nx:Nat->Nat->Nat):Prop where
 G:yX n X Y J
 hnx:∀ p v,J p v->Nx X Y J v p (nx p v)
 deg:∀ v,v<n->∃ w,J w v
 conn:∀ h:Nat->Int,(∀ a b,J a b->h a=h b)->∀ a b,a<n->b<n->h a=h b
 cut:∀ v,v<n->∀ h:Nat->Int,(∀ a b,J a b->a≠v->b≠v->h a=h b)->∀ a b,a<n->b<n->a≠v->b≠v->h a=h b
theorem Dr.at_(D:Dr n X Y J nx){g:Nat->Nat->Int}{x:Nat}(h1:∀ p,J p x->g p x=g x (nx p x))(h2:∀ u,J u x->g u x=g x u){a b:Nat}(ja:J a x)(jb:J b x):g a x=g b x:=by
 refine around D.G D.hnx (v:=x) (λw=>g w x) (λw jw=>?_) (D.G.sym _ _ ja) (D.G.sym _ _ jb);have jp:=D.G.sym _ _ jw;have jn:=(D.hnx w x jp).1;show g w x=g (nx w x) x;rw[h1 w jp,h2 _ (D.G.sym _ _ jn)]
theorem Dr.all(D:Dr n X Y J nx){g:Nat->Nat->Int}(h1:∀ p x,J p x->g p x=g x (nx p x))(h2:∀ u x,J u x->g u x=g x u){a b a' b':Nat}(j:J a b)(j':J a' b'):g a b=g a' b':=by
 obtain⟨c,hc⟩:∃ c:Nat->Nat,∀ v,v<n->J (c v) v:=by
  refine⟨λv=>if h:v<n then Classical.choose (D.deg v h) else 0,λv hv=>?_⟩;dsimp only;rw[dif_pos hv];exact Classical.choose_spec (D.deg v hv)
 have k:=D.conn (λv=>g (c v) v) (λx y jxy=>?_) b b' (D.G.lt2 j) (D.G.lt2 j')
 .have e1:=D.at_ (λp=>h1 p b) (λu=>h2 u b) j (hc b (D.G.lt2 j));have e2:=D.at_ (λp=>h1 p b') (λu=>h2 u b') j' (hc b' (D.G.lt2 j'));rw[e1,e2];exact k
 .have e1:=D.at_ (λp=>h1 p x) (λu=>h2 u x) (hc x (D.G.lt _ _ jxy)) (D.G.sym _ _ jxy);have e2:=D.at_ (λp=>h1 p y) (λu=>h2 u y) (hc y (D.G.lt2 jxy)) jxy;show g (c x) x=g (c y) y;rw[e1,e2,h2 x y jxy]
theorem Dr.allBut(D:Dr n X Y J nx){v:Nat}(hv:v<n){g:Nat->Nat->Int}(h1:∀ p x,J p x->x≠v->g p x=g x (nx p x))(h2:∀ u x,J u x->g u x=g x u){a b a' b':Nat}(j:J a b)(j':J a' b')(hb:b≠v)(hb':b'≠v):g a b=g a' b':=by
 obtain⟨c,hc⟩:∃ c:Nat->Nat,∀ v,v<n->J (c v) v:=by
  refine⟨λv=>if h:v<n then Classical.choose (D.deg v h) else 0,λv hv=>?_⟩;dsimp only;rw[dif_pos hv];exact Classical.choose_spec (D.deg v hv)
 have k:=D.cut v hv (λv=>g (c v) v) (λx y jxy hx hy=>?_) b b' (D.G.lt2 j) (D.G.lt2 j') hb hb'
 .have e1:=D.at_ (λp jp=>h1 p b jp hb) (λu=>h2 u b) j (hc b (D.G.lt2 j));have e2:=D.at_ (λp jp=>h1 p b' jp hb') (λu=>h2 u b') j' (hc b' (D.G.lt2 j'));rw[e1,e2];exact k
 .have e1:=D.at_ (λp jp=>h1 p x jp hx) (λu=>h2 u x) (hc x (D.G.lt _ _ jxy)) (D.G.sym _ _ jxy);have e2:=D.at_ (λp jp=>h1 p y jp hy) (λu=>h2 u y) (hc y (D.G.lt2 jxy)) jxy;show g (c x) x=g (c y) y;rw[e1,e2,h2 x y jxy]
structure Zv(nx:Nat->Nat->Nat)(k:Nat)(e:zh):Prop where
 pos:0<k
 back:yC nx k e=e
 least:∀ i,0<i->i<k->yC nx i e≠e
theorem Zv.inj(D:Dr n X Y J nx){k:Nat}{e:zh}(je:J e.1 e.2)(P:Zv nx k e){i j:Nat}(hi:i<k)(hj:j<k)(h:yC nx i e=yC nx j e):i=j:=by
 have key:∀ i j,i<j->j<k->yC nx i e≠yC nx j e:=by
  intro i j hij hj h;rw[show j=i+(j-i) by omega,zAk] at h;have:=zEf D.G D.hnx i je (Zy D.hnx (j-i) je) h;exact P.least (j-i) (by omega) (by omega) this.symm
 rcases VM i j with q|q|q
 .exact absurd h (key i j q hj)
 .exact q
 .exact absurd h.symm (key j i q hi)
theorem zBk:∀ (k:Nat) (e:zh),(∀ i j,i<k->j<k->yC nx i e=yC nx j e->i=j)->(zU nx k e).Nodup
|0,_,_=>Vl
|k+1,e,h=>by
  rw[zU,Vh];refine⟨λhm=>?_,zBk k _ λi j hi hj he=>?_⟩
  .obtain⟨i,hi,he⟩:=zn.mp hm;have:=h 0 (i+1) (by omega) (by omega) he;omega
  .have:=h (i+1) (j+1) (by omega) (by omega) he;omega
theorem Zv.nodup(D:Dr n X Y J nx){k:Nat}{e:zh}(je:J e.1 e.2)(P:Zv nx k e):(zU nx k e).Nodup:=zBk k e λ_ _ hi hj h=>P.inj D je hi hj h
theorem Zv.mem_ph(D:Dr n X Y J nx){k:Nat}{e x:zh}(je:J e.1 e.2)(P:Zv nx k e)(jx:J x.1 x.2):x∈zU nx k e↔ph nx x∈zU nx k e:=by
 constructor
 .intro h;obtain⟨i,hi,rfl⟩:=zn.mp h;rw[<-ZV];by_cases hk:i+1<k
  .exact zn.mpr ⟨i+1,hk,rfl⟩
  .have:i+1=k:=by omega
   rw[this,P.back];exact zn.mpr ⟨0,P.pos,rfl⟩
 .intro h;obtain⟨i,hi,h⟩:=zn.mp h;cases i with
 |zero=>
   have e1:e=ph nx (yC nx (k-1) e):=by
    rw[<-ZV,show k-1+1=k by have:=P.pos;omega,P.back]
   have h2:ph nx x=ph nx (yC nx (k-1) e):=h.trans e1;rw[zFj D.G D.hnx jx (Zy D.hnx _ je) h2];exact zn.mpr ⟨k-1,by have:=P.pos;omega,rfl⟩
 |succ i=>
   rw[ZV] at h;rw[zFj D.G D.hnx jx (Zy D.hnx _ je) h];exact zn.mpr ⟨i,by omega,rfl⟩
theorem Zv.cyc(D:Dr n X Y J nx){k:Nat}{e:zh}(je:J e.1 e.2)(P:Zv nx k e):Zu n J (dW (zU nx k e)):=zI7 D.G D.hnx je (by rw[P.back])
theorem Zv.left(D:Dr n X Y J nx){k:Nat}{e:zh}(je:J e.1 e.2)(P:Zv nx k e){v q:Nat}(hv:∀ w,w<n->Y w<=Y v)(jq:J v q)(hq:∀ w,J v w->¬ ll X Y v w q){a b:Nat}(j:J a b) :
  Yt n X Y (dW (zU nx k e)) a b=ind ((a,b)∈zU nx k e)-ind ((v,q)∈zU nx k e):=by
 have C:=P.cyc D je;have h:=D.all (g:=λa b=>Yt n X Y (dW (zU nx k e)) a b-ind ((a,b)∈zU nx k e)) (λp x jp=>?_) (λu x ju=>?_) j jq
 .rw[C.outer D.G hv jq hq] at h;omega
 .rw[C.corner D.G (D.hnx p x jp),ze (P.mem_ph D je (x:=(p,x)) jp)];rfl
 .rw[C.rev D.G ju,zHn (P.nodup D je)];omega
theorem Zv.simple(D:Dr n X Y J nx){k:Nat}{e:zh}(je:J e.1 e.2)(P:Zv nx k e){j:Nat}(h0:0<j)(hj:j<k):(yC nx j e).1≠e.1:=by
 intro hb;have C:Zu n J (dW (zU nx j e)):=zI7 D.G D.hnx je hb;have nd:(zU nx j e).Nodup:=zBk j e λa b ha hb h=>P.inj D je (by omega) (by omega) h
 have hl:yC nx (k-1) e∉zU nx j e:=by
  intro h;obtain⟨i,hi,h⟩:=zn.mp h;have:=P.inj D je (i:=k-1) (j:=i) (by omega) (by omega) h;omega
 have jl:=Zy D.hnx (k-1) je;have el:ph nx (yC nx (k-1) e)=e:=by rw[<-ZV,show k-1+1=k by omega,P.back]
 have hin:e∈zU nx j e:=zn.mpr ⟨0,h0,rfl⟩;generalize yC nx (k-1) e=l at hl jl el;obtain⟨v,q⟩:=e;obtain⟨p,v'⟩:=l;have e1:v'=v:=WV Prod.fst el;subst e1;have e2:nx p v'=q:=WV Prod.snd el;have hvn:v'<n:=D.G.lt _ _ je
 have h2:∀ u x,J u x->Yt n X Y (dW (zU nx j (v',q))) u x-ind ((u,x)∈zU nx j (v',q))=Yt n X Y (dW (zU nx j (v',q))) x u-ind ((x,u)∈zU nx j (v',q)):=by
  intro u x ju;rw[C.rev D.G ju,zHn nd];omega
 have h1:∀ p x,J p x->x≠v'->Yt n X Y (dW (zU nx j (v',q))) p x-ind ((p,x)∈zU nx j (v',q))=Yt n X Y (dW (zU nx j (v',q))) x (nx p x)-ind ((x,nx p x)∈zU nx j (v',q)):=by
  intro p x jp hx;rw[C.corner D.G (D.hnx p x jp)]
  congr 1
  refine ze ⟨λh=>?_,λh=>?_⟩
  .obtain⟨i,hi,h⟩:=zn.mp h;have h':(x,nx p x)=yC nx (i+1) (v',q):=by rw[ZV,<-h];rfl
   by_cases hk:i+1<j
   .exact zn.mpr ⟨i+1,hk,h'⟩
   .have e3:i+1=j:=by omega
    rw[e3] at h';rw[<-h'] at hb;exact absurd hb hx
  .obtain⟨i,hi,h⟩:=zn.mp h;cases i with
  |zero=>exact absurd (WV Prod.fst h) hx
  |succ i=>
    rw[ZV] at h;have h3:ph nx (p,x)=ph nx (yC nx i (v',q)):=h;have h4:=zFj D.G D.hnx (a:=(p,x)) jp (Zy D.hnx _ je) h3;rw[h4];exact zn.mpr ⟨i,by omega,rfl⟩
 have jp:J p v':=jl;have jq:J v' q:=je;have hp:p≠v':=D.G.ne _ _ jp;have hq:q≠v':=λh=>D.G.ne _ _ jq h.symm
 have k1:=D.allBut hvn (g:=λa b=>Yt n X Y (dW (zU nx j (v',q))) a b-ind ((a,b)∈zU nx j (v',q))) h1 h2 (D.G.sym _ _ jp) jq hp hq;have k2:=h2 p v' jp;have k3:=C.corner D.G (D.hnx p v' jp);rw[e2] at k3;rw[yA hin] at k1;rw[zL hl] at k2;omega
theorem Yl{α:Type}[DecidableEq α]:∀ (l m:List α),l.Nodup->(∀ x∈l,x∈m)->l.length<=m.length
|[],_,_,_=>WH _
|a::l,m,h,hs=>by
  rw[Vh] at h;have hm:a∈m:=hs a (by simp)
  have:=Yl l (m.erase a) h.2 λx hx=>by
   have hne:x≠a:=λe=>h.1 (e ▸ hx)
   exact (List.mem_erase_of_ne hne).mpr (hs x (by simp[hx]))
  rw[List.length_erase_of_mem hm] at this;have hp:0<m.length:=List.length_pos_of_mem hm;rw[WD];omega
theorem zMY{P:Nat->Prop}:∀ (m:Nat),P m->∃ k,k<=m/\P k/\∀ i,i<k->¬ P i:=by
 intro m
 induction m using Nat.strongRecOn with
|ind m ih=>
  intro hm;by_cases h:∃ i,i<m/\P i
  .obtain⟨i,hi,hp⟩:=h;obtain⟨k,h1,h2,h3⟩:=ih i hi hp;exact⟨k,by omega,h2,h3⟩
  .exact⟨m,Wd _,hm,λi hi hp=>h ⟨i,hi,hp⟩⟩
theorem Dr.per(D:Dr n X Y J nx){A:List zh}(hA:∀ e:zh,J e.1 e.2->e∈A){e:zh}(je:J e.1 e.2):∃ k,Zv nx k e/\k<=A.length:=by
 have h1:∃ i j,i<j/\j<=A.length/\yC nx i e=yC nx j e:=by
  refine WM λhno=>?_
  have nd:(zU nx (A.length+1) e).Nodup:=zBk _ _ λi j hi hj h=>by
   rcases VM i j with q|q|q
   .exact absurd ⟨i,j,q,by omega,h⟩ hno
   .exact q
   .exact absurd ⟨j,i,q,by omega,h.symm⟩ hno
  have:=Yl _ A nd λx hx=>by
   obtain⟨i,_,rfl⟩:=zn.mp hx;exact hA _ (Zy D.hnx i je)
  rw[ZW] at this;omega
 obtain⟨i,j,hij,hj,h⟩:=h1;rw[show j=i+(j-i) by omega,zAk] at h;have hb:=zEf D.G D.hnx i je (Zy D.hnx _ je) h;obtain⟨k,k1,k2,k3⟩:=zMY (P:=λm=>yC nx (m+1) e=e) (j-i-1) (by rw[show j-i-1+1=j-i by omega];exact hb.symm);refine⟨k+1,⟨by omega,k2,λi hi hk he=>k3 (i-1) (by omega) ?_⟩,by omega⟩;rw[show i-1+1=i by omega];exact he
end
def num (X Y:Nat->Int)(t:Int)(e:zh):Int:=X e.1*(Y e.2-t)+X e.2*(t-Y e.1)
def yx (Y:Nat->Int)(e:zh):Int:=Y e.2-Y e.1
theorem zLP{α:Type}(N D:α->Int):∀ (l:List α),(∀ x∈l,0<D x)->l≠[]->∃ m∈l,∀ x∈l,N m*D x<=N x*D m
|[],_,h=>absurd rfl h
|[a],_,_=>⟨a,by simp,λx hx=>by rw[Wn.mp hx];exact VZ _⟩
|a::b::l,hD,_=>by
  obtain⟨m,hm,h⟩:=zLP N D (b::l) (λx hx=>hD x (by simp[hx])) (by simp);have da:=hD a (by simp);have dm:=hD m (We _ hm);by_cases c:N a*D m<=N m*D a
  .refine⟨a,by simp,λx hx=>?_⟩;rcases Wc.mp hx with e|e
   .rw[e];exact VZ _
   .have hx2:=h x e;have dx:=hD x (We _ e);have k1:N a*D m*D x<=N m*D a*D x:=W5 c (by omega);have k2:N m*D x*D a<=N x*D m*D a:=W5 hx2 (by omega)
    have k3:D m*(N a*D x)<=D m*(N x*D a):=by
     have e1:D m*(N a*D x)=N a*D m*D x:=by grind
     have e2:D m*(N x*D a)=N x*D m*D a:=by grind
     have e3:N m*D a*D x=N m*D x*D a:=by grind
     omega
    exact Int.le_of_mul_le_mul_left k3 dm
  .refine⟨m,We _ hm,λx hx=>?_⟩;rcases Wc.mp hx with e|e
   .rw[e];omega
   .exact h x e
section
variable {n:Nat}{X Y:Nat->Int}{J:Nat->Nat->Prop}{d:Nat->Nat->Int}
theorem zHo(a b:Nat)(px t:Int):Tp X Y a b px t=num X Y t (a,b)-px*yx Y (a,b):=by unfold Tp num yx;grind
theorem zHp(t:Int)(u v a b:Nat):Dl X Y t u v a b=num X Y t (a,b)*yx Y (u,v)-num X Y t (u,v)*yx Y (a,b):=rfl
theorem zN5{u v:Nat}(hu:u<n)(hv:v<n)(h:Y u<Y v):yw n Y d (λa b=>ind (a=u/\b=v))=d u v:=by
 unfold yw
 rw[Zr hu λa _ ha=>yJ λb _=>by dsimp only;rw[zL (by omega),Vr,UN],
  Zr hv λb _ hb=>by dsimp only;rw[zL (by omega),Vr,UN]]
 dsimp only;rw[Wb h,yA ⟨rfl,rfl⟩,Int.mul_one]
theorem zDA(G:yX n X Y J)(C:Zu n J d){px t:Int}(ht:∀ p,p<n->Y p≠t){u v:Nat}(e:J u v)(h1:Y u<t)(h2:t<Y v)(h3:0<Tp X Y u v px t)
  (hm:∀ a b,J a b->Y a<t->t<Y b->0<Tp X Y a b px t->num X Y t (u,v)*yx Y (a,b)<=num X Y t (a,b)*yx Y (u,v)):base n X Y d px t=Yt n X Y d u v:=by
 rw[C.linUp G e (by omega),<-C.midTop G e h1 h2 ht,<-zN5 (d:=d) (G.lt _ _ e) (G.lt2 e) (by omega:Y u<Y v),<-zGG];unfold base;refine zAj C λa b f hab=>?_
 unfold mid;by_cases same:a=u/\b=v
 .obtain⟨rfl,rfl⟩:=same;rw[yA ⟨h1,h2,h3⟩,zL (by rw[zHp];omega),yA ⟨rfl,rfl⟩];omega
 .rw[zL same];by_cases c:Y a<t/\t<Y b
  .have L:=(G.level e f same h1 h2 c.1 c.2).1;rw[ze (p:=Y a<t/\t<Y b/\0<Tp X Y a b px t) (q:=0<Tp X Y a b px t) (by omega),ze (p:=Y a<t/\t<Y b/\0<Dl X Y t u v a b) (q:=0<Dl X Y t u v a b) (by omega)];rw[XW];refine ze ⟨λh=>?_,λh=>?_⟩
   .have:=hm a b f c.1 c.2 h;rw[zHp] at L ⊢;omega
   .refine U7.mp λhn=>?_
    rw[zHo] at h3 hn;rw[zHp] at h;have d1:0<yx Y (u,v):=by unfold yx;show 0<Y v-Y u;omega
    have d2:0<yx Y (a,b):=by unfold yx;show 0<Y b-Y a;omega
    have k1:num X Y t (a,b)*yx Y (u,v)<=px*yx Y (a,b)*yx Y (u,v):=W5 (by omega) (by omega);have k2:px*yx Y (u,v)*yx Y (a,b)<num X Y t (u,v)*yx Y (a,b):=Int.mul_lt_mul_of_pos_right (by omega) d2;have k3:px*yx Y (a,b)*yx Y (u,v)=px*yx Y (u,v)*yx Y (a,b):=by grind
    omega
  .rw[zL (by omega),zL (by omega)];rfl
theorem near(G:yX n X Y J){px t:Int}(ht:∀ p,p<n->Y p≠t):(∀ d,Zu n J d->base n X Y d px t=0)\/∃ u v,J u v/\Y u<t/\t<Y v/\0<Tp X Y u v px t/\∀ d,Zu n J d->base n X Y d px t=Yt n X Y d u v:=by
 classical
 let A:List zh:=((List.range n).flatMap λa=>(List.range n).map λb=>(a,b)).filter λe=>decide (J e.1 e.2/\Y e.1<t/\t<Y e.2/\0<Tp X Y e.1 e.2 px t)
 have hA:∀ e:zh,e∈A↔(J e.1 e.2/\Y e.1<t/\t<Y e.2/\0<Tp X Y e.1 e.2 px t):=by
  intro e;constructor
  .intro h;exact Wm (Xb.mp h).2
  .intro h;refine Xb.mpr ⟨Xn.mpr ⟨e.1,VI.mpr (G.lt _ _ h.1),Wg.mpr ⟨e.2,VI.mpr (G.lt2 h.1),rfl⟩⟩,WJ h⟩
 by_cases hne:A=[]
 .refine .inl λd C=>?_
  have:base n X Y d px t=yw n Y d (λ_ _=>0):=by
   unfold base;refine zAj C λa b f hab=>zL λh=>?_
   have:(a,b)∈A:=(hA (a,b)).mpr ⟨f,h.1,h.2.1,h.2.2⟩;rw[hne] at this;cases this
  rw[this];unfold yw;exact yJ λa _=>yJ λb _=>by rw[Vr,UN]
 .obtain⟨m,hm,hmin⟩:=zLP (num X Y t) (yx Y) A (λx hx=>by have:=(hA x).mp hx;unfold yx;omega) hne;obtain⟨u,v⟩:=m;have k:=(hA (u,v)).mp hm;exact .inr ⟨u,v,k.1,k.2.1,k.2.2.1,k.2.2.2,λd C=>zDA G C ht k.1 k.2.1 k.2.2.1 k.2.2.2 λa b f h1 h2 h3=>hmin (a,b) ((hA (a,b)).mpr ⟨f,h1,h2,h3⟩)⟩
end
theorem zPm(α β:Int)(h:α<=β)(h0:0<=α):∀ K:Nat,zX K (λs=>ind (α<=(s:Int)/\(s:Int)<β)*(2*((s:Int)-α)+1))=(if (K:Int)<=α then 0 else if (K:Int)<=β then ((K:Int)-α)*((K:Int)-α) else (β-α)*(β-α))
|0=>by simp[zX,h0]
|K+1=>by
  simp only[zX];rw[zPm α β h h0 K];have hc:((K+1:Nat):Int)=(K:Int)+1:=by omega
  rw[hc];by_cases c1:(K:Int)+1<=α
  .rw[Wb (by omega),Wb c1,zL (by omega)];grind
  .rw[Wa c1];by_cases c2:(K:Int)<=α
   .have e:α=K:=by omega
    rw[Wb c2];by_cases c3:(K:Int)+1<=β
    .rw[Wb c3,yA (by omega),e];grind
    .have e2:β=K:=by omega
     rw[Wa c3,zL (by omega),e,e2];grind
   .rw[Wa c2];by_cases c3:(K:Int)+1<=β
    .rw[Wb c3,Wb (by omega),yA (by omega)];grind
    .rw[Wa c3,zL (by omega)];by_cases c4:(K:Int)<=β
     .have e2:β=K:=by omega
      rw[Wb c4,e2];grind
     .rw[Wa c4];grind
theorem zPn(α β:Int)(h:α<=β)(h0:0<=α):∀ K:Nat,zX K (λs=>ind (α<=(s:Int)/\(s:Int)<β)*(2*(β-(s:Int))-1))=(if (K:Int)<=α then 0 else if (K:Int)<=β then (β-α)*(β-α)-(β-(K:Int))*(β-(K:Int)) else (β-α)*(β-α))
|0=>by simp[zX,h0]
|K+1=>by
  simp only[zX];rw[zPn α β h h0 K];have hc:((K+1:Nat):Int)=(K:Int)+1:=by omega
  rw[hc];by_cases c1:(K:Int)+1<=α
  .rw[Wb (by omega),Wb c1,zL (by omega)];grind
  .rw[Wa c1];by_cases c2:(K:Int)<=α
   .have e:α=K:=by omega
    rw[Wb c2];by_cases c3:(K:Int)+1<=β
    .rw[Wb c3,yA (by omega),e];grind
    .have e2:β=K:=by omega
     rw[Wa c3,zL (by omega),e,e2];grind
   .rw[Wa c2];by_cases c3:(K:Int)+1<=β
    .rw[Wb c3,Wb (by omega),yA (by omega)];grind
    .rw[Wa c3,zL (by omega)];by_cases c4:(K:Int)<=β
     .have e2:β=K:=by omega
      rw[Wb c4,e2];grind
     .rw[Wa c4];grind
theorem zI8(Z:Int)(h0:0<=Z):∀ B:Nat,zX B (λx=>ind ((x:Int)<Z))=if (B:Int)<=Z then (B:Int) else Z
|0=>by simp only[zX];split <;> omega
|B+1=>by
  simp only[zX];rw[zI8 Z h0 B];by_cases c:(B:Int)<Z
  .rw[yA c,Wb (by omega),Wb (by omega)];grind
  .rw[zL c];split <;> split <;> omega
def Zb:Nat->Nat
|0=>1
|k+1=>(k+1)*Zb k
theorem zEg:∀ k,0<Zb k
|0=>Nat.one_pos
|k+1=>Nat.mul_pos (Ur k) (zEg k)
theorem zGH:∀ (k m:Nat),0<m->m<=k->m ∣ Zb k
|0,m,h,h'=>by omega
|k+1,m,h,h'=>by
  by_cases e:m=k+1
  .rw[e];exact Nat.dvd_mul_right _ _
  .exact Nat.dvd_mul_left_of_dvd (zGH k m h (by lia)) _
section
variable {n:Nat}{X Y:Nat->Int}{J:Nat->Nat->Prop}{nx:Nat->Nat->Nat}
theorem zB7(M:Int)(a b c:Nat):T (λi=>M*X i) Y a b c=M*T X Y a b c:=by unfold T;grind
theorem zHq{M:Int}(hM:0<M)(v a b:Nat):ll (λi=>M*X i) Y v a b↔ll X Y v a b:=by
 unfold ll;rw[zB7,(yh hM).2.1]
theorem yX.scale(G:yX n X Y J){M:Int}(hM:0<M):yX n (λi=>M*X i) Y J:=by
 refine⟨G.sym,G.lt,G.ne,G.inj,G.even,λa b c j hc h1 h2 h=>?_,λa b c d j j' h=>?_⟩
 .rw[zB7,(yh hM).2.2] at h;exact G.on a b c j hc h1 h2 h
 .rw[zB7,zB7,zB7,zB7] at h;have MM:0<M*M:=VY hM hM;rw[show M*T X Y a b c*(M*T X Y a b d)=M*M*(T X Y a b c*T X Y a b d) by grind,show M*T X Y c d a*(M*T X Y c d b)=M*M*(T X Y c d a*T X Y c d b) by grind,(yh MM).2.1,(yh MM).2.1] at h;exact G.nc a b c d j j' h
theorem Dr.scale(D:Dr n X Y J nx){M:Int}(hM:0<M):Dr n (λi=>M*X i) Y J nx:=by
 refine⟨D.G.scale hM,λp v j=>?_,D.deg,D.conn,D.cut⟩;have h:=D.hnx p v j;unfold Nx at *
 simp only[zHq hM];exact h
theorem zGI(g:Nat->Int):∀ (k:Nat) (e:zh),((zU nx k e).map λe=>g e.2-g e.1).sum=g (yC nx k e).1-g e.1
|0,e=>by simp only[zU,yC,V6,List.sum_nil];grind
|k+1,e=>by
  rw[zU,Wj,Vg,zGI g k (ph nx e),yC];have:(ph nx e).1=e.2:=rfl;rw[this]
  grind
theorem zE1{α:Type}(f g:α->Int):∀ l:List α,(l.map λx=>f x+g x).sum=(l.map f).sum+(l.map g).sum
|[]=>rfl
|a::l=>by rw[Wj,Wj,Wj,Vg,Vg,Vg,zE1 f g l];grind
theorem zMZ(d d':Nat->Nat->Int)(h:Nat->Nat->Int):yw n Y (λa b=>d a b+d' a b) h=yw n Y d h+yw n Y d' h:=by
 unfold yw;rw[<-Zq];refine zk λa ha=>?_
 rw[<-Zq];refine zk λb hb=>?_
 by_cases hl:Y a<Y b
 .rw[Wb hl,Wb hl,Wb hl,Int.add_mul]
 .rw[Wa hl,Wa hl,Wa hl];rfl
theorem zGJ(G:yX n X Y J){h:Nat->Nat->Int}(anti:∀ a b,h b a = - h a b):∀ (W:List zh),(∀ e∈W,J e.1 e.2)->(W.map λe=>h e.1 e.2).sum=yw n Y (dW W) h
|[],_=>by
  unfold yw dW;simp only[List.count_nil,V6,List.sum_nil];exact (yJ λa _=>yJ λb _=>by split <;> simp).symm
|e::W,hJ=>by
  have ih:=zGJ G anti W λe' he=>hJ e' (by simp[he])
  have je:=hJ e (by simp)
  have e1:dW (e::W)=λa b=>dW W a b+(ind (e=(a,b))-ind (e=(b,a))):=by
   funext a b
   unfold dW
   have c:∀ x:zh,((e::W).count x:Int)=(W.count x:Int)+ind (e=x):=by
    intro x;rw[Uz];by_cases hx:e=x
    .rw[yA hx,Wb (by simpa using hx)];grind
    .rw[zL hx,Wa (by simpa using hx)];grind
   rw[c,c];grind
  rw[Wj,Vg,ih,e1,zMZ];obtain⟨p,q⟩:=e;have je:J p q:=je;have yn:=G.yne je
  have key:yw n Y (λa b=>ind ((p,q)=(a,b))-ind ((p,q)=(b,a))) h=h p q:=by
   unfold yw;by_cases hl:Y p<Y q
   .rw[Zr (k:=p) (G.lt _ _ je),Zr (k:=q) (G.lt2 je)]
    .dsimp only;rw[Wb hl,yA rfl,zL (λk=>D_ne je G (WV Prod.fst k))];grind
    .intro b _ hb;split
     .dsimp only;rw[zL (λk=>hb (WV Prod.snd k).symm),zL (λk=>D_ne je G (WV Prod.snd k).symm)];grind
     .rfl
    .intro a _ ha;refine yJ λb _=>?_
     split
     .rename_i hab
      dsimp only
      rw[zL (λk=>ha (WV Prod.fst k).symm),zL (λk=>by
       have k1:p=b:=WV Prod.fst k;have k2:q=a:=WV Prod.snd k;rw[<-k1,<-k2] at hab
       lia)];omega
     .rfl
   .rw[Zr (k:=q) (G.lt2 je),Zr (k:=p) (G.lt _ _ je)]
    .dsimp only;rw[Wb (by omega),zL (λk=>D_ne je G (WV Prod.fst k)),yA rfl,anti p q];grind
    .intro b _ hb;split
     .dsimp only;rw[zL (λk=>D_ne je G (WV Prod.fst k)),zL (λk=>hb (WV Prod.fst k).symm)];grind
     .rfl
    .intro a _ ha;refine yJ λb _=>?_
     split
     .rename_i hab
      dsimp only
      rw[zL (λk=>by
       have k1:p=a:=WV Prod.fst k;have k2:q=b:=WV Prod.snd k;rw[<-k1,<-k2] at hab;omega),zL (λk=>ha (WV Prod.snd k).symm)];omega
     .rfl
  rw[key];show h p q+_=_
  grind
where
 D_ne {p q:Nat}(je:J p q) (G:yX n X Y J):p≠q:=G.ne _ _ je
theorem zI9(d:Nat->Nat->Int)(B:Nat)(g:Nat->Nat->Nat->Int):yw n Y d (λa b=>zX B (g a b))=zX B (λx=>yw n Y d (λa b=>g a b x)):=by
 unfold yw;rw[zCe B n];refine zk λa _=>?_
 rw[zCe B n];refine zk λb _=>?_
 by_cases hl:Y a<Y b
 .rw[Wb hl];rw[<-zBA];exact zk λx _=>by rw[Wb hl]
 .rw[Wa hl];exact (yJ λx _=>by rw[Wa hl]).symm
theorem zJA(d:Nat->Nat->Int)(c:Int)(g:Nat->Nat->Int):yw n Y d (λa b=>c*g a b)=c*yw n Y d g:=by
 unfold yw;rw[<-zBA];refine zk λa _=>?_
 rw[<-zBA];refine zk λb _=>?_
 by_cases hl:Y a<Y b
 .rw[Wb hl,Wb hl];grind
 .rw[Wa hl,Wa hl,Vr]
theorem zRx(G:yX n X Y J){K B:Nat}(hY:∀ a,a<n->0<=Y a/\Y a<=2*K)(hX:∀ a,a<n->0<X a/\X a<=B){a b:Nat}(j:J a b)(hab:Y a<Y b) :
  ((Zb (2*K):Int)*X a+(Zb (2*K):Int)*X b)*(Y b-Y a)=4*zX K (λs=>zX (Zb (2*K)*B) (λx=>ind (Y a<2*(s:Int)+1/\2*(s:Int)+1<Y b/\0<Tp (λi=>(Zb (2*K):Int)*X i) Y a b (x:Int) (2*(s:Int)+1)))):=by
 have la:=G.lt _ _ j;have lb:=G.lt2 j;have ⟨a0,a1⟩:=hY a la;have ⟨b0,b1⟩:=hY b lb;have ⟨xa0,xa1⟩:=hX a la;have ⟨xb0,xb1⟩:=hX b lb;have ea:=G.even a la;have eb:=G.even b lb;obtain⟨α,hα⟩:∃ α:Int,Y a=2*α:=⟨Y a/2,by grind⟩
 obtain⟨β,hβ⟩:∃ β:Int,Y b=2*β:=⟨Y b/2,by grind⟩
 obtain⟨c,hc⟩:∃ c:Nat,Zb (2*K)=(Y b-Y a).toNat*c:=zGH (2*K) (Y b-Y a).toNat (by omega) (by grind)
 have hM:(Zb (2*K):Int)=2*(β-α)*c:=by
  rw[hc,Xd,Int.toNat_of_nonneg (by grind)]
  congr 1
  grind
 have hc0:0<(c:Int):=by
  have:=zEg (2*K);rw[hc] at this;have:=Nat.pos_of_mul_pos_left this;omega
 generalize hMM:Zb (2*K)=M at *
 have inner:∀ s,s<K->zX (M*B) (λx=>ind (Y a<2*(s:Int)+1/\2*(s:Int)+1<Y b/\0<Tp (λi=>(M:Int)*X i) Y a b (x:Int) (2*(s:Int)+1)))=ind (α<=(s:Int)/\(s:Int)<β)*(c*(X a*(2*(β-(s:Int))-1)+X b*(2*((s:Int)-α)+1))):=by
  intro s hs;by_cases cr:α<=(s:Int)/\(s:Int)<β
  .rw[yA cr,UF];have z1:0<=X a*(2*(β-(s:Int))-1):=Vm (by lia) (by omega);have z2:0<=X b*(2*((s:Int)-α)+1):=Vm (by lia) (by omega);have z0:0<=c*(X a*(2*(β-(s:Int))-1)+X b*(2*((s:Int)-α)+1)):=Vm (by omega) (by omega)
   have zB:c*(X a*(2*(β-(s:Int))-1)+X b*(2*((s:Int)-α)+1))<=((M*B:Nat):Int):=by
    have y1:X a*(2*(β-(s:Int))-1)<=B*(2*(β-(s:Int))-1):=W5 xa1 (by omega);have y2:X b*(2*((s:Int)-α)+1)<=B*(2*((s:Int)-α)+1):=W5 xb1 (by omega);have y3:c*(X a*(2*(β-(s:Int))-1)+X b*(2*((s:Int)-α)+1))<=c*(B*(2*(β-(s:Int))-1)+B*(2*((s:Int)-α)+1)):=VJ (by omega) (by omega);rw[Xd,hM];refine Int.le_trans y3 (Int.le_of_eq ?_)
    grind
   have e:∀ x:Nat,(Y a<2*(s:Int)+1/\2*(s:Int)+1<Y b/\0<Tp (λi=>(M:Int)*X i) Y a b (x:Int) (2*(s:Int)+1))↔(x:Int)<c*(X a*(2*(β-(s:Int))-1)+X b*(2*((s:Int)-α)+1)):=by
    intro x
    have t:Tp (λi=>(M:Int)*X i) Y a b (x:Int) (2*(s:Int)+1)=2*(β-α)*(c*(X a*(2*(β-(s:Int))-1)+X b*(2*((s:Int)-α)+1))-x):=by
     unfold Tp;dsimp only;rw[hM,hα,hβ]
     grind
    have m:=yh (a:=2*(β-α)) (b:=c*(X a*(2*(β-(s:Int))-1)+X b*(2*((s:Int)-α)+1))-x) (by omega);rw[t,m.1];omega
   rw[zk λx _=>ze (e x),zI8 _ z0];split <;> omega
  .rw[zL cr,V7];exact yJ λx _=>zL (by omega)
 rw[zk inner]
 have spl:zX K (λs=>ind (α<=(s:Int)/\(s:Int)<β)*(c*(X a*(2*(β-(s:Int))-1)+X b*(2*((s:Int)-α)+1))))=c*X a*((β-α)*(β-α))+c*X b*((β-α)*(β-α)):=by
  have o1:=zPm α β (by omega) (by omega) K;have o2:=zPn α β (by omega) (by omega) K;rw[Wa (by omega)] at o1 o2
  have f1:zX K (λs=>ind (α<=(s:Int)/\(s:Int)<β)*(2*((s:Int)-α)+1))=(β-α)*(β-α):=by
   rw[o1];by_cases h:(K:Int)<=β
   .have:(K:Int)=β:=by omega
    rw[Wb h,this]
   .rw[Wa h]
  have f2:zX K (λs=>ind (α<=(s:Int)/\(s:Int)<β)*(2*(β-(s:Int))-1))=(β-α)*(β-α):=by
   rw[o2];by_cases h:(K:Int)<=β
   .have:(K:Int)=β:=by omega
    rw[Wb h,this];grind
   .rw[Wa h]
  have ring:∀ i c x y P Q:Int,i*(c*(x*P+y*Q))=c*x*(i*P)+c*y*(i*Q):=λi c x y P Q=>by grind
  rw[zk λs _=>ring _ _ _ _ _ _,Zq,zBA,zBA,f1,f2]
 rw[spl,hM,hα,hβ]
 grind
theorem zHr:∀ (k:Nat) (e:zh),(∀ x∈zU nx k e,Y x.2<Y x.1)->0<k->Y (yC nx k e).1<Y e.1
|0,_,_,h=>by omega
|1,e,h,_=>h e (by simp[zU])
|k+2,e,h,_=>by
  have h1:=h e (by simp[zU]);have:=zHr (k+1) (ph nx e) (λx hx=>h x (by rw[zU];exact We _ hx)) (by grind);have e1:(ph nx e).1=e.2:=rfl;rw[e1] at this;rw[yC];omega
theorem Zv.area(D:Dr n X Y J nx){K B:Nat}(hY:∀ a,a<n->0<=Y a/\Y a<=2*K)(hX:∀ a,a<n->0<X a/\X a<=B){k:Nat}{e:zh}(je:J e.1 e.2)(P:Zv nx k e){v q:Nat}(hv:∀ w,w<n->Y w<=Y v)(jq:J v q)(hq:∀ w,J v w->¬ ll X Y v w q) :
  0<((zU nx k e).map λe=>X e.1*Y e.2-X e.2*Y e.1).sum↔(v,q)∉zU nx k e:=by
 have G:=D.G;have C:=P.cyc D je
 have hJ:∀ x∈zU nx k e,J x.1 x.2:=λx hx=>by
  obtain⟨i,_,rfl⟩:=zn.mp hx;exact Zy D.hnx i je
 have hM:0<(Zb (2*K):Int):=by have:=zEg (2*K);omega
 have D':=D.scale hM;have hq':∀ w,J v w->¬ ll (λi=>(Zb (2*K):Int)*X i) Y v w q:=λw jw=>by rw[zHq hM];exact hq w jw
 have e1:((zU nx k e).map λe=>(X e.1+X e.2)*(Y e.2-Y e.1)).sum=((zU nx k e).map λe=>X e.1*Y e.2-X e.2*Y e.1).sum:=by
  have t:=zGI (nx:=nx) (λi=>X i*Y i) k e;rw[P.back] at t;have s:=zE1 (λe:zh=>X e.1*Y e.2-X e.2*Y e.1) (λe:zh=>X e.2*Y e.2-X e.1*Y e.1) (zU nx k e);have f:(λe:zh=>X e.1*Y e.2-X e.2*Y e.1+(X e.2*Y e.2-X e.1*Y e.1))=λe:zh=>(X e.1+X e.2)*(Y e.2-Y e.1):=by funext e;grind
  rw[f] at s;omega
 have e2:(Zb (2*K):Int)*((zU nx k e).map λe=>(X e.1+X e.2)*(Y e.2-Y e.1)).sum=4*zX K (λs=>zX (Zb (2*K)*B) (λx=>base n (λi=>(Zb (2*K):Int)*X i) Y (dW (zU nx k e)) (x:Int) (2*(s:Int)+1))):=by
  rw[zGJ G (h:=λa b=>(X a+X b)*(Y b-Y a)) (λa b=>by grind) _ hJ,<-zJA];rw[zAj C (h:=λa b=>4*zX K (λs=>zX (Zb (2*K)*B) (λx=>ind (Y a<2*(s:Int)+1/\2*(s:Int)+1<Y b/\0<Tp (λi=>(Zb (2*K):Int)*X i) Y a b (x:Int) (2*(s:Int)+1))))) (λa b j hab=>?_)]
  .rw[zJA,zI9]
   congr 1
   refine zk λs _=>?_
   rw[zI9];rfl
  .rw[<-zRx G hY hX j hab];grind
 rw[e1] at e2;have odd:∀ s:Nat,∀ p,p<n->Y p≠2*(s:Int)+1:=λs p hp=>by have:=G.even p hp;grind
 have val:∀ (x s:Nat),base n (λi=>(Zb (2*K):Int)*X i) Y (dW (zU nx k e)) (x:Int) (2*(s:Int)+1)=0\/∃ u w,J u w/\base n (λi=>(Zb (2*K):Int)*X i) Y (dW (zU nx k e)) (x:Int) (2*(s:Int)+1)=ind ((u,w)∈zU nx k e)-ind ((v,q)∈zU nx k e):=by
  intro x s;rcases near D'.G (px:=(x:Int)) (odd s) with h|⟨u,w,ju,_,_,_,h⟩
  .exact .inl (h _ C)
  .exact .inr ⟨u,w,ju,by rw[h _ C,P.left D' je hv jq hq' ju]⟩
 have i01:∀ x:zh,0<=ind (x∈zU nx k e)/\ind (x∈zU nx k e)<=1:=λx=>by unfold ind;split <;> grind
 by_cases ho:(v,q)∈zU nx k e
 .refine⟨λh=>?_,λh=>absurd ho h⟩
  exfalso
  have np:0<=zX K (λs=>- zX (Zb (2*K)*B) (λx=>base n (λi=>(Zb (2*K):Int)*X i) Y (dW (zU nx k e)) (x:Int) (2*(s:Int)+1))):=by
   refine zAR λs _=>?_
   rw[<-zCH];refine zAR λx _=>?_
   rcases val x s with h|⟨u,w,_,h⟩
   .rw[h];grind
   .rw[h,yA ho];have:=i01 (u,w)
    lia
  rw[zCH] at np;have:=VY hM h;omega
 .refine⟨λ_=>ho,λ_=>?_⟩
  have nn:∀ s x:Nat,0<=base n (λi=>(Zb (2*K):Int)*X i) Y (dW (zU nx k e)) (x:Int) (2*(s:Int)+1):=by
   intro s x;rcases val x s with h|⟨u,w,_,h⟩
   .rw[h];grind
   .rw[h,zL ho];have:=i01 (u,w);omega
  obtain⟨f,hf,hup⟩:∃ f∈zU nx k e,Y f.1<Y f.2:=by
   refine WM λhno=>?_
   have:=zHr (nx:=nx) (Y:=Y) k e (λx hx=>by
    have h1:=G.yne (hJ x hx);have h2:¬ Y x.1<Y x.2:=λh=>hno ⟨x,hx,h⟩
    lia) P.pos
   rw[P.back] at this
   grind
  obtain⟨a,b⟩:=f;have j:J a b:=hJ _ hf;have la:=G.lt _ _ j;have lb:=G.lt2 j;have ⟨a0,a1⟩:=hY a la;have ⟨b0,b1⟩:=hY b lb;have ⟨xa0,xa1⟩:=hX a la;have ⟨xb0,xb1⟩:=hX b lb;have ea:=G.even a la;have eb:=G.even b lb;dsimp only at hup;obtain⟨s,hs⟩:∃ s:Nat,Y a=2*(s:Int):=⟨(Y a/2).toNat,by omega⟩
  have dv:∀ x y:Nat,J x y->Y x<Y y->∃ c:Int,0<c/\(Zb (2*K):Int)=yx Y (x,y)*c:=by
   intro x y jxy hxy;have ⟨x0,x1⟩:=hY x (G.lt _ _ jxy);have ⟨y0,y1⟩:=hY y (G.lt2 jxy);obtain⟨c,hc⟩:=zGH (2*K) (Y y-Y x).toNat (by omega) (by grind);refine⟨c,?_,?_⟩
   .have:=zEg (2*K);rw[hc] at this;have:=Nat.pos_of_mul_pos_left this;omega
   .rw[hc,Xd,Int.toNat_of_nonneg (by lia)];rfl
  have nums:∀ (x y:Nat) (t:Int),num (λi=>(Zb (2*K):Int)*X i) Y t (x,y)=Zb (2*K)*num X Y t (x,y):=by
   intro x y t;unfold num;dsimp only
   grind
  obtain⟨c,c0,hc⟩:=dv a b j hup
  have hnum:0<num X Y (2*(s:Int)+1) (a,b):=by
   unfold num;dsimp only;have z1:0<=X a*(Y b-(2*(s:Int)+1)):=Vm (by lia) (by omega);have z2:0<X b*(2*(s:Int)+1-Y a):=VY (by omega) (by omega);omega
  have hden:0<yx Y (a,b):=by unfold yx;show 0<Y b-Y a;grind
  have hZ:0<c*num X Y (2*(s:Int)+1) (a,b):=VY c0 hnum;obtain⟨x,hx⟩:∃ x:Nat,(x:Int)=c*num X Y (2*(s:Int)+1) (a,b)-1:=⟨(c*num X Y (2*(s:Int)+1) (a,b)-1).toNat,by omega⟩
  have tpos:0<Tp (λi=>(Zb (2*K):Int)*X i) Y a b (x:Int) (2*(s:Int)+1):=by
   rw[zHo,nums,hc,hx];have:yx Y (a,b)*c*num X Y (2*(s:Int)+1) (a,b)-(c*num X Y (2*(s:Int)+1) (a,b)-1)*yx Y (a,b)=yx Y (a,b):=by grind
   lia
  have hb1:base n (λi=>(Zb (2*K):Int)*X i) Y (dW (zU nx k e)) (x:Int) (2*(s:Int)+1)=1:=by
   rw[zDA D'.G C (odd s) j (by omega) (by omega) tpos,P.left D' je hv jq hq' j,yA hf,zL ho]
   .rfl
   .intro a' b' j' h1 h2 h3;obtain⟨c',c0',hc'⟩:=dv a' b' j' (by omega);have hden':0<yx Y (a',b'):=by unfold yx;show 0<Y b'-Y a';grind
    rw[zHo,nums,hc'] at h3;rw[nums,nums]
    have h4:0<yx Y (a',b')*(c'*num X Y (2*(s:Int)+1) (a',b')-x):=by
     have:yx Y (a',b')*c'*num X Y (2*(s:Int)+1) (a',b')-x*yx Y (a',b')=yx Y (a',b')*(c'*num X Y (2*(s:Int)+1) (a',b')-x):=by grind
     grind
    rw[(yh hden').1,hx] at h4;have h5:c*num X Y (2*(s:Int)+1) (a,b)<=c'*num X Y (2*(s:Int)+1) (a',b'):=by lia
    have h6:yx Y (a,b)*yx Y (a',b')*(c*num X Y (2*(s:Int)+1) (a,b))<=yx Y (a,b)*yx Y (a',b')*(c'*num X Y (2*(s:Int)+1) (a',b')):=VJ h5 (Int.le_of_lt (VY hden hden'));have g1:(Zb (2*K):Int)*num X Y (2*(s:Int)+1) (a,b)*yx Y (a',b')=yx Y (a,b)*yx Y (a',b')*(c*num X Y (2*(s:Int)+1) (a,b)):=by rw[hc];grind
    have g2:(Zb (2*K):Int)*num X Y (2*(s:Int)+1) (a',b')*yx Y (a,b)=yx Y (a,b)*yx Y (a',b')*(c'*num X Y (2*(s:Int)+1) (a',b')):=by rw[hc'];grind
    omega
  have hsK:s<K:=by omega
  have hxB:x<Zb (2*K)*B:=by
   have z1:X a*(Y b-(2*(s:Int)+1))<=B*(Y b-(2*(s:Int)+1)):=W5 xa1 (by omega);have z2:X b*(2*(s:Int)+1-Y a)<=B*(2*(s:Int)+1-Y a):=W5 xb1 (by omega)
   have z3:num X Y (2*(s:Int)+1) (a,b)<=B*yx Y (a,b):=by
    unfold num yx;dsimp only;have:(B:Int)*(Y b-Y a)=B*(Y b-(2*(s:Int)+1))+B*(2*(s:Int)+1-Y a):=by grind
    lia
   have z4:c*num X Y (2*(s:Int)+1) (a,b)<=c*(B*yx Y (a,b)):=VJ z3 (by lia);have z5:c*(B*yx Y (a,b))=((Zb (2*K)*B:Nat):Int):=by rw[Xd,hc];grind
   omega
  have p1:0<zX (Zb (2*K)*B) (λx=>base n (λi=>(Zb (2*K):Int)*X i) Y (dW (zU nx k e)) (x:Int) (2*(s:Int)+1)):=zE6 (k:=x) (λi _=>nn s i) hxB (by rw[hb1];grind);have p2:=zE6 (n:=K) (k:=s) (f:=λs=>zX (Zb (2*K)*B) (λx=>base n (λi=>(Zb (2*K):Int)*X i) Y (dW (zU nx k e)) (x:Int) (2*(s:Int)+1))) (λi _=>zAR λx _=>nn i x) hsK p1;have:0<(Zb (2*K):Int)*((zU nx k e).map λe=>X e.1*Y e.2-X e.2*Y e.1).sum:=by omega
  exact (yh hM).1.mp this
end
open Gla
theorem ZH{α:Type}{p:Nat->α->Bool}{l:List α}(h:firstAt p l=none){i:Nat}{x:α}(hx:l[i]?=some x):p i x=false:=by
 unfold firstAt at h;rw[WW,X8] at h;have:=h (x,i) (Vo.mpr hx);simpa using this
structure yD(S:Plan):Prop where
 r4:firstBad (λ(p:Pt)=>decide (p.x<=S.w)&&decide (p.y<=S.h)) Pt.below S.pts=none
 r5:firstBad (λ(l:Nat×Nat)=>decide (l.1<l.2)&&decide (l.2<S.pts.length)) lineBelow S.lines=none
 r6:frameOk S=true
 r7:firstAt (touches S) S.lines=none
 r8:((List.range S.pts.length).find? λ(i:Nat)=>decide ((S.near i).length<2))=none
 r9:((List.range S.pts.length).find? λ(i:Nat)=>!((seenFrom S.nears S.pts.length 0 (noneSeen S.pts.length)).getD i false))=none
 r10:((List.range S.pts.length).find? (cuts S.nears S.pts.length))=none
def xi (S:Plan)(i:Nat):Int:=((S.pt i).x:Int)
def yi (S:Plan)(i:Nat):Int:=((S.pt i).y:Int)
def cx (S:Plan)(i:Nat):Int:=xi S i+1
def cy (S:Plan)(i:Nat):Int:=2*(((S.w:Int)+1)*yi S i+(S.w:Int)-xi S i)
def JJ (S:Plan)(a b:Nat):Prop:=(min a b,max a b)∈S.lines
theorem zFl{S:Plan}{i:Nat}{p:Pt}(h:S.pts[i]?=some p):S.pt i=p:=by
 unfold Plan.pt;rw[Wi,h];rfl
theorem yD.box{S:Plan}(O:yD S){i:Nat}(hi:i<S.pts.length):0<=xi S i/\xi S i<=S.w/\0<=yi S i/\yi S i<=S.h:=by
 have h:S.pts[i]?=some S.pts[i]:=yW hi;have k:=ZH O.r4 h;have e:=zFl h;unfold xi yi;rw[e];simp only[WX,Wu,yZ,ym] at k;omega
theorem yD.step{S:Plan}(O:yD S){i:Nat}(hi:i+1<S.pts.length):yi S i<yi S (i+1)\/(yi S i=yi S (i+1)/\xi S i<xi S (i+1)):=by
 have h:S.pts[i+1]?=some S.pts[i+1]:=yW hi;have h0:S.pts[i]?=some (S.pts[i]'(by omega)):=yW (by omega);have k:=ZH O.r4 h;have e:=zFl h;have e0:=zFl h0;unfold xi yi;rw[e,e0];simp only[WX,Nat.add_sub_cancel] at k;have k2:=k.2;rw[h0] at k2;have:Pt.below (S.pts[i]'(by omega)) S.pts[i+1]=true:=by simpa using k2
 unfold Pt.below at this;simp only[Va,yZ,ym,Vs] at this;omega
theorem yD.ord{S:Plan}(O:yD S):∀ (k i:Nat),i+k+1<S.pts.length->yi S i<yi S (i+k+1)\/(yi S i=yi S (i+k+1)/\xi S i<xi S (i+k+1))
|0,i,h=>O.step h
|k+1,i,h=>by
  have a:=O.ord k i (by omega);have b:=O.step (i:=i+k+1) (by omega);rw[show i+(k+1)+1=i+k+1+1 by omega];omega
theorem yD.lt{S:Plan}(O:yD S){i j:Nat}(hij:i<j)(hj:j<S.pts.length):yi S i<yi S j\/(yi S i=yi S j/\xi S i<xi S j):=by
 have:=O.ord (j-i-1) i (by omega);rw[show i+(j-i-1)+1=j by omega] at this;exact this
theorem zFm{S:Plan}{xa ya xb yb:Int}(ha:0<=xa/\xa<=S.w)(hb:0<=xb/\xb<=S.w):2*(((S.w:Int)+1)*ya+(S.w:Int)-xa)<2*(((S.w:Int)+1)*yb+(S.w:Int)-xb)↔(ya<yb\/(ya=yb/\xb<xa)):=by
 have key:∀ y y':Int,y<y'->((S.w:Int)+1)*y+((S.w:Int)+1)<=((S.w:Int)+1)*y':=by
  intro y y' h;have:((S.w:Int)+1)*(y+1)<=((S.w:Int)+1)*y':=VJ (by lia) (by lia);rw[Int.mul_add] at this;omega
 rcases W0 ya yb with h|h|h
 .have:=key _ _ h;omega
 .subst h
  grind
 .have:=key _ _ h;omega
theorem yD.cylt{S:Plan}(O:yD S){a b:Nat}(ha:a<S.pts.length)(hb:b<S.pts.length):cy S a<cy S b↔(yi S a<yi S b\/(yi S a=yi S b/\xi S b<xi S a)):=by
 have h1:=O.box ha;have h2:=O.box hb;unfold cy;exact zFm ⟨h1.1,h1.2.1⟩ ⟨h2.1,h2.2.1⟩
theorem yD.inj{S:Plan}(O:yD S){a b:Nat}(ha:a<S.pts.length)(hb:b<S.pts.length)(h1:xi S a=xi S b)(h2:yi S a=yi S b):a=b:=by
 rcases VM a b with h|h|h
 .have:=O.lt h hb;omega
 .exact h
 .have:=O.lt h ha;omega
theorem zBl(S:Plan)(a b c:Nat):T (cx S) (cy S) a b c=2*((S.w:Int)+1)*turn (S.pt a) (S.pt b) (S.pt c):=by
 unfold T cx cy xi yi turn dx dy
 grind
theorem yD.line{S:Plan}(O:yD S){l:Nat×Nat}(h:l∈S.lines):l.1<l.2/\l.2<S.pts.length:=by
 obtain⟨i,hi⟩:=VU.mp h;have k:=ZH O.r5 hi;simp only[WX,Wu,yZ,ym] at k;exact k.1
theorem zAS{S:Plan}{a b:Nat}:JJ S a b↔((a<=b/\(a,b)∈S.lines)\/(b<=a/\(b,a)∈S.lines)):=by
 unfold JJ;by_cases h:a<=b
 .rw[XQ h,Nat.max_eq_right h];constructor
  .exact λk=>.inl ⟨h,k⟩
  .rintro (k|k)
   .exact k.2
   .have:a=b:=by lia
    subst this;exact k.2
 .rw[XE (by omega),Nat.max_eq_left (by omega)];constructor
  .exact λk=>.inr ⟨by omega,k⟩
  .rintro (k|k)
   .omega
   .exact k.2
theorem zAr{S:Plan}{a b:Nat}(h:JJ S a b):JJ S b a:=by
 unfold JJ at *
 rw[Nat.min_comm,Nat.max_comm];exact h
theorem yD.jlt{S:Plan}(O:yD S){a b:Nat}(h:JJ S a b):a<S.pts.length/\b<S.pts.length/\a≠b:=by
 have:=O.line h;dsimp only at this
 lia
theorem lsp{a b:Int}(h:0<b-a):a<=b:=by omega
theorem lsn{a b:Int}(h:a-b<0):a<=b:=by omega
theorem ls0{a b:Int}(h:b-a=0):a<=b:=by omega
theorem ls1{a b:Int}(h:a-b=0):a<=b:=by omega
theorem zPo{S:Plan}(a b c:Nat)(W:0<(S.w:Int)+1)(h0:T (cx S) (cy S) a b c=0)(h1:cy S a<cy S c)(h2:cy S c<cy S b):isOn (S.pt a) (S.pt b) (S.pt c)=true:=by
 have t0:turn (S.pt a) (S.pt b) (S.pt c)=0:=by
  rw[zBl] at h0;exact (yh (a:=2*((S.w:Int)+1)) (by omega)).2.2.mp h0
 have kx:(cy S b-cy S a)*(xi S c-xi S a)=(cy S c-cy S a)*(xi S b-xi S a):=by
  unfold T at h0;unfold cx at h0
  grind
 have ky:(cy S b-cy S a)*(yi S c-yi S a)=(cy S c-cy S a)*(yi S b-yi S a):=by
  unfold turn dx dy at t0;unfold cy;have e1:((S.pt a).x:Int)=xi S a:=rfl;have e2:((S.pt b).x:Int)=xi S b:=rfl;have e3:((S.pt c).x:Int)=xi S c:=rfl;have e4:((S.pt a).y:Int)=yi S a:=rfl;have e5:((S.pt b).y:Int)=yi S b:=rfl;have e6:((S.pt c).y:Int)=yi S c:=rfl;rw[e1,e2,e3,e4,e5,e6] at t0
  grind
 have key:∀ p q r:Int,(cy S b-cy S a)*(r-p)=(cy S c-cy S a)*(q-p)->(p<=r/\r<=q)\/(q<=r/\r<=p):=by
  intro p q r h;have m1:=yh (a:=cy S b-cy S a) (b:=r-p) (by omega);have m2:=yh (a:=cy S c-cy S a) (b:=q-p) (by omega);have m3:(cy S b-cy S a)*(r-q)=(cy S c-cy S b)*(q-p):=by grind
  have m4:=yh (a:=cy S b-cy S a) (b:=r-q) (by omega);have m5:=zD6 (a:=cy S c-cy S b) (b:=q-p) (by omega);rcases W0 (q-p) 0 with k|k|k
  .exact .inr ⟨lsp (m4.1.mp (by rw[m3];exact m5.1.mpr k)),lsn (m1.2.1.mp (by rw[h];exact m2.2.1.mpr k))⟩
  .rw[k,Vr] at h m3;exact .inl ⟨ls0 (m1.2.2.mp h),ls1 (m4.2.2.mp m3)⟩
  .exact .inl ⟨lsp (m1.1.mp (by rw[h];exact m2.1.mpr k)),lsn (m4.2.1.mp (by rw[m3];exact m5.2.1.mpr k))⟩
 have bx:=key _ _ _ kx;have by':=key _ _ _ ky;unfold isOn between;rw[t0];unfold xi at bx;unfold yi at by';simp only[beq_self_eq_true,Xq,yZ,ym]
 lia
theorem ZP(p q r:Pt):turn q p r = - turn p q r:=by unfold turn dx dy;grind
theorem zLQ(p q r:Pt):isOn q p r=isOn p q r:=by
 unfold isOn between;rw[ZP,Nat.min_comm q.x,Nat.max_comm q.x,Nat.min_comm q.y,Nat.max_comm q.y]
 congr 1
 rw[Wx,Vs,Vs]
 grind
theorem yD.notOn{S:Plan}(O:yD S){a b c:Nat}(j:JJ S a b)(hc:c<S.pts.length)(h1:c≠a)(h2:c≠b):isOn (S.pt a) (S.pt b) (S.pt c)=false:=by
 have key:∀ l∈S.lines,c≠l.1->c≠l.2->isOn (S.pt l.1) (S.pt l.2) (S.pt c)=false:=by
  intro l hl k1 k2;obtain⟨i,hi⟩:=VU.mp hl;have k:=ZH O.r7 hi;unfold touches at k;rw[WX] at k;have k3:=List.any_eq_false.mp k.1 c (VI.mpr hc);simp only[yZ,bne_iff_ne,ne_eq,not_and] at k3;simpa using k3 k1 k2
 rcases zAS.mp j with ⟨_,h⟩|⟨_,h⟩
 .exact key (_,_) h h1 h2
 .rw[zLQ];exact key (_,_) h h2 h1
theorem zHD{S:Plan}(O:yD S){l m:Nat×Nat}(hl:l∈S.lines)(hm:m∈S.lines)(ne:l≠m):crosses (S.pt l.1) (S.pt l.2) (S.pt m.1) (S.pt m.2)=false:=by
 obtain⟨i,hi⟩:=VU.mp hl;obtain⟨j,hj⟩:=VU.mp hm
 have key:∀ {l m:Nat×Nat}{i j:Nat},S.lines[i]?=some l->S.lines[j]?=some m->j<i->crosses (S.pt l.1) (S.pt l.2) (S.pt m.1) (S.pt m.2)=false:=by
  intro l m i j hi hj hji;have k:=ZH O.r7 hi;unfold touches at k;rw[WX] at k
  have hm:m∈S.lines.take i:=by
   rw[U9];obtain⟨h1,h2⟩:=yQ hj;exact⟨j,by omega,h2⟩
  simpa using List.any_eq_false.mp k.2 m hm
 rcases VM i j with h|h|h
 .have:=key hj hi h;unfold crosses at *
  rw[Bool.and_comm];exact this
 .subst h;rw[hi] at hj;exact absurd (WN hj) ne
 .exact key hi hj h
theorem yD.good{S:Plan}(O:yD S):yX S.pts.length (cx S) (cy S) (JJ S):=by
 have W:0<(S.w:Int)+1:=by omega
 refine⟨λa b=>zAr,λa b h=>(O.jlt h).1,λa b h=>(O.jlt h).2.2,λa b ha hb h=>?_,λa _=>by unfold cy;omega,λa b c j hc h1 h2 h0=>?_,λa b c d j j' h=>?_⟩
 .have k1:=O.cylt ha hb;have k2:=O.cylt hb ha;exact O.inj ha hb (by grind) (by grind)
 .have k:=zPo a b c W h0 h1 h2;rw[O.notOn j hc (λe=>by subst e;omega) (λe=>by subst e;omega)] at k;cases k
 .rw[zBl,zBl,zBl,zBl] at h;have W2:0<2*((S.w:Int)+1):=by omega
  generalize 2*((S.w:Int)+1)=M at h W2;have MM:0<M*M:=VY W2 W2;have r:∀ x y:Int,M*x*(M*y)=M*M*(x*y):=λx y=>by grind
  rw[r,r,(yh MM).2.1,(yh MM).2.1] at h
  have key:∀ p q r s:Nat,(p,q)∈S.lines->(r,s)∈S.lines->¬ (turn (S.pt p) (S.pt q) (S.pt r)*turn (S.pt p) (S.pt q) (S.pt s)<0/\turn (S.pt r) (S.pt s) (S.pt p)*turn (S.pt r) (S.pt s) (S.pt q)<0):=by
   intro p q r s hl hm hh;by_cases e:(p,q)=(r,s)
   .cases e;have:turn (S.pt p) (S.pt q) (S.pt q)=0:=by unfold turn dx dy;grind
    rw[this] at hh
    grind
   .have:=zHD O hl hm e;unfold crosses at this;rw[WJ hh.1,WJ hh.2] at this;cases this
  rcases zAS.mp j with ⟨_,hl⟩|⟨_,hl⟩ <;> rcases zAS.mp j' with ⟨_,hm⟩|⟨_,hm⟩
  .exact key a b c d hl hm h
  .refine key a b d c hl hm ?_;rw[ZP (S.pt c) (S.pt d),ZP (S.pt c) (S.pt d),Vq,VC (turn (S.pt a) (S.pt b) (S.pt d))];exact h
  .refine key b a c d hl hm ?_;rw[ZP (S.pt a) (S.pt b),ZP (S.pt a) (S.pt b),Vq,VC (turn (S.pt c) (S.pt d) (S.pt b))];exact h
  .refine key b a d c hl hm ?_;rw[ZP (S.pt a) (S.pt b),ZP (S.pt a) (S.pt b),ZP (S.pt c) (S.pt d),ZP (S.pt c) (S.pt d),Vq,Vq,VC (turn (S.pt c) (S.pt d) (S.pt b)),VC (turn (S.pt a) (S.pt b) (S.pt d))];exact h
theorem Z4{S:Plan}(O:yD S){v w:Nat}:w∈S.near v↔JJ S v w:=by
 unfold Plan.near;rw[VG];constructor
 .rintro⟨l,hl,h⟩;have:=O.line hl;by_cases h1:l.1=v
  .rw[Wb h1] at h;cases h;rw[zAS];refine .inl ⟨by omega,?_⟩;rw[<-h1];exact hl
  .rw[Wa h1] at h;by_cases h2:l.2=v
   .rw[Wb h2] at h;cases h;rw[zAS];refine .inr ⟨by omega,?_⟩;rw[<-h2];exact hl
   .rw[Wa h2] at h;cases h
 .intro h;rcases zAS.mp h with ⟨_,hl⟩|⟨_,hl⟩
  .exact⟨_,hl,by rw[Wb rfl]⟩
  .have:=O.line hl;dsimp only at this;exact⟨_,hl,by rw[Wa (show ¬ (w,v).1=v by dsimp only;omega),Wb rfl]⟩
theorem zHs{S:Plan}{k:Nat}(hk:k<S.pts.length):S.nears.getD k []=S.near k:=by
 unfold Plan.nears;rw[WS];simp[hk]
theorem zGu{S:Plan}{k j:Nat}(h:j∈S.nears.getD k []):k<S.pts.length:=by
 apply Nat.lt_of_not_le;intro hk;unfold Plan.nears at h;rw[WS,Ux (by simp;omega)] at h;cases h
def zFn (a:List Nat×Array Bool)(j:Nat):List Nat×Array Bool:=if a.2.getD j true=true then a else (j::a.1,a.2.setIfInBounds j true)
structure zGK(h:Nat->Int)(c:Int)(Bad:Nat->Prop)(n:Nat)(a:List Nat×Array Bool):Prop where
 size:a.2.size=n
 todo:∀ k∈a.1,¬ Bad k/\h k=c
 bad:∀ j,j<n->Bad j->a.2.getD j true=true
 seen:∀ j,j<n->a.2.getD j true=true->Bad j\/h j=c
theorem Ym{a:Array Bool}{i j:Nat}(hi:i<a.size):(a.setIfInBounds i true).getD j true=if i=j then true else a.getD j true:=by
 rw[WS,WS,Array.getElem?_setIfInBounds];by_cases e:i=j
 .rw[Wb e,Wb e,Wb (by omega)];rfl
 .rw[Wa e,Wa e]
theorem zHt{h:Nat->Int}{c:Int}{Bad:Nat->Prop}{n:Nat}:∀ (l:List Nat) (a:List Nat×Array Bool),(∀ j∈l,¬ Bad j->h j=c)->zGK h c Bad n a->zGK h c Bad n (l.foldl zFn a)
|[],_,_,I=>I
|j::l,a,hl,I=>by
  rw[Vp];refine zHt l _ (λj' hj'=>hl j' (by simp[hj'])) ?_;unfold zFn;by_cases hs:a.2.getD j true=true
  .rw[Wb hs];exact I
  .rw[Wa hs]
   have hj:j<a.2.size:=by
    apply Nat.lt_of_not_le;intro hk;rw[WS,Ux hk] at hs;exact hs rfl
   have nb:¬ Bad j:=λhb=>hs (I.bad j (by rw[<-I.size];exact hj) hb)
   refine⟨by rw[Vc];exact I.size,λk hk=>?_,λi hi hb=>?_,λi hi hs'=>?_⟩
   .rcases Wc.mp hk with e|e
    .rw[e];exact⟨nb,hl j (by simp) nb⟩
    .exact I.todo k e
   .rw[Ym hj];by_cases e:j=i
    .rw[Wb e]
    .rw[Wa e];exact I.bad i hi hb
   .rw[Ym hj] at hs';by_cases e:j=i
    .rw[<-e];exact .inr (hl j (by simp) nb)
    .rw[Wa e] at hs';exact I.seen i hi hs'
theorem zDZ{h:Nat->Int}{c:Int}{Bad:Nat->Prop}{n:Nat}{near:Array (List Nat)}(hstep:∀ k j,j∈near.getD k []->¬ Bad k->¬ Bad j->h k=c->h j=c) :
  ∀ (fuel:Nat) (todo:List Nat) (seen:Array Bool),zGK h c Bad n (todo,seen)->(spread near fuel todo seen).size=n/\∀ j,j<n->(spread near fuel todo seen).getD j true=true->Bad j\/h j=c
|0,todo,seen,I=>⟨I.size,I.seen⟩
|f+1,[],seen,I=>⟨I.size,I.seen⟩
|f+1,k::r,seen,I=>by
  have hk:=I.todo k (by simp);have I2:zGK h c Bad n ((near.getD k []).foldl zFn (r,seen)):=zHt _ _ (λj hj nb=>hstep k j hj hk.1 nb hk.2) ⟨I.size,λk' hk'=>I.todo k' (by simp[hk']),I.bad,I.seen⟩;have ih:=zDZ hstep f ((near.getD k []).foldl zFn (r,seen)).1 ((near.getD k []).foldl zFn (r,seen)).2 I2;exact ih
theorem zCf{n:Nat}{p:Nat->Bool}(h:(List.range n).find? p=none){i:Nat}(hi:i<n):p i=false:=by
 rw[X8] at h;simpa using h i (VI.mpr hi)
theorem zE7(n j:Nat)(hj:j<n)(b:Bool):(noneSeen n).getD j b=false:=by
 unfold noneSeen;rw[WS];simp[hj]
theorem yD.conn{S:Plan}(O:yD S)(h:Nat->Int)(hh:∀ a b,JJ S a b->h a=h b)(a b:Nat)(ha:a<S.pts.length)(hb:b<S.pts.length):h a=h b:=by
 have hs:∀ k j,j∈S.nears.getD k []->¬ False->¬ False->h k=h 0->h j=h 0:=by
  intro k j hj _ _ hk;rw[zHs (zGu hj),Z4 O] at hj;rw[<-hh _ _ hj];exact hk
 have hz:0<(noneSeen S.pts.length).size:=by
  unfold noneSeen;simp;omega
 have I:zGK h (h 0) (λ_=>False) S.pts.length ([0],(noneSeen S.pts.length).setIfInBounds 0 true):=by
  refine⟨by rw[Vc];unfold noneSeen;simp,λk hk=>?_,λj _ hb=>absurd hb id,λj hj hs=>?_⟩
  .rw[Wn.mp hk];exact⟨id,rfl⟩
  .rw[Ym hz] at hs;by_cases e:0=j
   .rw[<-e];exact .inr rfl
   .rw[Wa e,zE7 _ _ hj] at hs;cases hs
 have K:=zDZ hs (S.pts.length+1) _ _ I
 have all:∀ j,j<S.pts.length->h j=h 0:=by
  intro j hj;have q:=zCf O.r9 hj;rw[Wu] at q
  have q2:(seenFrom S.nears S.pts.length 0 (noneSeen S.pts.length)).getD j true=true:=by
   rw[WS] at q ⊢;cases e:(seenFrom S.nears S.pts.length 0 (noneSeen S.pts.length))[j]? with
  |none=>rfl
  |some x=>rw[e] at q;exact q
  exact (K.2 j hj q2).resolve_left id
 rw[all a ha,all b hb]
theorem yD.cut{S:Plan}(O:yD S)(v:Nat)(hv:v<S.pts.length)(h:Nat->Int)(hh:∀ a b,JJ S a b->a≠v->b≠v->h a=h b)(a b:Nat)(ha:a<S.pts.length)(hb:b<S.pts.length)(hav:a≠v)(hbv:b≠v):h a=h b:=by
 have q:=zCf O.r10 hv;unfold cuts at q;generalize hst:(if v=0 then 1 else 0)=s at q;have hsv:s≠v:=by rw[<-hst];split <;> lia
 have hs:∀ k j,j∈S.nears.getD k []->¬ k=v->¬ j=v->h k=h s->h j=h s:=by
  intro k j hj h1 h2 hk;rw[zHs (zGu hj),Z4 O] at hj;rw[<-hh _ _ hj h1 h2];exact hk
 have sz:(noneSeen S.pts.length).size=S.pts.length:=by unfold noneSeen;simp
 have I:zGK h (h s) (λj=>j=v) S.pts.length ([s],((noneSeen S.pts.length).setIfInBounds v true).setIfInBounds s true):=by
  refine⟨by rw[Vc,Vc];exact sz,λk hk=>?_,λj hj hb=>?_,λj hj hs=>?_⟩
  .rw[Wn.mp hk];exact⟨hsv,rfl⟩
  .by_cases hsl:s<S.pts.length
   .rw[Ym (by rw[Vc,sz];exact hsl),Wa (by grind),Ym (by rw[sz];exact hv),Wb hb.symm]
   .rw[UM (by rw[Vc,sz];omega),Ym (by rw[sz];exact hv),Wb hb.symm]
  .by_cases hsl:s<S.pts.length
   .rw[Ym (by rw[Vc,sz];exact hsl)] at hs;by_cases e:s=j
    .rw[<-e];exact .inr rfl
    .rw[Wa e,Ym (by rw[sz];exact hv)] at hs;by_cases e2:v=j
     .exact .inl e2.symm
     .rw[Wa e2,zE7 _ _ hj] at hs;cases hs
   .rw[UM (by rw[Vc,sz];omega),Ym (by rw[sz];exact hv)] at hs;by_cases e2:v=j
    .exact .inl e2.symm
    .rw[Wa e2,zE7 _ _ hj] at hs;cases hs
 have K:=zDZ hs (S.pts.length+1) _ _ I
 have all:∀ j,j<S.pts.length->j≠v->h j=h s:=by
  intro j hj hjv
  have q2:(seenFrom S.nears S.pts.length s ((noneSeen S.pts.length).setIfInBounds v true)).getD j true=true:=by
   rw[WS];cases e:(seenFrom S.nears S.pts.length s ((noneSeen S.pts.length).setIfInBounds v true))[j]? with
  |none=>rfl
  |some x=>
    cases x with
   |true=>rfl
   |false=>
     exfalso
     have:(seenFrom S.nears S.pts.length s ((noneSeen S.pts.length).setIfInBounds v true)).contains false=true:=by
      rw[Array.contains_iff];exact Array.mem_of_getElem? e
     rw[this] at q;cases q
  exact (K.2 j hj q2).resolve_left hjv
 rw[all a ha hav,all b hb hbv]
theorem sqp{x y:Int}(h:¬ (x=0/\y=0)):0<x*x+y*y:=by
 have s:∀ x:Int,x*x=0/\x=0\/0<x*x:=λx=>(W0 x 0).elim (λh=>.inr (Ja h h)) λh=>h.elim (λh=>.inl ⟨by rw[h];rfl,h⟩) λh=>.inr (VY h h)
 rcases s x with a|a <;> rcases s y with b|b
 .exact absurd ⟨a.2,b.2⟩ h
 .rw[a.1];omega
 .rw[b.1];omega
 .exact Int.add_pos a b
theorem zRy{a b M:Int}(h:a-b=2*(M*0-0)):a=b:=by grind
theorem zRz{V P Q d:Int}(hp:V≠P)(hq:V≠Q)(t:(V<P/\¬ V<Q\/(V<P↔V<Q)/\(0:Int)<0)\/(V<Q/\¬ V<P\/(V<Q↔V<P)/\(-0:Int)<0))(m:0<(P-V)*d↔0<Q-V)(n:(P-V)*d<0↔Q-V<0):d<0:=by
 rcases t with (t|t)|(t|t)
 .exact (yh (WZ t.1)).2.1.mp (n.mpr (by lia))
 .exact absurd t.2 (Int.lt_irrefl 0)
 .exact (zD6 (a:=P-V) (by lia)).1.mp (m.mpr (WZ t.1))
 .exact absurd t.2 (Int.lt_irrefl 0)
theorem zDB{S:Plan}(O:yD S){v p a:Nat}(jp:JJ S v p)(ja:JJ S v a)(hne:a≠p) :
  half (dir S v p) (dir S v a)=if T (cx S) (cy S) v p a<0 then 0 else if 0<T (cx S) (cy S) v p a then 2 else 1:=by
 have G:=O.good;have W2:0<2*((S.w:Int)+1):=by omega
 have e:(dir S v p).1*(dir S v a).2-(dir S v p).2*(dir S v a).1=turn (S.pt v) (S.pt p) (S.pt a):=by unfold dir turn dx dy;grind
 have m:=yh (b:=turn (S.pt v) (S.pt p) (S.pt a)) W2;rw[<-zBl] at m;unfold half;dsimp only;rw[e];by_cases c1:turn (S.pt v) (S.pt p) (S.pt a)<0
 .rw[Wb c1,Wb (m.2.1.mpr c1)]
 .rw[Wa c1,Wa λh=>c1 (m.2.1.mp h)];by_cases c2:0<turn (S.pt v) (S.pt p) (S.pt a)
  .rw[Wb c2,Wb (m.1.mpr c2)]
  .rw[Wa c2,Wa λh=>c2 (m.1.mp h),Wb];have c0:turn (S.pt v) (S.pt p) (S.pt a)=0:=Int.le_antisymm (Vt.mp c2) (Vt.mp c1);have t0:T (cx S) (cy S) v p a=0:=m.2.2.mpr c0;have tot:=YZ G jp ja (λh=>hne h.symm);have sw:=YY (X:=cx S) (Y:=cy S) v p a;unfold ll at tot;have hp:cy S p-cy S v=2*(((S.w:Int)+1)*(dir S v p).2-(dir S v p).1):=by unfold cy dir dx dy xi yi;grind
   have ha:cy S a-cy S v=2*(((S.w:Int)+1)*(dir S v a).2-(dir S v a).1):=by unfold cy dir dx dy xi yi;grind
   rw[c0] at e
   have key:(cy S p-cy S v)*((dir S v p).1*(dir S v a).1+(dir S v p).2*(dir S v a).2)=(cy S a-cy S v)*((dir S v p).1*(dir S v p).1+(dir S v p).2*(dir S v p).2):=by
    rw[hp,ha];generalize (dir S v p).1=r1 at *
    generalize (dir S v p).2=r2 at *
    generalize (dir S v a).1=a1 at *
    generalize (dir S v a).2=a2 at *
    generalize ((S.w:Int)+1)=M at *
    clear tot sw m hp ha
    grind
   have qpos:0<(dir S v p).1*(dir S v p).1+(dir S v p).2*(dir S v p).2:=sqp λz=>G.yne jp (by rw[z.1,z.2] at hp;exact (zRy hp).symm)
   have mq:=yh (b:=cy S a-cy S v) qpos;rw[VC,<-key] at mq;rw[sw,t0] at tot;exact zRz (G.yne jp) (G.yne ja) tot mq.1 mq.2.1
theorem zGv{S:Plan}(v p:Nat):half (dir S v p) (dir S v p)=3:=by
 unfold half;dsimp only;rw[Wa (by rw[VC];grind),Wa (by rw[VC];omega),Wa]
 have sq:∀ x:Int,0<=x*x:=by
  intro x;rcases W0 x 0 with h|h|h
  .have:=Ja h h;omega
  .subst h;omega
  .have:=VY h h;omega
 have:=sq (dir S v p).1;have:=sq (dir S v p).2;omega
theorem zDC{V P C:Int}(h:V≠P):Sg ((P-V)*C) (if V<P then C else -C):=by
 split
 .rename_i q
  exact yh (WZ q)
 .rename_i q
  have m:=zD6 (a:=P-V) (b:=C) (by omega);unfold Sg
  lia
theorem nle{x a:Int}(h:Sg x a)(k:a<=0):x<=0:=Vt.mp λz=>Vt.mpr k (h.1.mp z)
theorem nge{x a:Int}(h:Sg x a)(k:0<=a):0<=x:=Vt.mp λz=>Vt.mpr k (h.2.1.mp z)
theorem sp1{x y z:Int}(e:z=y-x)(h:(0<y/\x<=0)\/(0<=y/\x<0)):0<z:=by omega
theorem sp2{x y z:Int}(e:z=y-x)(h:(y<0/\0<=x)\/(y<=0/\0<x)):z<0:=by omega
theorem zPp{x y z a b c:Int}(hx:Sg x a)(hy:Sg y b)(hz:Sg z c)(e:z=y-x):(0<b->a<=0->0<c)/\(0<=b->a<0->0<c)/\(b<0->0<=a->c<0)/\(b<=0->0<a->c<0)/\(a=0->b=0->c=0):=
 ⟨λhb ha=>hz.1.mp (sp1 e (.inl ⟨hy.1.mpr hb,nle hx ha⟩)),λhb ha=>hz.1.mp (sp1 e (.inr ⟨nge hy hb,hx.2.1.mpr ha⟩)),λhb ha=>hz.2.1.mp (sp2 e (.inl ⟨hy.2.1.mpr hb,nge hx ha⟩)),λhb ha=>hz.2.1.mp (sp2 e (.inr ⟨nle hy hb,hx.1.mpr ha⟩)),λha hb=>hz.2.2.mp (by rw[e,hy.2.2.mpr hb,hx.2.2.mpr ha];rfl)⟩
theorem zJ6{A:Int}:(A<0/\¬ 0<A)\/(¬ A<0/\¬ 0<A)\/(¬ A<0/\0<A):=by grind
theorem hlt{A B:Int}:((if A<0 then 0 else if 0<A then 2 else 1)<(if B<0 then 0 else if 0<B then 2 else 1:Nat))↔((A<0/\¬ B<0)\/(¬ 0<A/\0<B)):=by
 rcases @zJ6 A with a|a|a <;> rcases @zJ6 B with b|b|b <;> simp[a,b]
theorem heq{A B:Int}:((if A<0 then 0 else if 0<A then 2 else 1)=(if B<0 then 0 else if 0<B then 2 else 1:Nat))↔((A<0↔B<0)/\(0<A↔0<B)):=by
 rcases @zJ6 A with a|a|a <;> rcases @zJ6 B with b|b|b <;> simp[a,b]
theorem zR0{A B C:Int}(t:A<0\/-A<0)(h1:B<0->0<=-A->C<0)(h2:0<B->-A<=0->0<C):(((A<0/\¬ B<0)\/(¬ 0<A/\0<B))\/((A<0↔B<0)/\(0<A↔0<B))/\C<0↔A<0):=by grind
theorem zR1{A B C:Int}(t:A<0\/-A<0)(h1:0 < -B->A<=0->0 < -C)(h2 : -B<0->0<=A->-C<0):(((A<0/\¬ B<0)\/(¬ 0<A/\0<B))\/((A<0↔B<0)/\(0<A↔0<B))/\C<0↔A<0):=by grind
theorem zR2{A B C:Int}(t:B<0\/-B<0)(h1 : -B<0->0<=A->C<0)(h2:0 < -B->A<=0->0<C):(((A<0/\¬ B<0)\/(¬ 0<A/\0<B))\/((A<0↔B<0)/\(0<A↔0<B))/\C<0↔-B<0):=by grind
theorem zR3{A B C:Int}(t:B<0\/-B<0)(h1:0<B->-A<=0->0 < -C)(h2:B<0->0<=-A->-C<0):(((A<0/\¬ B<0)\/(¬ 0<A/\0<B))\/((A<0↔B<0)/\(0<A↔0<B))/\C<0↔-B<0):=by grind
theorem brC{A B C:Int}(t:C<0\/-C<0)(z1:0<B->A<=0->C<0)(z2:0<=B->A<0->C<0)(z3:B<0->0<=A->0<C)(z4:B<=0->0<A->0<C):(((A<0/\¬ B<0)\/(¬ 0<A/\0<B))\/((A<0↔B<0)/\(0<A↔0<B))/\C<0↔C<0):=by grind
theorem brT{A B C:Int}(t1:A<0\/-A<0)(t2:B<0\/-B<0)(z1:0<B->A<=0->0<C)(z3:B<0->0<=A->C<0):(((A<0/\¬ B<0)\/(¬ 0<A/\0<B))\/((A<0↔B<0)/\(0<A↔0<B))/\C<0↔A<0/\C<0\/-B<0/\A<0\/C<0/\-B<0):=by grind
theorem zQz{X Y Z:Int}(h:0 < -X->-Y<=0->0 < -Z):X<0->0<=Y->Z<0:=by lia
theorem zQ0{X Y Z:Int}(h : -X<0->0<=-Y->-Z<0):0<X->Y<=0->0<Z:=by grind
theorem zJ7{S:Plan}(O:yD S){v p a b:Nat}(jp:JJ S v p)(ja:JJ S v a)(jb:JJ S v b)(hap:a≠p)(hbp:b≠p)(hab:a≠b) :
  sooner (dir S v p) (dir S v a) (dir S v b)=true↔((ll (cx S) (cy S) v p a/\ll (cx S) (cy S) v a b)\/(ll (cx S) (cy S) v b p/\ll (cx S) (cy S) v p a)\/(ll (cx S) (cy S) v a b/\ll (cx S) (cy S) v b p)):=by
 have G:=O.good;have W2:0<2*((S.w:Int)+1):=by omega
 have e:(dir S v a).1*(dir S v b).2-(dir S v a).2*(dir S v b).1=turn (S.pt v) (S.pt a) (S.pt b):=by unfold dir turn dx dy;grind
 have m:=yh (b:=turn (S.pt v) (S.pt a) (S.pt b)) W2;rw[<-zBl] at m;unfold sooner;rw[zDB O jp ja hap,zDB O jp jb hbp,e];simp only[Va,yZ,ym,Vs];rw[<-m.2.1];have id:(cy S p-cy S v)*T (cx S) (cy S) v a b=(cy S a-cy S v)*T (cx S) (cy S) v p b-(cy S b-cy S v)*T (cx S) (cy S) v p a:=by unfold T;grind
 have s3:=YY (X:=cx S) (Y:=cy S) v p b;have t1:=YZ G jp ja (λh=>hap h.symm);have t2:=YZ G jp jb (λh=>hbp h.symm);have t3:=YZ G ja jb hab;have w1:=YY (X:=cx S) (Y:=cy S) v p a;have w3:=YY (X:=cx S) (Y:=cy S) v a b;have yp:=G.yne jp;have ya:=G.yne ja;have yb:=G.yne jb;unfold ll at *
 rw[w1] at t1;rw[s3] at t2;rw[w3] at t3;rw[s3];generalize T (cx S) (cy S) v p a=A at *
 generalize T (cx S) (cy S) v p b=B at *
 generalize T (cx S) (cy S) v a b=C at *
 generalize cy S v=V at *
 generalize cy S p=P at *
 generalize cy S a=Q at *
 generalize cy S b=R at *
 have z:=zPp (zDC (C:=A) yb) (zDC (C:=B) ya) (zDC (C:=C) yp) id;clear m e w1 s3 w3 id yp ya yb G jp ja jb hap hbp hab O W2;by_cases u1:V<P <;> by_cases u2:V<Q <;> by_cases u3:V<R <;> simp only[u1,u2,u3,true_and,false_and,not_true_eq_false,not_false_eq_true,or_false,false_or,iff_self,and_true,and_false,iff_true,iff_false,true_iff,false_iff,UH,UD] at t1 t2 t3 z ⊢
 all_goals rw[hlt,heq]
 .exact brT t1 t2 z.1 z.2.2.1
 .exact zR0 t1 z.2.2.1 z.1
 .exact zR2 t2 z.2.2.1 z.1
 .exact brC t3 (λh k=>z.2.2.1 (Int.neg_neg_of_pos h) (Int.neg_nonneg_of_nonpos k)) (λh k=>z.2.2.2.1 (Int.neg_nonpos_of_nonneg h) (Int.neg_pos_of_neg k)) (λh k=>z.1 (Int.neg_pos_of_neg h) (Int.neg_nonpos_of_nonneg k)) (λh k=>z.2.1 (Int.neg_nonneg_of_nonpos h) (Int.neg_neg_of_pos k))
 .exact brC t3 (λh k=>Int.neg_of_neg_pos (z.1 h k)) (λh k=>Int.neg_of_neg_pos (z.2.1 h k)) (λh k=>Int.pos_of_neg_neg (z.2.2.1 h k)) (λh k=>Int.pos_of_neg_neg (z.2.2.2.1 h k))
 .exact zR3 t2 z.1 z.2.2.1
 .exact zR1 t1 z.1 z.2.2.1
 .exact brT t1 t2 (zQ0 z.2.2.1) (zQz z.1)
section
variable {n:Nat}{X Y:Nat->Int}{J:Nat->Nat->Prop}
theorem zHO{v w:Nat}:0<=rk n X Y J v w:=by
 classical
 unfold rk;exact zAR λi _=>by split <;> omega
theorem zCI(G:yX n X Y J){v a b:Nat}(ja:J v a)(jb:J v b):ll X Y v a b↔rk n X Y J v a<rk n X Y J v b:=by
 refine⟨Y2 G ja jb,λh=>?_⟩;by_cases e:a=b
 .subst e;omega
 .rcases YZ G ja jb e with k|k
  .exact k
  .have:=Y2 G jb ja k;omega
end
noncomputable def YT (S:Plan) (v p w:Nat):Int:=if w=p then 2*S.pts.length+5 else if rk S.pts.length (cx S) (cy S) (JJ S) v p<rk S.pts.length (cx S) (cy S) (JJ S) v w then rk S.pts.length (cx S) (cy S) (JJ S) v w else rk S.pts.length (cx S) (cy S) (JJ S) v w+S.pts.length+1
theorem zHu{S:Plan}(O:yD S){v p a b:Nat}(jp:JJ S v p)(ja:JJ S v a)(jb:JJ S v b):sooner (dir S v p) (dir S v a) (dir S v b)=true↔YT S v p a<YT S v p b:=by
 have G:=O.good;have bd:∀ w,0<=rk S.pts.length (cx S) (cy S) (JJ S) v w/\rk S.pts.length (cx S) (cy S) (JJ S) v w<=S.pts.length:=λw=>⟨zHO,zFh⟩
 have ba:=bd a;have bb:=bd b;have bp:=bd p
 have h3:∀ w,JJ S v w->w≠p->half (dir S v p) (dir S v w)<3:=by
  intro w jw hw;rw[zDB O jp jw hw];split
  .omega
  .split <;> omega
 by_cases e1:a=b
 .subst e1
  have:sooner (dir S v p) (dir S v a) (dir S v a)=false:=by
   unfold sooner;have z:(dir S v a).1*(dir S v a).2-(dir S v a).2*(dir S v a).1=0:=by rw[VC];omega
   rw[z];simp
  rw[this];simp
 .by_cases e2:a=p
  .subst e2
   have:sooner (dir S v a) (dir S v a) (dir S v b)=false:=by
    unfold sooner;rw[zGv];have:=h3 b jb (λh=>e1 h.symm);rw[WB (by omega),Xg,Vd.mpr (by omega),V5]
   rw[this];unfold YT;rw[Wb rfl,Wa (λh=>e1 h.symm)];constructor
   .intro h;cases h
   .intro h
    exfalso
    split at h <;> omega
  .by_cases e3:b=p
   .subst e3
    have:sooner (dir S v b) (dir S v a) (dir S v b)=true:=by
     unfold sooner;rw[zGv];have:=h3 a ja e2;rw[WJ (by omega),UV]
    rw[this];unfold YT;rw[Wa e2,Wb rfl];refine⟨λ_=>?_,λ_=>rfl⟩;split <;> omega
   .rw[zJ7 O jp ja jb e2 e3 e1,zCI G jp ja,zCI G ja jb,zCI G jb jp]
    have n1:rk S.pts.length (cx S) (cy S) (JJ S) v a≠rk S.pts.length (cx S) (cy S) (JJ S) v b:=by
     rcases YZ G ja jb e1 with k|k
     .have:=Y2 G ja jb k;omega
     .have:=Y2 G jb ja k;omega
    have n2:rk S.pts.length (cx S) (cy S) (JJ S) v a≠rk S.pts.length (cx S) (cy S) (JJ S) v p:=by
     rcases YZ G ja jp e2 with k|k
     .have:=Y2 G ja jp k;omega
     .have:=Y2 G jp ja k;omega
    have n3:rk S.pts.length (cx S) (cy S) (JJ S) v b≠rk S.pts.length (cx S) (cy S) (JJ S) v p:=by
     rcases YZ G jb jp e3 with k|k
     .have:=Y2 G jb jp k;omega
     .have:=Y2 G jp jb k;omega
    unfold YT;rw[Wa e2,Wa e3];split <;> split <;> omega
theorem zE8{s:Nat->Nat->Bool}{ρ:Nat->Int}:∀ (l:List Nat) (k:Nat),(∀ a∈k::l,∀ b∈k::l,(s a b=true↔ρ a<ρ b))->
  l.foldl (λa b=>if s b a=true then b else a) k∈k::l/\∀ w∈k::l,ρ (l.foldl (λa b=>if s b a=true then b else a) k)<=ρ w
|[],k,_=>⟨by simp,λw hw=>by rw[Wn.mp hw];exact VZ _⟩
|b::l,k,h=>by
  rw[Vp];have hb:=h b (by simp) k (by simp);by_cases c:s b k=true
  .rw[Wb c];have ih:=zE8 (s:=s) (ρ:=ρ) l b (λx hx y hy=>h x (We _ hx) y (We _ hy));refine⟨We _ ih.1,λw hw=>?_⟩;rcases Wc.mp hw with e|e
   .have:=ih.2 b (by simp);have:=hb.mp c;rw[e];omega
   .exact ih.2 w e
  .rw[Wa c];have ih:=zE8 (s:=s) (ρ:=ρ) l k (λx hx y hy=>h x (by rcases Wc.mp hx with e|e <;> simp[e]) y (by rcases Wc.mp hy with e|e <;> simp[e]));refine⟨by rcases Wc.mp ih.1 with e|e <;> simp[e],λw hw=>?_⟩;rcases Wc.mp hw with e|e
   .exact ih.2 w (by simp[e])
   .rcases Wc.mp e with e|e
    .have k1:=ih.2 k (by simp);have k2:¬ ρ b<ρ k:=λhh=>c (hb.mpr hh)
     rw[e];omega
    .exact ih.2 w (by simp[e])
theorem zHv{S:Plan}(O:yD S){p v:Nat}(j:JJ S p v):JJ S v (S.next p v)/\∀ w,JJ S v w->YT S v p (S.next p v)<=YT S v p w:=by
 have jp:=zAr j;unfold Plan.next;have hp:p∈S.near v:=(Z4 O).mpr jp;cases e:S.near v with
|nil=>rw[e] at hp;cases hp
|cons k r=>
  have hJ:∀ w,w∈k::r↔JJ S v w:=λw=>by rw[<-e];exact Z4 O
  have q:=zE8 (s:=λb a=>sooner (dir S v p) (dir S v b) (dir S v a)) (ρ:=YT S v p) r k (λa ha b hb=>zHu O jp ((hJ a).mp ha) ((hJ b).mp hb));exact⟨(hJ _).mp q.1,λw hw=>q.2 w ((hJ w).mpr hw)⟩
theorem yD.nx{S:Plan}(O:yD S)(p v:Nat)(j:JJ S p v):Nx (cx S) (cy S) (JJ S) v p (S.next p v):=by
 have G:=O.good;have jp:=zAr j;obtain⟨jm,hm⟩:=zHv O j;generalize S.next p v=m at jm hm;refine⟨jm,?_⟩;have bd:∀ w,0<=rk S.pts.length (cx S) (cy S) (JJ S) v w/\rk S.pts.length (cx S) (cy S) (JJ S) v w<=S.pts.length:=λw=>⟨zHO,zFh⟩
 have ne:∀ a b,JJ S v a->JJ S v b->a≠b->rk S.pts.length (cx S) (cy S) (JJ S) v a≠rk S.pts.length (cx S) (cy S) (JJ S) v b:=by
  intro a b ja jb h;rcases YZ G ja jb h with k|k
  .have:=Y2 G ja jb k;omega
  .have:=Y2 G jb ja k;omega
 have bm:=bd m;have bp:=bd p;by_cases e:m=p
 .subst e
  have all:∀ w,JJ S v w->w=m:=by
   intro w jw;apply WM;intro hw;have:=hm w jw;have bw:=bd w;unfold YT at this;rw[Wb rfl,Wa hw] at this;split at this <;> omega
  exact .inr ⟨λw jw=>.inl (all w jw),λw jw=>by rw[all w jw];exact zD8 v m⟩
 .by_cases c:rk S.pts.length (cx S) (cy S) (JJ S) v p<rk S.pts.length (cx S) (cy S) (JJ S) v m
  .refine .inl λw jw=>?_
   have bw:=bd w;have hw:=hm w jw;rw[zCI G jw jp,zCI G jw jm];by_cases ew:w=p
   .subst ew;exact⟨λ_=>c,λ_=>.inl rfl⟩
   .have:=ne w p jw jp ew;unfold YT at hw;rw[Wa e,Wa ew,Wb c] at hw;split at hw <;> omega
  .have mp:=ne m p jm jp e;refine .inr ⟨λw jw=>?_,λw jw=>?_⟩
   .have bw:=bd w;have hw:=hm w jw;by_cases ew:w=p
    .exact .inl ew
    .refine .inr ((zCI G jw jp).mpr ?_);have:=ne w p jw jp ew;unfold YT at hw;rw[Wa e,Wa ew,Wa c] at hw;split at hw <;> omega
   .rw[zCI G jw jm];have bw:=bd w;have hw:=hm w jw;by_cases ew:w=p
    .subst ew;exact c
    .have:=ne w p jw jp ew;unfold YT at hw;rw[Wa e,Wa ew,Wa c] at hw;split at hw <;> omega
theorem yD.dr{S:Plan}(O:yD S):Dr S.pts.length (cx S) (cy S) (JJ S) S.next:=by
 refine⟨O.good,O.nx,λv hv=>?_,O.conn,O.cut⟩;have h:=zCf O.r8 hv;have h2:=Wo h;cases e:S.near v with
|nil=>rw[e] at h2;exact absurd (by decide) h2
|cons w r=>exact⟨w,zAr ((Z4 O).mp (by rw[e];simp))⟩
theorem zAf{S:Plan}(O:yD S)(e:zh):e∈ways S↔JJ S e.1 e.2:=by
 unfold ways;rw[Xn];constructor
 .rintro⟨l,hl,h⟩;have:=O.line hl;rcases Wc.mp h with h|h
  .rw[h,zAS];exact .inl ⟨by omega,hl⟩
  .rw[Wn.mp h,zAS];exact .inr ⟨by dsimp only;omega,hl⟩
 .intro h;obtain⟨a,b⟩:=e;rcases zAS.mp h with ⟨_,hl⟩|⟨_,hl⟩
  .exact⟨_,hl,by simp⟩
  .exact⟨_,hl,by simp⟩
theorem zDa(S:Plan):(ways S).length=2*S.lines.length:=by
 unfold ways
 induction S.lines with
|nil=>rfl
|cons l r ih=>rw[List.flatMap_cons,Wr,ih];simp only[WD,Xc];omega
theorem zGw{S:Plan}{s:zh}{k:Nat}(P:Zv S.next k s):∀ (f i:Nat),i<k->k-i<=f->S.round f s (yC S.next i s)=(zU S.next (k-i) (yC S.next i s)).map Prod.fst
|0,i,h1,h2=>by omega
|f+1,i,h1,h2=>by
  have e:k-i=(k-(i+1))+1:=by omega
  rw[e,zU,Wj];unfold Plan.round;dsimp only
  congr 1
  have hf:((yC S.next i s).2,S.next (yC S.next i s).1 (yC S.next i s).2)=yC S.next (i+1) s:=by rw[ZV];rfl
  rw[hf];by_cases c:i+1<k
  .rw[Wa (P.least (i+1) (by omega) c),zGw P f (i+1) c (by omega)]
   congr 2
   rw[<-hf];rfl
  .have:i+1=k:=by omega
   rw[this,Wb P.back,show k-k=0 by omega];rfl
theorem yD.round{S:Plan}(O:yD S){e:zh}(je:JJ S e.1 e.2):∃ k,Zv S.next k e/\S.round (2*S.lines.length+1) e e=(zU S.next k e).map Prod.fst:=by
 obtain⟨k,P,hk⟩:=O.dr.per (A:=ways S) (λe h=>(zAf O e).mpr h) je;rw[zDa] at hk;refine⟨k,P,?_⟩;have:=zGw P (2*S.lines.length+1) 0 P.pos (by omega);exact this
section
variable {nx:Nat->Nat->Nat}
theorem zJB:∀ (k:Nat) (e:zh),(zU nx (k+1) e).map Prod.snd=(zU nx k (ph nx e)).map Prod.fst++[(yC nx (k+1) e).1]
|0,e=>rfl
|k+1,e=>by
  rw[zU,Wj,zJB k (ph nx e)];rfl
theorem zLR:∀ (W:List zh),(W.map Prod.fst).zip (W.map Prod.snd)=W
|[]=>rfl
|e::W=>by rw[Wj,Wj,X5,zLR W]
theorem zDD{k:Nat}{e:zh}(P:Zv nx k e):((zU nx k e).map Prod.fst).zip (((zU nx k e).map Prod.fst).drop 1++((zU nx k e).map Prod.fst).take 1)=zU nx k e:=by
 have h:((zU nx k e).map Prod.fst).drop 1++((zU nx k e).map Prod.fst).take 1=(zU nx k e).map Prod.snd:=by
  have b:=P.back;cases k with
 |zero=>exact absurd P.pos (by omega)
 |succ k=>
   rw[zJB,b,zU];rfl
 rw[h,zLR]
theorem zEh:∀ (i j:Nat) (e:zh),zU nx (i+j) e=zU nx i e++zU nx j (yC nx i e)
|0,j,e=>by rw[WC];rfl
|i+1,j,e=>by
  rw[show i+1+j=(i+j)+1 by omega,zU,zU,zEh i j];rfl
theorem zJC{k i:Nat}{e:zh}(P:Zv nx k e)(hi:i<=k):(zU nx k e).drop i++(zU nx k e).take i=zU nx k (yC nx i e):=by
 have h:zU nx k e=zU nx i e++zU nx (k-i) (yC nx i e):=by rw[<-zEh,show i+(k-i)=k by omega]
 rw[h,List.drop_left' (ZW i e),List.take_left' (ZW i e)];have b:yC nx (k-i) (yC nx i e)=e:=by rw[<-zAk,show k-i+i=k by omega,P.back]
 have h2:zU nx k (yC nx i e)=zU nx (k-i) (yC nx i e)++zU nx i (yC nx (k-i) (yC nx i e)):=by rw[<-zEh,show k-i+i=k by omega]
 rw[h2,b]
theorem Zv.shift{n:Nat}{X Y:Nat->Int}{J:Nat->Nat->Prop}(D:Dr n X Y J nx){k i:Nat}{e:zh}(je:J e.1 e.2)(P:Zv nx k e):Zv nx k (yC nx i e):=by
 refine⟨P.pos,?_,λj hj hk h=>?_⟩
 .rw[<-zAk,Nat.add_comm,zAk,P.back]
 .rw[<-zAk,Nat.add_comm,zAk] at h;exact P.least j hj hk (zEf D.G D.hnx i (Zy D.hnx j je) je h)
theorem Zs{n:Nat}{X Y:Nat->Int}{J:Nat->Nat->Prop}(D:Dr n X Y J nx){k i:Nat}{e:zh}(je:J e.1 e.2)(P:Zv nx k e)(hi:i<=k)(x:zh):x∈zU nx k (yC nx i e)↔x∈zU nx k e:=by
 rw[<-zJC P hi,Wp,Or.comm,<-Wp,List.take_append_drop]
end
structure zAs(S:Plan)(k:Nat)(e:zh):Prop where
 j:JJ S e.1 e.2
 P:Zv S.next k e
 least:∀ x∈zU S.next k e,e.1<=x.1
theorem zGx:∀ (r:List Nat) (a:Nat),r.foldl min a∈a::r/\∀ w∈a::r,r.foldl min a<=w
|[],a=>⟨by simp,λw hw=>by rw[Wn.mp hw];exact Wd _⟩
|b::r,a=>by
  rw[Vp];obtain⟨h1,h2⟩:=zGx r (min a b);have hm:min a b=a\/min a b=b:=by omega
  refine⟨?_,λw hw=>?_⟩
  .rcases Wc.mp h1 with e|e
   .rw[e];rcases hm with q|q <;> rw[q] <;> simp
   .simp[e]
  .have hh:=h2 (min a b) (by simp);rcases Wc.mp hw with e|e
   .omega
   .rcases Wc.mp e with e|e
    .omega
    .exact h2 w (by simp[e])
theorem zEA{S:Plan}(O:yD S){k:Nat}{e:zh}(je:JJ S e.1 e.2)(P:Zv S.next k e):∃ i,i<k/\fromLeast ((zU S.next k e).map Prod.fst)=(zU S.next k (yC S.next i e)).map Prod.fst/\zAs S k (yC S.next i e):=by
 have D:=O.dr;cases hl:(zU S.next k e).map Prod.fst with
|nil=>
  have h:=WV List.length hl;rw[zc,ZW,Xc] at h;have:=P.pos;omega
|cons a r=>
  obtain⟨h1,h2⟩:=zGx r a;have hi:(a::r).idxOf (r.foldl min a)<(a::r).length:=List.idxOf_lt_length_of_mem h1;have hget:(a::r)[(a::r).idxOf (r.foldl min a)]=r.foldl min a:=List.getElem_idxOf hi;have hlen:(a::r).length=k:=by rw[<-hl,zc,ZW]
  have hik:(a::r).idxOf (r.foldl min a)<k:=by rw[<-hlen];exact hi
  have e0:fromLeast (a::r)=(a::r).drop ((a::r).idxOf (r.foldl min a))++(a::r).take ((a::r).idxOf (r.foldl min a)):=rfl;rw[e0];generalize (a::r).idxOf (r.foldl min a)=i at hi hget hik;refine⟨i,hik,?_,Zy D.hnx _ je,P.shift D je,λx hx=>?_⟩
  .rw[<-hl,<-Uj,<-Xe,<-Ww,zJC P (by omega)]
  .rw[Zs D je P (by omega)] at hx;have hx1:x.1∈a::r:=by rw[<-hl];exact Wg.mpr ⟨x,hx,rfl⟩
   have hfst:(yC S.next i e).1=r.foldl min a:=by
    rw[<-hget]
    have:(a::r)[i]?=some (yC S.next i e).1:=by
     rw[<-hl,WQ]
     have:(zU S.next k e)[i]?=some (yC S.next i e):=by
      rw[show k=i+(k-i) by omega,zEh,VB (by rw[ZW];exact Wd _),ZW,XU,show k-i=(k-i-1)+1 by omega,zU];rfl
     rw[this];rfl
    rw[yW hi] at this;exact (WN this).symm
   rw[hfst];exact h2 _ hx1
theorem zAs.unique{S:Plan}(O:yD S){k k':Nat}{e e':zh}(F:zAs S k e)(F':zAs S k' e'){x:zh}(h:x∈zU S.next k e)(h':x∈zU S.next k' e'):e=e'/\k=k':=by
 have D:=O.dr
 have pk:∀ {k k':Nat}{e:zh},Zv S.next k e->Zv S.next k' e->k=k':=by
  intro k k' e P P';rcases VM k k' with q|q|q
  .exact absurd P.back (P'.least k P.pos q)
  .exact q
  .exact absurd P'.back (P.least k' P'.pos q)
 obtain⟨i,hi,e1⟩:=zn.mp h;obtain⟨i',hi',e1'⟩:=zn.mp h';have Px:Zv S.next k x:=by rw[e1];exact F.P.shift D F.j
 have Px':Zv S.next k' x:=by rw[e1'];exact F'.P.shift D F'.j
 have ek:=pk Px Px';subst ek
 have sets:∀ y,y∈zU S.next k e↔y∈zU S.next k e':=by
  intro y;rw[<-Zs D F.j F.P (i:=i) (by omega),<-e1,<-Zs D F'.j F'.P (i:=i') (by omega),<-e1']
 have m1:e∈zU S.next k e:=zn.mpr ⟨0,F.P.pos,rfl⟩;have m2:e'∈zU S.next k e':=zn.mpr ⟨0,F'.P.pos,rfl⟩;have l1:=F.least _ ((sets _).mpr m2);have l2:=F'.least _ ((sets _).mp m1);obtain⟨j,hj,ej⟩:=zn.mp ((sets _).mpr m2);by_cases j0:j=0
 .subst j0;exact⟨ej.symm,rfl⟩
 .exfalso
  have:=F.P.simple D F.j (j:=j) (by omega) hj;rw[<-ej] at this;omega
theorem zDb{S:Plan}(O:yD S)(l:List Nat):l∈S.outlines↔∃ k e,zAs S k e/\l=(zU S.next k e).map Prod.fst/\0<twiceArea S l:=by
 have D:=O.dr;unfold Plan.outlines;rw[Xb,List.mem_eraseDups,Wg];constructor
 .rintro⟨⟨e,he,rfl⟩,ha⟩;obtain⟨k,P,hr⟩:=O.round ((zAf O e).mp he);obtain⟨i,hi,h1,h2⟩:=zEA O ((zAf O e).mp he) P;exact⟨k,_,h2,by rw[hr,h1],Wm ha⟩
 .rintro⟨k,e,F,hl,ha⟩;refine⟨⟨e,(zAf O e).mpr F.j,?_⟩,WJ ha⟩;obtain⟨k',P',hr⟩:=O.round F.j;obtain⟨i,hi,h1,h2⟩:=zEA O F.j P';rw[hr,h1,hl];have m:e∈zU S.next k' (yC S.next i e):=(Zs D F.j P' (by omega) e).mpr (zn.mpr ⟨0,P'.pos,rfl⟩);obtain⟨q1,q2⟩:=F.unique O h2 (zn.mpr ⟨0,F.P.pos,rfl⟩) m;rw[<-q1,<-q2]
theorem zCg{α:Type}[BEq α][LawfulBEq α]:∀ (n:Nat) (l:List α),l.length<=n->l.eraseDups.Nodup
|_,[],_=>by simp
|0,a::l,h=>by simp at h
|n+1,a::l,h=>by
  rw[List.eraseDups_cons,Vh];refine⟨λhm=>?_,zCg n _ ?_⟩
  .rw[List.mem_eraseDups,Xb] at hm;simpa using hm.2
  .have:=List.length_filter_le (λb=>!b==a) l;rw[WD] at h;omega
theorem zJ8(S:Plan):S.outlines.Nodup:=by
 unfold Plan.outlines;exact UE _ (zCg _ _ (Wd _))
theorem zMa{S:Plan}{k:Nat}{e:zh}(P:Zv S.next k e):((zU S.next k e).map λe=>cx S e.1*cy S e.2-cx S e.2*cy S e.1).sum=2*((S.w:Int)+1)*twiceArea S ((zU S.next k e).map Prod.fst):=by
 unfold twiceArea;rw[zDD P]
 have h:∀ W:List zh,(W.map λe=>cx S e.1*cy S e.2-cx S e.2*cy S e.1).sum=2*((S.w:Int)+1)*((W.map λ(x:Nat×Nat)=>((S.pt x.1).x:Int)*((S.pt x.2).y:Int)-((S.pt x.2).x:Int)*((S.pt x.1).y:Int)).foldr (λ(a b:Int)=>a+b) 0)+2*((S.w:Int)+1)*(W.map λe=>(yi S e.2-xi S e.2)-(yi S e.1-xi S e.1)).sum:=by
  intro W
  induction W with
 |nil=>simp
 |cons a W ih=>
   rw[Wj,Wj,Wj,Vg,Vg,List.foldr_cons,ih];unfold cx cy xi yi
   grind
 rw[h,zGI (λi=>yi S i-xi S i) k e,P.back];simp
theorem zMb{S:Plan}(O:yD S){v:Nat}(hvn:v<S.pts.length):∃ q,JJ S v q/\∀ w,JJ S v w->¬ ll (cx S) (cy S) v w q:=by
 have D:=O.dr;obtain⟨w,jw⟩:=D.deg v hvn;obtain⟨M,jM,hM,_⟩:=zFi D.G D.hnx (v:=v) (λ_=>0) (λ_ _=>rfl) _ w (zAr jw) (UU _);obtain⟨jq,s|s⟩:=D.hnx M v (zAr jM)
 .exfalso
  have h1:=(s M jM).mp (.inl rfl);rcases hM _ jq with e|e
  .rw[e] at h1;exact zD8 v M h1
  .exact zEe D.G jM jq h1 e
 .exact⟨_,jq,s.2⟩
theorem zAs.area{S:Plan}(O:yD S){k:Nat}{e:zh}(F:zAs S k e){v q:Nat}(hv:∀ w,w<S.pts.length->cy S w<=cy S v)(jq:JJ S v q)(hq:∀ w,JJ S v w->¬ ll (cx S) (cy S) v w q):0<twiceArea S ((zU S.next k e).map Prod.fst)↔(v,q)∉zU S.next k e:=by
 have W2:0<2*((S.w:Int)+1):=by omega
 rw[<-F.P.area O.dr (K:=((S.w+1)*S.h+S.w)) (B:=S.w+1) (λa ha=>?_) (λa ha=>?_) F.j hv jq hq,zMa F.P]
 .exact (yh W2).1.symm
 .have b:=O.box ha;unfold cy;have:((S.w:Int)+1)*yi S a<=((S.w:Int)+1)*S.h:=VJ b.2.2.2 (by omega);have:0<=((S.w:Int)+1)*yi S a:=Vm (by omega) b.2.2.1
  have e1:(((S.w+1)*S.h+S.w:Nat):Int)=((S.w:Int)+1)*S.h+S.w:=by
   rw[U5,Xd,U5];rfl
  rw[e1];omega
 .have b:=O.box ha;unfold cx;omega
def zx (z:Pt):Int:=(z.x:Int)+1
def zy (S:Plan)(z:Pt):Int:=2*(((S.w:Int)+1)*(z.y:Int)+(S.w:Int)-(z.x:Int))
theorem zN6(S:Plan)(a b:Nat)(z:Pt):Tp (cx S) (cy S) a b (zx z) (zy S z)=2*((S.w:Int)+1)*turn (S.pt a) (S.pt b) z:=by
 unfold Tp cx cy xi yi zx zy turn dx dy
 grind
theorem zAT{S:Plan}(O:yD S){a b:Nat}{z:Pt}(hz:z.x<=S.w)(ha:a<S.pts.length)(hb:b<S.pts.length) :
  (cy S a<zy S z/\zy S z<cy S b/\0<Tp (cx S) (cy S) a b (zx z) (zy S z))↔((S.pt a).y<=z.y/\z.y<(S.pt b).y/\0<turn (S.pt a) (S.pt b) z):=by
 have W2:0<2*((S.w:Int)+1):=by grind
 rw[zN6,(yh W2).1];have ba:=O.box ha;have bb:=O.box hb;have k1:cy S a<zy S z↔(yi S a<z.y\/(yi S a=z.y/\(z.x:Int)<xi S a)):=zFm (S:=S) ⟨ba.1,ba.2.1⟩ ⟨by omega,by omega⟩;have k2:zy S z<cy S b↔((z.y:Int)<yi S b\/((z.y:Int)=yi S b/\xi S b<z.x)):=zFm (S:=S) ⟨by omega,by omega⟩ ⟨bb.1,bb.2.1⟩;rw[k1,k2];have t1:turn (S.pt a) (S.pt b) z=(xi S b-xi S a)*((z.y:Int)-yi S b)-(yi S b-yi S a)*((z.x:Int)-xi S b):=rfl;have t2:turn (S.pt a) (S.pt b) z=(xi S b-xi S a)*((z.y:Int)-yi S a)-(yi S b-yi S a)*((z.x:Int)-xi S a):=by rw[t1];grind
 have ya:yi S a=((S.pt a).y:Int):=rfl;have yb:yi S b=((S.pt b).y:Int):=rfl;constructor
 .rintro⟨h1,h2,h3⟩;refine⟨by omega,?_,h3⟩;rcases h2 with h2|⟨h2,h2'⟩
  .omega
  .exfalso
   rw[t1,h2,Int.sub_self,Vr] at h3;have:0<=(yi S b-yi S a)*((z.x:Int)-xi S b):=Vm (by omega) (by lia);omega
 .rintro⟨h1,h2,h3⟩;refine⟨?_,.inl (by omega),h3⟩;by_cases e:yi S a=z.y
  .refine .inr ⟨e,?_⟩;rw[t2,e,Int.sub_self,Vr] at h3;apply U7.mp;intro hn;have:0<=(yi S b-(z.y:Int))*((z.x:Int)-xi S a):=Vm (by omega) (by lia);omega
  .exact .inl (by lia)
def cr (S:Plan)(z:Pt)(a b:Nat):Int:=ind (cy S a<zy S z/\zy S z<cy S b/\0<Tp (cx S) (cy S) a b (zx z) (zy S z))-ind (cy S b<zy S z/\zy S z<cy S a/\0<Tp (cx S) (cy S) b a (zx z) (zy S z))
theorem zJD(S:Plan)(z:Pt)(a b:Nat):cr S z b a = - cr S z a b:=by unfold cr;omega
theorem zJE{S:Plan}(O:yD S)(z:Pt)(W:List zh)(hJ:∀ e∈W,JJ S e.1 e.2)(C:Zu S.pts.length (JJ S) (dW W)):base S.pts.length (cx S) (cy S) (dW W) (zx z) (zy S z)=(W.map λe=>cr S z e.1 e.2).sum:=by
 rw[zGJ O.good (zJD S z) W hJ];unfold base;refine zAj C λa b j h=>?_
 unfold cr;rw[zL (p:=cy S b<zy S z/\_) (by omega)];omega
def zHw (S:Plan)(z:Pt)(x:Nat×Nat):Bool:=
 let p:=S.pt x.1
 let q:=S.pt x.2
 (decide (p.y<=z.y)&&(decide (z.y<q.y)&&decide (0<turn p q z)))||(decide (q.y<=z.y)&&(decide (z.y<p.y)&&decide (turn p q z<0)))
theorem zPq{S:Plan}(O:yD S){z:Pt}(hz:z.x<=S.w){e:zh}(j:JJ S e.1 e.2):(zHw S z e=true/\(cr S z e.1 e.2=1\/cr S z e.1 e.2 = -1))\/(zHw S z e=false/\cr S z e.1 e.2=0):=by
 have l:=O.jlt j;have h1:=zAT O hz l.1 l.2.1;have h2:=zAT O hz l.2.1 l.1;have sw:=ZP (S.pt e.1) (S.pt e.2) z;unfold cr zHw;dsimp only;rw[ze h1,ze h2,sw];by_cases c1:(S.pt e.1).y<=z.y/\z.y<(S.pt e.2).y/\0<turn (S.pt e.1) (S.pt e.2) z
 .left
  rw[yA c1,zL (by omega)];exact⟨by simp[c1.1,c1.2.1,c1.2.2],.inl rfl⟩
 .by_cases c2:(S.pt e.2).y<=z.y/\z.y<(S.pt e.1).y/\0 < - turn (S.pt e.1) (S.pt e.2) z
  .left
   rw[zL c1,yA c2];refine⟨?_,.inr rfl⟩;rw[Va]
   right
   simp only[yZ,ym];omega
  .right
   rw[zL c1,zL c2];refine⟨?_,rfl⟩;rw[Bool.eq_false_iff];intro h;simp only[Va,yZ,ym] at h;omega
theorem zJF{S:Plan}(O:yD S){z:Pt}(hz:z.x<=S.w):∀ (W:List zh),(∀ e∈W,JJ S e.1 e.2)->(W.map λe=>cr S z e.1 e.2).sum%2=(((W.filter (zHw S z)).length:Nat):Int)%2
|[],_=>rfl
|e::W,h=>by
  have ih:=zJF O hz W λx hx=>h x (by simp[hx])
  rw[Wj,Vg,UY];rcases zPq O hz (h e (by simp)) with ⟨a,b⟩|⟨a,b⟩
  .rw[a,Wb rfl,WD]
   grind
  .rw[a,Wa (by decide),b]
   grind
theorem zFo{S:Plan}(O:yD S){z:Pt}(hz:z.x<=S.w){k:Nat}{e:zh}(F:zAs S k e):insideOf S ((zU S.next k e).map Prod.fst) z=true↔base S.pts.length (cx S) (cy S) (dW (zU S.next k e)) (zx z) (zy S z)%2=1:=by
 have D:=O.dr
 have hJ:∀ x∈zU S.next k e,JJ S x.1 x.2:=λx hx=>by
  obtain⟨i,_,rfl⟩:=zn.mp hx;exact Zy D.hnx i F.j
 rw[zJE O z _ hJ (F.P.cyc D F.j),zJF O hz _ hJ];unfold insideOf;rw[zDD F.P,ym]
 have:((zU S.next k e).filter λ(x:Nat×Nat)=>
  let p:=S.pt x.1
  let q:=S.pt x.2
  (decide (p.y<=z.y)&&(decide (z.y<q.y)&&decide (0<turn p q z)))||(decide (q.y<=z.y)&&(decide (z.y<p.y)&&decide (turn p q z<0))))=(zU S.next k e).filter (zHw S z):=rfl
 rw[this];omega
theorem lvl{S:Plan}(O:yD S){z:Pt}(hz:z.x<=S.w)(hl:onLines S z=false):∀ p,p<S.pts.length->cy S p≠zy S z:=by
 intro p hp h;have bp:=O.box hp;have k1:cy S p<zy S z↔(yi S p<z.y\/(yi S p=z.y/\(z.x:Int)<xi S p)):=zFm (S:=S) ⟨bp.1,bp.2.1⟩ ⟨by omega,by omega⟩;have k2:zy S z<cy S p↔((z.y:Int)<yi S p\/((z.y:Int)=yi S p/\xi S p<z.x)):=zFm (S:=S) ⟨by omega,by omega⟩ ⟨bp.1,bp.2.1⟩;have ex:xi S p=((S.pt p).x:Int):=rfl;have ey:yi S p=((S.pt p).y:Int):=rfl;have e1:(S.pt p).x=z.x:=by grind
 have e2:(S.pt p).y=z.y:=by grind
 have ez:S.pt p=z:=by
  cases hq:S.pt p;cases z;rw[hq] at e1 e2;simp only at e1 e2;rw[e1,e2]
 obtain⟨w,jw⟩:=O.dr.deg p hp
 have on1:∀ u v:Pt,isOn u v u=true/\isOn u v v=true:=by
  intro u v;unfold isOn between turn dx dy;simp only[yZ,ym,Vs];refine⟨⟨by grind,?_⟩,⟨by grind,?_⟩⟩ <;> grind
 have:onLines S z=true:=by
  unfold onLines;rw[W4];rcases zAS.mp jw with ⟨_,h⟩|⟨_,h⟩
  .exact⟨_,h,by dsimp only;rw[<-ez];exact (on1 _ _).2⟩
  .exact⟨_,h,by dsimp only;rw[<-ez];exact (on1 _ _).1⟩
 rw[this] at hl;cases hl
theorem zFp{S:Plan}(O:yD S){z:Pt}(hz:z.x<=S.w)(hl:onLines S z=false){v:Nat}(hvn:v<S.pts.length)(hv:∀ w,w<S.pts.length->cy S w<=cy S v){d:Nat->Nat->Int}(C:Zu S.pts.length (JJ S) d)(hd:base S.pts.length (cx S) (cy S) d (zx z) (zy S z)≠0) :
  ∃ l∈S.outlines,insideOf S l z=true/\∀ l'∈S.outlines,insideOf S l' z=true->l'=l:=by
 have D:=O.dr;obtain⟨q,jq,hq⟩:=zMb O hvn;rcases near O.good (px:=zx z) (lvl O hz hl) with h|⟨a,b,j,_,_,_,h⟩
 .exact absurd (h d C) hd
 ·
  obtain⟨k0,P0,_⟩:=O.round (e:=(a,b)) j;obtain⟨i,hi,_,F⟩:=zEA O (e:=(a,b)) j P0;have mab:(a,b)∈zU S.next k0 (yC S.next i (a,b)):=(Zs D (e:=(a,b)) j P0 (by lia) _).mpr (zn.mpr ⟨0,P0.pos,rfl⟩);generalize yC S.next i (a,b)=e at F mab
  have val:∀ k' e',zAs S k' e'->base S.pts.length (cx S) (cy S) (dW (zU S.next k' e')) (zx z) (zy S z)=ind ((a,b)∈zU S.next k' e')-ind ((v,q)∈zU S.next k' e'):=by
   intro k' e' F';rw[h _ (F'.P.cyc D F'.j),F'.P.left D F'.j hv jq hq j]
  have hno:(v,q)∉zU S.next k0 e:=by
   intro hm
   have hc:∀ x∈zU S.next k0 e,Yt S.pts.length (cx S) (cy S) d x.1 x.2=Yt S.pts.length (cx S) (cy S) d e.1 e.2:=by
    intro x hx;obtain⟨i,_,rfl⟩:=zn.mp hx
    have all:∀ i,Yt S.pts.length (cx S) (cy S) d (yC S.next i e).1 (yC S.next i e).2=Yt S.pts.length (cx S) (cy S) d e.1 e.2:=by
     intro i
     induction i with
    |zero=>rfl
    |succ i ih=>
      rw[ZV,<-ih];exact (C.corner O.good (D.hnx _ _ (Zy D.hnx i F.j))).symm
    exact all i
   have h1:=hc _ mab;have h2:=hc _ hm;have h3:=C.outer O.good hv jq hq;have h4:=h d C;dsimp only at h1 h2
   grind
  refine⟨(zU S.next k0 e).map Prod.fst,(zDb O _).mpr ⟨k0,e,F,rfl,(F.area O hv jq hq).mpr hno⟩,?_,λl' hl' hin=>?_⟩
  .rw[zFo O hz F,val _ _ F,yA mab,zL hno];rfl
  .obtain⟨k',e',F',rfl,ha⟩:=(zDb O l').mp hl';rw[F'.area O hv jq hq] at ha;rw[zFo O hz F',val _ _ F',zL ha] at hin
   have hm:(a,b)∈zU S.next k' e':=by
    apply WM;intro hn;rw[zL hn] at hin
    grind
   obtain⟨q1,q2⟩:=F'.unique O F hm mab;rw[q1,q2]
def cp (l:List Nat):List zh:=l.zip (l.drop 1)
theorem zN7(a b:Nat)(r:List Nat):cp (a::b::r)=(a,b)::cp (b::r):=rfl
theorem zEB(g:Nat->Int):∀ (l:List Nat) (c c':Nat),l.Pairwise (· < ·)->c∈l->c'∈l->(∀ i∈l,c<=i)->(∀ i∈l,i<=c')->((cp l).map λe=>g e.2-g e.1).sum=g c'-g c
|[],c,_,_,h,_,_,_=>by cases h
|[a],c,c',_,h,h',_,_=>by
  rw[Wn.mp h,Wn.mp h'];simp[cp]
|a::b::r,c,c',hp,h,h',h1,h2=>by
  rw[X6] at hp
  have ca:c=a:=by
   have k1:=h1 a (by simp);rcases Wc.mp h with e|e
   .exact e
   .have:=hp.1 c e;omega
  have hb:∀ i∈b::r,b<=i:=by
   intro i hi;rcases Wc.mp hi with e|e
   .omega
   .have:=(X6.mp hp.2).1 i e;omega
  have hc':c'∈b::r:=by
   rcases Wc.mp h' with e|e
   .have k1:=h2 b (by simp);have k2:=hp.1 b (by simp);omega
   .exact e
  rw[zN7,Wj,Vg,zEB g (b::r) b c' hp.2 (by simp) hc' hb (λi hi=>h2 i (by simp[hi])),ca];dsimp only;omega
theorem Zt{S:Plan}{on:Pt->Bool}{i:Nat}:i∈edgePts S on↔i<S.pts.length/\on (S.pt i)=true:=by
 unfold edgePts;rw[Xb,VI]
theorem zBW(S:Plan)(on:Pt->Bool):(edgePts S on).Pairwise (· < ·):=by
 unfold edgePts;exact UE _ Xu
theorem zFq{l:List Nat}{e:zh}(h:e∈cp l):e.1∈l/\e.2∈l:=by
 unfold cp at h;have:=XS (a:=e.1) (b:=e.2) h;exact⟨this.1,List.mem_of_mem_drop this.2⟩
theorem zJ9{S:Plan}{l:List Nat}(h:chained S l=true){e:zh}(he:e∈cp l):JJ S e.1 e.2:=by
 unfold chained at h;have:=WI.mp h e he;unfold Plan.joined at this;unfold JJ;exact WU.mp this
theorem zCh{S:Plan}{p:Pt}(h:S.pts.contains p=true):∃ i,i<S.pts.length/\S.pt i=p:=by
 have hm:=WU.mp h;obtain⟨i,hi⟩:=VU.mp hm;exact⟨i,(yQ hi).1,zFl hi⟩
theorem zE9(h:Nat->Nat->Int)(anti:∀ a b,h b a = - h a b):∀ W:List zh,((W.map λe=>(e.2,e.1)).map λe=>h e.1 e.2).sum = - (W.map λe=>h e.1 e.2).sum
|[]=>rfl
|e::W=>by
  rw[Wj,Wj,Wj,Vg,Vg,zE9 h anti W];dsimp only;rw[anti e.1 e.2];omega
theorem zFr(x:Nat):∀ W:List zh,((W.countP (λe=>e.2==x):Nat):Int)-((W.countP (λe=>e.1==x):Nat):Int)=(W.map λe=>ind (e.2=x)-ind (e.1=x)).sum
|[]=>rfl
|e::W=>by
  have ih:=zFr x W;rw[XG,XG,Wj,Vg,<-ih]
  have:∀ y:Nat,((if (y==x)=true then 1 else 0:Nat):Int)=ind (y=x):=by
   intro y;unfold ind;by_cases h:y=x
   .rw[Wb h,Wb (by simpa using h)];rfl
   .rw[Wa h,Wa (by simpa using h)];rfl
  have h1:=this e.2;have h2:=this e.1;omega
theorem zCi{S:Plan}{a b:Nat}{z:Pt}(h:xi S a=xi S b):turn (S.pt a) (S.pt b) z=(yi S b-yi S a)*(xi S b-(z.x:Int)):=by
 have t1:turn (S.pt a) (S.pt b) z=(xi S b-xi S a)*((z.y:Int)-yi S b)-(yi S b-yi S a)*((z.x:Int)-xi S b):=rfl;rw[t1,h]
 grind
theorem ndB{a b y:Nat}{T:Prop}(h:(b:Int)=0):¬ (a<=y/\y<b/\T):=λk=>by have:=k.2.1;omega
theorem ndT{a b y H:Nat}{T:Prop}(h:(a:Int)=H)(k:y<H):¬ (a<=y/\y<b/\T):=λq=>by have:=q.1;omega
theorem ndL{a b y x:Nat}(h:0<x):¬ (a<=y/\y<b/\0<((b:Int)-a)*(0-(x:Int))):=λ⟨p,q,r⟩=>by
 have:=(yh (b:=0-(x:Int)) (show 0<(b:Int)-a by omega)).1.mp r;omega
theorem ndP{P Q:Prop}[Decidable P][Decidable Q]:ind (¬ P/\Q)-ind (¬ Q/\P)=ind Q-ind P:=by unfold ind;by_cases p:P <;> by_cases q:Q <;> simp[p,q]
theorem crR{a b y x w:Nat}(h:x<w):ind (a<=y/\y<b/\0<((b:Int)-a)*((w:Int)-x))-ind (b<=y/\y<a/\0<((a:Int)-b)*((w:Int)-x))=ind ((y:Int)<b)-ind ((y:Int)<a):=by
 have m:∀ {a b:Nat},a<=y->y<b->0<((b:Int)-a)*((w:Int)-x):=λp q=>VY (by omega) (by omega)
 have n:∀ {a b:Nat},ind (a<=y/\y<b/\0<((b:Int)-a)*((w:Int)-x))=ind (¬ (y:Int)<a/\(y:Int)<b):=ze ⟨λk=>⟨by omega,by omega⟩,λk=>⟨by omega,by omega,m (by omega) (by omega)⟩⟩;rw[n,n,ndP]
theorem fxC{p q:Nat}{A B C E:Int}(k:(p:Int)-q=B-A+(E-B+(-(E-C) + -(C-A)))):p=q:=by omega
theorem zMc{S:Plan}(O:yD S){z:Pt}(h1:0<z.x)(h2:z.x<S.w)(h3:0<z.y)(h4:z.y<S.h) :
  ∃ v,v<S.pts.length/\(∀ w,w<S.pts.length->cy S w<=cy S v)/\∃ d,Zu S.pts.length (JJ S) d/\base S.pts.length (cx S) (cy S) d (zx z) (zy S z)≠0:=by
 have f:=O.r6;unfold frameOk at f;simp only[yZ] at f;obtain⟨f1,f2,f3,f4,f5,f6,f7,f8⟩:=f;obtain⟨a,la,pa⟩:=zCh f1;obtain⟨b,lb,pb⟩:=zCh f2;obtain⟨c,lc,pc⟩:=zCh f3;obtain⟨e,le,pe⟩:=zCh f4;have X:∀ i,xi S i=((S.pt i).x:Int):=λ_=>rfl
 have Y:∀ i,yi S i=((S.pt i).y:Int):=λ_=>rfl
 have xa:xi S a=0:=by rw[X,pa];rfl
 have ya:yi S a=0:=by rw[Y,pa];rfl
 have xb:xi S b=S.w:=by rw[X,pb]
 have yb:yi S b=0:=by rw[Y,pb];rfl
 have xc:xi S c=0:=by rw[X,pc];rfl
 have yc:yi S c=S.h:=by rw[Y,pc]
 have xe:xi S e=S.w:=by rw[X,pe]
 have ye:yi S e=S.h:=by rw[Y,pe]
 have hB:∀ i∈edgePts S (λp=>p.y==0),i<S.pts.length/\yi S i=0:=λi hi=>by
  have:=Zt.mp hi;refine⟨this.1,?_⟩;have e2:(S.pt i).y=0:=by simpa using this.2
  rw[Y,e2];rfl
 have hT:∀ i∈edgePts S (λp=>p.y==S.h),i<S.pts.length/\yi S i=S.h:=λi hi=>by
  have:=Zt.mp hi;refine⟨this.1,?_⟩;have e2:(S.pt i).y=S.h:=by simpa using this.2
  rw[Y,e2]
 have hL:∀ i∈edgePts S (λp=>p.x==0),i<S.pts.length/\xi S i=0:=λi hi=>by
  have:=Zt.mp hi;refine⟨this.1,?_⟩;have e2:(S.pt i).x=0:=by simpa using this.2
  rw[X,e2];rfl
 have hR:∀ i∈edgePts S (λp=>p.x==S.w),i<S.pts.length/\xi S i=S.w:=λi hi=>by
  have:=Zt.mp hi;refine⟨this.1,?_⟩;have e2:(S.pt i).x=S.w:=by simpa using this.2
  rw[X,e2]
 have ord:∀ {i j:Nat},i<S.pts.length->yi S i<=yi S j->xi S i<=xi S j->i<=j:=λhi h k=>Ul λhji=>(O.lt hji hi).elim (Vt.mpr h) λq=>Vt.mpr k q.2
 have lo:∀ i,i<S.pts.length->a<=i:=λi hi=>ord la (by rw[ya];exact (O.box hi).2.2.1) (by rw[xa];exact (O.box hi).1)
 have up:∀ i,i<S.pts.length->i<=e:=λi hi=>ord hi (by rw[ye];exact (O.box hi).2.2.2) (by rw[xe];exact (O.box hi).2.1)
 have telB:∀ g:Nat->Int,((cp (edgePts S λp=>p.y==0)).map λe=>g e.2-g e.1).sum=g b-g a:=λg=>
  zEB g _ a b (zBW S _) (Zt.mpr ⟨la,by simp[pa]⟩) (Zt.mpr ⟨lb,by simp[pb]⟩) (λi hi=>lo i (hB i hi).1) λi hi=>ord (hB i hi).1 (Int.le_of_eq ((hB i hi).2.trans yb.symm)) (by rw[xb];exact (O.box (hB i hi).1).2.1)
 have telT:∀ g:Nat->Int,((cp (edgePts S λp=>p.y==S.h)).map λe=>g e.2-g e.1).sum=g e-g c:=λg=>
  zEB g _ c e (zBW S _) (Zt.mpr ⟨lc,by simp[pc]⟩) (Zt.mpr ⟨le,by simp[pe]⟩) (λi hi=>ord lc (Int.le_of_eq (yc.trans (hT i hi).2.symm)) (by rw[xc];exact (O.box (hT i hi).1).1)) λi hi=>up i (hT i hi).1
 have telL:∀ g:Nat->Int,((cp (edgePts S λp=>p.x==0)).map λe=>g e.2-g e.1).sum=g c-g a:=λg=>
  zEB g _ a c (zBW S _) (Zt.mpr ⟨la,by simp[pa]⟩) (Zt.mpr ⟨lc,by simp[pc]⟩) (λi hi=>lo i (hL i hi).1) λi hi=>ord (hL i hi).1 (by rw[yc];exact (O.box (hL i hi).1).2.2.2) (Int.le_of_eq ((hL i hi).2.trans xc.symm))
 have telR:∀ g:Nat->Int,((cp (edgePts S λp=>p.x==S.w)).map λe=>g e.2-g e.1).sum=g e-g b:=λg=>
  zEB g _ b e (zBW S _) (Zt.mpr ⟨lb,by simp[pb]⟩) (Zt.mpr ⟨le,by simp[pe]⟩) (λi hi=>ord lb (by rw[yb];exact (O.box (hR i hi).1).2.2.1) (Int.le_of_eq (xb.trans (hR i hi).2.symm))) λi hi=>up i (hR i hi).1
 refine⟨c,lc,λw hw=>Vt.mp λh=>((O.cylt lc hw).mp h).elim (λh=>Vt.mpr (O.box hw).2.2.2 (yc ▸ h)) λh=>Vt.mpr (O.box hw).1 (xc ▸ h.2),?_⟩
 .let W:List zh:=cp (edgePts S λp=>p.y==0)++(cp (edgePts S λp=>p.x==S.w)++(((cp (edgePts S λp=>p.y==S.h)).map λe=>(e.2,e.1))++((cp (edgePts S λp=>p.x==0)).map λe=>(e.2,e.1))))
  have hJ:∀ x∈W,JJ S x.1 x.2:=by
   intro x hx;rcases Wp.mp hx with h|h
   .exact zJ9 f5 h
   .rcases Wp.mp h with h|h
    .exact zJ9 f8 h
    .rcases Wp.mp h with h|h
     .obtain⟨y,hy,rfl⟩:=Wg.mp h;exact zAr (zJ9 f6 hy)
     .obtain⟨y,hy,rfl⟩:=Wg.mp h;exact zAr (zJ9 f7 hy)
  have sumW:∀ h:Nat->Nat->Int,(∀ a b,h b a = - h a b)->(W.map λe=>h e.1 e.2).sum=((cp (edgePts S λp=>p.y==0)).map λe=>h e.1 e.2).sum+(((cp (edgePts S λp=>p.x==S.w)).map λe=>h e.1 e.2).sum+(- ((cp (edgePts S λp=>p.y==S.h)).map λe=>h e.1 e.2).sum + - ((cp (edgePts S λp=>p.x==0)).map λe=>h e.1 e.2).sum)):=by
   intro h anti;show (List.map _ (_++(_++(_++_)))).sum=_;rw[Ww,Ww,Ww,U2,U2,U2,zE9 h anti,zE9 h anti]
  have C:Zu S.pts.length (JJ S) (dW W):=by
   refine zLO O.good hJ λx=>?_
   have k:=zFr x W;have k2:=sumW (λa b=>ind (b=x)-ind (a=x)) (λa b=>(Int.neg_sub _ _).symm);rw[telB (λi=>ind (i=x)),telR (λi=>ind (i=x)),telT (λi=>ind (i=x)),telL (λi=>ind (i=x))] at k2;exact fxC (k.trans k2)
  refine⟨dW W,C,?_⟩;rw[zJE O z W hJ C,sumW (cr S z) (zJD S z)];have hz:z.x<=S.w:=Vz h2
  have zero:∀ l:List zh,(∀ x∈l,cr S z x.1 x.2=0)->(l.map λe=>cr S z e.1 e.2).sum=0:=by
   intro l
   induction l with
  |nil=>intro _;rfl
  |cons x l ih=>
    intro h;rw[Wj,Vg,ih λy hy=>h y (by simp[hy]),h x (by simp)];rfl
  have z1:((cp (edgePts S λp=>p.y==0)).map λe=>cr S z e.1 e.2).sum=0:=by
   refine zero _ λx hx=>?_
   have m:=zFq hx;have k1:=hB _ m.1;have k2:=hB _ m.2;unfold cr;rw[ze (zAT O hz k1.1 k2.1),ze (zAT O hz k2.1 k1.1),zL (ndB k2.2),zL (ndB k1.2)];rfl
  have z2:((cp (edgePts S λp=>p.y==S.h)).map λe=>cr S z e.1 e.2).sum=0:=by
   refine zero _ λx hx=>?_
   have m:=zFq hx;have k1:=hT _ m.1;have k2:=hT _ m.2;unfold cr;rw[ze (zAT O hz k1.1 k2.1),ze (zAT O hz k2.1 k1.1),zL (ndT k1.2 h4),zL (ndT k2.2 h4)];rfl
  have z3:((cp (edgePts S λp=>p.x==0)).map λe=>cr S z e.1 e.2).sum=0:=by
   refine zero _ λx hx=>?_
   have m:=zFq hx;have k1:=hL _ m.1;have k2:=hL _ m.2;unfold cr;rw[ze (zAT O hz k1.1 k2.1),ze (zAT O hz k2.1 k1.1),zCi (by rw[k1.2,k2.2]),zCi (by rw[k1.2,k2.2]),k1.2,k2.2];rw[Y x.1,Y x.2,zL (ndL h1),zL (ndL h1)];rfl
  have z4:((cp (edgePts S λp=>p.x==S.w)).map λe=>cr S z e.1 e.2).sum=1:=by
   have:((cp (edgePts S λp=>p.x==S.w)).map λe=>cr S z e.1 e.2)=(cp (edgePts S λp=>p.x==S.w)).map λe=>ind ((z.y:Int)<yi S e.2)-ind ((z.y:Int)<yi S e.1):=by
    refine XT λx hx=>?_
    have m:=zFq hx;have k1:=hR _ m.1;have k2:=hR _ m.2;unfold cr;rw[ze (zAT O hz k1.1 k2.1),ze (zAT O hz k2.1 k1.1),zCi (by rw[k1.2,k2.2]),zCi (by rw[k1.2,k2.2]),k1.2,k2.2];exact crR h2
   rw[this,telR (λi=>ind ((z.y:Int)<yi S i)),yA (by rw[ye];exact Int.ofNat_lt.mpr h4),zL (by rw[yb];exact Vt.mpr (V8 _))];rfl
  rw[z1,z2,z3,z4];decide
theorem zKA{S:Plan}(O:yD S){z:Pt}(hc:clear S z=true):∃ l∈S.outlines,insideOf S l z=true/\∀ l'∈S.outlines,insideOf S l' z=true->l'=l:=by
 unfold clear at hc;simp only[yZ,ym,Wq] at hc;obtain⟨v,hvn,hv,d,C,hd⟩:=zMc O hc.1 hc.2.1 hc.2.2.1 hc.2.2.2.1;exact zFp O (by omega) hc.2.2.2.2 hvn hv C hd
def zAB (b h p o:Pt):Bool:=if (decide (0<turn b h p) != decide (0<turn b h o))=true then decide (0<turn b h p) else decide (turn h p o<0)
theorem g0{p q:Prop}{A:Int}(n:((p/\¬ q)\/((p↔q)/\A<0))\/((q/\¬ p)\/((q↔p)/\-A<0)))(h:A=0)(k:p↔q):False:=by
 rcases n with (⟨a,b⟩|⟨_,b⟩)|(⟨a,b⟩|⟨_,b⟩)
 .exact b (k.mp a)
 .rw[h] at b;exact Int.lt_irrefl _ b
 .exact b (k.mpr a)
 .rw[h] at b;exact Int.lt_irrefl _ b
theorem fsA{p q:Prop}[Decidable p][Decidable q]{B C:Int}(h:(p↔q)->False)(z1:0<(if q then B else -B)->0<(if p then C else -C))(z2:(if q then B else -B)<0->(if p then C else -C)<0):(0<B->C<0)/\(B<0->0<C):=by
 by_cases hp:p
 .have hq:¬ q:=λk=>h ⟨λ_=>k,λ_=>hp⟩
  rw[Wa hq,Wb hp] at z1 z2;exact⟨λk=>z2 (Int.neg_neg_of_pos k),λk=>z1 (Int.neg_pos_of_neg k)⟩
 .have hq:q:=WM λk=>h ⟨λz=>absurd z hp,λz=>absurd z k⟩
  rw[Wb hq,Wa hp] at z1 z2;exact⟨λk=>Int.neg_of_neg_pos (z1 k),λk=>Int.pos_of_neg_neg (z2 k)⟩
theorem fsB{p q:Prop}[Decidable p][Decidable q]{B C:Int}(h:(p↔q)->False)(z1:(if q then B else -B)<0->0<(if p then C else -C))(z2:0<(if q then B else -B)->(if p then C else -C)<0):(0<B->0<C)/\(B<0->C<0):=by
 by_cases hp:p
 .have hq:¬ q:=λk=>h ⟨λ_=>k,λ_=>hp⟩
  rw[Wa hq,Wb hp] at z1 z2;exact⟨λk=>z1 (Int.neg_neg_of_pos k),λk=>z2 (Int.neg_pos_of_neg k)⟩
 .have hq:q:=WM λk=>h ⟨λz=>absurd z hp,λz=>absurd z k⟩
  rw[Wb hq,Wa hp] at z1 z2;exact⟨λk=>Int.pos_of_neg_neg (z2 k),λk=>Int.neg_of_neg_pos (z1 k)⟩
theorem fsC{p:Prop}[Decidable p]{C:Int}(h:(if p then C else -C)=0):C=0:=by
 split at h <;> omega
theorem zQ1{p q r:Prop}(h1:(p↔q)->False)(h2:(p↔r)->False):q↔r:=by
 by_cases hp:p <;> by_cases hq:q <;> by_cases hr:r <;> simp_all
theorem zLS{S:Plan}(O:yD S){v p a b:Nat}(jp:JJ S v p)(ja:JJ S v a)(jb:JJ S v b)(hap:a≠p)(hbp:b≠p)(hab:a≠b) :
  zAB (S.pt p) (S.pt v) (S.pt a) (S.pt b)=true↔YT S v p a<YT S v p b:=by
 rw[<-zHu O jp ja jb];have G:=O.good;have W2:0<2*((S.w:Int)+1):=by omega
 have e:(dir S v a).1*(dir S v b).2-(dir S v a).2*(dir S v b).1=turn (S.pt v) (S.pt a) (S.pt b):=by unfold dir turn dx dy;grind
 have m:=yh (b:=turn (S.pt v) (S.pt a) (S.pt b)) W2;have m1:=yh (b:=turn (S.pt v) (S.pt p) (S.pt a)) W2;have m2:=yh (b:=turn (S.pt v) (S.pt p) (S.pt b)) W2;rw[<-zBl] at m m1 m2;have t1:turn (S.pt p) (S.pt v) (S.pt a) = - turn (S.pt v) (S.pt p) (S.pt a):=ZP _ _ _;have t2:turn (S.pt p) (S.pt v) (S.pt b) = - turn (S.pt v) (S.pt p) (S.pt b):=ZP _ _ _;unfold sooner zAB;rw[zDB O jp ja hap,zDB O jp jb hbp,e,t1,t2];have id:(cy S p-cy S v)*T (cx S) (cy S) v a b=(cy S a-cy S v)*T (cx S) (cy S) v p b-(cy S b-cy S v)*T (cx S) (cy S) v p a:=by unfold T;grind
 have n1:=YZ G jp ja (λh=>hap h.symm);have n2:=YZ G jp jb (λh=>hbp h.symm);have n3:=YZ G ja jb hab;have w1:=YY (X:=cx S) (Y:=cy S) v p a;have w2:=YY (X:=cx S) (Y:=cy S) v p b;have w3:=YY (X:=cx S) (Y:=cy S) v a b;have yp:=G.yne jp;have ya:=G.yne ja;have yb:=G.yne jb;unfold ll at n1 n2 n3;rw[w1] at n1;rw[w2] at n2;rw[w3] at n3;generalize T (cx S) (cy S) v p a=A at *
 generalize T (cx S) (cy S) v p b=B at *
 generalize T (cx S) (cy S) v a b=C at *
 generalize turn (S.pt v) (S.pt p) (S.pt a)=A' at *
 generalize turn (S.pt v) (S.pt p) (S.pt b)=B' at *
 generalize turn (S.pt v) (S.pt a) (S.pt b)=C' at *
 generalize cy S v=V at *
 generalize cy S p=P at *
 generalize cy S a=Q at *
 generalize cy S b=R at *
 clear e w1 w2 w3 t1 t2;have z:=zPp (zDC (C:=A) yb) (zDC (C:=B) ya) (zDC (C:=C) yp) id
 obtain⟨f1,f2,f3,f4,f5⟩:(A=0->0<B->C<0)/\(A=0->B<0->0<C)/\(B=0->0<A->0<C)/\(B=0->A<0->C<0)/\¬ (A=0/\B=0):=by
  obtain⟨z1,z2,z3,z4,z5⟩:=z;have a0:A=0->(if V<R then A else -A)=0:=λh=>by rw[h];split <;> rfl
  have b0:B=0->(if V<Q then B else -B)=0:=λh=>by rw[h];split <;> rfl
  have fa:=λh:A=0=>fsA (g0 n1 h) (λk=>z1 k (Int.le_of_eq (a0 h))) (λk=>z3 k (Int.le_of_eq (a0 h).symm))
  have fb:=λh:B=0=>fsB (g0 n2 h) (λk=>z2 (Int.le_of_eq (b0 h).symm) k) (λk=>z4 (Int.le_of_eq (b0 h)) k)
  refine⟨λh=>(fa h).1,λh=>(fa h).2,λh=>(fb h).1,λh=>(fb h).2,λh=>?_⟩;have c0:C=0:=fsC (z5 (a0 h.1) (b0 h.2));have k1:=g0 n1 h.1;have k2:=g0 n2 h.2;exact g0 n3 c0 (zQ1 k1 k2)
 clear z id n1 n2 n3 yp ya yb;have c1:(C'<0↔C<0):=m.2.1.symm;have c2:(0 < -A'↔A<0):=by clear m m2 f1 f2 f3 f4 f5;omega
 have c3:(0 < -B'↔B<0):=by clear m m1 f1 f2 f3 f4 f5;omega
 clear m m1 m2;simp only[c1,c2,c3];rcases W0 A 0 with hA|hA|hA <;> rcases W0 B 0 with hB|hB|hB
 .simp[hA,hB]
 .have:=f4 hB hA;simp[hA,hB]
 .simp[hA,hB,show ¬ B<0 by omega]
 .have:=f2 hA hB;simp[hA,hB]
 .exact absurd ⟨hA,hB⟩ f5
 .have:=f1 hA hB;simp[hA,hB,show ¬ B<0 by omega,this]
 .simp[hA,hB,show ¬ A<0 by omega]
 .have:=f3 hB hA;simp[hA,hB,show ¬ A<0 by omega,show ¬ C<0 by omega]
 .simp[hA,hB,show ¬ A<0 by omega,show ¬ B<0 by omega]
def ZJ (S:Plan)(p v:Nat)(f:Option Nat)(w:Nat):Option Nat:=if w=p then f else match f with
|none=>some w
|some g=>if zAB (S.pt p) (S.pt v) (S.pt w) (S.pt g)=true then some w else some g
theorem zN8{S:Plan}(O:yD S){v p a b:Nat}(jp:JJ S v p)(ja:JJ S v a)(jb:JJ S v b)(h:YT S v p a=YT S v p b):a=b:=by
 apply WM;intro hab;have G:=O.good;have bd:∀ w,0<=rk S.pts.length (cx S) (cy S) (JJ S) v w/\rk S.pts.length (cx S) (cy S) (JJ S) v w<=S.pts.length:=λw=>⟨zHO,zFh⟩
 have ba:=bd a;have bb:=bd b
 have n1:rk S.pts.length (cx S) (cy S) (JJ S) v a≠rk S.pts.length (cx S) (cy S) (JJ S) v b:=by
  rcases YZ G ja jb hab with k|k
  .have:=Y2 G ja jb k;omega
  .have:=Y2 G jb ja k;omega
 unfold YT at h;split at h
 .rw[Wa (by omega)] at h;split at h <;> omega
 .split at h
  .split at h
   .omega
   .split at h <;> omega
  .split at h
   .omega
   .split at h <;> omega
theorem zJG{S:Plan}(O:yD S){p v:Nat}(jp:JJ S v p):∀ (l:List Nat),(∀ w∈l,JJ S v w)->∀ (f:Option Nat),(∀ g,f=some g->JJ S v g/\g≠p)->
  (∀ g,l.foldl (ZJ S p v) f=some g->(JJ S v g/\g≠p)/\(∀ g',f=some g'->YT S v p g<=YT S v p g')/\∀ w∈l,w≠p->YT S v p g<=YT S v p w)/\(l.foldl (ZJ S p v) f=none->f=none/\∀ w∈l,w=p)
|[],_,f,hf=>⟨λg hg=>⟨hf g hg,λg' hg'=>by rw[List.foldl_nil] at hg;rw[hg] at hg';cases hg';exact VZ _,λw hw=>by cases hw⟩,λh=>⟨h,λw hw=>by cases hw⟩⟩
|w::l,hl,f,hf=>by
  rw[Vp];have jw:=hl w (by simp)
  have hf':∀ g,ZJ S p v f w=some g->JJ S v g/\g≠p:=by
   intro g hg;unfold ZJ at hg;by_cases e:w=p
   .rw[Wb e] at hg;exact hf g hg
   .rw[Wa e] at hg;cases f with
   |none=>cases hg;exact⟨jw,e⟩
   |some g0=>
     dsimp only at hg;split at hg
     .cases hg;exact⟨jw,e⟩
     .cases hg;exact hf g rfl
  obtain⟨i1,i2⟩:=zJG O jp l (λx hx=>hl x (by simp[hx])) (ZJ S p v f w) hf'
  have st:(w≠p->∃ g,ZJ S p v f w=some g/\YT S v p g<=YT S v p w)/\∀ g0,f=some g0->∃ g,ZJ S p v f w=some g/\YT S v p g<=YT S v p g0:=by
   unfold ZJ;by_cases e:w=p
   .rw[Wb e];exact⟨λh=>absurd e h,λg0 h0=>⟨g0,h0,VZ _⟩⟩
   .rw[Wa e];cases f with
   |none=>exact⟨λ_=>⟨w,rfl,VZ _⟩,λg0 h0=>by cases h0⟩
   |some g0=>
     have k:=hf g0 rfl;dsimp only;by_cases hwg:w=g0
     .subst hwg;split <;> exact⟨λ_=>⟨w,rfl,VZ _⟩,λg' h'=>by cases h';exact⟨w,rfl,VZ _⟩⟩
     .have ms:=zLS O jp jw k.1 e k.2 hwg;by_cases c:zAB (S.pt p) (S.pt v) (S.pt w) (S.pt g0)=true
      .rw[Wb c];have:=ms.mp c;exact⟨λ_=>⟨w,rfl,VZ _⟩,λg' h'=>by cases h';exact⟨w,rfl,by omega⟩⟩
      .rw[Wa c];have:¬ YT S v p w<YT S v p g0:=λh=>c (ms.mpr h)
       exact⟨λ_=>⟨g0,rfl,by omega⟩,λg' h'=>by cases h';exact⟨g0,rfl,VZ _⟩⟩
  refine⟨λg hg=>?_,λhn=>?_⟩
  .obtain⟨a1,a2,a3⟩:=i1 g hg;refine⟨a1,λg' hg'=>?_,λx hx hxp=>?_⟩
   .obtain⟨g1,h1,h2⟩:=st.2 g' hg';have:=a2 g1 h1;omega
   .rcases Wc.mp hx with ex|ex
    .subst ex;obtain⟨g1,h1,h2⟩:=st.1 hxp;have:=a2 g1 h1;omega
    .exact a3 x ex hxp
  .obtain⟨b1,b2⟩:=i2 hn
   have hwp:w=p:=by
    apply WM;intro h;obtain⟨g1,h1,_⟩:=st.1 h;rw[b1] at h1;cases h1
   refine⟨?_,λx hx=>?_⟩
   .cases f with
   |none=>rfl
   |some g0=>
     obtain⟨g1,h1,_⟩:=st.2 g0 rfl;rw[b1] at h1;cases h1
   .rcases Wc.mp hx with ex|ex
    .rw[ex];exact hwp
    .exact b2 x ex
theorem zDc{S:Plan}(O:yD S)(v:Nat):(S.near v).Nodup:=by
 have key:∀ (ls:List (Nat×Nat)),ls.Nodup->(∀ l∈ls,l.1<l.2)->(ls.filterMap λ(l:Nat×Nat)=>if l.1=v then some l.2 else if l.2=v then some l.1 else none).Nodup:=by
  intro ls
  induction ls with
 |nil=>intro _ _;exact Vl
 |cons l ls ih=>
   intro hn hl;rw[Vh] at hn;have ih':=ih hn.2 (λx hx=>hl x (by simp[hx]));have l1:=hl l (by simp)
   have fact:∀ w,((if l.1=v then some l.2 else if l.2=v then some l.1 else none)=some w)->w∉ls.filterMap λ(l:Nat×Nat)=>if l.1=v then some l.2 else if l.2=v then some l.1 else none:=by
    intro w hw hm;obtain⟨m,hm1,hm2⟩:=VG.mp hm;have m1:=hl m (by simp[hm1]);apply hn.1
    have:l=m:=by
     obtain⟨l1',l2'⟩:=l;obtain⟨m1',m2'⟩:=m;dsimp only at *
     by_cases c1:l1'=v
     .rw[Wb c1] at hw;cases hw;by_cases c2:m1'=v
      .rw[Wb c2] at hm2;cases hm2;rw[c1,c2]
      .rw[Wa c2] at hm2;by_cases c3:m2'=v
       .rw[Wb c3] at hm2;cases hm2;omega
       .rw[Wa c3] at hm2;cases hm2
     .rw[Wa c1] at hw;by_cases c2:l2'=v
      .rw[Wb c2] at hw;cases hw;by_cases c3:m1'=v
       .rw[Wb c3] at hm2;cases hm2;omega
       .rw[Wa c3] at hm2;by_cases c4:m2'=v
        .rw[Wb c4] at hm2;cases hm2;rw[c2,c4]
        .rw[Wa c4] at hm2;cases hm2
      .rw[Wa c2] at hw;cases hw
    rw[this];exact hm1
   rw[V1];split
   .exact ih'
   .rename_i w hw
    rw[Vh];exact⟨fact w hw,ih'⟩
 refine key S.lines ?_ (λl hl=>(O.line hl).1)
 have step:∀ i (h:i+1<S.lines.length),lineBelow (S.lines[i]'(by omega)) S.lines[i+1]=true:=by
  intro i h;have h1:S.lines[i+1]?=some S.lines[i+1]:=yW h;have h0:S.lines[i]?=some (S.lines[i]'(by omega)):=yW (by omega);have k:=ZH O.r5 h1;simp only[WX,Nat.add_sub_cancel] at k;have k2:=k.2;rw[h0] at k2;simpa using k2
 have lb:∀ a b c:Nat×Nat,lineBelow a b=true->lineBelow b c=true->lineBelow a c=true:=by
  intro a b c h1 h2;unfold lineBelow at *
  simp only[Va,yZ,ym,Vs] at *
  omega
 have ord:∀ k i (h:i+k+1<S.lines.length),lineBelow (S.lines[i]'(by omega)) S.lines[i+k+1]=true:=by
  intro k
  induction k with
 |zero=>intro i h;exact step i h
 |succ k ih=>
   intro i h;exact lb _ _ _ (ih i (by omega)) (step (i+k+1) h)
 rw[X7,Ub];intro i j hi hj hij he;have:=ord (j-i-1) i (by omega);have e2:i+(j-i-1)+1=j:=by omega
 simp only[e2] at this;rw[<-he] at this;unfold lineBelow at this;simp only[Va,yZ,ym,Vs] at this;omega
theorem zN9{S:Plan}(O:yD S){p v:Nat}(j:JJ S p v):(S.near v).foldl (ZJ S p v) none=some (S.next p v)/\S.next p v≠p:=by
 have jp:=zAr j;obtain⟨jm,hm⟩:=zHv O j;obtain⟨i1,i2⟩:=zJG O jp (S.near v) (λw hw=>(Z4 O).mp hw) none (λg h=>by cases h);have deg:=zCf O.r8 (O.jlt j).2.1;have deg2:¬ (S.near v).length<2:=Wo deg
 have other:∃ w∈S.near v,w≠p:=by
  apply WM;intro hno;have all:∀ w∈S.near v,w=p:=λw hw=>WM λh=>hno ⟨w,hw,h⟩
  have nd:=zDc O v;cases e:S.near v with
 |nil=>rw[e] at deg2;exact deg2 (by decide)
 |cons a r=>
   cases e2:r with
  |nil=>rw[e,e2] at deg2;exact deg2 (by simp)
  |cons b r'=>
    rw[e,e2] at nd all;have h1:=all a (by simp);have h2:=all b (by simp);rw[Vh] at nd;exact nd.1 (by rw[h1,h2];simp)
 cases e:(S.near v).foldl (ZJ S p v) none with
|none=>
  obtain⟨w,hw,hwp⟩:=other;exact absurd ((i2 e).2 w hw) hwp
|some g=>
  obtain⟨⟨jg,hgp⟩,_,h3⟩:=i1 g e
  have nep:S.next p v≠p:=by
   intro h;have:=hm g jg;rw[h] at this;have bg:0<=rk S.pts.length (cx S) (cy S) (JJ S) v g/\rk S.pts.length (cx S) (cy S) (JJ S) v g<=S.pts.length:=⟨zHO,zFh⟩
   unfold YT at this;rw[Wb rfl,Wa hgp] at this;split at this <;> omega
  have k1:=h3 (S.next p v) ((Z4 O).mpr jm) nep;have k2:=hm g jg;rw[zN8 O jp jg jm (by omega)];exact⟨rfl,nep⟩
def zAg (S:Plan):List zh:=(List.range S.pts.length).flatMap λi=>(S.near i).map λj=>(i,j)
def Y3 (S:Plan)(e:zh):List Nat:=S.round (2*S.lines.length+1) e e
def zAh (S:Plan)(e:zh):List zh:=(Y3 S e).zip ((Y3 S e).drop 1++(Y3 S e).take 1)
def yq (S:Plan)(st:List zh×List (List Nat))(e:zh):List zh×List (List Nat):=
 if e∈st.1 then st else (st.1++zAh S e,if 0<twiceArea S (Y3 S e) then st.2++[Y3 S e] else st.2)
def YJ (S:Plan):List zh×List (List Nat):=(zAg S).foldl (yq S) ([],[])
theorem zCJ{S:Plan}(O:yD S)(e:zh):e∈zAg S↔JJ S e.1 e.2:=by
 unfold zAg;rw[Xn];constructor
 .rintro⟨i,hi,h⟩;obtain⟨j,hj,rfl⟩:=Wg.mp h;exact (Z4 O).mp hj
 .intro h;exact⟨e.1,VI.mpr (O.jlt h).1,Wg.mpr ⟨e.2,(Z4 O).mpr h,rfl⟩⟩
theorem zB8{S:Plan}(O:yD S){e:zh}(j:JJ S e.1 e.2):∃ k,Zv S.next k e/\Y3 S e=(zU S.next k e).map Prod.fst/\zAh S e=zU S.next k e:=by
 obtain⟨k,P,h⟩:=O.round j;refine⟨k,P,h,?_⟩;unfold zAh;rw[show Y3 S e=_ from h,zDD P]
theorem zEi{S:Plan}(O:yD S){e x:zh}(j:JJ S e.1 e.2)(h:x∈zAh S e):JJ S x.1 x.2/\∀ y,y∈zAh S x↔y∈zAh S e:=by
 have D:=O.dr;obtain⟨k,P,_,hw⟩:=zB8 O j;rw[hw] at h;obtain⟨i,hi,rfl⟩:=zn.mp h;have jx:=Zy D.hnx i j;refine⟨jx,λy=>?_⟩;obtain⟨k',P',_,hw'⟩:=zB8 O jx;have Px:=P.shift D j (i:=i)
 have ek:k'=k:=by
  rcases VM k k' with q|q|q
  .exact absurd Px.back (P'.least k Px.pos q)
  .exact q.symm
  .exact absurd P'.back (Px.least k' P'.pos q)
 rw[hw,hw',ek];exact Zs D j P (by omega) y
theorem zFA{S:Plan}(O:yD S){e:zh}(j:JJ S e.1 e.2):e∈zAh S e:=by
 obtain⟨k,P,_,hw⟩:=zB8 O j;rw[hw];exact zn.mpr ⟨0,P.pos,rfl⟩
structure zHx(S:Plan)(done:List zh)(st:List zh×List (List Nat)):Prop where
 walked:∀ x,x∈st.1↔∃ e∈done,x∈zAh S e
 outs:∀ l,l∈st.2↔∃ e∈done,∃ k e',zAs S k e'/\e∈zU S.next k e'/\l=(zU S.next k e').map Prod.fst/\0<twiceArea S l
 nd:st.2.Nodup
theorem zPr{S:Plan}(O:yD S){pre suf:List zh}{e x:zh}(h:zAg S=pre++e::suf)(jx:JJ S x.1 x.2)(hlt:x.1<e.1):x∈pre:=by
 have hm:x∈zAg S:=(zCJ O x).mpr jx
 have srt:(zAg S).Pairwise (λa b=>a.1<=b.1):=by
  unfold zAg;rw[List.pairwise_flatMap];refine⟨λi _=>?_,?_⟩
  .rw[US];exact Xx (λ_=>Wd _) (zDc O i)
  .refine Xx ?_ Xu;intro a b hab x hx y hy;obtain⟨_,_,rfl⟩:=Wg.mp hx;obtain⟨_,_,rfl⟩:=Wg.mp hy;exact Vz hab
 rw[h] at hm srt;rcases Wp.mp hm with q|q
 .exact q
 .exfalso
  rw[List.pairwise_append,X6] at srt;rcases Wc.mp q with e1|e1
  .subst e1;omega
  .have:=srt.2.1.1 x e1;omega
theorem zLT{S:Plan}(O:yD S){pre suf:List zh}{e:zh}(h:zAg S=pre++e::suf){st:List zh×List (List Nat)}(I:zHx S pre st):zHx S (pre++[e]) (yq S st e)/\(e∉st.1->∃ k,zAs S k e/\Y3 S e=(zU S.next k e).map Prod.fst):=by
 have D:=O.dr;have je:JJ S e.1 e.2:=(zCJ O e).mp (by rw[h];simp);have hpre:∀ x∈pre,JJ S x.1 x.2:=λx hx=>(zCJ O x).mp (by rw[h];simp[hx])
 obtain⟨k,P,hr,hw⟩:=zB8 O je;by_cases c:e∈st.1
 .refine⟨?_,λhn=>absurd c hn⟩;unfold yq;rw[Wb c];obtain⟨e0,he0,hx0⟩:=(I.walked e).mp c;have s0:=zEi O (hpre e0 he0) hx0;refine⟨λx=>?_,λl=>?_,I.nd⟩
  .rw[I.walked];constructor
   .rintro⟨y,hy,hxy⟩;exact⟨y,by simp[hy],hxy⟩
   .rintro⟨y,hy,hxy⟩;rcases Wp.mp hy with q|q
    .exact⟨y,q,hxy⟩
    .rw[Wn.mp q] at hxy;exact⟨e0,he0,(s0.2 x).mp hxy⟩
  .rw[I.outs];constructor
   .rintro⟨y,hy,r⟩;exact⟨y,by simp[hy],r⟩
   .rintro⟨y,hy,k',e',F,hm,hl,ha⟩;rcases Wp.mp hy with q|q
    .exact⟨y,q,k',e',F,hm,hl,ha⟩
    .rw[Wn.mp q] at hm;refine⟨e0,he0,k',e',F,?_,hl,ha⟩;have h1:e0∈zAh S e:=(s0.2 e0).mpr (zFA O (hpre e0 he0));rw[hw] at h1;obtain⟨i,hi,ei⟩:=zn.mp hm;obtain⟨i2,hi2,ei2⟩:=zn.mp h1;have Pe:Zv S.next k' e:=by rw[ei];exact F.P.shift D F.j
     have ek:k=k':=by
      rcases VM k k' with q|q|q
      .exact absurd P.back (Pe.least k P.pos q)
      .exact q
      .exact absurd Pe.back (P.least k' Pe.pos q)
     subst ek;rw[<-Zs D F.j F.P (i:=i) (by omega),<-ei];exact h1
 .have fresh:∀ x∈zU S.next k e,e.1<=x.1:=by
   intro x hx;apply Ul;intro hlt;have hx':x∈zAh S e:=by rw[hw];exact hx
   have sx:=zEi O je hx';have hp:=zPr O h sx.1 hlt;exact c ((I.walked e).mpr ⟨x,hp,(sx.2 e).mpr (zFA O je)⟩)
  have F:zAs S k e:=⟨je,P,fresh⟩
  refine⟨?_,λ_=>⟨k,F,hr⟩⟩;unfold yq;rw[Wa c]
  have notIn:Y3 S e∉st.2:=by
   intro hm;obtain⟨y,hy,k',e',F',hm',hl,ha⟩:=(I.outs _).mp hm;rw[hr] at hl;have z1:=zDD P;have z2:=zDD F'.P;rw[hl,z2] at z1
   have e1:e∈zU S.next k' e':=by
    rw[z1];exact zn.mpr ⟨0,P.pos,rfl⟩
   have q:=F.unique O F' (zn.mpr ⟨0,P.pos,rfl⟩) e1;have hy1:y∈zAh S e:=by rw[hw,q.1,q.2];exact hm'
   have sy:=zEi O je hy1;exact c ((I.walked e).mpr ⟨y,hy,(sy.2 e).mpr (zFA O je)⟩)
  refine⟨λx=>?_,λl=>?_,?_⟩
  .dsimp only;rw[Wp,I.walked];constructor
   .rintro (⟨y,hy,hxy⟩|hx)
    .exact⟨y,by simp[hy],hxy⟩
    .exact⟨e,by simp,hx⟩
   .rintro⟨y,hy,hxy⟩;rcases Wp.mp hy with q|q
    .exact .inl ⟨y,q,hxy⟩
    .rw[Wn.mp q] at hxy;exact .inr hxy
  .dsimp only
   have last:(∃ k' e',zAs S k' e'/\e∈zU S.next k' e'/\l=(zU S.next k' e').map Prod.fst/\0<twiceArea S l)↔(l=Y3 S e/\0<twiceArea S (Y3 S e)):=by
    constructor
    .rintro⟨k',e',F',hm,hl,ha⟩;have q:=F.unique O F' (zn.mpr ⟨0,P.pos,rfl⟩) hm;rw[<-q.1,<-q.2,<-hr] at hl;exact⟨hl,by rw[<-hl];exact ha⟩
    .rintro⟨hl,ha⟩;exact⟨k,e,F,zn.mpr ⟨0,P.pos,rfl⟩,by rw[hl,hr],by rw[hl];exact ha⟩
   have spl:(∃ y∈pre++[e],∃ k' e',zAs S k' e'/\y∈zU S.next k' e'/\l=(zU S.next k' e').map Prod.fst/\0<twiceArea S l)↔(l∈st.2\/(l=Y3 S e/\0<twiceArea S (Y3 S e))):=by
    rw[I.outs,<-last];constructor
    .rintro⟨y,hy,r⟩;rcases Wp.mp hy with q|q
     .exact .inl ⟨y,q,r⟩
     .rw[Wn.mp q] at r;exact .inr r
    .rintro (⟨y,hy,r⟩|r)
     .exact⟨y,by simp[hy],r⟩
     .exact⟨e,by simp,r⟩
   rw[spl];by_cases ha:0<twiceArea S (Y3 S e)
   .rw[Wb ha,Wp,Wn];exact⟨λq=>q.elim .inl λq=>.inr ⟨q,ha⟩,λq=>q.elim .inl λq=>.inr q.1⟩
   .rw[Wa ha];exact⟨.inl,λq=>q.elim id λq=>absurd q.2 ha⟩
  .dsimp only;by_cases ha:0<twiceArea S (Y3 S e)
   .rw[Wb ha,Xv];refine⟨I.nd,by simp,λx hx y hy hxy=>?_⟩;rw[Wn.mp hy] at hxy;rw[hxy] at hx;exact notIn hx
   .rw[Wa ha];exact I.nd
theorem zFB{S:Plan}(O:yD S):∀ (suf pre:List zh) (st:List zh×List (List Nat)),zAg S=pre++suf->zHx S pre st->zHx S (zAg S) (suf.foldl (yq S) st)
|[],pre,st,h,I=>by rw[VD] at h;rw[h];exact I
|e::suf,pre,st,h,I=>by
  rw[Vp];exact zFB O suf (pre++[e]) _ (by rw[h];simp) (zLT O h I).1
theorem zHy(S:Plan):zHx S [] ([],[]):=⟨λx=>by simp,λl=>by simp,Vl⟩
theorem zBm{S:Plan}(O:yD S)(l:List Nat):l∈(YJ S).2↔l∈S.outlines:=by
 have I:=zFB O (zAg S) [] _ rfl (zHy S);unfold YJ;rw[I.outs,zDb O];constructor
 .rintro⟨e,_,k,e',F,_,hl,ha⟩;exact⟨k,e',F,hl,ha⟩
 .rintro⟨k,e,F,hl,ha⟩;exact⟨e,(zCJ O e).mpr F.j,k,e,F,zn.mpr ⟨0,F.P.pos,rfl⟩,hl,ha⟩
theorem zE2{S:Plan}(O:yD S):(YJ S).2.Nodup:=(zFB O (zAg S) [] _ rfl (zHy S)).nd
theorem zLU{S:Plan}(O:yD S):(YJ S).2.length=S.outlines.length:=by
 have a:=Yl _ S.outlines (zE2 O) λx hx=>(zBm O x).mp hx
 have b:=Yl _ (YJ S).2 (zJ8 S) λx hx=>(zBm O x).mpr hx
 omega
theorem zJH{S:Plan}(O:yD S){z:Pt}(hc:clear S z=true):∃ (i:Nat) (l:List Nat),(YJ S).2[i]?=some l/\insideOf S l z=true/\(∀ (j:Nat) (l':List Nat),j<i->(YJ S).2[j]?=some l'->insideOf S l' z=false)/\S.among S.outlines z=some l/\∀ j:Nat,(YJ S).2[j]?=some l->j=i:=by
 obtain⟨l,hl,hin,hu⟩:=zKA O hc;have hl2:=(zBm O l).mpr hl;obtain⟨i,hi⟩:=VU.mp hl2;have nd:=zE2 O
 have inj:∀ j:Nat,(YJ S).2[j]?=some l->j=i:=by
  intro j hj;obtain⟨h1,e1⟩:=yQ hi;obtain⟨h2,e2⟩:=yQ hj;rcases VM j i with q|q|q
  .exact absurd (e2.trans e1.symm) (Ub.mp (X7.mp nd) j i h2 h1 q)
  .exact q
  .exact absurd (e1.trans e2.symm) (Ub.mp (X7.mp nd) i j h1 h2 q)
 refine⟨i,l,hi,hin,λj l' hj hj'=>?_,?_,inj⟩
 .cases h:insideOf S l' z with
 |false=>rfl
 |true=>
   have:=hu l' ((zBm O l').mp (ZZ hj')) h;subst this;have:=inj j hj';omega
 .unfold Plan.among;rw[Wb hc];cases h:S.outlines.find? λ(l:List Nat)=>insideOf S l z with
 |none=>
   rw[X8] at h;exact absurd hin (h l hl)
 |some l'=>
   have m:=List.mem_of_find?_eq_some h;have p:=List.find?_some h;rw[hu l' m p]
end Kt
namespace Kx
open PySem PySem.Spec PyProof.Rows
open PySem.Sem (wp)
def DI (a:Addr)(d:Option Addr)(h:Heap):Prop:=∃ o,h.get? a=some o/\o.dict=d
theorem DI.push{a:Addr}{d:Option Addr}{h:Heap}(x:DI a d h)(o:Obj):DI a d (h.push o):=let ⟨u,e,q⟩:=x;⟨u,Wf _ e,q⟩
theorem DI.upd{a b:Addr}{d:Option Addr}{h:Heap}(x:DI a d h)(f:Obj->Obj)(hf:∀ o,(f o).dict=o.dict)(hz:∀ o,o.isFreed=false->(f o).isFreed=false):DI a d (h.update b f):=by
 obtain⟨u,e,q⟩:=x;by_cases hb:b=a
 .subst hb;refine⟨f u,UA f e (hz u (Heap.get?_some_iff.mp e).2),?_⟩;rw[hf,q]
 .exact⟨u,(Uw h f hb).trans e,q⟩
theorem zGL(o:Obj)(f:Array Value->Array Value):(Obj.mapFields f o).dict=o.dict:=by
 unfold Obj.mapFields;split <;> rfl
theorem zFs(o:Obj)(f:Array Value->Array Value)(h:o.isFreed=false):(Obj.mapFields f o).isFreed=false:=by
 unfold Obj.mapFields;split
 .rfl
 .exact h
structure KD(a:Addr)(d:Option Addr){α:Type}(t:Sem α):Prop where
 out:∀ (M:Model) (Γ:PySem.Ctx) (P:α->Pos->Shared->Prop) (Ee:Value->Pos->Shared->Prop) (p:Pos) (s:Shared),DI a d s.heap->wp M Γ t P Ee p s->
  wp M Γ t (λx p' s'=>P x p' s'/\DI a d s'.heap) (λx p' s'=>Ee x p' s') p s
namespace KD
variable {α β:Type}{a:Addr}{d:Option Addr}
theorem pure(x:α):KD a d (Pure.pure x:Sem α):=⟨λ_ _ _ _ _ _ hd h=>⟨h,hd⟩⟩
theorem unsupported(z:String):KD a d (PySem.unsupported z:Sem α):=⟨λ_ _ _ _ _ _ _ h=>h⟩
theorem bind{m:Sem α}{f:α->Sem β}(hm:KD a d m)(hf:∀ x,KD a d (f x)):KD a d (m >>= f):=⟨λM Γ P Ee p s hd h=>by
 rw[Sem.wp_bind'] at h ⊢;exact Sem.wp_mono M Γ m (λx p' s' h'=>(hf x).out M Γ P Ee p' s' h'.2 h'.1) (λ_ _ _ z=>z) p s (hm.out M Γ _ Ee p s hd h)⟩
theorem ite{c:Prop}[Decidable c]{t u:Sem α}(ht:KD a d t)(hu:KD a d u):KD a d (if c then t else u):=by split <;> assumption
theorem load(b:Addr):KD a d (PySem.load b):=⟨λM Γ P Ee p s hd h=>by
 unfold PySem.load at h ⊢;rw[Sem.wp_load] at h ⊢;obtain⟨o,ho,hp⟩:=h;exact⟨o,ho,hp,hd⟩⟩
theorem stack:KD a d PySem.stack:=⟨λM Γ P Ee p s hd h=>by
 unfold PySem.stack at h ⊢;rw[Sem.wp_stack] at h ⊢;exact⟨h,hd⟩⟩
theorem alloc(o:Obj):KD a d (PySem.alloc o):=⟨λM Γ P Ee p s hd h=>by
 unfold PySem.alloc at h ⊢;rw[Sem.wp_alloc] at h ⊢;exact⟨h,hd.push o⟩⟩
theorem update(b:Addr)(f:Obj->Obj)(hf:∀ o,(f o).dict=o.dict)(hz:∀ o,o.isFreed=false->(f o).isFreed=false):KD a d (PySem.update b f):=⟨λM Γ P Ee p s hd h=>by
 unfold PySem.update at h ⊢;exact⟨h.1,h.2,hd.upd f hf hz⟩⟩
theorem field(v:Value)(i:Nat):KD a d (PySem.field v i):=⟨λM Γ P Ee p s hd h=>by
 rw[wp_field_iff] at h ⊢;obtain⟨b,o,vs,x,h1,h2,h3,h4,h5⟩:=h;exact⟨b,o,vs,x,h1,h2,h3,h4,h5,hd⟩⟩
theorem setField(v:Value)(i:Nat)(x:Value):KD a d (PySem.setField v i x):=⟨λM Γ P Ee p s hd h=>by
 rw[wp_setField_iff] at h ⊢;obtain⟨b,o,vs,h1,h2,h3,h4,h5⟩:=h;exact⟨b,o,vs,h1,h2,h3,h4,h5,hd.upd _ (λo=>zGL o _) (λo ho=>zFs o _ ho)⟩⟩
end KD
section
variable {a:Addr}{d:Option Addr}
theorem zPs(env:Env)(outer:List Env):KD a d (behindIsImport env outer):=by
 unfold behindIsImport
 (repeat' with_reducible first|assumption|exact KD.pure _|exact KD.unsupported _|exact KD.field _ _|exact KD.setField _ _ _|exact KD.load _|exact KD.stack|exact KD.alloc _|apply KD.ite|apply KD.bind|intro _|split)
theorem zLV:KD a d underTheClaimsCaller:=by
 unfold underTheClaimsCaller
 (repeat' with_reducible first|assumption|exact KD.pure _|exact KD.unsupported _|exact KD.field _ _|exact KD.setField _ _ _|exact KD.load _|exact KD.stack|exact KD.alloc _|apply KD.ite|apply KD.bind|intro _|split)
theorem zOA(env:Env)(i:Bool)(l:List Env):KD a d (keptBack env i l):=by
 have:=zLV (a:=a) (d:=d);cases l <;> unfold keptBack <;> (repeat' with_reducible first|assumption|exact KD.pure _|exact KD.unsupported _|exact KD.field _ _|exact KD.setField _ _ _|exact KD.load _|exact KD.stack|exact KD.alloc _|apply KD.ite|apply KD.bind|intro _|split)
theorem zHz:∀ l:List Env,KD a d (readyFrames l)
|[]=>KD.pure _
|env::outer=>by
  have ih:=zHz outer;have h1:=zPs (a:=a) (d:=d) env outer;have h2:=λi=>zOA (a:=a) (d:=d) env i outer
  unfold readyFrames
  (repeat' with_reducible first|assumption|exact KD.pure _|exact KD.unsupported _|exact KD.field _ _|exact KD.setField _ _ _|exact KD.load _|exact KD.stack|exact KD.alloc _|apply KD.ite|apply KD.bind|intro _|split)
  all_goals first|exact h2 _|skip
  all_goals
   refine KD.update _ _ (λo=>rfl) (λo ho=>?_);obtain⟨_,_,dt,_⟩:=o;cases dt <;> first|rfl|exact ho
theorem zLW(l:List Env):KD a d (frameObject l):=by
 cases l with
|nil=>exact KD.pure _
|cons env outer=>
  have:=zHz (a:=a) (d:=d) (env::outer);unfold frameObject
  (repeat' with_reducible first|assumption|exact KD.pure _|exact KD.unsupported _|exact KD.field _ _|exact KD.setField _ _ _|exact KD.load _|exact KD.stack|exact KD.alloc _|apply KD.ite|apply KD.bind|intro _|split)
theorem zOB:KD a d frameEnvs:=by
 unfold frameEnvs
 (repeat' with_reducible first|assumption|exact KD.pure _|exact KD.unsupported _|exact KD.field _ _|exact KD.setField _ _ _|exact KD.load _|exact KD.stack|exact KD.alloc _|apply KD.ite|apply KD.bind|intro _|split)
theorem zKB(env:Env):KD a d (PySem.frameOf env):=by
 have h1:=zOB (a:=a) (d:=d);have h2:=zLW (a:=a) (d:=d);unfold PySem.frameOf
 (repeat' with_reducible first|assumption|exact KD.pure _|exact KD.unsupported _|exact KD.field _ _|exact KD.setField _ _ _|exact KD.load _|exact KD.stack|exact KD.alloc _|apply KD.ite|apply KD.bind|intro _|split)
 all_goals first|exact h2 _|skip
theorem zMd(f:Addr)(b:Bool):KD a d (entryPlaceOf f b):=by
 unfold entryPlaceOf
 (repeat' with_reducible first|assumption|exact KD.pure _|exact KD.unsupported _|exact KD.field _ _|exact KD.setField _ _ _|exact KD.load _|exact KD.stack|exact KD.alloc _|apply KD.ite|apply KD.bind|intro _|split)
theorem zMe(n fr l fl la:Value)(pl:List Value):KD a d (EntryCells.newEntry n fr l fl la pl):=by
 unfold EntryCells.newEntry newFields newObj newObjAsIs
 (repeat' with_reducible first|assumption|exact KD.pure _|exact KD.unsupported _|exact KD.field _ _|exact KD.setField _ _ _|exact KD.load _|exact KD.stack|exact KD.alloc _|apply KD.ite|apply KD.bind|intro _|split)
theorem zJI(e:Value)(env:Env):KD a d (noteFrame e env):=by
 have h1:=zKB (a:=a) (d:=d) env;have h2:=λf b=>zMd (a:=a) (d:=d) f b
 have h3:=λn fr l fl la pl=>zMe (a:=a) (d:=d) n fr l fl la pl
 unfold noteFrame
 (repeat' with_reducible first|assumption|exact KD.pure _|exact KD.unsupported _|exact KD.field _ _|exact KD.setField _ _ _|exact KD.load _|exact KD.stack|exact KD.alloc _|apply KD.ite|apply KD.bind|intro _|split)
 all_goals first|exact h2 _ _|exact h3 _ _ _ _ _ _|skip
theorem zEC(e:Value)(f:Option Addr):KD a d (setFlight e f):=by
 unfold setFlight
 (repeat' with_reducible first|assumption|exact KD.pure _|exact KD.unsupported _|exact KD.field _ _|exact KD.setField _ _ _|exact KD.load _|exact KD.stack|exact KD.alloc _|apply KD.ite|apply KD.bind|intro _|split)
theorem zFt(env:Env)(e:Value):KD a d (leaving env e):=by
 have h1:=zJI (a:=a) (d:=d) e env;have h2:=zEC (a:=a) (d:=d) e none;unfold leaving
 (repeat' with_reducible first|assumption|exact KD.pure _|exact KD.unsupported _|exact KD.field _ _|exact KD.setField _ _ _|exact KD.load _|exact KD.stack|exact KD.alloc _|apply KD.ite|apply KD.bind|intro _|split)
theorem KD.any{α:Type}{M:Model}{A:Around}{t:Sem α}{Q:α->Shared->Prop}{E:Qs}{s:Shared}(k:KD a d t)(hd:DI a d s.heap)(h:wpAny M A t Q E s):wpAny M A t (λx s'=>Q x s'/\DI a d s'.heap) E s:=
 λΓ p hΓ=>k.out M Γ _ _ p s hd (h Γ p hΓ)
end
open PySem PySem.Spec PyProof.Rows L2
def zR4 (base:Heap)(l:List Env)(a T C:Addr)(dx:Option Addr)(h:Heap):Prop:=
 base.StaysIn h/\base.get? a=none/\base.get? T=none/\h.FunFrames base l/\
  ∃ oe vs oT ts,h.get? a=some oe/\oe.cls=.ref C/\oe.dict=dx/\oe.data=.fields vs/\(∃ a0,vs[0]?=some a0)/\vs[1]?=some (.ref T)/\T≠a/\h.get? T=some oT/\oT.data=.fields ts/\ts[3]?=some .none
def CXN (P:Program)(w:World)(base:Heap):CXT:=λouter H s E e s'=>∃ (a T C:Addr) (dx:Option Addr) (H':Hp),e=.ref a/\s'.os=s.os/\AllBare s'.gens/\Un (yo outer) [] H H' s.heap s'.heap/\Za P w H' s'.heap/\
 s.heap.get? a=none/\s.heap.get? T=none/\H' a=none/\H' T=none/\zR4 base outer a T C dx s'.heap/\E (.ref C) dx H'
theorem zH0{P:Program}{w:World}{H:Hp}{h:Heap}{a:Addr}{o:HO}(x:yj P w H h a o):∃ u,h.get? a=some u:=by
 cases o with
|lst xs=>obtain⟨_,_,_,_,e⟩:=x;exact⟨_,e⟩
|tup xs=>obtain⟨_,_,_,o,e,_⟩:=x;exact⟨_,e⟩
|dK kvs=>obtain⟨_,_,_,_,o,_,_,e,_⟩:=x;exact⟨_,e⟩
|dT kvs=>obtain⟨_,_,_,_,o,_,_,e,_⟩:=x;exact⟨_,e⟩
|set S n=>obtain⟨o,_,_,_,e,_⟩:=x;exact⟨_,e⟩
|ins C dx fs=>obtain⟨_,_,_,e,_⟩:=x;exact⟨_,e⟩
|own y=>obtain⟨_,e⟩:=x;exact⟨_,e⟩
|xd fs=>obtain⟨_,⟨_,_,_,e,_⟩,_⟩:=x;exact⟨_,e⟩
|rng lo hi=>obtain⟨_,_,_,e⟩:=x;exact⟨_,e⟩
|frz ob u=>obtain⟨e,_⟩:=x;exact⟨_,e⟩
|tbl ps=>exact⟨_,show h.get? a=some _ from x⟩
|met f y=>exact⟨_,show h.get? a=some _ from x⟩
|ext φ=>obtain⟨_,⟨_,e⟩,_⟩:=x;exact⟨_,e⟩
section
variable {P:Program}{w:World}{K:Qf}{mg:Qm}{base:Heap}{N:List Str}{qual:Str}{scope:Scope}{f:Addr}{cd:Value}{A:Around}{outer:List Env}{s:Shared}{H:Hp}{E:XK}
 {pins:Qp}{σ:L2.St}{H1:Hp}{s1:Shared}{a C:Addr}{dx:Option Addr}{a0:Value}
theorem zJJ{h':Heap}{hid:List Addr}(J:zK (ZT (CXN P w base) P w K mg base N qual scope f cd A outer s H E) pins σ H1 s1)(ha:a∈hid)(hfs:∀ b∈yo (envOfC qual scope s.heap.objs.size f cd::outer),b∈hid)
  (hh:∀ b∈hid,b∉yo (envOfC qual scope s.heap.objs.size f cd::outer)->s.heap.get? b=none/\H1 b=none)
  (hL:Heap.LeftW (PySem.W.hideAll s1.heap hid) (envOfC qual scope s.heap.objs.size f cd::outer) a (.ref C) a0 s1.heap h')(hdi:DI a dx h')(hE:E (.ref C) dx H1) :
  CXN P w base outer H s E (.ref a) {s1 with heap:=h'}:=by
 obtain⟨l1,l2,⟨oe,vs,T,oT,ts,t1,t2,t3,t4,t5,t6,t7,t8,t9⟩,l4⟩:=hL
 have hnofr:∀ b u vs,h'.get? b=some u->u.data=.fields vs->b∉yo (envOfC qual scope s.heap.objs.size f cd::outer):=λb u vs e1 e2 hm=>by
  obtain⟨_,o,ho,hn⟩:=l2.mem hm;rw[e1] at ho;cases ho;exact hn vs e2
 have afr:=hnofr a oe vs t1 t3;have Tfr:=hnofr T oT ts t7 t8;have hsa:=hh a ha afr;have keep:∀ b u,s1.heap.get? b=some u->b∉hid->h'.get? b=some u:=λb u e n=>l1 b u (Xo hid e n)
 have trk:∀ b u,H1 b=some u->b∉hid:=λb u e hm=>by
  by_cases hb:b∈yo (envOfC qual scope s.heap.objs.size f cd::outer)
  .rw[J.stkFree b hb] at e;cases e
  .rw[(hh b hm hb).2] at e;cases e
 have hT:s.heap.get? T=none/\H1 T=none:=by
  by_cases hm:T∈hid
  .exact hh T hm Tfr
  .have e1:s1.heap.get? T=none:=by
    cases q:s1.heap.get? T with
   |none=>rfl
   |some u=>rw[Xo hid q hm] at t5;cases t5
   refine⟨?_,?_⟩
   .cases q:s.heap.get? T with
   |none=>rfl
   |some u=>
     obtain⟨o',q'⟩:=J.base.there T u q (by intro z;cases z);rw[e1] at q';cases q'
   .cases q:H1 T with
   |none=>rfl
   |some u=>
     obtain⟨o',q'⟩:=zH0 (J.hok T u q);rw[e1] at q';cases q'
 have bst:base.StaysIn (PySem.W.hideAll s1.heap hid):=λb o e=>by
  refine Xo hid (J.bk b o e) λhm=>?_
  by_cases hb:b∈yo (envOfC qual scope s.heap.objs.size f cd::outer)
  .have q:base.get? b=none:=(J.stack.mem hb).1;rw[e] at q;cases q
  .have q:s.heap.get? b=some o:=(J.ok.bs b o e).1;have z:=(hh b hm hb).1;rw[q] at z;cases z
 have bT:base.get? T=none:=by
  cases q:base.get? T with
 |none=>rfl
 |some u=>
   have z:s.heap.get? T=some u:=(J.ok.bs T u q).1;rw[hT.1] at z;cases z
 have ba:base.get? a=none:=by
  cases q:base.get? a with
 |none=>rfl
 |some u=>
   have z:s.heap.get? a=some u:=(J.ok.bs a u q).1;rw[hsa.1] at z;cases z
 obtain⟨oe',d1,d2⟩:=hdi;rw[t1] at d1;cases d1;refine⟨a,T,C,dx,H1,rfl,J.os,J.bare,?_,λb u e=>?_,hsa.1,hT.1,hsa.2,hT.2,⟨λb o e=>l1 b o (bst b o e),ba,bT,?_,oe,vs,oT,ts,t1,t2.1,d2,t3,⟨_,t2.2⟩,t4,t6,t7,t8,t9⟩,hE⟩
 .have B:Un (yo outer) [] H H1 s.heap s1.heap:=J.base
  have old:∀ b o,s.heap.get? b=some o->b∉yo outer->b∉hid:=λb o e hn hm=>by
   by_cases hb:b∈yo (envOfC qual scope s.heap.objs.size f cd::outer)
   .have hb':b=s.heap.objs.size\/b∈yo outer:=by
     have:yo (envOfC qual scope s.heap.objs.size f cd::outer)=s.heap.objs.size::yo outer:=rfl;rw[this] at hb;exact Wc.mp hb
    rcases hb' with q|q
    .exact absurd (Wl e) (by rw[q];exact Vk _)
    .exact hn q
   .have:=(hh b hm hb).1;rw[e] at this;cases this
  refine⟨λb o e n hn hx=>keep b o (B.keep b o e n hn hx) (old b o e hn),λb o e n hm hx=>?_,λb o e n hx=>B.free b o e n hx,λb o e hx=>?_,B.tups,B.frzs,B.tbls⟩
  .obtain⟨sl,q⟩:=B.slot b o e n hm hx
   have nf:∀ vs,o.data≠.fields vs:=by
    obtain⟨_,o',ho',hn'⟩:=J.ok.funs.mem hm;have:s.heap.get? b=some o':=ho';rw[e] at this;cases this;exact hn'
   obtain⟨sl',q'⟩:=l4 b _ q (λvs z=>nf vs z);exact⟨sl',q'⟩
  .obtain⟨o1,q⟩:=B.there b o e hx;by_cases hm:b∈hid
   .by_cases hb:b∈yo (envOfC qual scope s.heap.objs.size f cd::outer)
    .obtain⟨_,o',ho',_⟩:=l2.mem hb;exact⟨o',ho'⟩
    .have:=(hh b hm hb).1;rw[e] at this;cases this
   .exact⟨o1,keep b o1 q hm⟩
 .refine (J.hok b u e).stay (λc v hc q=>keep c v q ?_) (λ_ q=>q) λ_ _ q=>q
  rcases hc with rfl|hc
  .exact trk c u e
  .exact trk c _ hc
 .exact PySem.W.funFrames_base bst (show h'.FunFrames _ (envOfC qual scope s.heap.objs.size f cd::outer) from l2).2.2
theorem zQ2:Ys (CXN P w base) (ZT (CXN P w base) P w K mg base N qual scope f cd A outer s H E) E:=by
 intro pins σ H1 s1 e s2 I h;obtain⟨a,T,C,dx,H2,rfl,os,bare,un,hok,fa,fT,na,nT,⟨b1,b2,b3,b4,oe,vs,oT,ts,t1,t2,t3,t4,⟨a0,t5⟩,t6,t7,t8,t9,t10⟩,hE⟩:=h;have J:zK (ZT (CXN P w base) P w K mg base N qual scope f cd A outer s H E) pins σ H2 s2:=I.call' os un hok bare (λb z=>by cases z)
 have old:∀ b,s1.heap.get? b=none->s.heap.get? b=none:=λb q=>by
  cases r:s.heap.get? b with
 |none=>rfl
 |some u=>
   obtain⟨o',q'⟩:=I.base.there b u r (by intro z;cases z);rw[q] at q';cases q'
 have hin:∀ env∈(envOfC qual scope s.heap.objs.size f cd::outer),∀ b,env.frame=some b->b∈a::T::yo (envOfC qual scope s.heap.objs.size f cd::outer):=λenv he b hb=>.tail _ (.tail _ (VG.mpr ⟨env,he,hb⟩))
 refine W8 ((zFt (a:=a) (d:=dx) _ (.ref a)).any ⟨oe,t1,t3⟩ (wpAny_leaving_nextW (base:=PySem.W.hideAll s2.heap (a::T::yo (envOfC qual scope s.heap.objs.size f cd::outer))) (cls:=.ref C) (a0:=a0) J.ok.frames (Up b4 hin) rfl
  ⟨oe,vs,T,oT,ts,t1,⟨t2,t5⟩,t4,t6,VX _ (.tail _ (.head _)),t7,t8,t9,t10⟩ (λb o q=>XZ _ q) (VX _ (.head _))
  (Q:=λ_ s3=>Heap.LeftW (PySem.W.hideAll s2.heap (a::T::yo (envOfC qual scope s.heap.objs.size f cd::outer))) (envOfC qual scope s.heap.objs.size f cd::outer) a (.ref C) a0 s2.heap s3.heap/\s3={s2 with heap:=s3.heap}) λh' hL=>⟨hL,rfl⟩)) (λ_ s3 h3=>?_) (λ_ _ z=>z)
 obtain⟨⟨hL,es⟩,hdi⟩:=h3;rw[es];refine zJJ (hid:=a::T::yo (envOfC qual scope s.heap.objs.size f cd::outer)) J (.head _) (λb hb=>.tail _ (.tail _ hb)) (λb hb hn=>?_) hL hdi hE;rcases Wc.mp hb with q|q
 .rw[q];exact⟨old a fa,na⟩
 .rcases Wc.mp q with q|q
  .rw[q];exact⟨old T fT,nT⟩
  .exact absurd q hn
theorem zOC{oe:Obj}{vs:Array Value}(J:zK (ZT (CXN P w base) P w K mg base N qual scope f cd A outer s H E) pins σ H1 s1)(t1:s1.heap.get? a=some oe)(t2:oe.cls=.ref C)(t3:oe.dict=dx)(t4:oe.data=.fields vs)(t5:vs[0]?=some a0)(t6:vs[1]?=some .none)
  (fa:s.heap.get? a=none)(na:H1 a=none)(hE:E (.ref C) dx H1):(ZT (CXN P w base) P w K mg base N qual scope f cd A outer s H E).xe (.ref a) s1:=by
 have hin:∀ env∈(envOfC qual scope s.heap.objs.size f cd::outer),∀ b,env.frame=some b->b∈a::yo (envOfC qual scope s.heap.objs.size f cd::outer):=λenv he b hb=>.tail _ (VG.mpr ⟨env,he,hb⟩)
 refine W8 ((zFt (a:=a) (d:=dx) _ (.ref a)).any ⟨oe,t1,t3⟩ (wpAny_leaving_firstW (base:=PySem.W.hideAll s1.heap (a::yo (envOfC qual scope s.heap.objs.size f cd::outer))) J.ok.frames (Up J.stack hin) rfl
  t1 (λb o q=>XZ _ q) (VX _ (.head _)) t4 t6 t5
  (Q:=λ_ s3=>Heap.LeftW (PySem.W.hideAll s1.heap (a::yo (envOfC qual scope s.heap.objs.size f cd::outer))) (envOfC qual scope s.heap.objs.size f cd::outer) a oe.cls a0 s1.heap s3.heap/\s3={s1 with heap:=s3.heap}) λh' hL=>⟨hL,rfl⟩)) (λ_ s3 h3=>?_) (λ_ _ z=>z)
 obtain⟨⟨hL,es⟩,hdi⟩:=h3;rw[es];rw[t2] at hL;refine zJJ (hid:=a::yo (envOfC qual scope s.heap.objs.size f cd::outer)) J (.head _) (λb hb=>.tail _ hb) (λb hb hn=>?_) hL hdi hE;rcases Wc.mp hb with q|q
 .rw[q];exact⟨fa,na⟩
 .exact absurd q hn
end
open Builtin Builtin.ObjectAttr
abbrev VE:List Value:=[.type "ValueError",.type "Exception",.type "BaseException",.type "object"]
section
variable {prog:Program}{w:World}{A:Around}{E:Qs}{h:Heap}{g:Array GenState}{d:Drawn}{t:Nat}{os:OsState}
variable {nm q:Str}{C N x:Addr}{bs:List Value}{sn:List Str}{sub:List Value}{ab:Bool}{col:Option Bool}{dd:Option Addr}{k0 k1 k2 k3 k5:Option Value}{newId:String}
 {mN:Qm}{name:Str}{v:Value}
theorem zIk{tk:Tok}{Q:Fin->Shared->Prop}{o:Obj}
  (hC:h.get? C=some (excClassObj nm q C N bs VE true sn sub ab col dd k0 k1 k2 k3 k5 newId))(hn:h.Ns N mN)(hna:mN name=none)
  (hB:typeLookup (.type "ValueError") name=pure none)(hx:h.get? x=some o)(hc:o.cls=.ref C)(hdn:o.dict=none)(hnc:∀ c,o.data≠.cls c)
  (hq:∀ h' tk',h'.Ns1 h.objs.size (λy=>if y=name then some v else none)->h'.get? x=some {o with dict:=some h.objs.size}->(∀ b u,b≠x->h.get? b=some u->h'.get? b=some u)->Q (.done (.ret .none)) ⟨h',g,d,tk',os⟩) :
  wpAny (model prog w) A (Builtin.«object.__setattr__» ⟨[.ref x,.str name tk,v],[]⟩) Q E ⟨h,g,d,t,os⟩:=by
 have SF:=Uh;have hpass:refuseLoop (.ref x) "__setattr__" VE=pure ():=SF.passes (.ref x);have hmro:mroOf (.type "ValueError")=pure VE:=SF.mro;unfold Builtin.«object.__setattr__»
 repeat (first
 |(with_reducible refine VL hx ?_;rw[hc])
 |with_reducible refine wpAny_mroOf_exc hC ?_
 |(with_reducible refine Xk hC hn hmro hB ?_;rw[hna])
 |(rw[refuseLoop_ref,hpass])
 |rw[refuse_eq]
 |wp_step)
 rw[hdn,Wa (by simp[typeHasDict])];split
 .rename_i hcd
  cases hcd
 split
 .rename_i c hcd
  exact absurd hcd (hnc c)
 .have e1:(h.push {cls:=.type "dict",data:=.dict #[]}).get? x=some o:=Wf _ hx;have ne:x≠h.objs.size:=WE (Wl hx);refine Wh (wpAny_alloc' (Wh (wpAny_update' e1 (WK ?_))));have eD:=(Heap.get?_update_ne (h.push {cls:=.type "dict",data:=.dict #[]}) h.objs.size x (λo=>{o with dict:=some h.objs.size}) ne.symm).trans (Heap.get?_push_at (o:={cls:=.type "dict",data:=.dict #[]}) rfl rfl);have eN:((h.push {cls:=.type "dict",data:=.dict #[]}).update x λo=>{o with dict:=some h.objs.size}).Ns h.objs.size (λ_=>none):=⟨_,#[],_,eD,rfl,λz hz=>absurd hz (by simp),λ_=>rfl⟩
  show wpAny _ _ (storeInDict h.objs.size (.str name tk) name v) _ _ _;unfold storeInDict newKeyGuard;refine Wh (WK (Wh (wpAny_nsSet1 (Heap.Ns1.of_empty eN) λh' n' sb=>?_)));obtain⟨oD,esD,epD,y1,y2,y3⟩:=n'.count (Within.cons name v Within.nil);refine Wh (wpAny_lookBehind y1 (by rw[y2];exact pastItsLine_dict (WT y3 (by rw[WD,Xc,UC];omega))) ?_)
  wp_walk
  refine hq h' _ n' ?_ λb u hb e=>?_
  .refine (sb.2 x ne).trans (UA _ e1 ?_);have fr:=(Heap.get?_some_iff.mp hx).2;obtain⟨_,_,dt,_⟩:=o;cases dt <;> first|rfl|exact fr
  .exact (sb.2 b (WE (Wl e))).trans ((Heap.get?_update_ne _ _ _ _ hb).trans (Wf _ e))
theorem zKC{tk:Tok}{R:Result->Shared->Prop}{o:Obj}{sa owner:String}(SF:StoreFacts "ValueError" VE sa owner)
  (hC:h.get? C=some (excClassObj nm q C N bs VE true sn sub ab col dd k0 k1 k2 k3 k5 newId))(hn:h.Ns N mN)(hna:mN name=none)
  (hB:typeLookup (.type "ValueError") name=pure none)(hx:h.get? x=some o)(hc:o.cls=.ref C)(hdn:o.dict=none)(hnc:∀ c,o.data≠.cls c)
  (hq:∀ h' tk',h'.Ns1 h.objs.size (λy=>if y=name then some v else none)->h'.get? x=some {o with dict:=some h.objs.size}->(∀ b u,b≠x->h.get? b=some u->h'.get? b=some u)->R (.ok (.ret .none)) ⟨h',g,d,tk',os⟩) :
  codeAny (model prog w) A (.call (.builtin sa) ⟨[.ref x,.str name tk,v],[]⟩) R ⟨h,g,d,t,os⟩:=by
 exact codeAny_call_builtin SF.slot.plain SF.entry (wpAny_check_sa SF hC hx hc (zIk hC hn hna hB hx hc hdn hnc hq))
theorem zKD{Q:Unit->Shared->Prop}{o:Obj}
  (hC:h.get? C=some (excClassObj nm q C N bs VE true sn sub ab col dd k0 k1 k2 k3 k5 newId))(hn:h.Ns N mN)(hns:mN "__setattr__" = none)(hna:mN name=none)
  (hB:typeLookup (.type "ValueError") name=pure none)(hx:h.get? x=some o)(hc:o.cls=.ref C)(hdn:o.dict=none)(hnc:∀ c,o.data≠.cls c)
  (hq:∀ h' tk',h'.Ns1 h.objs.size (λy=>if y=name then some v else none)->h'.get? x=some {o with dict:=some h.objs.size}->(∀ b u,b≠x->h.get? b=some u->h'.get? b=some u)->Q () ⟨h',g,d,tk',os⟩) :
  wpAny (model prog w) A (setAttr (.ref x) name v) Q E ⟨h,g,d,t,os⟩:=by
 have SF:=Uh;have hmro:mroOf (.type "ValueError")=pure VE:=SF.mro;have f3:=SF.slot.bind (.ref x);unfold setAttr callSpecial? specialOf
 repeat (any_goals (first
 |assumption
 |(with_reducible refine Xk hC hn hmro SF.slot.lookup ?_;rw[hns])
 |(with_reducible refine VL hx ?_;rw[hc])
 |wp_step))
 refine zKC SF hC hn hna hB hx hc hdn hnc λh' tk' a b c=>?_
 repeat (any_goals (first|assumption|wp_step))
 exact hq h' tk' a b c
end
theorem zGM:typeLookup (.type "ValueError") "rule" = pure none:=by rw[typeLookup_type,builtinLookup_eq_fast];kernel_rfl
theorem zFC:typeLookup (.type "ValueError") "place" = pure none:=by rw[typeLookup_type,builtinLookup_eq_fast];kernel_rfl
structure zCK(K:Qf)(mg:Qm)(C N fI:Addr):Prop where
 mgC:mg "NoCartoon" = some (.ref C)
 kp:PySem.W.keepIn K (.ref C)=true
 cls:∃ nm q bs sn sub ab col dd k0 k1 k2 k3 k5,K.lookup C=some (excClassObj nm q C N bs VE true sn sub ab col dd k0 k1 k2 k3 k5 "ValueError.__new__")
 ns:∃ mN:Qm,(∀ h:Heap,K.In h->h.Ns N mN)/\mN "__init__" = some (.ref fI)/\mN "__setattr__" = none/\mN "rule" = none/\mN "place" = none/\mN "__getattribute__" = none/\mN "__getattr__" = none
def XO (a C t:Addr)(od:Option Addr):Heap->Prop:=λh=>h.get? a=some ⟨.ref C,od,.fields #[.ref t,.none,.none,.none,.bool false,.none],#[]⟩
theorem zKE{P:Program}{w:World}{H:Hp}{h:Heap}{a C t:Addr}{od:Option Addr}(e:h.get? a=some ⟨.ref C,od,.fields #[.ref t,.none,.none,.none,.bool false,.none],#[]⟩):yj P w H h a (.ext (XO a C t od)):=
 ⟨e,⟨_,e⟩,λh1 h2 p k=>k _ p⟩
section
variable {X:Cx}{o value:Expr}{f:Str}{pos pos':Pos}{ta tv:TE}{C N fI:Addr}
def sX0 (C:Addr)(ta tv:TE)(f:Str):TS:=λD σ H=>tv σ H λy H1=>ta σ H1 λx H2=>∃ a t,x=.ref a/\H2 a=some (.ext (XO a C t none))/\∀ dx,H2 dx=none->D.nx σ (upd (upd H2 dx (.xd [(f,y)])) a (.ext (XO a C t (some dx))))
def sX1 (C:Addr)(ta tv:TE)(f:Str):TS:=λD σ H=>tv σ H λy H1=>ta σ H1 λx H2=>∃ a t dx fs,x=.ref a/\H2 a=some (.ext (XO a C t (some dx)))/\H2 dx=some (.xd fs)/\fs.length<1000/\D.nx σ (upd H2 dx (.xd (yr f y fs)))
theorem zQ3(T:zCK X.K X.mg C N fI)(hf:f = "rule"\/f = "place")(ha:PE X o ta)(hv:PE X value tv)(hs:swapsWith value (some (.Attribute o f pos')) pos.line X.env=pure false):PS X (.Assign [.Attribute o f pos'] value pos) (sX0 C ta tv f):=by
 intro pins s σ H D I h;refine XB (zv (hv pins s σ H _ I h) λu s1 ⟨y,H1,I1,ry,q⟩=>zv (ha pins s1 σ H1 _ I1 q) λov s2 ⟨x,H2,I2,rx,a,t,ex,ea,q2⟩=>?_) hs;subst ex;obtain rfl:ov=Value.ref a:=rx;obtain⟨nm,qq,bs,sn,sub,ab,col,dd,k0,k1,k2,k3,k5,lk⟩:=T.cls;obtain⟨mN,hN,n1,n2,n3,n4,n5,n6⟩:=T.ns;have eo:s2.heap.get? a=some ⟨.ref C,none,.fields #[.ref t,.none,.none,.none,.bool false,.none],#[]⟩:=(I2.hok a _ ea).1
 have hfn:mN f=none/\typeLookup (.type "ValueError") f=pure none:=by
  rcases hf with rfl|rfl
  .exact⟨n3,zGM⟩
  .exact⟨n4,zFC⟩
 obtain⟨hh,gg,dg,tt,oo⟩:=s2;refine zKD (I2.kIn _ _ lk) (hN _ I2.kIn) n2 hfn.1 hfn.2 eo rfl rfl (λc z=>by cases z) λh' tk' w1 w2 w3=>?_
 have hfr:H2 hh.objs.size=none:=I2.hok.fresh (Wd _);have ne:hh.objs.size≠a:=Ne.symm (WE (Wl eo));refine⟨σ,_,?_,q2 hh.objs.size hfr⟩;have k1':∀ b u,b≠a->hh.get? b=some u->h'.get? b=some u:=w3
 have Uu:Un X.fs [] H2 (upd (upd H2 hh.objs.size (.xd [(f,y)])) a (.ext (XO a C t (some hh.objs.size)))) hh h':=by
  have na:∀ b u,H2 b=some u->¬ Mut (some u)->b≠a:=λb u e nm z=>by rw[z,ea] at e;cases e;exact nm True.intro
  have ns:∀ b u,hh.get? b=some u->b≠hh.objs.size:=λb u e=>WE (Wl e)
  have nu:∀ b u,H2 b=some u->b≠hh.objs.size:=λb u e z=>by rw[z,hfr] at e;cases e
  refine⟨λb u e n _ _=>k1' b u (λz=>by rw[z,ea] at n;cases n) e,λb u e n _ _=>⟨u.slots,k1' b u (λz=>by rw[z,ea] at n;cases n) e⟩,λb u e n _=>?_,λb u e _=>?_,λb xs e=>?_,λb ob u e=>?_,λb ps e=>?_⟩
  .rw[zG (λz=>by rw[z,ea] at n;cases n),zG (ns b u e)];exact n
  .by_cases hb:b=a
   .rw[hb];exact⟨_,w2⟩
   .exact⟨u,k1' b u hb e⟩
  .rw[zG (na b _ e λz=>z),zG (nu b _ e)];exact e
  .rw[zG (na b _ e λz=>z),zG (nu b _ e)];exact e
  .exact⟨#[],by rw[zG (na b _ e λz=>z),zG (nu b _ e),e];simp⟩
 refine I2.un (t':=tk') Uu λb u e=>?_
 by_cases hb:b=a
 .subst hb;rw[zF] at e;cases e;exact zKE w2
 .rw[zG hb] at e;by_cases hb2:b=hh.objs.size
  .subst hb2;rw[zF] at e;cases e;refine⟨_,w1,λg=>?_⟩;show Yg (List.lookup g [(f,y)]) (if g=f then some u else none);by_cases q:g=f
   .subst q;rw[Wb rfl];have:List.lookup g [(g,y)]=some y:=by simp[List.lookup]
    rw[this];exact ry
   .rw[Wa q]
    have:List.lookup g [(f,y)]=none:=by
     have hb:(g==f)=false:=Vd.mpr q;simp[List.lookup,hb]
    rw[this];exact True.intro
  .rw[zG hb2] at e
   have nt:∀ c,c=b\/H2 c=some (.own b)->c≠a:=λc hc z=>by
    rcases hc with r|r
    .exact hb (r ▸ z)
    .rw[z,ea] at r;cases r
   refine (I2.hok b u e).stay (λc v hc r=>k1' c v (nt c hc) r) (λc r=>?_) λc xs r=>?_
   .rw[zG (nt c (.inr r)),zG (λz=>by rw[z,hfr] at r;cases r)];exact r
   .rw[zG (λz=>by rw[z,ea] at r;cases r),zG (λz=>by rw[z,hfr] at r;cases r)];exact r
theorem zQ4(T:zCK X.K X.mg C N fI)(hf:f = "rule"\/f = "place")(ha:PE X o ta)(hv:PE X value tv)(hs:swapsWith value (some (.Attribute o f pos')) pos.line X.env=pure false):PS X (.Assign [.Attribute o f pos'] value pos) (sX1 C ta tv f):=by
 intro pins s σ H D I h;refine XB (zv (hv pins s σ H _ I h) λu s1 ⟨y,H1,I1,ry,q⟩=>zv (ha pins s1 σ H1 _ I1 q) λov s2 ⟨x,H2,I2,rx,a,t,dx,fs,ex,ea,ed,hl,q2⟩=>?_) hs;subst ex;obtain rfl:ov=Value.ref a:=rx;obtain⟨nm,qq,bs,sn,sub,ab,col,dd,k0,k1,k2,k3,k5,lk⟩:=T.cls;obtain⟨mN,hN,n1,n2,n3,n4,n5,n6⟩:=T.ns;have eo:s2.heap.get? a=some ⟨.ref C,some dx,.fields #[.ref t,.none,.none,.none,.bool false,.none],#[]⟩:=(I2.hok a _ ea).1;obtain⟨mA,hA,rA⟩:=(show ∃ mA,s2.heap.Ns1 dx mA/\∀ f,Yg (fs.lookup f) (mA f) from I2.hok dx _ ed)
 have ne:dx≠a:=λz=>by rw[z,ea] at ed;cases ed
 have hfn:mN f=none/\typeLookup (.type "ValueError") f=pure none:=by
  rcases hf with rfl|rfl
  .exact⟨n3,zGM⟩
  .exact⟨n4,zFC⟩
 have hw:Within mA (fs.map (·.1)):=λz hz=>by
  cases e:fs.lookup z with
 |none=>
   have:=rA z;rw[e] at this;exact absurd (Yg.none_of this) hz
 |some v=>exact Wg.mpr ⟨(z,v),WL e,rfl⟩
 obtain⟨hh,gg,dg,tt,oo⟩:=s2
 have hCa:a≠C:=λz=>by
  have e1:=I2.kIn _ _ lk;rw[<-z,eo] at e1;cases e1
 refine store_attr (ns:=fs.map (·.1)) Uh (I2.kIn _ _ lk) (hN _ I2.kIn) n2 hfn.1 hfn.2 hCa ⟨_,eo,rfl,(λc z=>by cases z),.inr ⟨dx,rfl,ne,hA⟩⟩ (λh' tk' w1 w2 w3=>?_) hw (by rw[zc,UC];omega);obtain⟨o1,e1,c1,c2,c3,c4⟩:=w3 _ eo;obtain⟨oc1,od1,ot1,os1⟩:=o1;dsimp only at c1 c2 c3 c4;obtain rfl:=c1;obtain rfl:=c2;obtain rfl:=c3;obtain rfl:=c4 dx rfl
 have hns:h'.Ns1 dx (λz=>if z=f then some u else mA z):=by
  obtain⟨o2,p1,p2,p3,p4⟩:=w1;rw[e1] at p1;cases p1;rcases p4 with ⟨z,_⟩|⟨dz,z1,z2,z3⟩
  .cases z
  .cases z1;exact z3
 have kp:∀ b u,b≠a->b≠dx->hh.get? b=some u->h'.get? b=some u:=λb u hb hd e=>w2 b u hb (λo0 d0 e0 f0 z=>by
  rw[eo] at e0;cases e0;cases f0;exact hd z) e
 refine⟨σ,_,?_,q2⟩;have nd:∀ b u,H2 b=some u->(∀ gs,u≠.xd gs)->b≠dx:=λb u e n z=>by rw[z,ed] at e;cases e;exact n _ rfl
 have keepA:∀ b u,H2 b=none->hh.get? b=some u->h'.get? b=some u:=λb u n e=>kp b u (λz=>by rw[z,ea] at n;cases n) (λz=>by rw[z,ed] at n;cases n) e
 have Uu:Un X.fs [] H2 (upd H2 dx (.xd (yr f y fs))) hh h':=by
  refine⟨λb u e n _ _=>keepA b u n e,λb u e n _ _=>⟨u.slots,keepA b u n e⟩,λb u e n _=>?_,λb u e _=>?_,λb xs e=>?_,λb ob v e=>?_,λb ps e=>?_⟩
  .rw[zG (λz=>by rw[z,ed] at n;cases n)];exact n
  .by_cases hb:b=a
   .rw[hb];exact⟨_,e1⟩
   .by_cases hd:b=dx
    .obtain⟨od,_,_,z,_⟩:=hns;rw[hd];exact⟨od,z⟩
    .exact⟨u,kp b u hb hd e⟩
  .rw[zG (nd b _ e λgs z=>by cases z)];exact e
  .rw[zG (nd b _ e λgs z=>by cases z)];exact e
  .exact⟨#[],by rw[zG (nd b _ e λgs z=>by cases z),e];simp⟩
 refine I2.un (t':=tk') Uu λb v e=>?_
 by_cases hd:b=dx
 .subst hd;rw[zF] at e;cases e;refine⟨_,hns,λg=>?_⟩;show Yg ((yr f y fs).lookup g) (if g=f then some u else mA g);rw[yR];by_cases q:g=f
  .rw[Wb q,Wb q];exact ry
  .rw[Wa q,Wa q];exact rA g
 .rw[zG hd] at e;by_cases hb:b=a
  .subst hb;rw[ea] at e;cases e;exact zKE e1
  .have nt:∀ c,c=b\/H2 c=some (.own b)->c≠a/\c≠dx:=λc hc=>by
    rcases hc with r|r
    .subst r;exact⟨hb,hd⟩
    .exact⟨(λz=>by rw[z,ea] at r;cases r),(λz=>by rw[z,ed] at r;cases r)⟩
   refine (I2.hok b v e).stay (λc v hc r=>kp c v (nt c hc).1 (nt c hc).2 r) (λc r=>?_) λc xs r=>?_
   .rw[zG (nt c (.inr r)).2];exact r
   .rw[zG (λz=>by rw[z,ed] at r;cases r)];exact r
theorem zOD{pins:Qp}{σ:L2.St}{H:Hp}{s:Shared}{h':Heap}{a:Addr}{u:HO}(I:zK X pins σ H s)(k:∀ b o,s.heap.get? b=some o->h'.get? b=some o)(hn:s.heap.get? a=none)(new:yj X.prog X.w (upd H a u) h' a u) :
  zK X pins σ (upd H a u) {s with heap:=h'}/\H a=none:=by
 have hH:H a=none:=by
  cases q:H a with
 |none=>rfl
 |some v=>
   obtain⟨o',e⟩:=zH0 (I.hok a v q);rw[hn] at e;cases e
 have ne:∀ b o,s.heap.get? b=some o->b≠a:=λb o e z=>by rw[z,hn] at e;cases e
 refine⟨I.un (t':=s.toks) ⟨λb o e _ _ _=>k b o e,λb o e _ _ _=>⟨o.slots,k b o e⟩,λb o e n _=>by rw[zG (ne b o e)];exact n,λb o e _=>⟨o,k b o e⟩,λb xs e=>by rw[zG (zN e hH)];exact e,λb ob v e=>by rw[zG (zN e hH)];exact e,
  λb ps e=>⟨#[],by rw[zG (zN e hH),e];simp⟩⟩ λb v e=>?_,hH⟩
 by_cases hb:b=a
 .subst hb;rw[zF] at e;cases e;exact new
 .rw[zG hb] at e;exact (I.hok b v e).stay (λc v _ r=>k c v r) (λc r=>by rw[zG (zN r hH)];exact r) λc xs r=>by rw[zG (zN r hH)];exact r
def drop (H:Hp)(a:Addr):Hp:=λb=>if b=a then none else H b
theorem zAI{H:Hp}{a b:Addr}(h:b≠a):drop H a b=H b:=Wa h
theorem zED{H:Hp}{a:Addr}:drop H a a=none:=Wb rfl
theorem zMf{pins:Qp}{σ:L2.St}{H:Hp}{s:Shared}{a:Addr}{φ:Heap->Prop}(I:zK X pins σ H s)(ea:H a=some (.ext φ)):zK X pins σ (drop H a) s:=by
 have nn:∀ b,H b=none->drop H a b=none:=λb n=>by
  by_cases hb:b=a
  .rw[hb];exact zED
  .rw[zAI hb];exact n
 refine⟨I.ok,I.os,I.bare,⟨I.base.keep,I.base.slot,λb o e n hx=>nn b (I.base.free b o e n hx),I.base.there,λb xs e=>?_,λb ob v e=>?_,λb ps e=>?_⟩,I.loc,I.cell,nn _ I.free,λx c e=>nn c (I.freeC x c e),λp hp=>⟨(I.pin p hp).1,nn _ (I.pin p hp).2.1,(I.pin p hp).2.2⟩,λb v e=>?_,I.len⟩
 .have q:=I.base.tups b xs e;rw[zAI (λz=>by rw[z,ea] at q;cases q)];exact q
 .have q:=I.base.frzs b ob v e;rw[zAI (λz=>by rw[z,ea] at q;cases q)];exact q
 .obtain⟨m,q⟩:=I.base.tbls b ps e;exact⟨m,by rw[zAI (λz=>by rw[z,ea] at q;cases q)];exact q⟩
 .have hb:b≠a:=λz=>by rw[z,zED] at e;cases e
  rw[zAI hb] at e;exact (I.hok b v e).stay (λ_ _ _ r=>r) (λc r=>by rw[zAI (λz=>by rw[z,ea] at r;cases r)];exact r) λc xs r=>by rw[zAI (λz=>by rw[z,ea] at r;cases r)];exact r
def zDE (C:Addr):Sp:=λvs H Q _=>∃ (a t:Addr) (v1 v2:V),vs=[.ref a,v1,v2]/\H a=some (.ext (XO a C t none))/\
 ∀ dx,H dx=none->Q .non (upd (upd (upd H dx (.xd [("rule",v1)])) a (.ext (XO a C t (some dx)))) dx (.xd (yr "place" v2 [("rule",v1)])))
end
section
variable {M:Model}{A:Around}{E:Qs}{env:Env}
variable {nm q:Str}{C N:Addr}{bs:List Value}{hdct:Bool}{sn:List Str}{sub:List Value}{ab:Bool}{col:Option Bool}{dd:Option Addr}{k0 k1 k2 k3 k5:Option Value}{newId:String}
theorem zIl{s:Shared}{x:Sem Value}{Q:Flow->Shared->Prop}(hh:A.handled=none)
  (h:wpAny M A x (λv s1=>∃ e t dx,v=.ref e/\s1.heap.get? C=some (excClassObj nm q C N bs VE hdct sn sub ab col dd k0 k1 k2 k3 k5 newId)/\
   s1.heap.get? e=some ⟨.ref C,some dx,.fields #[.ref t,.none,.none,.none,.bool false,.none],#[]⟩/\E (.ref e) s1) E s):wpAny M A (raiseStmt env (some x) none) Q E s:=by
 have hb:(Value.ref C::VE).contains (.type "BaseException")=true:=by rw[List.contains_cons,show VE.contains (.type "BaseException")=true by decide,UW]
 unfold raiseStmt;refine Wh (W8 h (λv s1 h1=>?_) λ_ _ z=>z);obtain⟨e,t,dx,rfl,hC,he,hE⟩:=h1;obtain⟨hp,g,d,tk,os⟩:=s1
 repeat (first
 |(with_reducible refine wpAny_isSubtype_exc hC ?_;rw[hb])
 |with_reducible refine VL he ?_
 |with_reducible refine VL hC ?_
 |wp_step)
 exact wpAny_raiseNew_none hh hE
end
def xHp (H1:Hp)(a t dx C:Addr)(v1 v2:V):Hp:=upd (upd (upd (upd H1 a (.ext (XO a C t none))) dx (.xd [("rule",v1)])) a (.ext (XO a C t (some dx)))) dx (.xd (yr "place" v2 [("rule",v1)]))
def zLX (C:Addr)(t:TA):TE:=λσ H Q=>t σ H λvs H1=>∃ v1 v2,vs=[v1,v2]/\∀ a t dx,H1 a=none->H1 dx=none->dx≠a->Q (.ref a) (xHp H1 a t dx C v1 v2)
section
variable {X:Cx}{C N fI:Addr}{k:Nat}{fd:FuncData}{ps:List Str}{p pos:Pos}{e:Expr}{es:List Expr}{t:TA}
theorem zMg(T:zCK X.K X.mg C N fI)(hfi:∃ oI,X.K.lookup fI=some oI/\oI.cls=.type "function")(F:Yy X.prog X.w X.K X.mg X.base CX0 k fI fd ps (zDE C))(hr:zt (k+1) X.A)(hg:Gl X "NoCartoon")(hb:ZK X.K fd ps [])
  (ha:PA X (e::es) t)(he:starEach (e::es) X.env=(false,eval e X.env)::starEach es X.env:=by rfl)(hpl:(backTo pos (starEach es X.env)).any (·.1)=false:=by rfl) :
  PE X (.Call (.Name "NoCartoon" p) (e::es) [] pos) (zLX C t):=by
 intro pins s σ H Q I h;refine VT (zA5 I hg T.mgC ?_ (by decide));refine Xs (h₀:=X.base) I.ok.mod.kin T.kp (zv (ha pos pins s σ H _ I h) λus s1 ⟨vs,H1,I1,r,v1,v2,ev,q⟩=>⟨I1.kIn,?_⟩) he hpl;obtain⟨nm,qq,bs,sn,sub,ab,col,dd,k0,k1,k2,k3,k5,lk⟩:=T.cls;obtain⟨mN,hN,n1,n2,n3,n4,n5,n6⟩:=T.ns;obtain⟨oI,lI,cI⟩:=hfi;obtain⟨hh,gg,dg,tt,oo⟩:=s1
 have hlen:us.length<=sizeLine:=by
  have:=r.length;rw[ev] at this;rw[<-this];show 2<=sizeLine;decide
 refine wpAny_call_exc_init PySem.F.excBase_ValueError (I1.kIn _ _ lk) (hN _ I1.kIn) n1 (I1.kIn _ _ lI) cI (λh' x hm=>?_) hlen;obtain⟨t0,m1,m2,m3⟩:=hm.there;have m1':h'.get? x=some ⟨.ref C,none,.fields #[.ref t0,.none,.none,.none,.bool false,.none],#[]⟩:=m1;obtain⟨I2,hx⟩:=zOD (s:=⟨hh,gg,dg,tt,oo⟩) (u:=.ext (XO x C t0 none)) I1 hm.keeps hm.new (zKE m1');have r2:zd (V.ref x::vs) (Value.ref x::us):=.cons rfl r
 have hsp:zDE C (V.ref x::vs) (upd H1 x (.ext (XO x C t0 none))) (λv H3=>v=.non/\Q (.ref x) H3) E0:=by
  refine⟨x,t0,v1,v2,by rw[ev],zF,λdx hd=>⟨rfl,?_⟩⟩;have ne:dx≠x:=λz=>by rw[z,zF] at hd;cases hd
  rw[zG ne] at hd;exact q x t0 dx hx hd ne
 have hl:(Value.ref x::us++[]).length=ps.length:=by
  rw[VD,<-r2.length];exact F.len _ _ _ _ hsp
 have bnd:=hb _ (Value.ref x::us) I2.kIn hl;rw[VD] at bnd;refine UJ (Xt (F.run _ X.stack _ _ ⟨Value.ref x::us,[]⟩ (Value.ref x::us) _ _ E0 (hr.make C us []) (I2.env0.make C us []) bnd r2 hsp) λrr s' hq=>?_);cases rr with
|error z=>exact hq.elim
|ok fl=>
  cases fl with
 |ret u=>
   obtain⟨v,H3,I3,rv,ev3,q3⟩:=I2.after hq;subst ev3;exact⟨rv,V.ref x,H3,I3,rfl,q3⟩
 |next=>exact False.elim hq
 |brk=>exact False.elim hq
 |cont=>exact False.elim hq
end
def zFu (C:Addr)(E:XK)(H0:Hp):VK:=λv H3=>∃ a t0 dx fs,v=.ref a/\H3 a=some (.ext (XO a C t0 (some dx)))/\H3 dx=some (.xd fs)/\H0 a=none/\E (.ref C) (some dx) (drop H3 a)
def zJK (C:Addr)(E:XK)(H0:Hp)(t:TA):TS:=λD σ H=>zLX C t σ H (zFu C E H0)
theorem zMh{H1:Hp}{a t dx C:Addr}{v1 v2:V}(ha:H1 a=none)(hd:H1 dx=none):zH H1 (drop (xHp H1 a t dx C v1 v2) a):=λb o e=>by
 have n1:b≠a:=λz=>by rw[z,ha] at e;cases e
 have n2:b≠dx:=λz=>by rw[z,hd] at e;cases e
 rw[zAI n1];unfold xHp;rw[zG n2,zG n1,zG n2,zG n1];exact e
theorem zOE{C:Addr}{E:XK}{H0 H1:Hp}{v1 v2:V}(s0:∀ b,H1 b=none->H0 b=none)(hE:∀ (H':Hp) (dx:Addr),zH H1 H'->H' dx=some (.xd (yr "place" v2 [("rule",v1)]))->E (.ref C) (some dx) H') :
  ∀ a t dx,H1 a=none->H1 dx=none->dx≠a->zFu C E H0 (.ref a) (xHp H1 a t dx C v1 v2):=λa t dx ha hd ne=>by
 refine⟨a,t,dx,_,rfl,?_,zF,s0 a ha,hE _ dx (zMh ha hd) ?_⟩
 .unfold xHp;rw[zG ne.symm,zF]
 .rw[zAI ne];exact zF
section
variable {P:Program}{w:World}{K:Qf}{mg:Qm}{base:Heap}{Nm:List Str}{qual:Str}{scope:Scope}{f:Addr}{cd:Value}{A:Around}{outer:List Env}{s:Shared}{H:Hp}{E:XK}
 {C N fI:Addr}{k:Nat}{fd:FuncData}{ps:List Str}{p pos cpos:Pos}{e:Expr}{es:List Expr}{t:TA}
theorem zLY(T:zCK K mg C N fI)(hfi:∃ oI,K.lookup fI=some oI/\oI.cls=.type "function")(F:Yy P w K mg base CX0 k fI fd ps (zDE C))(hr:zt (k+1) (ZT (CXN P w base) P w K mg base Nm qual scope f cd A outer s H E).A)(hg:Gl (ZT (CXN P w base) P w K mg base Nm qual scope f cd A outer s H E) "NoCartoon")(hb:ZK K fd ps [])
  (ha:PA (ZT (CXN P w base) P w K mg base Nm qual scope f cd A outer s H E) (e::es) t)
  (he:starEach (e::es) (envOfC qual scope s.heap.objs.size f cd)=(false,eval e (envOfC qual scope s.heap.objs.size f cd))::starEach es (envOfC qual scope s.heap.objs.size f cd):=by rfl)
  (hpl:(backTo cpos (starEach es (envOfC qual scope s.heap.objs.size f cd))).any (·.1)=false:=by rfl) :
  PS (ZT (CXN P w base) P w K mg base Nm qual scope f cd A outer s H E) (.Raise (some (.Call (.Name "NoCartoon" p) (e::es) [] cpos)) none pos) (zJK C E H t):=by
 intro pins s1 σ H1 D I h;have mk:=zMg (X:=ZT (CXN P w base) P w K mg base Nm qual scope f cd A outer s H E) (p:=p) (pos:=cpos) T hfi F hr hg hb ha he hpl;obtain⟨nm,qq,bs,sn,sub,ab,col,dd,k0,k1,k2,k3,k5,lk⟩:=T.cls;rw[arm_exec_Raise];refine Wh (Ug ?_);refine zIl (C:=C) (nm:=nm) (q:=qq) (N:=N) (bs:=bs) (hdct:=true) (sn:=sn) (sub:=sub) (ab:=ab) (col:=col) (dd:=dd) (k0:=k0) (k1:=k1) (k2:=k2) (k3:=k3) (k5:=k5) (newId:="ValueError.__new__") (I.ok.hd rfl) ?_;refine Wh (zv (mk pins s1 σ H1 (zFu C E H) I h) λu s2 hu=>Wh (Ug (WK ?_)));obtain⟨v,H3,I3,rv,a,t0,dx,fs,rfl,ea,ed,h0,hE⟩:=hu;obtain rfl:u=Value.ref a:=rv;have eo:=(I3.hok a _ ea).1;refine⟨a,t0,dx,rfl,I3.kIn _ _ lk,eo,?_⟩
 have fa:s.heap.get? a=none:=by
  cases q:s.heap.get? a with
 |none=>rfl
 |some o=>
   have z:=I3.base.free a o q h0 (by intro z;cases z);rw[ea] at z;cases z
 exact zOC (zMf I3 ea) eo rfl rfl rfl rfl rfl fa zED hE
end
section
variable {prog:Program}{w:World}{A:Around}{E:Qs}{h:Heap}{g:Array GenState}{d:Drawn}{t:Nat}{os:OsState}{a dx:Addr}{o:Obj}{mA mN:Qm}{name:Str}{v:Value}
variable {nm q:Str}{C N:Addr}{bs:List Value}{sn:List Str}{sub:List Value}{ab:Bool}{col:Option Bool}{dd:Option Addr}{k0 k1 k2 k3 k5:Option Value}{newId:String}
theorem zMi{tk:Tok}{Q:Fin->Shared->Prop}(hC:h.get? C=some (excClassObj nm q C N bs VE true sn sub ab col dd k0 k1 k2 k3 k5 newId))(hN:h.Ns N mN)(hna:mN name=none)(hB:typeLookup (.type "ValueError") name=pure none)
  (hx:h.get? a=some o)(hc:o.cls=.ref C)(hnc:∀ c,o.data≠.cls c)(hd:o.dict=some dx)(hs:h.Ns1 dx mA)(hv:mA name=some v)(hq:Q (.done (.ret v)) ⟨h,g,d,t,os⟩) :
  wpAny (model prog w) A (Builtin.«object.__getattribute__» ⟨[.ref a,.str name tk],[]⟩) Q E ⟨h,g,d,t,os⟩:=by
 have hmro:mroOf (.type "ValueError")=pure VE:=PySem.F.store_ValueError.mro;unfold Builtin.«object.__getattribute__»
 repeat (first
 |(with_reducible refine Xk hC hN hmro hB ?_;rw[hna])
 |(with_reducible refine VL hx ?_;rw[hc])
 |wp_step)
 split
 .rename_i c hcd
  exact absurd hcd (hnc c)
 unfold instanceDict
 repeat (first
 |with_reducible refine VL hC ?_
 |(with_reducible refine VL hx ?_;rw[hc])
 |wp_step)
 rw[hd]
 repeat (first
 |(with_reducible refine wpAny_nsGet hs.ns ?_;rw[hv])
 |wp_step)
 exact hq
theorem zOF{tk:Tok}{R:Result->Shared->Prop}{bm:List Value}(FB:ExcAttrBase "ValueError" bm)(hbm:bm=VE)(hC:h.get? C=some (excClassObj nm q C N bs VE true sn sub ab col dd k0 k1 k2 k3 k5 newId))(hN:h.Ns N mN)(hna:mN name=none)(hB:typeLookup (.type "ValueError") name=pure none)
  (hx:h.get? a=some o)(hc:o.cls=.ref C)(hnc:∀ c,o.data≠.cls c)(hd:o.dict=some dx)(hs:h.Ns1 dx mA)(hv:mA name=some v)(hq:R (.ok (.ret v)) ⟨h,g,d,t,os⟩) :
  codeAny (model prog w) A (.call (.builtin "BaseException.__getattribute__") ⟨[.ref a,.str name tk],[]⟩) R ⟨h,g,d,t,os⟩:=by
 subst hbm;exact codeAny_call_builtin FB.ga.plain PySem.F.entry_bexc_ga (wpAny_check_ga_own FB hC .base hx hc (zMi hC hN hna hB hx hc hnc hd hs hv hq))
theorem zQ5{tk:Tok}{fill expr:Bool}{Q:Qs}(hC:h.get? C=some (excClassObj nm q C N bs VE true sn sub ab col dd k0 k1 k2 k3 k5 newId))(hN:h.Ns N mN)(hn1:mN "__getattribute__" = none)(hn2:mN "__getattr__" = none)(hna:mN name=none)(hB:typeLookup (.type "ValueError") name=pure none)
  (hx:h.get? a=some o)(hc:o.cls=.ref C)(hnc:∀ c,o.data≠.cls c)(hd:o.dict=some dx)(hs:h.Ns1 dx mA)(hv:mA name=some v)(hh:handedOut v=pure v)(hq:Q v ⟨h,g,d,t,os⟩) :
  wpAny (model prog w) A (getAttrBy (.ref a) (.str name tk) fill expr) Q E ⟨h,g,d,t,os⟩:=by
 have FB:=PySem.F.attrBase_ValueError;have hmro:mroOf (.type "ValueError")=pure VE:=PySem.F.store_ValueError.mro;have b3:=FB.ga.bind (.ref a);have y0:(expr&&onTheHeap (Value.builtin "BaseException.__getattribute__"))=false:=by cases expr <;> rfl
 have y2:(Value.builtin "BaseException.__getattribute__" == Value.builtin "object.__getattribute__")=false:=by decide +kernel
 have y1:(onTheHeap (Value.ref C)&&Value.builtin "BaseException.__getattribute__" == Value.builtin "object.__getattribute__")=false:=by rw[y2];rfl
 repeat (any_goals (first
 |assumption
 |(with_reducible refine VL hx ?_;rw[hc])
 |(with_reducible refine Xk hC hN hmro FB.ga.lookup ?_;rw[hn1])
 |(with_reducible refine Xk hC hN hmro FB.noGetattr ?_;rw[hn2])
 |wp_step))
 refine zOF FB rfl hC hN hna hB hx hc hnc hd hs hv ?_
 repeat (any_goals (first
 |assumption
 |(rw[hh];refine WK ?_)
 |wp_step))
theorem zOG{expr:Bool}{Q:Qs}(hC:h.get? C=some (excClassObj nm q C N bs VE true sn sub ab col dd k0 k1 k2 k3 k5 newId))(hN:h.Ns N mN)(hn1:mN "__getattribute__" = none)(hn2:mN "__getattr__" = none)(hna:mN name=none)(hB:typeLookup (.type "ValueError") name=pure none)
  (hx:h.get? a=some o)(hc:o.cls=.ref C)(hnc:∀ c,o.data≠.cls c)(hd:o.dict=some dx)(hs:h.Ns1 dx mA)(hv:mA name=some v)(hh:handedOut v=pure v)(hq:Q v ⟨h,g,d,t+1,os⟩) :
  wpAny (model prog w) A (getAttr (.ref a) name expr) Q E ⟨h,g,d,t,os⟩:=by
 unfold getAttr;refine Wh (wpAny_mkText ?_);exact zQ5 hC hN hn1 hn2 hna hB hx hc hnc hd hs hv hh hq
end
section
variable {X:Cx}{pins:Qp}{σ:L2.St}{H:Hp}{s:Shared}{h':Heap}
theorem zLZ{hid:List Addr}(J:zK X pins σ H s)(hst:X.stack=X.env::X.outer)(hfr:X.env.frame=some X.env.locals)(hex:X.ex=[])(keep:∀ b u,s.heap.get? b=some u->b∉hid->h'.get? b=some u)(ups:s.heap.UpToSlots h')
  (hh:∀ b∈hid,b∉yo X.stack->X.s_0.heap.get? b=none/\H b=none/\∀ p∈X.pn++pins,p.1≠b)(thr:∀ b∈yo X.stack,∃ o,h'.get? b=some o):zK X pins σ H {s with heap:=h'}:=by
 have efs:yo X.stack=X.env.locals::X.fs:=by
  rw[hst];show List.filterMap _ _=_;rw[V1,hfr];rfl
 have trk:∀ b u,H b=some u->b∉hid:=λb u e hm=>by
  by_cases hb:b∈yo X.stack
  .rw[J.stkFree b hb] at e;cases e
  .rw[(hh b hm hb).2.1] at e;cases e
 have old:∀ b o,X.s_0.heap.get? b=some o->b∉X.fs->b∉hid:=λb o e hn hm=>by
  by_cases hb:b∈yo X.stack
  .rw[efs] at hb;rcases Wc.mp hb with q|q
   .have l1:=Wl e;have l2:=J.ok.above;rw[q] at l1;exact absurd (yU l1 l2) (Vk _)
   .exact hn q
  .rw[(hh b hm hb).1] at e;cases e
 obtain⟨m,hn,hl⟩:=J.loc
 have cellK:∀ c v,s.heap.IsCell c v->h'.IsCell c v:=λc v hc=>by
  obtain⟨o,e,q⟩:=hc;obtain⟨sl,e'⟩:=ups c o e (λvs z=>by rw[q] at z;cases z);exact⟨_,e',q⟩
 refine⟨J.ok,J.os,J.bare,⟨λb o e n hf hx=>keep b o (J.base.keep b o e n hf hx) (old b o e hf),λb o e n hf hx=>?_,J.base.free,λb o e hx=>?_,J.base.tups,J.base.frzs,J.base.tbls⟩,⟨m,ups.ns hn,λi x v e1 e2 e3=>?_⟩,λx c e=>?_,J.free,J.freeC,λp hp=>?_,λb u e=>?_,J.len⟩
 .obtain⟨sl,q⟩:=J.base.slot b o e n hf hx;obtain⟨_,o',ho',hn'⟩:=J.ok.funs.mem hf;rw[e] at ho';cases ho';obtain⟨sl',q'⟩:=ups b _ q (λvs z=>hn' vs z);exact⟨sl',q'⟩
 .obtain⟨o1,q⟩:=J.base.there b o e hx;by_cases hm:b∈hid
  .by_cases hb:b∈yo X.stack
   .exact thr b hb
   .rw[(hh b hm hb).1] at e;cases e
  .exact⟨o1,keep b o1 q hm⟩
 .obtain⟨u,r,lk⟩:=hl i x v e1 e2 e3;refine⟨u,r,?_⟩;rcases lk with z|⟨z,c,c1,c2⟩
  .exact .inl z
  .exact .inr ⟨z,c,c1,cellK c _ c2⟩
 .obtain⟨v,hc⟩:=J.cell x c e;exact⟨v,cellK c v hc⟩
 .obtain⟨p1,p2,p3,p4,p5⟩:=J.pin p hp;refine⟨keep p.1 p.2 p1 λhm=>?_,p2,p3,p4,p5⟩;by_cases hb:p.1∈yo X.stack
  .rw[efs] at hb;rcases Wc.mp hb with q|q
   .exact p3 q
   .exact p4 q
  .exact (hh p.1 hm hb).2.2 p hp rfl
 .refine (J.hok b u e).stay (λc v hc q=>keep c v q ?_) (λ_ q=>q) λ_ _ q=>q
  rcases hc with rfl|hc
  .exact trk c u e
  .exact trk c _ hc
theorem zKF{m':Qm}{tk:Nat}(J:zK X pins σ H s)(hex:X.ex=[])(hn:h'.Ns X.env.locals m')(sb:Heap.SameBut X.env.locals s.heap h'):zK X pins (List.replicate X.N.length none) H {s with heap:=h',toks:=tk}:=by
 have nl:∀ b u,X.s_0.heap.get? b=some u->b≠X.env.locals:=λb u e z=>by
  have l1:=Wl e;have l2:=J.ok.above;rw[z] at l1;exact absurd (yU l1 l2) (Vk _)
 refine⟨J.ok,J.os,J.bare,⟨λb o e n hf hx=>(sb.2 b (nl b o e)).trans (J.base.keep b o e n hf hx),λb o e n hf hx=>?_,J.base.free,λb o e hx=>?_,J.base.tups,J.base.frzs,J.base.tbls⟩,⟨m',hn,λi x v e1 e2 e3=>?_⟩,λx c e=>?_,J.free,J.freeC,λp hp=>?_,λb u e=>?_,by simp⟩
 .obtain⟨sl,q⟩:=J.base.slot b o e n hf hx;exact⟨sl,(sb.2 b (nl b o e)).trans q⟩
 .obtain⟨o1,q⟩:=J.base.there b o e hx;exact⟨o1,(sb.2 b (nl b o e)).trans q⟩
 .rw[V4] at e2;split at e2 <;> cases e2
 .obtain⟨v,o,e',q⟩:=J.cell x c e;exact⟨v,o,(sb.2 c (J.cne x c e)).trans e',q⟩
 .obtain⟨p1,p2,p3,p4,p5⟩:=J.pin p hp;exact⟨(sb.2 _ p3).trans p1,p2,p3,p4,p5⟩
 .refine (J.hok b u e).stay (λc v hc q=>(sb.2 c ?_).trans q) (λ_ q=>q) λ_ _ q=>q
  rcases hc with rfl|hc
  .intro z;rw[z,J.free] at e;cases e
  .intro z;rw[z,J.free] at hc;cases hc
end
def tXF (a dx:Addr)(te:TE)(f:Str):TE:=λσ H Q=>te σ H λx H1=>x=.ref a/\∃ fs v,H1 dx=some (.xd fs)/\fs.lookup f=some v/\Q v H1
theorem zJL{X:Cx}{C N fI a dx:Addr}{oe:Obj}{e:Expr}{te:TE}{f:Str}{pos:Pos}(T:zCK X.K X.mg C N fI)(hp:(a,oe)∈X.pn)(h1:oe.cls=.ref C)(h2:oe.dict=some dx)(h3:∀ c,oe.data≠.cls c)(hf:f = "rule"\/f = "place")(he:PE X e te)
  (hb:attributeBase e f X.env (eval e X.env)=eval e X.env):PE X (.Attribute e f pos) (tXF a dx te f):=by
 intro pins s σ H Q I h;refine zIy hb (zv (he pins s σ H _ I h) λu s1 ⟨x,H1,I1,rx,ex,fs,v,ed,ev,q⟩=>?_);subst ex;obtain rfl:u=Value.ref a:=rx;obtain⟨nm,qq,bs,sn,sub,ab,col,dd,k0,k1,k2,k3,k5,lk⟩:=T.cls;obtain⟨mN,hN,n1,n2,n3,n4,n5,n6⟩:=T.ns;obtain⟨mA,hA,rA⟩:=(show ∃ mA,s1.heap.Ns1 dx mA/\∀ f,Yg (fs.lookup f) (mA f) from I1.hok dx _ ed)
 obtain⟨p1,_⟩:=I1.pin (a,oe) (XJ _ hp)
 have hfn:mN f=none/\typeLookup (.type "ValueError") f=pure none:=by
  rcases hf with rfl|rfl
  .exact⟨n3,zGM⟩
  .exact⟨n4,zFC⟩
 obtain⟨u2,hu,ru⟩:=Yg.some_of (v:=v) (o:=mA f) (by rw[<-ev];exact rA f);obtain⟨hh,gg,dg,tt,oo⟩:=s1
 have hand:handedOut u2=pure u2:=by
  cases v with
 |non=>cases (show u2=Value.none from ru);rfl
 |bl b=>cases (show u2=Value.bool b from ru);rfl
 |int i=>obtain⟨t,e⟩:=(show ∃ t,u2=Value.int i t from ru);cases e;rfl
 |str x=>obtain⟨t,e⟩:=(show ∃ t,u2=Value.str x t from ru);cases e;rfl
 |byt b=>obtain⟨t,e⟩:=(show ∃ t,u2=Value.bytes b t from ru);cases e;rfl
 |flt b=>obtain⟨t,e⟩:=(show ∃ t,u2=Value.float b t from ru);cases e;rfl
 |ref c=>cases (show u2=Value.ref c from ru);rfl
 |ty n=>cases (show u2=Value.type n from ru);rfl
 exact zOG (I1.kIn _ _ lk) (hN _ I1.kIn) n5 n6 hfn.1 hfn.2 p1 h1 h3 h2 hA hu hand ⟨v,H1,I1.tok _,ru,q⟩
theorem zDF{X:Cx}{pins pins':Qp}{σ:L2.St}{H:Hp}{s:Shared}{A':Around}{c':Bool}{pn':Qp}{xe':Qs}(I:zK X pins σ H s)(hA:A'.frames=X.A.frames)(hc:c'=true->A'.handled=none)
  (hp:∀ p∈pn'++pins',s.heap.get? p.1=some p.2/\H p.1=none/\p.1≠X.env.locals/\p.1∉X.fs/\∀ v,p.2.data≠.cell v):zK {X with A:=A',calm:=c',pn:=pn',xe:=xe'} pins' σ H s:=
 ⟨⟨I.ok.mod,I.ok.kind,I.ok.glob,I.ok.blt,I.ok.above,I.ok.inj,I.ok.has,I.ok.cab,hc,hA.trans I.ok.frames,I.ok.stk,I.ok.exf,I.ok.bs,I.ok.bsz,I.ok.noex,I.ok.exfs,I.ok.funs,I.ok.frf⟩,I.os,I.bare,I.base,I.loc,I.cell,I.free,I.freeC,hp,I.hok,I.len⟩
end Kx
namespace Kq
open PySem PySem.Spec PyProof.Rows L2
structure Zn(k:Nat)(A:Around):Prop where
 dp:A.depth+3*k+5<recursionLimit
 un:A.units+16*k+200<cLine
theorem Zn.of{k:Nat}{A:Around}(r:zt k A):Zn k A:=⟨r.dp,r.un⟩
theorem Zn.mark{k:Nat}{A:Around}(r:Zn k A)(v:Option Value):Zn k (A.mark v):=⟨r.dp,r.un⟩
theorem Zn.dpr{k:Nat}{A:Around}(r:Zn (k+1) A)(env:Env):Zn k (A.deeper env):=
 ⟨by have:=r.dp;show A.depth+1+3*k+5<_;omega,by have:=r.un;show A.units+3+16*k+200<_;omega⟩
theorem Zn.mk1{k:Nat}{A:Around}(r:Zn (k+1) A)(C:Addr)(us:List Value)(kw:List (Str×Value)):Zn k (A.under (.builtin "type.__call__" ⟨.ref C::us,kw⟩)):=
 ⟨by have:=r.dp;rw[zFW];omega,by have:=r.un;rw[zFX];omega⟩
structure FnQ(P:Program)(w:World)(K:Qf)(mg:Qm)(base:Heap)(CX:CXT)(k:Nat)(f:Addr)(fd:FuncData)(ps:List Str)(sp:Sp):Prop where
 len:∀ vs H Q E,sp vs H Q E->vs.length=ps.length
 run:∀ (A:Around) (outer:List Env) (s:Shared) (H:Hp) (args:Args) (us:List Value) (vs:List V) (Q:VK) (E:XK),Zn k A->zCp P w K mg base A outer s H->BindsTo s fd args (ps.zip us)->zd vs us->sp vs H Q E->
  codeAny (model P w) A (.call (.ref f) args) (CR CX outer P w H s Q E) s
theorem FnQ.ok{P:Program}{w:World}{K:Qf}{mg:Qm}{base:Heap}{CX:CXT}{k:Nat}{f:Addr}{fd:FuncData}{ps:List Str}{sp:Sp}(F:FnQ P w K mg base CX k f fd ps sp):Yy P w K mg base CX k f fd ps sp:=
 ⟨F.len,λA outer s H args us vs Q E hr=>F.run A outer s H args us vs Q E (.of hr)⟩
def cxQ (CX:CXT)(P:Program)(w:World)(K:Qf)(mg:Qm)(base:Heap)(N:List Str)(qual:Str)(scope:Scope)(f:Addr)(cd:Value)(A:Around)(outer:List Env)(s:Shared)(H:Hp)(E:XK):Cx:=
 {ZT CX P w K mg base N qual scope f cd A outer s H E with calm:=false}
theorem zOH{CX:CXT}{P:Program}{w:World}{K:Qf}{mg:Qm}{base:Heap}{N ps:List Str}{qual:Str}{scope:Scope}{f:Addr}{cd:Value}{A:Around}{outer:List Env}{s s1:Shared}{H:Hp}{E:XK}{us:List Value}{vs:List V}
  (S:zO N ps scope)(e0:zCp P w K mg base A outer s H)(hl:vs.length=ps.length)(r:zd vs us)
  (x:InCallC s s.heap.objs.size (bindL (envOfC qual scope s.heap.objs.size f cd).kindOf (ps.zip us) λ_=>none) (cellsFrom (s.heap.objs.size+1) scope.names []) (bindC (envOfC qual scope s.heap.objs.size f cd).kindOf (ps.zip us) λ_=>none) s1) :
  zK (cxQ CX P w K mg base N qual scope f cd A outer s H E) [] (Yi N vs) H s1:=by
 have e1:zCp P w K mg base {A with handled:=none} outer s H:=⟨e0.frames,e0.mod,e0.bs,e0.bsz,e0.funs,e0.frf,e0.hok,e0.bare⟩
 have I:=zGn (CX:=CX) (A:={A with handled:=none}) (qual:=qual) (f:=f) (cd:=cd) (E:=E) S rfl e1 hl r x;have J:=Kx.zDF (pins':=[]) (A':=A.deeper (envOfC qual scope s.heap.objs.size f cd)) (c':=false) (pn':=[]) (xe':=(ZT CX P w K mg base N qual scope f cd A outer s H E).xe) I rfl (λz=>by cases z) (λp hp=>by simp at hp);exact J
theorem zPt{CX:CXT}{P:Program}{w:World}{K:Qf}{mg:Qm}{base:Heap}{k:Nat}{f:Addr}{name qual:Str}{params:Arguments}{body:List Stmt}{scope:Scope}{dV kV doc pm cdv ct oc:Value}{an od:Option Addr}
  {osl:Array (Option Value)}{N ps:List Str}{sp:Sp}(lk:K.lookup f=some ⟨oc,od,.func (PySem.W.fnOf name qual params body scope dV kV doc pm an cdv ct),osl⟩) (hcd:PySem.W.codeIn K cdv qual=true) (S:zO N ps scope)
  (len:∀ vs H Q E,sp vs H Q E->vs.length=ps.length)
  (hbody:∀ (A:Around) (outer:List Env) (s:Shared) (H:Hp) (vs:List V) (Q:VK) (E:XK),Zn k (A.deeper (envOfC qual scope s.heap.objs.size f cdv))->sp vs H Q E->
   ∃ t,PSs (cxQ CX P w K mg base N qual scope f cdv A outer s H E) body t/\t {nx:=λ_ H'=>Q .non H',rt:=Q} (Yi N vs) H) :
  FnQ P w K mg base CX (k+1) f (PySem.W.fnOf name qual params body scope dV kV doc pm an cdv ct) ps sp:=by
 refine⟨len,λA outer s H args us vs Q E hr e0 hb r hsp=>?_⟩;have hl:=len _ _ _ _ hsp;have KX:K.In s.heap:=e0.mod.kin.keeps λb o e=>(e0.bs b o e).1
 have lim:s.heap.NoLimit:=e0.mod.nolimit.keeps λb o e=>(e0.bs b o e).1
 have hkind:∀ y∈ps.zip us,scope.names.lookup y.1=some .local\/(scope.names.lookup y.1=some .cell/\((cellsFrom (s.heap.objs.size+1) scope.names []).lookup y.1).isSome=true):=λ⟨n,v⟩ hy=>by
  rcases S.par n (XS hy).1 with q|q
  .exact .inl q
  .exact .inr ⟨q,Uq _ _ _ (.inl q)⟩
 refine codeAny_call_function (by have:=hr.dp;omega) (KX _ _ lk) rfl S.co S.gen rfl (PySem.W.codeRec_of KX hcd) (hb _ _ _ _ ?_);refine U6 S.kind hkind λenv he s1 x=>?_
 subst he;refine⟨lim.keeps x.toInCall.keep,codeAny_func ?_⟩;obtain⟨t,ht,hq⟩:=hbody A outer s H vs Q E (hr.dpr _) hsp;have I:zK (cxQ CX P w K mg base N qual scope f cdv A outer s H E) [] (Yi N vs) H s1:=zOH S e0 hl r x;refine W8 (ht [] s1 (Yi N vs) H _ I hq) (λfl s' hs=>?_) λe s' hs=>hs
 have fin:∀ {σ':L2.St}{H':Hp}{v:V}{u:Value},zK (cxQ CX P w K mg base N qual scope f cdv A outer s H E) [] σ' H' s'->zr v u->Q v H'->CE outer P w H s Q u s':=
  λ{σ' H' v u} J rv q=>⟨v,H',J.os,J.bare,J.base,J.hok,rv,q⟩
 cases fl with
|ret u=>
  obtain⟨v,σ',H',J,rv,q⟩:=hs;exact fin J rv q
|next=>
  obtain⟨σ',H',J,q⟩:=hs;exact fin (v:=V.non) (u:=Value.none) J rfl q
|brk=>
  obtain⟨_,_,_,q⟩:=hs;exact False.elim q
|cont=>
  obtain⟨_,_,_,q⟩:=hs;exact False.elim q
section
variable {X:Cx}{CX:CXT}{k:Nat}{f C:Addr}{fd:FuncData}{ps:List Str}{sp:Sp}{dvs:List V}{ds:List Value}{E:XK}{x m:Str}{p pos apos:Pos}{e o:Expr}{es:List Expr}{ta:TE}{t:TA}
theorem zQ6{pins:Qp}{σ:L2.St}{H:Hp}{s:Shared}{Q:VK}{us:List Value}{vs:List V}(F:FnQ X.prog X.w X.K X.mg X.base CX k f fd ps sp)(hr:Zn k X.A)(hb:ZK X.K fd ps ds)(hd:zd dvs ds)(hx:Ys CX X E)
  (I:zK X pins σ H s)(r:zd vs us)(h:sp (vs++dvs) H Q E):wpAny (model X.prog X.w) X.A (call (.ref f) us) (EP X pins σ Q) X.xe s:=by
 have r2:zd (vs++dvs) (us++ds):=r.append hd;have hl:(us++ds).length=ps.length:=by rw[<-r2.length];exact F.len _ _ _ _ h
 refine UJ (Xt (F.run X.A X.stack s H ⟨us,[]⟩ (us++ds) (vs++dvs) Q E hr I.env0 (hb s us I.kIn hl) r2 h) λr s' hq=>?_);cases r with
|error e=>exact hx pins σ H s e s' I hq
|ok fl=>
  cases fl with
 |ret u=>exact I.after hq
 |next=>exact False.elim hq
 |brk=>exact False.elim hq
 |cont=>exact False.elim hq
theorem zMj(F:FnQ X.prog X.w X.K X.mg X.base CX k f fd ps sp)(hr:Zn k X.A)(hg:Gl X x)(hm:X.mg x=some (.ref f))(hk:PySem.W.keepIn X.K (.ref f)=true)(hb:ZK X.K fd ps ds)(hd:zd dvs ds)(hx:Ys CX X E)
  (ha:PA X (e::es) t)(hdb:(x==("__debug__" : Str))=false:=by decide)(he:starEach (e::es) X.env=(false,eval e X.env)::starEach es X.env:=by rfl)(hpl:(backTo pos (starEach es X.env)).any (·.1)=false:=by rfl) :
  PE X (.Call (.Name x p) (e::es) [] pos) (zHI sp dvs E t):=by
 intro pins s σ H Q I h;refine VT (zA5 I hg hm ?_ hdb);refine Xs (h₀:=X.base) I.ok.mod.kin hk (zv (ha pos pins s σ H _ I h) λus s1 ⟨vs,H1,I1,r,q⟩=>⟨I1.kIn,?_⟩) he hpl;exact zQ6 F hr hb hd hx I1 r q
theorem zPu{pins:Qp}{σ:L2.St}{H:Hp}{s:Shared}{Q:VK}{us:List Value}{vs:List V}(M:Mk X.K C f)(F:FnQ X.prog X.w X.K X.mg X.base CX k f fd ps sp)(hr:Zn (k+1) X.A)(hb:ZK X.K fd ps ds)(hd:zd dvs ds)
  (hx:Ys CX X E)(I:zK X pins σ H s)(r:zd vs us)
  (h:∀ x dx,H x=none->H dx=none->dx≠x->sp (.ref x::(vs++dvs)) (upd (upd H dx (.own x)) x (.ins C dx [])) (λv H2=>v=.non/\Q (.ref x) H2) E) :
  wpAny (model X.prog X.w) X.A (call (.ref C) us) (EP X pins σ Q) X.xe s:=by
 have hq:=h (s.heap.objs.size+1) s.heap.objs.size (I.hok.fresh (Nat.le_succ _)) (I.hok.fresh (Wd _)) (WE (Xm _));have I2:=zK.made (C:=C) I;have r2:zd (V.ref (s.heap.objs.size+1)::(vs++dvs)) (Value.ref (s.heap.objs.size+1)::(us++ds)):=.cons rfl (r.append hd)
 have hl:(Value.ref (s.heap.objs.size+1)::us++ds).length=ps.length:=by
  have e:=r2.length;rw[F.len _ _ _ _ hq] at e;exact e.symm
 refine UJ (zHV (f:=f) I.kIn M.makes M.init (Vs.mp M.fn) (Xt (F.run _ X.stack _ _ ⟨Value.ref (s.heap.objs.size+1)::us,[]⟩ (Value.ref (s.heap.objs.size+1)::(us++ds)) _ _ E (hr.mk1 C us [])
  (I2.env0.make C us []) (hb _ (Value.ref (s.heap.objs.size+1)::us) I2.kIn hl) r2 hq) λr s' hq'=>?_))
 cases r with
|error e=>exact hx pins σ _ _ e s' I2 hq'
|ok fl=>
  cases fl with
 |ret u=>
   obtain⟨v,H',I3,rv,ev,q3⟩:=I2.after hq';subst ev;exact⟨rv,⟨V.ref (s.heap.objs.size+1),H',I3,rfl,q3⟩⟩
 |next=>exact False.elim hq'
 |brk=>exact False.elim hq'
 |cont=>exact False.elim hq'
theorem zMk(M:Mk X.K C f)(F:FnQ X.prog X.w X.K X.mg X.base CX k f fd ps sp)(hr:Zn (k+1) X.A)(hg:Gl X x)(hm:X.mg x=some (.ref C))(hb:ZK X.K fd ps ds)(hd:zd dvs ds)(hx:Ys CX X E)
  (ha:PA X (e::es) t)(hdb:(x==("__debug__" : Str))=false:=by decide)(he:starEach (e::es) X.env=(false,eval e X.env)::starEach es X.env:=by rfl)(hpl:(backTo pos (starEach es X.env)).any (·.1)=false:=by rfl) :
  PE X (.Call (.Name x p) (e::es) [] pos) (zJx C sp dvs E t):=by
 intro pins s σ H Q I h;refine VT (zA5 I hg hm ?_ hdb);refine Xs (h₀:=X.base) I.ok.mod.kin M.kp (zv (ha pos pins s σ H _ I h) λus s1 ⟨vs,H1,I1,r,q⟩=>⟨I1.kIn,?_⟩) he hpl;exact zPu M F hr hb hd hx I1 r q
end
open PySem PySem.Spec PyProof.Rows L2 Kx
def hE (C:Addr)(sp:Sp)(D:Yx):XK:=λcls dx H'=>cls=.ref C/\∃ d i j,dx=some d/\H' d=some (.xd (yr "place" (.int j) [("rule",.int i)]))/\∀ q,H' q=none->sp [.ref q] (upd H' q (.lst [.int (-5),.int i,.int j])) D.rt E0
def zQ7 (C:Addr)(sp:Sp)(tb:XK->TS):TS:=λD σ H=>tb (hE C sp D) D σ H
section
variable {X:Cx}{C N fI:Addr}{i:Nat}{st:Stmt}{tb:XK->TS}{np p0 p1 p2 p3 p4 p5 p6 p7 q0 q1 hpos pos:Pos}{fR:Addr}{fdR:FuncData}{sp:Sp}
theorem zMl{D:Yx}{pins:Qp}{σ:L2.St}{H:Hp}{s:Shared}{a d:Addr}{oe:Obj}{ri pj:Int}{A':Around}(T:zCK X.K X.mg C N fI)(hi:X.N[i]?=some "broken")(hloc:X.env.scope.names.lookup ("broken" : Str)=some .local)
  (J:zK X pins σ H s)(hA:A'.frames=X.A.frames)(hσ:σ[i]?=some (some (.ref a)))(e1:s.heap.get? a=some oe)(h1:oe.cls=.ref C)(h2:oe.dict=some d)(h3:∃ vs,oe.data=.fields vs)(na:H a=none)(nl:a≠X.env.locals)(nf:a∉X.fs)
  (ed:H d=some (.xd (yr "place" (.int pj) [("rule",.int ri)])))(hD:∀ q,H q=none->sp [.ref q] (upd H q (.lst [.int (-5),.int ri,.int pj])) D.rt E0)(FR:FnQ X.prog X.w X.K X.mg X.base CX0 3 fR fdR ["numbers"] sp)(hrQ:Zn 3 A')(hgR:Gl X "refused")(hmR:X.mg "refused" = some (.ref fR))(hkR:PySem.W.keepIn X.K (.ref fR)=true)(hbR:ZK X.K fdR ["numbers"] []){j0:Nat}{E:Qs} :
  wpAny (model X.prog X.w) A' (execs [.Return (some (.Call (.Name "refused" q0) [.List [.UnaryOp .USub (.Constant (.int 5) j0 p0) p1,.Attribute (.Name "broken" p2) "rule" p3,.Attribute (.Name "broken" p4) "place" p5] p6] [] q1)) p7] X.env)
   (λf s'=>∃ u v H' σ',f=.ret u/\zr v u/\D.rt v H'/\zK X pins σ' H' s') E s:=by
 obtain⟨vs,h3⟩:=h3
 have hpin:∀ p∈((a,oe)::X.pn)++pins,s.heap.get? p.1=some p.2/\H p.1=none/\p.1≠X.env.locals/\p.1∉X.fs/\∀ v,p.2.data≠.cell v:=λp hp=>by
  rcases Wc.mp (show p∈(a,oe)::(X.pn++pins) from hp) with q|q
  .subst q;exact⟨e1,na,nl,nf,λv z=>by rw[h3] at z;cases z⟩
  .exact J.pin p q
 have JS:zK {X with A:=A',calm:=false,pn:=(a,oe)::X.pn,xe:=λ_ _=>False} pins σ H s:=zDF J hA (λz=>by cases z) hpin;have pb:∀ p:Pos,PE {X with A:=A',calm:=false,pn:=(a,oe)::X.pn,xe:=λ_ _=>False} (.Name "broken" p) (zMI i):=λp=>zK2 hi (Or.inl hloc)
 have q:=zE (X:={X with A:=A',calm:=false,pn:=(a,oe)::X.pn,xe:=λ_ _=>False}) (zS (pos:=p7) (zMj (p:=q0) (pos:=q1) FR hrQ hgR hmR hkR hbR .nil zHL (zA (yd (pos:=p6) (zA (zHE (pos:=p1) zFU (zJ (i:=5) (j:=j0) (pos:=p0)))
  (zA (zJL (pos:=p3) (f:="rule") T (.head _) h1 h2 (λc z=>by rw[h3] at z;cases z) (.inl rfl) (pb p2) rfl) (zA (zJL (pos:=p5) (f:="place") T (.head _) h1 h2 (λc z=>by rw[h3] at z;cases z) (.inr rfl) (pb p4) rfl) zC)))) zC)))
  pins s σ H {nx:=λ_ _=>False,rt:=D.rt} JS ?_
 .refine W8 q (λf s' hf=>?_) (λ_ _ z=>z.elim);cases f with
 |next=>obtain⟨_,_,_,z⟩:=hf;exact z.elim
 |brk=>obtain⟨_,_,_,z⟩:=hf;exact z.elim
 |cont=>obtain⟨_,_,_,z⟩:=hf;exact z.elim
 |ret u=>
   obtain⟨v,σ',H',J',rv,z⟩:=hf;refine⟨u,v,H',σ',rfl,rv,z,?_⟩;exact zDF (X:={X with A:=A',calm:=false,pn:=(a,oe)::X.pn,xe:=λ_ _=>False}) (A':=X.A) (c':=X.calm) (pn':=X.pn) (xe':=X.xe) J' hA.symm J.ok.hd λp hp=>J'.pin p (We _ hp)
 .refine⟨_,rfl,.ref a,hσ,rfl,_,_,ed,?_,.ref a,hσ,rfl,_,_,ed,?_,(by show 3<=sizeLine;decide),λq hq=>hD q hq⟩
  .rw[yR,Wa (by decide +kernel)];rfl
  .rw[yR,Wb rfl]
end
section
variable {X:Cx}{C N fI:Addr}{i:Nat}{st:Stmt}{tb:XK->TS}{np p0 p1 p2 p3 p4 p5 p6 p7 q0 q1 hpos pos:Pos}{j0:Nat}{fR:Addr}{fdR:FuncData}{sp:Sp}
theorem zPv{D:Yx}{pins pins0:Qp}{σ:L2.St}{H1:Hp}{s1 s2:Shared}{e:Value}(T:zCK X.K X.mg C N fI)(hst:X.stack=X.env::X.outer)(hfr:X.env.frame=some X.env.locals)(hex:X.ex=[])(hnd:X.N.Nodup)(hi:X.N[i]?=some "broken")(hloc:X.env.scope.names.lookup ("broken" : Str)=some .local)(hg:Gl X "NoCartoon")(FR:FnQ X.prog X.w X.K X.mg X.base CX0 3 fR fdR ["numbers"] sp)(hrQ:Zn 3 X.A)(hgR:Gl X "refused")(hmR:X.mg "refused" = some (.ref fR))(hkR:PySem.W.keepIn X.K (.ref fR)=true)(hbR:ZK X.K fdR ["numbers"] [])
  (I:zK X pins σ H1 s1)(h:CXN X.prog X.w X.base X.stack H1 s1 (hE C sp D) e s2){X0:Cx}(hX0:∀ (σ':L2.St) (H':Hp) (s':Shared),zK X pins σ' H' s'->zK X0 pins0 σ' H' s'){E0':Qs} :
  wpAny (model X.prog X.w) X.A (noteFrame e X.env) (λ_ s₂=>wpAny (model X.prog X.w) X.A (setFlight e none) (λ_ s₃=>wpAny (model X.prog X.w) X.A (handleBy e X.env [.ExceptHandler (some (.Name "NoCartoon" np)) (some "broken")
   [.Return (some (.Call (.Name "refused" q0) [.List [.UnaryOp .USub (.Constant (.int 5) j0 p0) p1,.Attribute (.Name "broken" p2) "rule" p3,.Attribute (.Name "broken" p4) "place" p5] p6] [] q1)) p7] hpos]) (SP X0 pins0 D) E0' s₃) E0' s₂) E0' s2:=by
 obtain⟨a,T1,C1,dx,H2,rfl,os,bare,un,hok,fa,fT,na,nT,⟨b1,b2,b3,b4,oe,vs,oT,ts,t1,t2,t3,t4,⟨a0,t5⟩,t6,t7,t8,t9,t10⟩,hc1,d,ri,pj,hdx,ed,hD⟩:=h;cases hc1;subst hdx;obtain⟨nm,qq,bs,sn,sub,ab,col,dd,k0,k1,k2,k3,k5,lk⟩:=T.cls;have J:zK X pins σ H2 s2:=I.call' os un hok bare (λb z=>by cases z)
 have old:∀ b,s1.heap.get? b=none->X.s_0.heap.get? b=none:=λb q=>by
  cases r:X.s_0.heap.get? b with
 |none=>rfl
 |some u=>
   obtain⟨o',q'⟩:=I.base.there b u r (by rw[hex];intro z;cases z);rw[q] at q';cases q'
 have npin:∀ b,s1.heap.get? b=none->∀ p∈X.pn++pins,p.1≠b:=λb q p hp z=>by
  have:=(I.pin p hp).1;rw[z,q] at this;cases this
 have hin:∀ env∈X.stack,∀ b,env.frame=some b->b∈a::T1::yo X.stack:=λenv he b hb=>.tail _ (.tail _ (VG.mpr ⟨env,he,hb⟩))
 have hh:∀ b∈a::T1::yo X.stack,b∉yo X.stack->X.s_0.heap.get? b=none/\H2 b=none/\∀ p∈X.pn++pins,p.1≠b:=λb hb hn=>by
  rcases Wc.mp hb with q|q
  .rw[q];exact⟨old a fa,na,npin a fa⟩
  .rcases Wc.mp q with q|q
   .rw[q];exact⟨old T1 fT,nT,npin T1 fT⟩
   .exact absurd q hn
 have fl:Heap.FlyingW (PySem.W.hideAll s2.heap (a::T1::yo X.stack)) X.stack a (.ref C) a0 s2.heap:=⟨λb o q=>XZ _ q,VX _ (.head _),Up b4 hin,oe,vs,T1,oT,ts,t1,⟨t2,t5⟩,t4,t6,VX _ (.tail _ (.head _)),t7,t8,t9,t10⟩
 have bk:∀ h3:Heap,(PySem.W.hideAll s2.heap (a::T1::yo X.stack)).StaysIn h3->h3.FunFrames (PySem.W.hideAll s2.heap (a::T1::yo X.stack)) X.stack->s2.heap.UpToSlots h3->zK X pins σ H2 {s2 with heap:=h3}:=λh3 st3 ff ups=>
  zLZ (hid:=a::T1::yo X.stack) J hst hfr hex (λb u q n=>st3 b u (Xo _ q n)) ups hh (λb hb=>let ⟨_,o,ho,_⟩:=ff.mem hb;⟨o,ho⟩)
 have hframes:X.A.frames=some (X.env::X.outer):=by rw[<-hst];exact J.ok.frames
 generalize PySem.W.hideAll s2.heap (a::T1::yo X.stack)=B at fl bk;rw[hst] at fl;refine W8 ((zJI (a:=a) (d:=some d) (.ref a) X.env).any ⟨oe,t1,t3⟩ (wpAny_looks_onW (Q:=λ_ s3=>Heap.HeldW B (X.env::X.outer) a (.ref C) a0 X.env.locals s3.heap/\s2.heap.UpToSlots s3.heap/\s3={s2 with heap:=s3.heap}) hframes hfr fl λh3 hl ups=>⟨hl,ups,rfl⟩)) (λ_ s3 q3=>?_) (λ_ _ z=>z);obtain⟨⟨held3,ups3,es3⟩,di3⟩:=q3;refine W8 ((zEC (a:=a) (d:=some d) (.ref a) none).any di3 (wpAny_landsW (Q:=λ_ s4=>Heap.FlyingW B (X.env::X.outer) a (.ref C) a0 s4.heap/\s3.heap.UpToSlots s4.heap/\s4={s3 with heap:=s4.heap}) held3 λh4 hl ups=>⟨hl,ups,rfl⟩)) (λ_ s4 q4=>?_) (λ_ _ z=>z);obtain⟨⟨fl4,ups4,es4⟩,di4⟩:=q4
 have J4:zK X pins σ H2 s4:=by
  have:=bk s4.heap fl4.1 (by rw[hst];exact fl4.2.2.1) (ups3.trans ups4);rw[es3] at es4;rw[es4];exact this
 refine wpAny_handleBy_cons (codeAny_handlers_test ?_) (by intro q;cases q);have JM:zK {X with A:=X.A.mark (some (.ref a)),calm:=false,pn:=X.pn,xe:=λ_ _=>False} pins σ H2 s4:=zDF J4 rfl (λz=>by cases z) J4.pin;refine W8 (zA5 (E:=λ_ _=>False) (Q:=λc s5=>c=.ref C/\s5=s4) JM hg T.mgC ⟨rfl,rfl⟩ (by decide)) (λc s5 q5=>?_) (λ_ _ z=>z.elim);obtain⟨rfl,rfl⟩:=q5;obtain⟨oe5,g1,g2⟩:=fl4.there;obtain⟨hh5,gg5,dg5,tt5,oo5⟩:=s5;refine wpAny_excMatches_sub_self (J4.kIn _ _ lk) g1 g2 (by decide) ?_;refine codeAny_handlers_suite_as ?_;refine W8 ((zEC (a:=a) (d:=some d) (.ref a) none).any di4 (lands_againW (E:=λ_ _=>False) (Q:=λ_ s6=>Heap.FlyingW B (X.env::X.outer) a (.ref C) a0 s6.heap/\hh5.UpToSlots s6.heap/\s6={(⟨hh5,gg5,dg5,tt5,oo5⟩:Shared) with heap:=s6.heap}) fl4 λh6 hl ups=>⟨hl,ups,rfl⟩)) (λ_ s6 q6=>?_) (λ_ _ z=>z.elim);obtain⟨⟨fl6,ups6,es6⟩,⟨oe6,m1,m2⟩⟩:=q6
 have J6:zK X pins σ H2 s6:=by
  have q:=bk s6.heap fl6.1 (by rw[hst];exact fl6.2.2.1) ((ups3.trans ups4).trans ups6);rw[es3] at es4;rw[es4] at es6;rw[es6];exact q
 obtain⟨_,_,ff6,oe7,vs7,T7,oT7,ts7,w1,⟨w2,w3⟩,w4,_⟩:=fl6;rw[m1] at w1;cases w1
 have afr:a∉yo X.stack:=λhm=>by
  rw[hst] at hm;obtain⟨_,o,ho,hn⟩:=ff6.mem hm;rw[m1] at ho;cases ho;exact hn _ w4
 have efs:yo X.stack=X.env.locals::X.fs:=by
  rw[hst];show List.filterMap _ _=_;rw[V1,hfr];rfl
 rw[efs] at afr;have anl:a≠X.env.locals:=λz=>afr (by rw[z];exact .head _)
 have anf:a∉X.fs:=λz=>afr (.tail _ z)
 refine zDw (E:=_) (v:=.ref a) J6 hnd hi (Or.inl hloc) rfl (λs7 J7 sb=>?_) (.inr hloc)
 have e7:s7.heap.get? a=some oe6:=by
  obtain⟨x,sb,hx⟩:=sb;refine (sb.2 a λz=>?_).trans m1;rcases hx with r|r
  .exact anl (z.trans r)
  .have hk:X.env.kindOf "broken" = some .local:=hloc;obtain⟨v,o,eo,co⟩:=J6.cell _ _ r;rw[<-z,m1] at eo;cases eo;rw[w4] at co;cases co
 have hi':i<σ.length:=by rw[J6.len];exact (yQ hi).1
 refine W8 (zMl (E:=λ_ _=>False) (A':=X.A.mark (some (.ref a))) (D:=D) T hi hloc J7 rfl (by rw[VA hi']) e7 w2 m2 ⟨_,w4⟩ na anl anf ed hD FR (hrQ.mark _) hgR hmR hkR hbR) (λf s8 q8=>?_) (λ_ _ z=>z.elim);obtain⟨u,v,H8,σ8,rfl,rv,hr8,J8⟩:=q8;obtain⟨m,hn8,_⟩:=id J8.loc;have hp:(X.env.scope.kind==.class||(X.env.scope.kind==.module&&X.env.locals != X.env.globals))=false:=by rw[J8.ok.kind];rfl
 exact wpAny_nameGoes hloc hn8 hp λh9 m9 n9 sb9=>⟨v,_,H8,hX0 _ _ _ (zKF J8 hex n9 sb9),rv,hr8⟩
theorem zOI(T:zCK X.K X.mg C N fI)(hst:X.stack=X.env::X.outer)(hfr:X.env.frame=some X.env.locals)(hex:X.ex=[])(hnd:X.N.Nodup)(hi:X.N[i]?=some "broken")(hloc:X.env.scope.names.lookup ("broken" : Str)=some .local)(hg:Gl X "NoCartoon")(FR:FnQ X.prog X.w X.K X.mg X.base CX0 3 fR fdR ["numbers"] sp)(hrQ:Zn 3 X.A)(hgR:Gl X "refused")(hmR:X.mg "refused" = some (.ref fR))(hkR:PySem.W.keepIn X.K (.ref fR)=true)(hbR:ZK X.K fdR ["numbers"] [])
  (hb:∀ E' xe' pn',Ys (CXN X.prog X.w X.base) {X with xe:=xe',pn:=pn'} E'->PS {X with xe:=xe',pn:=pn'} st (tb E')) :
  PS X (.Try [st] [.ExceptHandler (some (.Name "NoCartoon" np)) (some "broken") [.Return (some (.Call (.Name "refused" q0) [.List [.UnaryOp .USub (.Constant (.int 5) j0 p0) p1,.Attribute (.Name "broken" p2) "rule" p3,.Attribute (.Name "broken" p4) "place" p5] p6] [] q1)) p7] hpos] [] [] pos) (zQ7 C sp tb):=by
 intro pins s σ H D I h
 have back:∀ (xe':Qs) (pins2:Qp) (σ':L2.St) (H':Hp) (s':Shared),zK {X with xe:=xe',pn:=X.pn++pins} pins2 σ' H' s'->zK X pins σ' H' s':=λxe' pins2 σ' H' s' J=>
  zDF (X:={X with xe:=xe',pn:=X.pn++pins}) (A':=X.A) (c':=X.calm) (pn':=X.pn) (xe':=X.xe) J rfl I.ok.hd λp hp=>J.pin p (XJ _ hp)
 refine wpAny_Try_except ?_;generalize hx:(λ(e:Value) (s₁:Shared)=>wpAny (model X.prog X.w) X.A (noteFrame e X.env) (λ_ s₂=>wpAny (model X.prog X.w) X.A (setFlight e none) (λ_ s₃=>wpAny (model X.prog X.w) X.A (handleBy e X.env [.ExceptHandler (some (.Name "NoCartoon" np)) (some "broken") [.Return (some (.Call (.Name "refused" q0) [.List [.UnaryOp .USub (.Constant (.int 5) j0 p0) p1,.Attribute (.Name "broken" p2) "rule" p3,.Attribute (.Name "broken" p4) "place" p5] p6] [] q1)) p7] hpos]) (SP X pins D) X.xe s₃) X.xe s₂) X.xe s₁)=xeT
 have P:Ys (CXN X.prog X.w X.base) {X with xe:=xeT,pn:=X.pn++pins} (hE C sp D):=λpins2 σ2 H1 s1 e s2 I1 h1=>by
  show xeT e s2;rw[<-hx];exact zPv (X:={X with xe:=xeT,pn:=X.pn++pins}) (X0:=X) (pins0:=pins) T hst hfr hex hnd hi hloc hg FR hrQ hgR hmR hkR hbR I1 h1 (λσ' H' s' J=>back _ _ σ' H' s' J)
 have I':zK {X with xe:=xeT,pn:=X.pn++pins} [] σ H s:=zDF (A':=X.A) (c':=X.calm) I rfl I.ok.hd (by rw[VD];exact I.pin);refine W8 (zE (hb _ xeT (X.pn++pins) P) [] s σ H D I' h) (λf s1 hf=>?_) (λe s1 he=>he);cases f with
|next=>obtain⟨σ',H',J,q⟩:=hf;exact XN ⟨σ',H',back _ _ _ _ _ J,q⟩
|brk=>obtain⟨σ',H',J,q⟩:=hf;exact⟨σ',H',back _ _ _ _ _ J,q⟩
|cont=>obtain⟨σ',H',J,q⟩:=hf;exact⟨σ',H',back _ _ _ _ _ J,q⟩
|ret u=>obtain⟨v,σ',H',J,r,q⟩:=hf;exact⟨v,σ',H',back _ _ _ _ _ J,r,q⟩
end
end Kq
namespace Ky
open PySem PySem.Spec PyProof.Rows L2
def leI:List Int->List Int->Bool
|p::ps,q::qs=>if p=q then leI ps qs else decide (p<=q)
|_,_=>true
section
open PySem.SeqAt
open PySem.AutoSeq1 (wpAny_loadPart')
open PySem.MeetsSeq PySem.MeetsSeq2 PySem.MeetsSeq3
theorem zMm(l b:Addr)(xs ys:Array Value)(n n2:Nat)(dd dd2:Option Addr)(sl sl2:Array (Option Value))(ps qs:List Int)(hi:IntsAre xs.toList ps)(hj:IntsAre ys.toList qs)(hlen:ps.length=qs.length) :
  Meets (Builtin.«tuple.__le__» ⟨[.ref l,.ref b],[]⟩)
   (λ_ R s=>s.heap.get? l=some {cls:=.type "tuple",dict:=dd,data:=.seq xs n,slots:=sl}/\s.heap.get? b=some {cls:=.type "tuple",dict:=dd2,data:=.seq ys n2,slots:=sl2}/\R (.ok (.ret (.bool (leI ps qs)))) s):=
 .of_wp λprog w A R s h=>by
  obtain⟨hp,gg,dt,tk,os⟩:=s;obtain⟨hl,hb,h⟩:=h;have f2:=AutoSeq1.sub_tuple_tuple
  have zz:xs.size=ys.size:=by
   have e1:xs.size=ps.length:=by rw[<-hi.length];simp
   have e2:ys.size=qs.length:=by rw[<-hj.length];simp
   omega
  wp_walk using U0 hl,U0 hb,wpAny_forIn_list _ (λZw b s'=>b.1=none/\s'=⟨hp,gg,dt,tk,os⟩/\∃ (us vs:List Value) (p' q':List Int),Zw=us.zip vs/\IntsAre us p'/\IntsAre vs q'/\p'.length=q'.length/\R (.ok (.ret (.bool (leI p' q')))) ⟨hp,gg,dt,tk,os⟩) _
  case turn=>
   rintro⟨y,x⟩ Zw b s' ⟨hb',rfl,us,vs,p',q',hz,hu,hv,hl',hR⟩;cases hu with
  |nil=>rw[List.zip_nil_left] at hz;cases hz
  |cons a t hu'=>
    cases hv with
   |nil=>cases hl'
   |cons c u hv'=>
     rw[X5] at hz;injection hz with hyx hrest
     injection hyx with hy hx
     subst hy hx;have hl2:=Nat.succ.inj hl';obtain⟨e,he,hiff⟩:=HT.eqAt_int A.in1 ⟨hp,gg,dt,tk,os⟩ a t c u;refine Wh (he prog w _ _ ?_);unfold leI at hR;cases e with
    |true=>
      rw[Wb (hiff.mp rfl)] at hR
      wp_walk
      exact⟨rfl,rfl,_,_,_,_,hrest,hu',hv',hl2,hR⟩
    |false=>
      rw[Wa (λq=>absurd (hiff.mpr q) Wv)] at hR
      have hri:∀ (E:Qs) (Q:Qs),Q (.bool (decide (a<=c))) ⟨hp,gg,dt,tk,os⟩->wpAny (model prog w) A.in1 (richCompare .LtE (.int a t) (.int c u)) Q E ⟨hp,gg,dt,tk,os⟩:=
       λE Q hq=>(PyProof.Rows.le_int hq:wpAny (model prog w) A.in1 (compareOp .LtE (.int a t) (.int c u)) Q E _)
      wp_walk using hri
      exact⟨_,rfl,by simpa using hR⟩
  case fin=>
   rintro⟨b1,b2⟩ s' ⟨hb',rfl,us,vs,p',q',hz,hu,hv,hl',hR⟩;simp only at hb';subst hb'
   have hT:leI p' q'=true:=by
    cases hu with
   |nil=>rfl
   |cons a t hu'=>
     cases hv with
    |nil=>rfl
    |cons c u hv'=>rw[X5] at hz;cases hz
   rw[hT] at hR
   wp_walk
   exact⟨_,rfl,by simpa[Builtin.Tuple.tupleCompareSizes,zz] using hR⟩
  case h=>exact⟨rfl,rfl,xs.toList,ys.toList,ps,qs,rfl,hi,hj,hlen,h⟩
end
section
variable {prog:Program}{w:World}{A:Around}{E:Qs}{s:Shared}
theorem zOJ{l b:Addr}{xs ys:Array Value}{ps qs:List Int}{Q:Qs}(hl:IsTup s.heap l xs)(hb:IsTup s.heap b ys)(hi:IntsAre xs.toList ps)(hj:IntsAre ys.toList qs)(hn:ps.length=qs.length)
  (hu:A.units<cLine)(h:Q (.bool (leI ps qs)) s):wpAny (model prog w) A (compareOp .LtE (.ref l) (.ref b)) Q E s:=by
 obtain⟨⟨c1,d1,t1,o1⟩,k1,e1,n1,r1⟩:=id hl;obtain⟨⟨c2,d2,t2,o2⟩,k2,e2,n2,r2⟩:=id hb;simp only at e1 r1 e2 r2;subst e1 r1 e2 r2
 exact richCompare_meets_room (op:=.LtE) ⟨_,k1,rfl⟩ ⟨_,k2,rfl⟩ PySem.F.slot_tuple_le PySem.F.entry_tuple_le (PySem.F.args_tuple_le_2 _ _) (zMm l b xs ys n1 n2 d1 d2 o1 o2 ps qs hi hj hn)
  ⟨k1,k2,show Value.bool (leI ps qs)≠Value.notImplemented/\Q (.bool (leI ps qs)) s from ⟨(λz=>nomatch z),h⟩⟩ hu
end
section
variable {X:Cx}
def zR5 (K:Qf):R2:=λx y H Q=>∃ a b ps qs,x=.ref a/\y=.ref b/\yH K H a (ps.map V.int)/\yH K H b (qs.map V.int)/\ps.length=qs.length/\Q (.bl (leI ps qs)) H
theorem zPw(hu:X.A.units<cLine):Y7 X (compareOp .LtE) (zR5 X.K):=by
 intro pins s σ H x y v u Q I rx ry h;obtain⟨a,b,ps,qs,rfl,rfl,ha,hb,hn,q⟩:=h;cases rx;cases ry;obtain⟨i1,r1,p1,_⟩:=I.tuple ha;obtain⟨i2,r2,p2,_⟩:=I.tuple hb;have t1:IntsAre i1.toArray.toList ps:=zFY r1;have t2:IntsAre i2.toArray.toList qs:=zFY r2;exact zOJ p1 p2 t1 t2 hn hu ⟨.bl (leI ps qs),H,I,rfl,q⟩
end
abbrev TK:=List yF×Addr×Value
def zEj (acc more:List TK):List TK:=more.foldl (λa q=>storedH a q.1 q.2.1 q.2.2) acc
theorem zIm{acc:List TK}{k:List yF}{a:Addr}{v:Value}{q:TK}(h:q∈storedH acc k a v):q.2.1=a\/∃ q'∈acc,q'.2.1=q.2.1:=by
 unfold storedH at h;split at h
 .obtain⟨z,hz,rfl⟩:=Wg.mp h;refine .inr ⟨z,hz,?_⟩;unfold putAt;split <;> rfl
 .rcases Wp.mp h with h|h
  .exact .inr ⟨q,h,rfl⟩
  .rw[Wn.mp h];exact .inl rfl
theorem zIn{acc:List TK}{k:List yF}{a:Addr}{v:Value}:(storedH acc k a v).length<=acc.length+1:=by
 unfold storedH;split
 .rw[zc];omega
 .rw[Wr];exact Wd _
section
variable {prog:Program}{w:World}{A:Around}{E:Qs}
theorem zGy{S I:Addr}{h h':Heap}{acc:List TK}(hm:h.DictOfH (tupleKind (yN prog w)) S acc)(x:Heap.ExtBut I h h')(hS:S≠I)(ha:∀ q∈acc,q.2.1≠I):h'.DictOfH (tupleKind (yN prog w)) S acc:=by
 obtain⟨o,es,ep,h1,h2,h3,h4,h5,h6⟩:=hm;refine⟨o,es,ep,x _ _ hS h1,h2,h3,h4,λq hq=>?_,h6⟩;obtain⟨o',its,n,e1,r⟩:=h5 q hq;exact⟨o',its,n,x _ _ (ha q hq) e1,r⟩
theorem zGN{I a:Addr}{h h':Heap}{k:List yF}(hk:(tupleKind (yN prog w)).is h k a)(x:Heap.ExtBut I h h')(ha:a≠I):(tupleKind (yN prog w)).is h' k a:=by
 obtain⟨o',its,n,e1,r⟩:=hk;exact⟨o',its,n,x _ _ ha e1,r⟩
theorem zQ8{R:Result->Shared->Prop}{S I l:Addr}{items:Array Value}{res:Value}(hu:A.in1.units<cLine)(hh:A.handled=none)(n1:l≠I)(n2:S≠I)(n3:S≠l) :
  ∀ (Zw:List TK) (i:Nat) (acc:List TK) (ix:Int) (t:Tok) (s:Shared),items.size=i+Zw.length->acc.length+Zw.length<=sizeLine->
   (∀ (j:Nat) (q:TK),Zw[j]?=some q->q.2.1≠S/\q.2.1≠I/\(tupleKind (yN prog w)).is s.heap q.1 q.2.1/\∃ b:Addr,items[i+j]?=some (.ref b)/\b≠S/\b≠I/\IsTup s.heap b #[.ref q.2.1,q.2.2])->
   (∀ q∈acc,q.2.1≠S/\q.2.1≠I)->s.heap.IsListIter I l i->s.heap.IsList l items->s.heap.DictOfH (tupleKind (yN prog w)) S acc->
   (∀ h' tk,h'.DictOfH (tupleKind (yN prog w)) S (zEj acc Zw)->(∀ b o,b≠S->b≠I->s.heap.get? b=some o->h'.get? b=some o)->R (.ok (.ret res)) {s with heap:=h',toks:=tk})->
   codeAny (model prog w) A (.builtin "dict.update.loop" ⟨[.ref S,.ref I,.int ix t,res],[]⟩) R s:=by
 intro Zw
 induction Zw with
|nil=>
  intro i acc ix t s hsz hln ht ha hit hl hm hR;refine codeAny_builtin zHg ?_;rw[Around.under_plainId zCG _];show wpAny _ A.in1 (pyNext (.ref I) >>= _) _ _ s;refine Wh (wpAny_pyNext_list_end (A:=A.in1) hh hit hl (Ux (Us hsz)) λh' he=>?_);show wpAny _ A.in1 (Builtin.Dict.addKeywords S [] >>= _) _ _ _;exact Wh (WK (WK (hR h' s.toks (zGy hm he n2 λq hq=>(ha q hq).2) λb o _ hb e=>he b o hb e)))
|cons q Zw ih=>
  intro i acc ix t s hsz hln ht ha hit hl hm hR;obtain⟨k1,k2,k3,b,hb,hbS,hbI,htup⟩:=ht 0 q rfl;rw[WD] at hsz hln;refine codeAny_builtin zHg ?_;rw[Around.under_plainId zCG _];show wpAny _ A.in1 (pyNext (.ref I) >>= _) _ _ s;refine Wh (wpAny_pyNext_list_item (x:=.ref b) hit hl (by simpa using hb) λh1 it1 s1=>?_);have t1:IsTup h1 b #[.ref q.2.1,q.2.2]:=htup.extBut s1.extBut hbI;have l1:h1.IsList l items:=hl.extBut s1.extBut n1;have m1:=zGy hm s1.extBut n2 λq hq=>(ha q hq).2
  have y1:=zGN k3 s1.extBut k2;obtain⟨o,ho,hc,n,hd⟩:=id t1;show wpAny _ A.in1 (holding [Value.ref b] _ >>= _) _ _ _;refine Wh (XH (Wh (wpAny_tryCatch ?_)));unfold Builtin.Dict.pairItems;refine Wh (wpAny_typeOf (T:="tuple") ⟨o,ho,hc⟩ ?_);rw[Wb (by first|decide|rfl|simp)];refine Wh (wpAny_seqItems ho hd (WK ?_));show wpAny _ A.in1 (holding [.ref q.2.1,q.2.2] (dictSet S (.ref q.2.1) q.2.2)) _ _ _;refine XH (wpAny_dictSet_heap (knd:=tupleKind (yN prog w)) (hsz:=by omega) hu y1 m1 λh2 m2 s2=>?_);refine WK ⟨Jc zCG _,ih (i+1) (storedH acc q.1 q.2.1 q.2.2) (ix+1) 0 _ (show items.size=i+1+Zw.length by omega) ?_ (λj q' e=>?_) (λq' hq=>?_) ?_ ?_ m2 λh' tk hd' k=>?_⟩
  .have z:=zIn (acc:=acc) (k:=q.1) (a:=q.2.1) (v:=q.2.2);omega
  .obtain⟨j1,j2,j3,b',hb',hbS',hbI',htup'⟩:=ht (j+1) q' (by simpa using e);refine⟨j1,j2,zGN (zGN j3 s1.extBut j2) s2.extBut j1,b',?_,hbS',hbI',(htup'.extBut s1.extBut hbI').extBut s2.extBut hbS'⟩;rw[show i+1+j=i+(j+1) by omega];exact hb'
  .rcases zIm hq with e|⟨z,hz,e⟩
   .rw[e];exact⟨k1,k2⟩
   .rw[<-e];exact ha z hz
  .exact it1.at λo' e=>s2.extBut I o' (Ne.symm n2) e
  .exact l1.extBut s2.extBut (Ne.symm n3)
  .exact hR h' tk hd' λc oc h3 h4 e=>k c oc h3 h4 (s2.extBut c oc h3 (s1.extBut c oc h4 e))
theorem zIo{s:Shared}{l:Addr}{ol:Obj}{items:Array Value}{n:Nat}{prs:List TK}{Q:Qs}(hu:A.units+2<cLine)(hh:A.handled=none)(hl:s.heap.get? l=some ol)(hc:ol.cls=.type "list")(hd:ol.dict=none)
  (hdat:ol.data=.seq items n)(hsz:items.size=prs.length)(hln:prs.length<=sizeLine)
  (ht:∀ (j:Nat) (q:TK),prs[j]?=some q->(tupleKind (yN prog w)).is s.heap q.1 q.2.1/\∃ b:Addr,items[j]?=some (.ref b)/\IsTup s.heap b #[.ref q.2.1,q.2.2])
  (h:∀ h' tk,h'.DictOfH (tupleKind (yN prog w)) s.heap.objs.size (zEj [] prs)->(∀ b o,s.heap.get? b=some o->h'.get? b=some o)->Q (.ref s.heap.objs.size) {s with heap:=h',toks:=tk}) :
  wpAny (model prog w) A (call (.type "dict") [.ref l]) Q E s:=by
 refine callType_codes (Q₁:=λobj s₁=>obj=.ref s.heap.objs.size/\s₁={s with heap:=s.heap.push {cls:=.type "dict",data:=.dict #[]}}) PySem.F.kt_called_dict (PySem.F.kt_typeCall_dict_1 _) PySem.F.entry_dict_init (kt_code_dict_new _ ⟨rfl,rfl⟩) ?_;rintro obj s₁ ⟨rfl,rfl⟩;have d0:(s.heap.push {cls:=.type "dict",data:=.dict #[]}).DictOfH (tupleKind (yN prog w)) s.heap.objs.size []:=Heap.DictOfH.new s.heap;have dT:({s with heap:=s.heap.push {cls:=.type "dict",data:=.dict #[]}}:Shared).TypeIs (.ref s.heap.objs.size) "dict":=Heap.DictOfH.typeIs d0;have k0:∀ b o,s.heap.get? b=some o->(s.heap.push {cls:=.type "dict",data:=.dict #[]}).get? b=some o:=λb o e=>Wf _ e
 refine⟨dT,PySem.F.args_dict_init_2 _ _,?_⟩;unfold Builtin.«dict.__init__»;refine Wh ?_;unfold Builtin.Dict.selfAndRest;refine Wh (wpAny_notOrdered_dict dT ?_);show wpAny _ _ (pure (s.heap.objs.size,[Value.ref l])) _ _ _;refine WK ?_;show wpAny _ _ (Builtin.Dict.updateFrom "dict.__init__" s.heap.objs.size (.ref l) [] .none) _ _ _;unfold Builtin.Dict.updateFrom;refine Wh (wpAny_typeOf (T:="list") ⟨ol,k0 _ _ hl,hc⟩ ?_);rw[Wb (by first|decide|rfl|simp)];refine Wh (zLI (k0 _ _ hl) hc hdat hd hh λh1 tk1 hk1=>?_);rw[Wb (show (none:Option Value).isNone=true from rfl)];refine Wh (wpAny_rule ?_);have l1:h1.IsList l items:=⟨ol,hk1 _ _ (k0 _ _ hl),hc,n,hdat⟩
 have S1:s.heap.objs.size<h1.objs.size:=by
  have e:(s.heap.push {cls:=.type "dict",data:=.dict #[]}).get? s.heap.objs.size=some {cls:=.type "dict",data:=.dict #[]}:=WG _ rfl;exact Wl (hk1 _ _ e)
 refine Wh (wpAny_pyIter_list l1 ?_);have k2:∀ b o,h1.get? b=some o->(h1.push {cls:=.type "list_iterator",data:=.fields #[.ref l,.int 0 0]}).get? b=some o:=λb o e=>Wf _ e
 have k3:∀ b o,s.heap.get? b=some o->(h1.push {cls:=.type "list_iterator",data:=.fields #[.ref l,.int 0 0]}).get? b=some o:=λb o e=>k2 _ _ (hk1 _ _ (k0 _ _ e))
 have lS:l<s.heap.objs.size:=Wl hl
 have key:=zQ8 (prog:=prog) (w:=w) (A:=A.in1) (R:=wants (λr s₂=>r=.none/\Q (.ref s.heap.objs.size) s₂) E) (S:=s.heap.objs.size) (I:=h1.objs.size) (l:=l) (items:=items) (res:=Value.none) hu hh
  (WE (Vy lS S1)) (WE S1) (UP lS) prs 0 [] 0 0
  {s with heap:=h1.push {cls:=.type "list_iterator",data:=.fields #[.ref l,.int 0 0]},toks:=tk1} (by rw[hsz,WC]) (by rw[Xc,WC];exact hln)
  (λj q e=>by
   obtain⟨⟨o',its,nn,z1,z2⟩,b,e1,e2⟩:=ht j q e;have hb:b<s.heap.objs.size:=e2.lt;have hq:q.2.1<s.heap.objs.size:=Wl z1;exact⟨WE hq,WE (Vy hq S1),⟨o',its,nn,k3 _ _ z1,z2⟩,b,by rw[WC];exact e1,WE hb,WE (Vy hb S1),e2.keeps λc o z=>k3 _ _ z⟩)
  (λq hq=>nomatch hq) ⟨_,WG _ rfl,rfl,rfl⟩ (l1.at λo e=>k2 _ _ e)
  (by
   obtain⟨o,es,ep,g1,g2,g3,g4,g5,g6⟩:=d0;exact⟨o,es,ep,k2 _ _ (hk1 _ _ g1),g2,g3,g4,(λq hq=>nomatch hq),g6⟩)
  (λh' tk hd' k=>⟨rfl,h h' tk hd' λb o e=>k b o (WE (Wl e)) (WE (Vy (Wl e) S1)) (k3 _ _ e)⟩)
 first
 |exact WK ⟨Jc zCG _,key⟩
 |exact Wh (WK (WK ⟨Jc zCG _,key⟩))
end
def Yu (kvs more:List (List yF×V)):List (List yF×V):=more.foldl (λacc kv=>YE acc kv.1 kv.2) kvs
theorem zFv:∀ (more kvs:List (List yF×V)),(Yu kvs more).length<=kvs.length+more.length
|[],kvs=>Wd _
|p::r,kvs=>by
  have h1:=zFv r (YE kvs p.1 p.2);have h2:=zCu kvs p.1 p.2;rw[WD];exact WT h1 (by omega)
theorem zMn{H:Hp}{more:List (List yF×V)}{rs:List TK}(r:KT H more rs):∀ {kvs:List (List yF×V)}{vs:List TK},KT H kvs vs->KT H (Yu kvs more) (zEj vs rs):=by
 unfold KT at r
 induction r with
|nil=>intro kvs vs q;exact q
|@cons p q ps qs h t ih=>
  intro kvs vs z;obtain⟨e1,e2,e3⟩:=h;have:=KT.put z p.1 e2 e3;rw[show storedH vs p.1 q.2.1 q.2.2=storedH vs q.1 q.2.1 q.2.2 by rw[e1]] at this;exact ih this
section
variable {X:Cx}
theorem zLa{pins:Qp}{σ:L2.St}{H:Hp}{s:Shared}(I:zK X pins σ H s):∀ {ps:List Addr}{kvs:List (List yF×V)},Paired (λp kv=>∃ t,yH X.K H p [.ref t,kv.2]/\H t=some (.tup (kv.1.map kV))) ps kvs->
  ∃ prs:List TK,KT H kvs prs/\prs.length=ps.length/\∀ (j:Nat) (q:TK),prs[j]?=some q->(tupleKind (yN X.prog X.w)).is s.heap q.1 q.2.1/\∃ b:Addr,ps[j]?=some b/\IsTup s.heap b #[.ref q.2.1,q.2.2]
|_,_,.nil=>⟨[],.nil,rfl,λj q e=>by simp at e⟩
|_,_,.cons (a:=p) (b:=kv) ⟨t,h,eb⟩ r=>by
  obtain⟨prs,rr,hl,hp⟩:=zLa I r;obtain⟨its,rv,ht,_⟩:=I.tuple h;obtain⟨u,y,ei,ru,ry⟩:=zJu rv;subst ei;cases ru;refine⟨(kv.1,t,y)::prs,.cons ⟨rfl,eb,ry⟩ rr,by rw[WD,WD,hl],λj q e=>?_⟩;cases j with
 |zero=>
   have e':(kv.1,t,y)=q:=WN e;subst e';exact⟨zD4 I.hok eb,p,rfl,ht⟩
 |succ j=>
   obtain⟨e0,b,e1,e2⟩:=hp j q (by simpa using e);exact⟨e0,b,by simpa using e1,e2⟩
theorem zKG(hu:X.A.units+2<cLine)(hcalm:X.calm=true):zAp X (.type "dict") (λxs H Q=>∃ (a:Addr) (ps:List Addr) (kvs:List (List yF×V)),xs=[.ref a]/\zM X.K H a (ps.map V.ref)/\Paired (λp kv=>∃ t,yH X.K H p [.ref t,kv.2]/\H t=some (.tup (kv.1.map kV))) ps kvs/\
  ∀ p,H p=none->Q (.ref p) (upd H p (.dT (Yu [] kvs)))):=by
 intro pins s σ H xs us Q I r q;obtain⟨a,ps,kvs,ex,hq,hp,q⟩:=q;subst ex;obtain⟨u,eu,rx⟩:=zHH r;subst eu;cases rx;obtain⟨its,rv,pl,hz⟩:=I.list hq;have ei:=zI3 rv;subst ei;rw[zc] at hz;obtain⟨prs,rel,hl,hpr⟩:=zLa I hp;obtain⟨o,n,ho,hc,hd,hdat⟩:=pl;refine zIo (prs:=prs) hu (I.ok.hd hcalm) ho hc hd hdat (by simp[hl]) (by rw[hl];exact hz) (λj q' e=>?_) λh' tk hd' k=>?_
 .obtain⟨e0,b,e1,e2⟩:=hpr j q' e;exact⟨e0,b,by simp[e1],e2⟩
 .have hm:(s.heap.objs.size==sysModules)=false:=Vd.mpr (UP I.big);have hn:=I.hok.fresh (Wd s.heap.objs.size)
  have hlen:(Yu [] kvs).length<=sizeLine:=by
   refine WT (zFv kvs []) ?_;rw[Xc,WC,Ui rel,hl];exact hz
  obtain⟨q',es,ep,g1,g2,g3,g4,_,g5⟩:=hd'
  have rel2:KT (upd H s.heap.objs.size (.dT (Yu [] kvs))) (Yu [] kvs) (zEj [] prs):=(zMn rel .nil).keeps λc ys ec=>by
   rw[zG (zN ec hn)];exact ec
  exact⟨.ref s.heap.objs.size,upd H s.heap.objs.size (.dT (Yu [] kvs)),I.laid (t':=tk) k (Wd _) (show yj X.prog X.w _ _ _ (.dT (Yu [] kvs)) from ⟨hlen,hm,_,rel2,q',es,ep,g1,g2,g3,g4,g5⟩),rfl,q _ hn⟩
end
section
variable {prog:Program}{w:World}{A:Around}{E:Qs}{s:Shared}
theorem zKH(d:Addr)(hd:(d==sysModules)=false):MeetsIn prog w (Builtin.«dict.__len__» ⟨[.ref d],[]⟩) (λ_ R s=>∃ o es ep,s.heap.get? d=some o/\o.data=.dict es ep/\R (.ok (.ret (.int es.size s.toks))) {s with toks:=s.toks+1}):=
 .of_wp λA R s ⟨o,es,ep,ho,hdat,h⟩=>by
  show wpAny _ _ (dictSize d >>= _) _ _ s;unfold dictSize;refine Wh (Wh (wpAny_dictEntries ho hdat (WK (show wpAny _ _ (Builtin.Dict.pendingCount d >>= _) _ _ s from Wh (wpAny_pendingCount_other hd (wpAny_ret_mkInt ?_))))));rw[XV];exact h
theorem zLb{d:Addr}{o:Obj}{es:Array DictEntry}{ep:Nat}{Q:Qs}(hd:(d==sysModules)=false)(ho:s.heap.get? d=some o)(hc:o.ExactDict)(hdat:o.data=.dict es ep)(hfit:(es.size:Int)<2^63)
  (h:Q (.int es.size (s.toks+1)) {s with toks:=s.toks+1+1}):wpAny (model prog w) A (call (.builtin "len") [.ref d]) Q E s:=by
 have hT:s.TypeIs (.ref d) "dict":=⟨o,ho,hc.1⟩
 refine Calls.call_function_entry kind_len plain_len entry_len (args_len1 _) ?_
 unfold Builtin.«len»;refine Wh (m:=oneArg "len" _) (WK (Wh (m:=callSpecial? (.ref d) (Str.ofString "__len__")) (wpAny_callSpecial?_slot (name:=Str.ofString "__len__") hT F.slot_dict_len
  (call_meetsIn F.slot_dict_len hT F.entry_dict_len (F.args_dict_len_1 _) (zKH d hd) ⟨o,es,ep,ho,hdat,?_⟩))))
 show wpAny _ _ _ _ _ {s with toks:=s.toks+1};refine Wh (XH (WK (Wh (wpAny_letGo ?_))));show wpAny _ _ (if ((es.size:Nat):Int)<0 then _ else _) _ _ _;rw[Wa (by omega)];show wpAny _ _ (if ((es.size:Nat):Int)>=2^63 then _ else _) _ _ _;rw[Wa (by omega)];exact Wh (wpAny_mkInt (WK ⟨_,rfl,h⟩))
end
section
variable {X:Cx}
theorem zLc:zAp X (.builtin "len") (λxs H Q=>∃ a kvs,xs=[V.ref a]/\H a=some (.dT kvs)/\Q (.int kvs.length) H):=by
 intro pins s σ H xs us Q I r h;obtain⟨a,kvs,rfl,ha,q⟩:=h;obtain⟨u,rfl,ru⟩:=zHH r;cases ru;obtain⟨z,hd,vs,rel,o,es,ep,h1,h2,h3,h4,_⟩:=zHK I.hok (.inl ha)
 have hl:es.size=kvs.length:=by
  have:es.toList.length=vs.length:=by rw[h4,zc]
  rw[Ui rel,<-this];simp
 refine zLb hd h1 h2 h3 (by rw[hl];rw[UC] at z;omega) ?_;rw[hl];exact⟨.int kvs.length,H,I.tok _,⟨_,rfl⟩,q⟩
end
end Ky
namespace Kn
open PySem PySem.Spec PyProof.Rows L2
def top (i:Nat):Stmt:=PySem.Challenge.pw_kilnloads_s05_check.main.body.getD i (.Pass ⟨0,0,0,0⟩)
abbrev zCv:Stmt:=top 1
abbrev zCw:Stmt:=zAH (top 5) 0
abbrev zEE:Stmt:=top 6
abbrev zAM:Stmt:=top 8
abbrev zAt:Stmt:=top 9
abbrev zDd:Stmt:=top 10
abbrev zH1:Stmt:=top 11
abbrev zCj:Stmt:=top 12
abbrev zBX:Stmt:=top 13
abbrev zBs:Stmt:=top 14
abbrev zCL:Stmt:=zAH (top 17) 0
abbrev Z5:Stmt:=top 18
abbrev zAC:Stmt:=top 19
abbrev zDe:Stmt:=top 20
abbrev zBY:Stmt:=top 21
abbrev zCM:Stmt:=zAH (top 23) 0
abbrev zH2:Stmt:=top 24
abbrev zGO:Stmt:=top 25
abbrev zEF:Stmt:=top 26
abbrev zCx:Stmt:=top 27
abbrev y6:Stmt:=zAH (top 35) 0
abbrev zCy:Stmt:=zAH (top 36) 0
abbrev zBB:Stmt:=zAH (top 37) 0
abbrev zCz:Stmt:=top 38
abbrev zBt:Stmt:=top 39
abbrev zCN:Stmt:=top 40
abbrev zCO:Stmt:=top 41
abbrev zCP:Stmt:=top 42
abbrev zCQ:Stmt:=top 43
abbrev zC0:Stmt:=top 44
abbrev zCR:Stmt:=top 45
abbrev zDf:Stmt:=top 46
abbrev zEG:Stmt:=top 47
abbrev zEH:Stmt:=top 48
abbrev zAl:Stmt:=top 49
abbrev zBC:Stmt:=top 50
abbrev zBu:Stmt:=top 51
abbrev zAu:Stmt:=zAH (top 56) 0
abbrev zC1:Stmt:=top 57
abbrev zB2:Stmt:=top 58
abbrev zBD:Stmt:=top 59
abbrev zCS:Stmt:=top 60
abbrev zBv:Stmt:=top 61
abbrev zAv:Stmt:=top 62
abbrev zAa:Stmt:=top 65
abbrev zDg:Stmt:=top 66
abbrev zC2:Stmt:=top 67
abbrev zAb:Stmt:=top 68
abbrev Yz:Stmt:=top 69
abbrev zCT:Stmt:=top 70
abbrev zAN:Stmt:=top 71
abbrev Y4:Stmt:=top 72
abbrev zAJ:Stmt:=top 73
abbrev zCU:Stmt:=top 74
abbrev zCV:Stmt:=top 75
abbrev zBE:Stmt:=top 76
abbrev zAw:Stmt:=top 77
abbrev zC3:Stmt:=zAH (top 79) 0
abbrev zBF:Stmt:=top 80
abbrev zDh:Stmt:=top 81
abbrev zBG:Stmt:=top 82
abbrev zAO:Stmt:=top 83
abbrev zAc:Stmt:=top 84
abbrev zDi:Stmt:=top 85
abbrev zAx:Stmt:=top 86
abbrev zBH:Stmt:=top 87
abbrev zAP:Stmt:=top 88
abbrev zBw:Stmt:=top 89
abbrev zBI:Stmt:=top 90
abbrev zDj:Stmt:=top 91
abbrev zC4:Stmt:=zAH (top 93) 0
abbrev zEI:Stmt:=top 94
abbrev zEJ:Stmt:=top 95
abbrev zGP:Stmt:=top 97
def ZC (K:Qf)(C:Addr)(qual:Str)(st:Stmt)(ps:List Str):Prop:=∃ f fd,Mk K C f/\Fun K "__init__" qual st f fd/\ZK K fd ps []
theorem YK{K:Qf}{h:Heap}{C:Addr}{qual:Str}{st:Stmt}{ps:List Str}{f:Addr}{oc:Value}{od an:Option Addr}{osl:Array (Option Value)}{kV doc pm cdv ct:Value}
  (X:K.In h)(mk:PySem.W.makesIn K C=true)(a:PySem.W.findIn K (.ref C) "__init__" = some (some (.ref f)))(i:PySem.W.isFn K (.ref f)=true)(kc:PySem.W.keepIn K (.ref C)=true)
  (l:K.lookup f=some ⟨oc,od,.func (PySem.W.fnOf "__init__" qual (YF st) (ZN st) (zI st) .none kV doc pm an cdv ct),osl⟩)
  (c:PySem.W.codeIn K cdv qual=true)(k:PySem.W.keepIn K (.ref f)=true)
  (b:∀ (kV doc pm:Value) (an:Option Addr) (cdv ct:Value) (us:List Value),us.length=ps.length->bindArgs (PySem.W.fnOf "__init__" qual (YF st) (ZN st) (zI st) .none kV doc pm an cdv ct) ⟨us,[]⟩=pure (ps.zip us)):ZC K C qual st ps:=
 ⟨f,_,⟨mk,a,i,kc⟩,zBi l c k,(zBi l c k).binds b⟩
def zAD (P:Program)(w:World)(K:Qf)(mg:Qm)(base:Heap)(k:Nat)(C:Addr)(ps:List Str)(sp:Sp):Prop:=
 ∃ f fd,Mk K C f/\Yy P w K mg base CX0 k f fd ps sp/\ZK K fd ps []
theorem ZC.ok{P:Program}{w:World}{K:Qf}{mg:Qm}{base:Heap}{C:Addr}{qual:Str}{st:Stmt}{N ps:List Str}{k:Nat}{sp:Sp}(D:ZC K C qual st ps)(S:zO N ps (zI st))(len:∀ vs H Q E,sp vs H Q E->vs.length=ps.length)
  (hbody:∀ (f:Addr) (cdv:Value) (A:Around) (outer:List Env) (s:Shared) (H:Hp) (vs:List V) (Q:VK) (E:XK),zt k (A.deeper (envOfC qual (zI st) s.heap.objs.size f cdv))->sp vs H Q E->
   ∃ t,PSs (ZT CX0 P w K mg base N qual (zI st) f cdv A outer s H E).nox (ZN st) t/\t {nx:=λ_ H'=>Q .non H',rt:=Q} (Yi N vs) H):zAD P w K mg base (k+1) C ps sp:=by
 obtain⟨f,fd,M,F,b⟩:=D;exact⟨f,fd,M,F.ok S len (λcdv A outer s H vs Q E=>hbody f cdv A outer s H vs Q E),b⟩
theorem zBn{X:Cx}{C:Addr}{k:Nat}{x:Str}{ps:List Str}{sp:Sp}{p pos:Pos}{e:Expr}{es:List Expr}{t:TA}(O:zAD X.prog X.w X.K X.mg X.base k C ps sp)(hr:zt (k+1) X.A)(hm:X.mg x=some (.ref C))(ha:PA X (e::es) t)
  (hg:Gl X x:=by rfl)(hdb:(x==("__debug__" : Str))=false:=by decide)(he:starEach (e::es) X.env=(false,eval e X.env)::starEach es X.env:=by rfl)(hpl:(backTo pos (starEach es X.env)).any (·.1)=false:=by rfl) :
  PE X (.Call (.Name x p) (e::es) [] pos) (zJx C sp [] E0 t):=by
 obtain⟨f,fd,M,F,b⟩:=O;exact zNr M F hr hg hm b .nil zHL ha hdb he hpl
def zH3 (f1 f2:Str)(v1 v2:V):List (Str×V):=yr f2 v2 (yr f1 v1 [])
def zAU (C:Addr)(f1 f2:Str):Sp:=λvs H Q _=>∃ (p dx:Addr) (v1 v2:V),vs=[.ref p,v1,v2]/\H p=some (.ins C dx [])/\
 ∀ H':Hp,H' p=some (.ins C dx (zH3 f1 f2 v1 v2))->(∀ b o,H b=some o->b≠p->H' b=some o)->Q .non H'
theorem zEK{f1 f2:Str}{v1 v2:V}(h2:f1≠f2):(zH3 f1 f2 v1 v2).lookup f1=some v1:=by
 unfold zH3;rw[yR,Wa h2,yR,Wb rfl]
theorem zFw{f1 f2:Str}{v1 v2:V}:(zH3 f1 f2 v1 v2).lookup f2=some v2:=by
 unfold zH3;rw[yR,Wb rfl]
theorem yS{f:Str}{v:V}{fs:List (Str×V)}{n:Nat}(h:fs.length<n):(yr f v fs).length<n+1:=by
 have:=zCo f v fs;omega
section
variable {P:Program}{w:World}{K:Qf}{mg:Qm}{base:Heap}
def zBJ:Sp:=λvs H Q _=>∃ n lo hi:Int,vs=[.int n,.int lo,.int hi]/\Q (.bl (YI n lo hi)) H
theorem zLd:zO ["number","least","greatest"] ["number","least","greatest"] (zI zCv):=yG (by decide +kernel)
theorem zLe(D:zW K mg "is_within" zCv ["number","least","greatest"]):Ok P w K mg base 1 "is_within" ["number","least","greatest"] zBJ:=by
 refine D.ok zLd (λvs H Q E h=>?_) (λf cdv A outer s H vs Q E hr h=>?_)
 .obtain⟨n,lo,hi,rfl,_⟩:=h;rfl
 .obtain⟨n,lo,hi,rfl,k⟩:=h;refine⟨_,zE (zS (Yr (yO zHF (pv 1) (pv 0) (zY _)) (Yq (yO zHF (pv 0) (pv 2) (zY _))))),?_⟩;refine⟨_,rfl,_,rfl,_,_,rfl,rfl,_,rfl,?_⟩;refine zp (λh1=>⟨_,rfl,_,rfl,_,_,rfl,rfl,?_⟩) (λh1=>?_)
  .exact ZB k (by unfold YI;rw[h1];rfl)
  .exact ZB k (by unfold YI;rw[h1];rfl)
theorem zAi{α:Type}{f:α->Bool}{l:List α}{i:Nat}{x:α}(h:(l.take i).all f=true)(e:l[i]?=some x)(hx:f x=true):(l.take (i+1)).all f=true:=by
 rw[yB e,List.all_append,h,Xq,Xp,hx];rfl
theorem zBK{α:Type}{f:α->Bool}{l:List α}{i:Nat}{x:α}(e:l[i]?=some x)(hx:f x=false):l.all f=false:=by
 rw[Bool.eq_false_iff];intro h;have:=WI.mp h x (ZZ e);rw[hx] at this;cases this
end
abbrev P2:=Int×Int
def XY (K:Qf)(H:Hp)(a:Addr)(p:P2):Prop:=∃ C dx fs,H a=some (.ins C dx fs)/\Y8 K C/\zl K C "x"/\zl K C "y"/\fs.lookup ("x" : Str)=some (.int p.1)/\fs.lookup ("y" : Str)=some (.int p.2)
theorem XY.same{K:Qf}{H H':Hp}{a:Addr}{p:P2}(h:XY K H a p)(s:zH H H'):XY K H' a p:=let ⟨C,dx,fs,e,r⟩:=h;⟨C,dx,fs,s _ _ e,r⟩
def Sm (n:Int)(p:P2):Prop:=0<=p.1/\p.1<=n/\0<=p.2/\p.2<=n
def YL (p q r:P2):Int:=(q.1-p.1)*(r.2-q.2)-(q.2-p.2)*(r.1-q.1)
def zC5 (i j:Int):Int:=if j<i then j else i
def zC6 (i j:Int):Int:=if j>i then j else i
def onI (r p q:P2):Bool:=YI r.2 (zC5 p.2 q.2) (zC6 p.2 q.2)&&(YI r.1 (zC5 p.1 q.1) (zC6 p.1 q.1)&&decide (YL p q r=0))
def zFx (p q r s:P2):Bool:=decide (YL p q r*YL p q s<0)&&decide (YL r s p*YL r s q<0)
def Yw (p q:P2):Bool:=decide (q.2<p.2)||(decide (p.2=q.2)&&decide (q.1<p.1))
section
variable {P:Program}{w:World}{K:Qf}{mg:Qm}{base:Heap}
def zEL (K:Qf):Sp:=λvs H Q _=>∃ (a b c:Addr) (p q r:P2),vs=[.ref a,.ref b,.ref c]/\XY K H a p/\XY K H b q/\XY K H c r/\Sm 4294967296 p/\Sm 4294967296 q/\Sm 4294967296 r/\Q (.int (YL p q r)) H
theorem zOK:zO ["p","q","r"] ["p","q","r"] (zI zH2):=yG (by decide +kernel)
theorem zOL(D:zW K mg "turn" zH2 ["p","q","r"]):Ok P w K mg base 1 "turn" ["p","q","r"] (zEL K):=by
 refine D.ok zOK (λvs H Q E h=>?_) (λf cdv A outer s H vs Q E hr h=>?_)
 .obtain⟨a,b,c,p,q,r,rfl,_⟩:=h;rfl
 .obtain⟨a,b,c,p,q,r,rfl,⟨C1,d1,f1,a1,a2,a3,a4,a5,a6⟩,⟨C2,d2,f2,b1,b2,b3,b4,b5,b6⟩,⟨C3,d3,f3,c1,c2,c3,c4,c5,c6⟩,s1,s2,s3,k⟩:=h;obtain⟨s11,s12,s13,s14⟩:=s1;obtain⟨s21,s22,s23,s24⟩:=s2;obtain⟨s31,s32,s33,s34⟩:=s3;refine⟨_,zE (zS (zi ZL (zi YH (zi ZL (zQ (pv 1) rfl) (zQ (pv 0) rfl)) (zi ZL (zQ (pv 2) rfl) (zQ (pv 1) rfl))) (zi YH (zi ZL (zQ (pv 1) rfl) (zQ (pv 0) rfl)) (zi ZL (zQ (pv 2) rfl) (zQ (pv 1) rfl))))),?_⟩
  refine⟨_,rfl,b,C2,d2,_,_,rfl,b1,b2,b3,b5,_,rfl,a,C1,d1,_,_,rfl,a1,a2,a3,a5,_,_,rfl,rfl,_,rfl,c,C3,d3,_,_,rfl,c1,c2,c4,c6,_,rfl,b,C2,d2,_,_,rfl,b1,b2,b4,b6,_,_,rfl,rfl,_,_,rfl,rfl,.inl ⟨by omega,by omega⟩,
   _,rfl,b,C2,d2,_,_,rfl,b1,b2,b4,b6,_,rfl,a,C1,d1,_,_,rfl,a1,a2,a4,a6,_,_,rfl,rfl,_,rfl,c,C3,d3,_,_,rfl,c1,c2,c3,c5,_,rfl,b,C2,d2,_,_,rfl,b1,b2,b3,b5,_,_,rfl,rfl,_,_,rfl,rfl,.inl ⟨by omega,by omega⟩,_,_,rfl,rfl,k⟩
def zMo (K:Qf):Sp:=λvs H Q _=>∃ (a b c:Addr) (r p q:P2),vs=[.ref a,.ref b,.ref c]/\XY K H a r/\XY K H b p/\XY K H c q/\Sm 4294967296 r/\Sm 4294967296 p/\Sm 4294967296 q/\Q (.bl (onI r p q)) H
theorem zQ9:zO ["r","p","q"] ["r","p","q"] (zI zGO):=yG (by decide +kernel)
theorem zRA(D:zW K mg "is_on" zGO ["r","p","q"])(OW:Ok P w K mg base 1 "is_within" ["number","least","greatest"] zBJ)(OT:Ok P w K mg base 1 "turn" ["p","q","r"] (zEL K))(mi:mg "min" = none)(ma:mg "max" = none):Ok P w K mg base 2 "is_on" ["r","p","q"] (zMo K):=by
 refine D.ok zQ9 (λvs H Q E h=>?_) (λf cdv A outer s H vs Q E hr h=>?_)
 .obtain⟨a,b,c,p,q,r,rfl,_⟩:=h;rfl
 .obtain⟨a,b,c,r,p,q,rfl,X1,X2,X3,s1,s2,s3,k⟩:=h;obtain⟨C1,d1,f1,a1,a2,a3,a4,a5,a6⟩:=id X1;obtain⟨C2,d2,f2,b1,b2,b3,b4,b5,b6⟩:=id X2;obtain⟨C3,d3,f3,c1,c2,c3,c4,c5,c6⟩:=id X3
  refine⟨_,zD (zm (Zi (yT (zT OW hr (zA (zQ (pv 0) rfl) (zA (ZU (zGi rfl) rfl mi XC (zA (zQ (pv 1) rfl) (zA (zQ (pv 2) rfl) zC))) (zA (ZU (zGh rfl) rfl ma Xh (zA (zQ (pv 1) rfl) (zA (zQ (pv 2) rfl) zC))) zC)))))) (zE (zS yk)) zZ)
   (zE (zS (Yr (zT OW hr (zA (zQ (pv 0) rfl) (zA (ZU (zGi rfl) rfl mi XC (zA (zQ (pv 1) rfl) (zA (zQ (pv 2) rfl) zC))) (zA (ZU (zGh rfl) rfl ma Xh (zA (zQ (pv 1) rfl) (zA (zQ (pv 2) rfl) zC))) zC))))
    (Yq (yO zAX (zT OT hr (zA (pv 1) (zA (pv 2) (zA (pv 0) zC)))) zJ (zY _)))))),?_⟩
  refine⟨_,rfl,a,C1,d1,_,_,rfl,a1,a2,a4,a6,_,rfl,b,C2,d2,_,_,rfl,b1,b2,b4,b6,_,rfl,c,C3,d3,_,_,rfl,c1,c2,c4,c6,_,_,rfl,_,rfl,b,C2,d2,_,_,rfl,b1,b2,b4,b6,_,rfl,c,C3,d3,_,_,rfl,c1,c2,c4,c6,_,_,rfl,_,_,_,rfl,_,rfl,zp (λh1=>?_) (λh1=>?_)⟩
  .refine ZB k ?_;rw[Wq] at h1;unfold onI;rw[show YI r.2 (zC5 p.2 q.2) (zC6 p.2 q.2)=false from h1];rfl
  .rw[Wu] at h1;have h1':YI r.2 (zC5 p.2 q.2) (zC6 p.2 q.2)=true:=h1
   try dsimp only[ZQ,Yh,Ze,YV,YO,YQ]
   show zBS _ _ _ _ _
   refine Z2 (c:=YI r.1 (zC5 p.1 q.1) (zC6 p.1 q.1)) (d:=decide (YL p q r=0)) (λR h=>⟨_,rfl,a,C1,d1,_,_,rfl,a1,a2,a3,a5,_,rfl,b,C2,d2,_,_,rfl,b1,b2,b3,b5,_,rfl,c,C3,d3,_,_,rfl,c1,c2,c3,c5,_,_,rfl,_,rfl,b,C2,d2,_,_,rfl,b1,b2,b3,b5,_,rfl,c,C3,d3,_,_,rfl,c1,c2,c3,c5,_,_,rfl,_,_,_,rfl,h⟩)
    (λ_ R h=>⟨_,rfl,_,rfl,_,rfl,b,c,a,p,q,r,rfl,X2,X3,X1,s2,s3,s1,rfl,?_⟩) ?_
   .refine ZB h ?_;rw[Wk];constructor
    .intro z;rw[z]
    .intro z;exact V.int.inj z
   .refine ZB k ?_;unfold onI;rw[h1',Xq]
theorem zFy{p q r:P2}(h1:Sm 1048576 p)(h2:Sm 1048576 q)(h3:Sm 1048576 r) : -2^64<YL p q r/\YL p q r<2^64:=by
 obtain⟨a1,a2,a3,a4⟩:=h1;obtain⟨b1,b2,b3,b4⟩:=h2;obtain⟨c1,c2,c3,c4⟩:=h3
 have key:∀ x y:Int,-1048576<=x->x<=1048576->-1048576<=y->y<=1048576->-1099511627776<=x*y/\x*y<=1099511627776:=by
  intro x y h1 h2 h3 h4;have k1:0<=(x+1048576)*(1048576-y):=Vm (by omega) (by omega);have k2:0<=(1048576-x)*(y+1048576):=Vm (by omega) (by omega);have k3:0<=(x+1048576)*(y+1048576):=Vm (by omega) (by omega);have k4:0<=(1048576-x)*(1048576-y):=Vm (by omega) (by omega);have e1:(x+1048576)*(1048576-y)=1048576*x-x*y+1048576*1048576-1048576*y:=by grind
  have e2:(1048576-x)*(y+1048576)=1048576*y-x*y+1048576*1048576-1048576*x:=by grind
  have e3:(x+1048576)*(y+1048576)=x*y+1048576*x+1048576*y+1048576*1048576:=by grind
  have e4:(1048576-x)*(1048576-y)=x*y-1048576*x-1048576*y+1048576*1048576:=by grind
  omega
 have m1:=key (q.1-p.1) (r.2-q.2) (by omega) (by omega) (by omega) (by omega);have m2:=key (q.2-p.2) (r.1-q.1) (by omega) (by omega) (by omega) (by omega);unfold YL;omega
theorem Sm.mono{m n:Int}{p:P2}(h:Sm m p)(hm:m<=n):Sm n p:=⟨h.1,Int.le_trans h.2.1 hm,h.2.2.1,Int.le_trans h.2.2.2 hm⟩
def zJM (K:Qf):Sp:=λvs H Q _=>∃ (a b c d:Addr) (p q r s:P2),vs=[.ref a,.ref b,.ref c,.ref d]/\XY K H a p/\XY K H b q/\XY K H c r/\XY K H d s/\Sm 1048576 p/\Sm 1048576 q/\Sm 1048576 r/\Sm 1048576 s/\Q (.bl (zFx p q r s)) H
theorem zMp:zO ["p","q","r","s"] ["p","q","r","s"] (zI zEF):=yG (by decide +kernel)
theorem zMq(D:zW K mg "crosses" zEF ["p","q","r","s"])(OT:Ok P w K mg base 1 "turn" ["p","q","r"] (zEL K)):Ok P w K mg base 2 "crosses" ["p","q","r","s"] (zJM K):=by
 refine D.ok zMp (λvs H Q E h=>?_) (λf cdv A outer s H vs Q E hr h=>?_)
 .obtain⟨a,b,c,d,p,q,r,s,rfl,_⟩:=h;rfl
 .obtain⟨a,b,c,d,p,q,r,s,rfl,X1,X2,X3,X4,s1,s2,s3,s4,k⟩:=h;have t1:=s1.mono (n:=4294967296) (by decide);have t2:=s2.mono (n:=4294967296) (by decide);have t3:=s3.mono (n:=4294967296) (by decide);have t4:=s4.mono (n:=4294967296) (by decide)
  refine⟨_,zE (zS (Yr (yO Zf (zi YH (zT OT hr (zA (pv 0) (zA (pv 1) (zA (pv 2) zC)))) (zT OT hr (zA (pv 0) (zA (pv 1) (zA (pv 3) zC))))) zJ (zY _))
   (Yq (yO Zf (zi YH (zT OT hr (zA (pv 2) (zA (pv 3) (zA (pv 0) zC)))) (zT OT hr (zA (pv 2) (zA (pv 3) (zA (pv 1) zC))))) zJ (zY _))))),?_⟩
  try dsimp only[ZQ,Yh,Ze,YV,YO,YQ]
  show zBS _ _ _ _ _
  exact Z2 (λR h=>⟨_,rfl,_,rfl,_,rfl,a,b,c,p,q,r,rfl,X1,X2,X3,t1,t2,t3,_,rfl,_,rfl,_,rfl,a,b,d,p,q,s,rfl,X1,X2,X4,t1,t2,t4,_,_,rfl,rfl,.inl (zFy s1 s2 s3),_,_,rfl,rfl,h⟩)
   (λ_ R h=>⟨_,rfl,_,rfl,_,rfl,c,d,a,r,s,p,rfl,X3,X4,X1,t3,t4,t1,_,rfl,_,rfl,_,rfl,c,d,b,r,s,q,rfl,X3,X4,X2,t3,t4,t2,_,_,rfl,rfl,.inl (zFy s3 s4 s1),_,_,rfl,rfl,h⟩) k
def zEM (K:Qf):Sp:=λvs H Q _=>∃ (a b:Addr) (p q:P2),vs=[.ref a,.ref b]/\XY K H a p/\XY K H b q/\Q (.bl (Yw p q)) H
theorem zKI:zO ["point","other"] ["point","other"] (zI zCx):=yG (by decide +kernel)
theorem zJN{ta tb:TE}{σ:L2.St}{H:Hp}{Q:VK}{c d:Bool}(ht:∀ R:VK,R (.bl c) H->ta σ H R)(hu:c=false->∀ R:VK,R (.bl d) H->tb σ H R)(h:Q (.bl (c||d)) H):zJq ta tb σ H Q:=by
 refine ht _ ⟨_,rfl,zp (λhc=>?_) λhc=>hu hc _ ?_⟩
 .rw[hc,UV] at h;exact h
 .rw[hc,Xg] at h;exact h
theorem deq{i j:Int}:decide (V.int i=V.int j)=decide (i=j):=by
 rw[Wk];exact⟨λz=>V.int.inj z,λz=>by rw[z]⟩
theorem zKJ(D:zW K mg "is_behind" zCx ["point","other"]):Ok P w K mg base 1 "is_behind" ["point","other"] (zEM K):=by
 refine D.ok zKI (λvs H Q E h=>?_) (λf cdv A outer s H vs Q E hr h=>?_)
 .obtain⟨a,b,p,q,rfl,_⟩:=h;rfl
 .obtain⟨a,b,p,q,rfl,⟨C1,d1,f1,a1,a2,a3,a4,a5,a6⟩,⟨C2,d2,f2,b1,b2,b3,b4,b5,b6⟩,k⟩:=h;refine⟨_,zE (zS (zNE (yO Zx (zQ (pv 0) rfl) (zQ (pv 1) rfl) (zY _)) (Yq (Yr (yO zAX (zQ (pv 0) rfl) (zQ (pv 1) rfl) (zY _)) (Yq (yO Zx (zQ (pv 0) rfl) (zQ (pv 1) rfl) (zY _))))))),?_⟩
  try dsimp only[ZQ,Yh,Ze,YV,YO,YQ]
  show zJq _ _ _ _ _;refine zJN (λR h=>⟨_,rfl,a,C1,d1,_,_,rfl,a1,a2,a4,a6,_,rfl,b,C2,d2,_,_,rfl,b1,b2,b4,b6,_,_,rfl,rfl,h⟩) (λ_ R h=>?_) k;show zBS _ _ _ _ _;exact Z2 (λR h=>⟨_,rfl,a,C1,d1,_,_,rfl,a1,a2,a4,a6,_,rfl,b,C2,d2,_,_,rfl,b1,b2,b4,b6,rfl,ZB h deq.symm⟩) (λ_ R h=>⟨_,rfl,a,C1,d1,_,_,rfl,a1,a2,a3,a5,_,rfl,b,C2,d2,_,_,rfl,b1,b2,b3,b5,_,_,rfl,rfl,h⟩) h
end
theorem zOM{K:Qf}{a:Addr}{xs:List V}{g:TG}{tb:TS}{D:Yx}{σ:L2.St}{H:Hp}(Pv:Nat->L2.St->Hp->Prop)(h0:Pv 0 σ H)(hl:∀ i σ H,i<=xs.length->Pv i σ H->zM K H a xs)
  (hs:∀ i x σ H,i<xs.length->xs[xs.length-1-i]?=some x->Pv i σ H->g x σ H λσ2 H2=>tb {D with nx:=Pv (i+1),ct:=Pv (i+1),bk:=D.nx} σ2 H2)(hd:∀ σ H,Pv xs.length σ H->D.nx σ H) :
  ∃ W:Nat->Nat->L2.St->Hp->Prop,(∃ m,W 0 m σ H)/\∀ i m σ H,W i m σ H->
   ((Itv K a xs.length).stop i H/\D.nx σ H)\/((Itv K a xs.length).go i H/\∃ N:L2.St->Hp->Prop,(∀ σ' H',N σ' H'->∃ m',m'<m/\W (i+1) m' σ' H')/\∀ x H',(Itv K a xs.length).yld i H x H'->g x σ H' λσ2 H2=>tb {D with nx:=N,ct:=N,bk:=D.nx} σ2 H2):=by
 refine⟨λi m σ H=>m=xs.length-i/\i<=xs.length/\Pv i σ H,⟨xs.length,by simp,WH _,h0⟩,?_⟩;rintro i m σ H ⟨rfl,hi,p⟩;have q:=hl i σ H hi p;by_cases hlt:i<xs.length
 .refine .inr ⟨⟨hlt,xs,xs[xs.length-1-i],q,yW (by omega)⟩,Pv (i+1),λσ' H' p'=>⟨xs.length-(i+1),by omega,rfl,hlt,p'⟩,λv H' y=>?_⟩;obtain⟨e,y⟩:=y;subst e;exact hs i v σ _ hlt (y xs q) p
 .have e:i=xs.length:=by omega
  subst e;exact .inl ⟨Wd _,hd σ H p⟩
def zFD:List Int->Int
|[]=>0
|c::r=>c+256*zFD r
def numAt(d:List Int)(p w:Nat):Int:=zFD ((d.drop p).take w)
theorem zLf{l:List Int}{i:Nat}(hi:i<l.length)(h:∃ x,l[l.length-1-i]?=some x):∀ x,l[l.length-1-i]?=some x->zFD (l.drop (l.length-1-i))=zFD (l.drop (l.length-i))*256+x:=by
 intro x hx;obtain⟨h1,h2⟩:=yQ hx;rw[Ud h1,h2,show l.length-1-i+1=l.length-i by omega];show x+256*_=_;omega
theorem zJO{l:List Int}{p w:Nat}:zCE (l.map V.int) (some (p:Int)) (some ((p:Int)+(w:Int)))=((l.drop p).take w).map V.int:=by
 unfold zCE;rw[show (p:Int)+(w:Int)=((p+w:Nat):Int) from (U5 p w).symm,HT.sIx_nat,HT.sIx_nat,zc,<-Uj,<-Xe]
 congr 1
 by_cases h:p<=l.length
 .rw[XQ h];by_cases h2:p+w<=l.length
  .rw[XQ h2,show p+w-p=w by omega]
  .rw[XE (by omega),Ws (by rw[VS];omega),Ws (by rw[VS];omega)]
 .rw[XE (by omega),XE (by omega),List.drop_of_length_le (Wd _),List.drop_of_length_le (by omega)];simp
section
variable {P:Program}{w:World}{K:Qf}{mg:Qm}{base:Heap}
def zB3 (K:Qf):Sp:=λvs H Q _=>∃ (a:Addr) (d:List Int) (p w:Nat),vs=[.ref a,.int (p:Int),.int (w:Int)]/\zM K H a (d.map V.int)/\∀ H':Hp,zH H H'->Q (.int (numAt d p w)) H'
theorem zFz:zO ["data","place","size","number","byte"] ["data","place","size"] (zI zCz):=yG (by decide +kernel)
theorem zPx(D:zW K mg "number_at" zCz ["data","place","size"])(mr:mg "reversed" = none):Ok P w K mg base 1 "number_at" ["data","place","size"] (zB3 K):=by
 refine D.ok zFz (λvs H Q E h=>?_) (λf cdv A outer s H vs Q E hr h=>?_)
 .obtain⟨a,d,p,w,rfl,_⟩:=h;rfl
 .obtain⟨a,d,p,w,rfl,hS,k⟩:=h
  refine⟨_,zD (zb (i:=3) zFz.nd rfl (Or.inl rfl) zJ) (zD (yI Wz rfl (zIj rfl mr (zA (zDT zEY (pv 0) (zA7 (pv 1)) (zA7 (zi yP (pv 1) (pv 2)))) zC)) (zV (i:=4) zFz.nd rfl (Or.inl rfl))
   (zE (zb (i:=3) zFz.nd rfl (Or.inl rfl) (zi yP (zi YH (pv 3) zJ) (pv 4))))) (zE (zS (pv 3)))),?_⟩
  refine⟨_,rfl,_,rfl,_,rfl,_,rfl,_,rfl,_,_,rfl,rfl,_,rfl,a,_,rfl,hS,λq hq=>?_⟩;rw[zJO];have s0:zH H (upd H q (.lst (((d.drop p).take w).map V.int))):=zR (zH.refl H) hq;refine⟨q,_,rfl,zM.of zF,?_⟩;generalize hl:(d.drop p).take w=l;rw[hl] at s0;refine zOM (K:=K) (a:=q) (xs:=l.map V.int) (λi σ H'=>∃ v:Option V,σ=[some (.ref a),some (.int (p:Int)),some (.int (w:Int)),some (.int (zFD (l.drop (l.length-i)))),v]/\H'=upd H q (.lst (l.map V.int))) ⟨none,?_,rfl⟩ (λi σ H' _ hh=>hh.elim λ_ hh=>by rw[hh.2];exact zM.of zF) ?_ ?_
  .rw[Nat.sub_zero,List.drop_length];rfl
  .rintro i y σ H' hi hx ⟨v,rfl,rfl⟩;rw[zc] at hi hx;obtain⟨x,hx',rfl⟩:=yz hx;refine⟨_,rfl,_,_,rfl,rfl,.inr ⟨by decide,by decide⟩,_,rfl,_,_,rfl,rfl,?_⟩;refine⟨some (.int x),?_,rfl⟩;rw[show l.length-(i+1)=l.length-1-i by omega,zLf hi ⟨x,hx'⟩ x hx'];rfl
  .rintro σ H' ⟨v,rfl,rfl⟩;rw[zc,XU,List.drop_zero];refine⟨_,rfl,?_⟩;have:=k _ s0;unfold numAt at this;rw[hl] at this;exact this
end
def Yf (P:Program)(w:World)(K:Qf)(mg:Qm)(base:Heap)(k:Nat)(x:Str)(ps:List Str)(sp:Sp):Prop:=
 ∃ f fd,Yy P w K mg base (Kx.CXN P w base) k f fd ps sp/\mg x=some (.ref f)/\PySem.W.keepIn K (.ref f)=true/\ZK K fd ps []
theorem zW.okN{P:Program}{w:World}{K:Qf}{mg:Qm}{base:Heap}{x:Str}{st:Stmt}{N ps:List Str}{k:Nat}{sp:Sp}(D:zW K mg x st ps)(S:zO N ps (zI st))(len:∀ vs H Q E,sp vs H Q E->vs.length=ps.length)
  (hbody:∀ (f:Addr) (cdv:Value) (A:Around) (outer:List Env) (s:Shared) (H:Hp) (vs:List V) (Q:VK) (E:XK),zt k (A.deeper (envOfC x (zI st) s.heap.objs.size f cdv))->sp vs H Q E->
   ∃ t,PSs (ZT (Kx.CXN P w base) P w K mg base N x (zI st) f cdv A outer s H E) (ZN st) t/\t {nx:=λ_ H'=>Q .non H',rt:=Q} (Yi N vs) H):Yf P w K mg base (k+1) x ps sp:=by
 obtain⟨f,fd,D⟩:=D;obtain⟨oc,od,kV,doc,pm,an,cdv,ct,osl,efd,lk,hcd⟩:=D.fn.ex;subst efd;exact⟨f,_,zNF lk hcd S len (λA outer s H vs Q E hr h=>hbody f cdv A outer s H vs Q E hr h),D.at_,D.fn.kp,D.bi⟩
section
variable {P:Program}{w:World}{K:Qf}{mg:Qm}{base:Heap}{N:List Str}{qual:Str}{scope:Scope}{f:Addr}{cd:Value}{A:Around}{outer:List Env}{s:Shared}{H:Hp}{E:XK}{k:Nat}{x:Str}{ps:List Str}{sp:Sp}{p pos cpos:Pos}{e:Expr}{es:List Expr}{t:TA}{C:Addr}
theorem zAE(O:Yf P w K mg base k x ps sp)(hr:zt k (A.deeper (envOfC qual scope s.heap.objs.size f cd)))(ha:PA (ZT (Kx.CXN P w base) P w K mg base N qual scope f cd A outer s H E) (e::es) t)(hg:Gl (ZT (Kx.CXN P w base) P w K mg base N qual scope f cd A outer s H E) x:=by rfl)(hdb:(x==("__debug__" : Str))=false:=by decide)
  (he:starEach (e::es) (envOfC qual scope s.heap.objs.size f cd)=(false,eval e (envOfC qual scope s.heap.objs.size f cd))::starEach es (envOfC qual scope s.heap.objs.size f cd):=by rfl)(hpl:(backTo pos (starEach es (envOfC qual scope s.heap.objs.size f cd))).any (·.1)=false:=by rfl) :
  PE (ZT (Kx.CXN P w base) P w K mg base N qual scope f cd A outer s H E) (.Call (.Name x p) (e::es) [] pos) (zHI sp [] E t):=by
 obtain⟨g,fd,F,m,kp,b⟩:=O;exact zGA F hr hg m kp b .nil Kx.zQ2 ha hdb he hpl
def XR (P:Program)(w:World)(K:Qf)(mg:Qm)(base:Heap)(C:Addr):Prop:=
 ∃ Nn fI fd,Kx.zCK K mg C Nn fI/\(∃ oI,K.lookup fI=some oI/\oI.cls=.type "function")/\Yy P w K mg base CX0 1 fI fd ["self","rule","place"] (Kx.zDE C)/\ZK K fd ["self","rule","place"] []
theorem YA(R:XR P w K mg base C)(hr:zt 2 (A.deeper (envOfC qual scope s.heap.objs.size f cd)))(ha:PA (ZT (Kx.CXN P w base) P w K mg base N qual scope f cd A outer s H E) (e::es) t)(hg:Gl (ZT (Kx.CXN P w base) P w K mg base N qual scope f cd A outer s H E) "NoCartoon":=by rfl)
  (he:starEach (e::es) (envOfC qual scope s.heap.objs.size f cd)=(false,eval e (envOfC qual scope s.heap.objs.size f cd))::starEach es (envOfC qual scope s.heap.objs.size f cd):=by rfl)(hpl:(backTo cpos (starEach es (envOfC qual scope s.heap.objs.size f cd))).any (·.1)=false:=by rfl) :
  PS (ZT (Kx.CXN P w base) P w K mg base N qual scope f cd A outer s H E) (.Raise (some (.Call (.Name "NoCartoon" p) (e::es) [] cpos)) none pos) (Kx.zJK C E H t):=by
 obtain⟨Nn,fI,fd,T,hfi,F,b⟩:=R;exact Kx.zLY T hfi F hr hg b ha he hpl
end
def Rz (C:Addr)(E:XK)(H:Hp)(r p:Int):Prop:=∀ (H':Hp) (dx:Addr),zH H H'->H' dx=some (.xd (yr "place" (.int p) [("rule",.int r)]))->E (.ref C) (some dx) H'
theorem Rz.same{C:Addr}{E:XK}{H H1:Hp}{r p:Int}(z:Rz C E H r p)(s:zH H H1):Rz C E H1 r p:=λH' dx s' e=>z H' dx (s.trans s') e
theorem zCk{H H1:Hp}(s:zH H H1):∀ b,H1 b=none->H b=none:=λb n=>by
 cases q:H b with
|none=>rfl
|some o=>rw[s b o q] at n;cases n
theorem Ya{C:Addr}{E:XK}{H H1:Hp}{r p:Int}(z:Rz C E H r p)(s:zH H H1):∀ a t dx,H1 a=none->H1 dx=none->dx≠a->Kx.zFu C E H (.ref a) (Kx.xHp H1 a t dx C (.int r) (.int p)):=
 Kx.zOE (zCk s) λH' dx s' e=>z H' dx (s.trans s') e
section
variable {P:Program}{w:World}{K:Qf}{mg:Qm}{base:Heap}{C Nn fI:Addr}{fd:FuncData}
theorem zMr:zO ["self","rule","place"] ["self","rule","place"] (zI y6):=yG (by decide +kernel)
theorem zMs(F:Fun K "__init__" "NoCartoon.__init__" y6 fI fd)(T:Kx.zCK K mg C Nn fI):Yy P w K mg base CX0 1 fI fd ["self","rule","place"] (Kx.zDE C):=by
 refine F.ok zMr (λvs H Q E h=>?_) (λcdv A outer s H vs Q E hr h=>?_)
 .obtain⟨a,t,v1,v2,rfl,_⟩:=h;rfl
 .obtain⟨a,t,v1,v2,rfl,ha,k⟩:=h;refine⟨_,zD (Kx.zQ3 T (.inl rfl) (pv 0) (pv 1) rfl) (zE (Kx.zQ4 T (.inr rfl) (pv 0) (pv 2) rfl)),?_⟩;refine⟨_,rfl,_,rfl,a,t,rfl,ha,λdx hd=>?_⟩;have ne:dx≠a:=λz=>by rw[z,ha] at hd;cases hd
  exact⟨_,rfl,_,rfl,a,t,dx,_,rfl,zF,by rw[zG ne,zF],by show 1<1000;decide,k dx hd⟩
end
def zPy (K:Qf)(mg:Qm)(x:Str)(xs:List V):Prop:=∃ a,mg x=some (.ref a)/\∀ H:Hp,yH K H a xs
theorem zNH{X:Cx}{x:Str}{xs:List V}{a:Addr}{pos:Pos}(hm:X.mg x=some (.ref a))(hg:Gl X x:=by rfl)(hd:(x==("__debug__" : Str))=false:=by decide):PE X (.Name x pos) (tC (.ref a)):=zIt hg hm rfl hd
section
variable {P:Program}{w:World}{K:Qf}{mg:Qm}{base:Heap}
def zAm:Sp:=λvs H Q _=>∃ n:Int,vs=[.int n]/\Q (.int (20+8*n)) H
theorem zKK:zO ["number"] ["number"] (zI zBt):=yG (by decide +kernel)
theorem zKL(D:zW K mg "point_place" zBt ["number"])(g1:yt mg "HEAD_SIZE" 20)(g2:yt mg "POINT_SIZE" 8):Ok P w K mg base 1 "point_place" ["number"] zAm:=by
 refine D.ok zKK (λvs H Q E h=>?_) (λf cdv A outer s H vs Q E hr h=>?_)
 .obtain⟨n,rfl,_⟩:=h;rfl
 .obtain⟨n,rfl,k⟩:=h;refine⟨_,zE (zS (zi yP (ZA g1) (zi YH (ZA g2) (pv 0)))),?_⟩;exact⟨_,rfl,_,_,rfl,rfl,.inl ⟨by decide,by decide⟩,_,_,rfl,rfl,k⟩
def zFE (d:List Int):Int:=20+8*numAt d 12 2
def zFF (d:List Int):Int:=zFE d+4*numAt d 14 2
def zEN (d:List Int):Int:=zFF d+12*numAt d 16 2
def zAy (K:Qf)(g:List Int->Int):Sp:=λvs H Q _=>∃ (a:Addr) (d:List Int),vs=[.ref a]/\zM K H a (d.map V.int)/\∀ H':Hp,zH H H'->Q (.int (g d)) H'
theorem zH4:zO ["data"] ["data"] (zI zCP):=yG (by decide +kernel)
theorem zH5(D:zW K mg "lines_from" zCP ["data"])(ON:Ok P w K mg base 1 "number_at" ["data","place","size"] (zB3 K))(g1:yt mg "HEAD_SIZE" 20)(g2:yt mg "POINT_SIZE" 8):Ok P w K mg base 2 "lines_from" ["data"] (zAy K zFE):=by
 refine D.ok zH4 (λvs H Q E h=>?_) (λf cdv A outer s H vs Q E hr h=>?_)
 .obtain⟨a,d,rfl,_⟩:=h;rfl
 .obtain⟨a,d,rfl,hS,k⟩:=h;refine⟨_,zE (zS (zi yP (ZA g1) (zi YH (ZA g2) (zT ON hr (zA (pv 0) (zA zJ (zA zJ zC))))))),?_⟩;exact⟨_,rfl,a,d,12,2,rfl,hS,λH' s'=>⟨_,_,rfl,rfl,.inl ⟨by decide,by decide⟩,_,_,rfl,rfl,k H' s'⟩⟩
theorem zH6:zO ["data"] ["data"] (zI zCQ):=yG (by decide +kernel)
theorem zH7(D:zW K mg "marks_from" zCQ ["data"])(OL:Ok P w K mg base 2 "lines_from" ["data"] (zAy K zFE))(ON:Ok P w K mg base 1 "number_at" ["data","place","size"] (zB3 K))(g2:yt mg "LINE_SIZE" 4):Ok P w K mg base 3 "marks_from" ["data"] (zAy K zFF):=by
 refine D.ok zH6 (λvs H Q E h=>?_) (λf cdv A outer s H vs Q E hr h=>?_)
 .obtain⟨a,d,rfl,_⟩:=h;rfl
 .obtain⟨a,d,rfl,hS,k⟩:=h;refine⟨_,zE (zS (zi yP (zT OL hr (zA (pv 0) zC)) (zi YH (ZA g2) (zT ON (hr.mono (by decide)) (zA (pv 0) (zA zJ (zA zJ zC))))))),?_⟩;exact⟨_,rfl,a,d,rfl,hS,λH1 s1=>⟨_,rfl,a,d,14,2,rfl,s1.seq hS,λH2 s2=>⟨_,_,rfl,rfl,.inl ⟨by decide,by decide⟩,_,_,rfl,rfl,k H2 (s1.trans s2)⟩⟩⟩
theorem zIp:zO ["data"] ["data"] (zI zC0):=yG (by decide +kernel)
theorem zIq(D:zW K mg "marks_end" zC0 ["data"])(OL:Ok P w K mg base 3 "marks_from" ["data"] (zAy K zFF))(ON:Ok P w K mg base 1 "number_at" ["data","place","size"] (zB3 K))(g2:yt mg "MARK_SIZE" 12):Ok P w K mg base 4 "marks_end" ["data"] (zAy K zEN):=by
 refine D.ok zIp (λvs H Q E h=>?_) (λf cdv A outer s H vs Q E hr h=>?_)
 .obtain⟨a,d,rfl,_⟩:=h;rfl
 .obtain⟨a,d,rfl,hS,k⟩:=h;refine⟨_,zE (zS (zi yP (zT OL hr (zA (pv 0) zC)) (zi YH (ZA g2) (zT ON (hr.mono (by decide)) (zA (pv 0) (zA zJ (zA zJ zC))))))),?_⟩;exact⟨_,rfl,a,d,rfl,hS,λH1 s1=>⟨_,rfl,a,d,16,2,rfl,s1.seq hS,λH2 s2=>⟨_,_,rfl,rfl,.inl ⟨by decide,by decide⟩,_,_,rfl,rfl,k H2 (s1.trans s2)⟩⟩⟩
end
def HN:List (Nat×Nat×Int×Int):=[(4,4,16,1048575),(8,4,16,1048575),(12,2,4,4096),(14,2,4,8192),(16,2,1,2048),(18,2,0,0)]
def zBL (d:List Int)(e:Nat×Nat×Int×Int):Bool:=YI (numAt d e.1 e.2.1) e.2.2.1 e.2.2.2
def zBZ (d:List Int):Option (Int×Int):=
 if d.length<20 then some (1,(d.length:Int)) else if d.take 4≠[71,76,65,49] then some (1,0) else match HN.find? (λe=>!zBL d e) with
 |some e=>some (2,(e.1:Int))
 |none=>if (d.length:Int)≠zEN d then some (3,20) else none
def Res (C:Addr)(E:XK)(H:Hp)(Q:VK):Option (Int×Int)->Prop
|some z=>Rz C E H z.1 z.2
|none=>∀ H':Hp,zH H H'->Q .non H'
theorem zR6{l:List Int}(h:l.length=4):(!PyData.eqv (.tuple (l.map .int)) (.tuple [.int 71,.int 76,.int 65,.int 49]))=decide (l≠[71,76,65,49]):=by
 match l,h with
|[a,b,c,e],_=>
  simp only[List.map,PyData.eqv,PyData.eqvAll,Xr];rw[Wx];simp only[Wq,ym,ne_eq,List.cons.injEq,and_true];by_cases h1:a=71 <;> by_cases h2:b=76 <;> by_cases h3:c=65 <;> by_cases h4:e=49 <;> simp[h1,h2,h3,h4]
theorem zON{l:List Int}(h:l.length=4):SeqAt.shaped (.tuple (l.map .int))=true:=by
 match l,h with
|[a,b,c,e],_=>rfl
theorem zGQ{K:Qf}{H:Hp}:∀ l:List Int,zB1 K H (l.map V.int) (l.map PyData.int)
|[]=>.nil
|a::l=>.cons (.int a) (zGQ l)
theorem zLg{l:List Int}{w:Nat}:zCE (l.map V.int) none (some (w:Int))=(l.take w).map V.int:=by
 unfold zCE;rw[HT.sIx_none,HT.sIx_nat,List.drop_zero,Nat.sub_zero,zc,<-Xe]
 congr 1
 by_cases h:w<=l.length
 .rw[XQ h]
 .rw[XE (by omega),Ws (Wd _),Ws (by omega)]
def GHN (K:Qf)(mg:Qm):Prop:=∃ (a:Addr) (ts:List Addr),mg "HEAD_NUMBERS" = some (.ref a)/\(∀ H:Hp,yH K H a (ts.map V.ref))/\ts.length=6/\∀ (i:Nat) (t:Addr) (e:Nat×Nat×Int×Int),ts[i]?=some t->HN[i]?=some e->∀ H:Hp,yH K H t [.int (e.1:Int),.int (e.2.1:Int),.int e.2.2.1,.int e.2.2.2]
section
variable {P:Program}{w:World}{K:Qf}{mg:Qm}{base:Heap}{C:Addr}
def zLh (K:Qf)(C:Addr):Sp:=λvs H Q E=>∃ (a:Addr) (d:List Int),vs=[.ref a]/\zM K H a (d.map V.int)/\Res C E H Q (zBZ d)
theorem zDG:zO ["data","place","size","least","greatest"] ["data"] (zI zCR):=yG (by decide +kernel)
theorem zOO(D:zW K mg "judge_head" zCR ["data"])(R:XR P w K mg base C)(ON:Ok P w K mg base 1 "number_at" ["data","place","size"] (zB3 K))(OW:Ok P w K mg base 1 "is_within" ["number","least","greatest"] zBJ)(OE:Ok P w K mg base 4 "marks_end" ["data"] (zAy K zEN))
  (g1:yt mg "HEAD_SIZE" 20)(g2:zPy K mg "FIRST_BYTES" [.int 71,.int 76,.int 65,.int 49])(g3:GHN K mg)(ml:mg "len" = none)(mt:mg "tuple" = none):Yf P w K mg base 5 "judge_head" ["data"] (zLh K C):=by
 obtain⟨fa,g2a,g2b⟩:=g2;obtain⟨ha,hts,g3a,g3b,g3c,g3d⟩:=g3;refine D.okN zDG (λvs H Q E h=>?_) (λf cdv A outer s H vs Q E hr h=>?_)
 .obtain⟨a,d,rfl,_⟩:=h;rfl
 .obtain⟨a,d,rfl,hS,k⟩:=h;have hr1:zt 1 _:=hr.mono (by decide);have hr2:zt 2 _:=hr.mono (by decide)
  refine⟨_,zD (zm (zj Zf (yE ml (zA (pv 0) zC)) (ZA g1) (zY _)) (zE (YA R hr2 (zA zJ (zA (yE ml (zA (pv 0) zC)) zC)))) zZ)
   (zD (zm (zj (zPb hr.units) (zGo zHC rfl mt PyProof.Rows.boot_tuple (zA (zDT zEY (pv 0) zNt (zA7 zJ)) zC)) (zNH (xs:=[]) g2a) (zY _)) (zE (YA R hr2 (zA zJ (zA zJ zC)))) zZ)
   (zD (yI Vi rfl (zHT (zNH (xs:=[]) g3a)) (YG rfl (zw (zV (i:=1) zDG.nd rfl (Or.inl rfl)) (zw (zV (i:=2) zDG.nd rfl (Or.inl rfl)) (zw (zV (i:=3) zDG.nd rfl (Or.inl rfl)) (zw (zV (i:=4) zDG.nd rfl (Or.inl rfl)) Zl)))))
    (zE (zm (Zi (yT (zT OW hr1 (zA (zT ON hr1 (zA (pv 0) (zA (pv 1) (zA (pv 2) zC)))) (zA (pv 3) (zA (pv 4) zC)))))) (zE (YA R hr2 (zA zJ (zA (pv 1) zC)))) zZ)))
   (zE (zm (zj zEX (yE ml (zA (pv 0) zC)) (zT OE hr (zA (pv 0) zC)) (zY _)) (zE (YA R hr2 (zA zJ (zA (ZA g1) zC)))) zZ)))),?_⟩
  refine⟨_,rfl,a,_,rfl,.inl hS,_,_,rfl,rfl,_,rfl,zp (λh1=>?_) (λh1=>?_)⟩
  .have h1':d.length<20:=by
    have:=Wm h1;rw[zc] at this;omega
   refine⟨_,rfl,a,_,rfl,.inl hS,_,_,rfl,?_⟩;unfold zBZ at k;rw[Wb h1'] at k;rw[zc];exact Ya k (zH.refl H)
  .have h1':¬ d.length<20:=by
    have:=Wo h1;rw[zc] at this;omega
   refine⟨_,rfl,_,rfl,a,_,rfl,hS,λq hq=>?_⟩;rw[show (4:Int)=((4:Nat):Int) from rfl,zLg];have s1:zH H (upd H q (.lst ((d.take 4).map V.int))):=zR (zH.refl H) hq;refine⟨q,_,rfl,.inl ⟨zM.of zF,λq2 hq2=>?_⟩⟩;have s2:zH H (upd (upd H q (.lst ((d.take 4).map V.int))) q2 (.tup ((d.take 4).map V.int))):=zR s1 hq2;have l4:(d.take 4).length=4:=by rw[Wy];omega
   refine⟨_,_,.tup (yH.of zF) (zGQ _),.tup (g2b _) (zGQ [71,76,65,49]),zON l4,by decide +kernel,?_⟩;rw[show ([71,76,65,49]:List Int).map PyData.int=[.int 71,.int 76,.int 65,.int 49] from rfl,zR6 l4];refine⟨_,rfl,zp (λh2=>?_) (λh2=>?_)⟩
   .have h2':=Wm h2;unfold zBZ at k;rw[Wa h1',Wb h2'] at k;exact⟨_,_,rfl,Ya k s2⟩
   .have h2':=Wo h2;unfold zBZ at k;rw[Wa h1',Wa h2'] at k;refine⟨ha,rfl,⟨_,g3b _⟩,zF8 (K:=K) (a:=ha) (xs:=hts.map V.ref) (λi σ H'=>∃ v1 v2 v3 v4:Option V,σ=[some (.ref a),v1,v2,v3,v4]/\zH H H'/\(HN.take i).all (zBL d)=true) ⟨none,none,none,none,rfl,s2,rfl⟩ (λi σ H' _ _=>g3b _) ?_ ?_⟩
    .rintro i y σ H' hi ⟨v1,v2,v3,v4,rfl,s3,hall⟩;obtain⟨t,ht,rfl⟩:=yz hi;have hlt:i<6:=by rw[<-g3c];exact (yQ ht).1
     have hlt':i<HN.length:=hlt;have he:HN[i]?=some HN[i]:=yW hlt';generalize HN[i]=e at he;refine⟨t,_,rfl,g3d i t e ht he _,rfl,_,_,rfl,_,_,rfl,_,_,rfl,_,_,rfl,rfl,?_⟩;refine⟨_,rfl,_,rfl,_,rfl,a,d,e.1,e.2.1,rfl,s3.seq hS,λH4 s4=>⟨_,rfl,_,rfl,_,_,_,rfl,_,rfl,zp (λh3=>?_) (λh3=>?_)⟩⟩
     .rw[Wq] at h3
      have hf:HN.find? (λe=>!zBL d e)=some e:=by
       rw[List.find?_eq_some_iff_getElem];refine⟨by rw[show zBL d e=false from h3];rfl,i,hlt',(yQ he).2,λj hj=>?_⟩;have:=WI.mp hall (HN[j]'(by omega)) (by rw[U9];exact⟨j,by omega,rfl⟩);rw[this];rfl
      rw[hf] at k;exact⟨_,rfl,_,_,rfl,Ya k (s3.trans s4)⟩
     .rw[Wu] at h3;refine⟨some (.int (e.1:Int)),some (.int (e.2.1:Int)),some (.int e.2.2.1),some (.int e.2.2.2),rfl,s3.trans s4,?_⟩;rw[yB he,List.all_append,hall,Xq,Xp,List.all_nil,Xr];exact h3
    .rintro σ H' ⟨v1,v2,v3,v4,rfl,s3,hall⟩;rw[zc,g3c,show HN.take 6=HN from rfl] at hall
     have hf:HN.find? (λe=>!zBL d e)=none:=by
      rw[X8];intro e he;rw[WI.mp hall e he];decide
     rw[hf] at k;dsimp only at k;refine⟨_,rfl,a,_,rfl,.inl (s3.seq hS),_,rfl,a,d,rfl,s3.seq hS,λH4 s4=>⟨rfl,_,rfl,zp (λh3=>?_) (λh3=>?_)⟩⟩
     .rw[deq,Wq,Vu,zc] at h3;rw[Wb h3] at k;exact⟨_,_,rfl,Ya k (s3.trans s4)⟩
     .rw[deq,Wu,ym,zc] at h3;rw[Wa (λz=>z h3)] at k;exact k H4 (s3.trans s4)
end
theorem zCl{lo c:Int}{n:Nat}{g:TG}{tt:TT}{te:TE}{vs:List Nat}{σ:L2.St}{H1:Hp}{D:Addr}{Qd:Hp->Prop}(Pv:Nat->Hp->Prop)(h0:Pv 0 (upd H1 D (.lst [])))
  (hs:∀ i H,i<n->Pv i H->g (.int (lo+(i:Nat)*c)) (Zp σ vs) H λσ2 H2=>Zp σ2 vs=Zp σ vs/\tt σ2 H2 λb H3=>
   if b=true then te σ2 H3 λy H4=>∃ acc,H4 D=some (.lst acc)/\acc.length<sizeLine/\Pv (i+1) (upd H4 D (.lst (acc++[y]))) else Pv (i+1) H3) (hd:∀ H,Pv n H->Qd H) :
  ∃ W:Nat->Nat->Hp->Prop,(∃ m,W 0 m (upd H1 D (.lst [])))/\∀ i m H,W i m H->
   ((Itc lo c n).stop i H/\Qd H)\/((Itc lo c n).go i H/\∃ Nx:Hp->Prop,(∀ H',Nx H'->∃ m',m'<m/\W (i+1) m' H')/\∀ x H',(Itc lo c n).yld i H x H'->g x (Zp σ vs) H' λσ2 H2=>Zp σ2 vs=Zp σ vs/\tt σ2 H2 λb H3=>
    if b=true then te σ2 H3 λy H4=>∃ acc,H4 D=some (.lst acc)/\acc.length<sizeLine/\Nx (upd H4 D (.lst (acc++[y]))) else Nx H3):=by
 refine⟨λi m H=>m=n-i/\i<=n/\Pv i H,⟨n,by simp,WH _,h0⟩,?_⟩;rintro i m H ⟨rfl,hi,p⟩;by_cases hlt:i<n
 .refine .inr ⟨hlt,Pv (i+1),λH' p'=>⟨n-(i+1),by omega,rfl,hlt,p'⟩,λx H' y=>?_⟩;obtain⟨e,y⟩:=y;subst e y;exact hs i _ hlt p
 .have e:i=n:=by omega
  subst e;exact .inl ⟨Wd _,hd H p⟩
theorem rgC{lo n c:Nat}(hc:0<c)(hc2:c<1000)(hn:n<1000000)(hl:lo<10000000):RgC (lo:Int) ((lo:Int)+(c:Int)*(n:Int)) (c:Int) n:=by
 have hm:(c:Int)*(n:Int)=((c*n:Nat):Int):=(Xd c n).symm;have hb:c*n<1000*1000000:=Yp (Nat.mul_le_mul_right n (Vz hc2)) (Nat.mul_lt_mul_of_pos_left hn (by decide))
 have e:Builtin.Range.rangeSize (lo:Int) ((lo:Int)+(c:Int)*(n:Int)) (c:Int)=(n:Int):=by
  unfold Builtin.Range.rangeSize;rw[Wb (by omega)];by_cases h0:n=0
  .subst h0;rw[Wa (by simp)];rfl
  .have hp:0<c*n:=Nat.mul_pos hc (by omega);rw[Wb (by omega)]
   have:((lo:Int)+(c:Int)*(n:Int)-(lo:Int)-1)/(c:Int)=(n:Int)-1:=by
    have e1:(lo:Int)+(c:Int)*(n:Int)-(lo:Int)-1=((c:Int)-1)+(c:Int)*((n:Int)-1):=by grind
    rw[e1,Int.add_mul_ediv_left _ _ (by omega),Int.ediv_eq_zero_of_lt (by omega) (by omega)];omega
   rw[this];omega
 refine⟨by omega,by omega,?_,e⟩;unfold Builtin.Range.small;rw[e];rw[Wb (by omega)];simp only[Builtin.Range.rangeFitsLong,yZ,Va,ym,Vs];omega
def Zc {α:Type}(R:Hp->V->α->Prop)(H:Hp)(vs:List V)(xs:List α):Prop:=vs.length=xs.length/\∀ (j:Nat) (v:V) (x:α),vs[j]?=some v->xs[j]?=some x->R H v x
theorem Zc.nil{α:Type}{R:Hp->V->α->Prop}{H:Hp}:Zc R H [] []:=⟨rfl,λj v x h _=>by simp at h⟩
theorem Zc.mono{α:Type}{R:Hp->V->α->Prop}{H H':Hp}{vs:List V}{xs:List α}(e:Zc R H vs xs)(h:∀ v x,R H v x->R H' v x):Zc R H' vs xs:=⟨e.1,λj v x h1 h2=>h v x (e.2 j v x h1 h2)⟩
theorem Zc.snoc{α:Type}{R:Hp->V->α->Prop}{H:Hp}{vs:List V}{xs:List α}{v:V}{x:α}(e:Zc R H vs xs)(h:R H v x):Zc R H (vs++[v]) (xs++[x]):=by
 refine⟨by rw[Wr,Wr,e.1];rfl,λj v' x' h1 h2=>?_⟩;by_cases hj:j<vs.length
 .rw[W7 hj] at h1;rw[W7 (by rw[<-e.1];exact hj)] at h2;exact e.2 j v' x' h1 h2
 .have hl:j=vs.length:=by
   have:=(yQ h1).1;rw[Wr,VV] at this;omega
  subst hl;have e1:v=v':=by simpa using h1
  have e2:x=x':=by rw[e.1] at h2;simpa using h2
  subst e1 e2;exact h
theorem Zc.get{α:Type}{R:Hp->V->α->Prop}{H:Hp}{vs:List V}{xs:List α}(e:Zc R H vs xs){j:Nat}{x:α}(h:xs[j]?=some x):∃ v,vs[j]?=some v/\R H v x:=by
 have hj:j<vs.length:=by rw[e.1];exact (yQ h).1
 exact⟨vs[j],yW hj,e.2 j _ x (yW hj) h⟩
theorem Zc.get'{α:Type}{R:Hp->V->α->Prop}{H:Hp}{vs:List V}{xs:List α}(e:Zc R H vs xs){j:Nat}{v:V}(h:vs[j]?=some v):∃ x,xs[j]?=some x/\R H v x:=by
 have hj:j<xs.length:=by rw[<-e.1];exact (yQ h).1
 exact⟨xs[j],yW hj,e.2 j v _ h (yW hj)⟩
def yg (H H':Hp):Prop:=∀ b o,H b=some o->(∀ xs,o≠.lst xs)->H' b=some o
theorem yg.of{H H':Hp}(s:zH H H'):yg H H':=λb o e _=>s b o e
theorem yg.updL{H:Hp}{l:Addr}{xs ys:List V}(e:H l=some (.lst xs)):yg H (upd H l (.lst ys)):=λb o e' n=>by
 rw[zG (λz=>by rw[z,e] at e';cases e';exact n _ rfl)];exact e'
def RLn:Hp->V->P2->Prop:=λH v p=>∃ a,v=.ref a/\H a=some (.tup [.int p.1,.int p.2])
theorem RLn.mono{H H':Hp}{v:V}{p:P2}(s:yg H H')(h:RLn H v p):RLn H' v p:=let ⟨a,e,q⟩:=h;⟨a,e,s a _ q λxs z=>by cases z⟩
def Z6 (K:Qf):Hp->V->P2->Prop:=λH v p=>∃ a,v=.ref a/\XY K H a p
theorem XY.n{K:Qf}{H H':Hp}{a:Addr}{p:P2}(h:XY K H a p)(s:yg H H'):XY K H' a p:=let ⟨C,dx,fs,e,r⟩:=h;⟨C,dx,fs,s a _ e (λxs z=>by cases z),r⟩
theorem Z6.mono{K:Qf}{H H':Hp}{v:V}{p:P2}(s:yg H H')(h:Z6 K H v p):Z6 K H' v p:=let ⟨a,e,q⟩:=h;⟨a,e,q.n s⟩
def zFG (f1 f2 f3:Str)(v1 v2 v3:V):List (Str×V):=yr f3 v3 (yr f2 v2 (yr f1 v1 []))
def zEO (C:Addr)(f1 f2 f3:Str):Sp:=λvs H Q _=>∃ (p dx:Addr) (v1 v2 v3:V),vs=[.ref p,v1,v2,v3]/\H p=some (.ins C dx [])/\
 ∀ H':Hp,H' p=some (.ins C dx (zFG f1 f2 f3 v1 v2 v3))->(∀ b o,H b=some o->b≠p->H' b=some o)->Q .non H'
def zMt (f1 f2 f3 f4 f5:Str)(v1 v2 v3 v4 v5:V):List (Str×V):=yr f5 v5 (yr f4 v4 (yr f3 v3 (yr f2 v2 (yr f1 v1 []))))
def zLi (C:Addr)(f1 f2 f3 f4 f5:Str):Sp:=λvs H Q _=>∃ (p dx:Addr) (v1 v2 v3 v4 v5:V),vs=[.ref p,v1,v2,v3,v4,v5]/\H p=some (.ins C dx [])/\
 ∀ H':Hp,H' p=some (.ins C dx (zMt f1 f2 f3 f4 f5 v1 v2 v3 v4 v5))->(∀ b o,H b=some o->b≠p->H' b=some o)->Q .non H'
structure zKM(K:Qf)(mg:Qm)(C:Addr):Prop where
 cl:Y8 K C
 n0:zl K C "x"
 n1:zl K C "y"
 mgC:mg "Point" = some (.ref C)
theorem zOP{K:Qf}{h:Heap}{mg:Qm}{C:Addr}(X:K.In h)(G:h.Ns mainGlobals mg)(aC:PySem.W.nsIn K mainGlobals "Point" = some (some (.ref C)))
  (pg:PySem.W.plainGet K C Str.empty=true)(hd:PySem.W.hasDictIn K C=true)(po:PySem.W.plainOver K C=true)(sa:PySem.W.findIn K (.ref C) "__setattr__" = some (some (.builtin "object.__setattr__")))
  (n0:PySem.W.findIn K (.ref C) "x" = some none)(n1:PySem.W.findIn K (.ref C) "y" = some none):zKM K mg C:=⟨⟨pg,hd,po,sa⟩,n0,n1,Vb X G aC⟩
structure zKN(K:Qf)(mg:Qm)(C:Addr):Prop where
 cl:Y8 K C
 n0:zl K C "x"
 n1:zl K C "y"
 n2:zl K C "painting"
 mgC:mg "Mark" = some (.ref C)
theorem zOQ{K:Qf}{h:Heap}{mg:Qm}{C:Addr}(X:K.In h)(G:h.Ns mainGlobals mg)(aC:PySem.W.nsIn K mainGlobals "Mark" = some (some (.ref C)))
  (pg:PySem.W.plainGet K C Str.empty=true)(hd:PySem.W.hasDictIn K C=true)(po:PySem.W.plainOver K C=true)(sa:PySem.W.findIn K (.ref C) "__setattr__" = some (some (.builtin "object.__setattr__")))
  (n0:PySem.W.findIn K (.ref C) "x" = some none)(n1:PySem.W.findIn K (.ref C) "y" = some none)(n2:PySem.W.findIn K (.ref C) "painting" = some none):zKN K mg C:=⟨⟨pg,hd,po,sa⟩,n0,n1,n2,Vb X G aC⟩
structure zKO(K:Qf)(mg:Qm)(C:Addr):Prop where
 cl:Y8 K C
 n0:zl K C "width"
 n1:zl K C "height"
 n2:zl K C "points"
 n3:zl K C "lines"
 n4:zl K C "marks"
 mgC:mg "Cartoon" = some (.ref C)
theorem zOR{K:Qf}{h:Heap}{mg:Qm}{C:Addr}(X:K.In h)(G:h.Ns mainGlobals mg)(aC:PySem.W.nsIn K mainGlobals "Cartoon" = some (some (.ref C)))
  (pg:PySem.W.plainGet K C Str.empty=true)(hd:PySem.W.hasDictIn K C=true)(po:PySem.W.plainOver K C=true)(sa:PySem.W.findIn K (.ref C) "__setattr__" = some (some (.builtin "object.__setattr__")))
  (n0:PySem.W.findIn K (.ref C) "width" = some none)(n1:PySem.W.findIn K (.ref C) "height" = some none)(n2:PySem.W.findIn K (.ref C) "points" = some none)(n3:PySem.W.findIn K (.ref C) "lines" = some none)(n4:PySem.W.findIn K (.ref C) "marks" = some none):zKO K mg C:=
 ⟨⟨pg,hd,po,sa⟩,n0,n1,n2,n3,n4,Vb X G aC⟩
section
variable {P:Program}{w:World}{K:Qf}{mg:Qm}{base:Heap}
theorem zKP:zO ["self","x","y"] ["self","x","y"] (zI zCM):=yG (by decide +kernel)
theorem zKQ{C:Addr}(D:ZC K C "Point.__init__" zCM ["self","x","y"])(T:zKM K mg C):zAD P w K mg base 1 C ["self","x","y"] (zAU C "x" "y"):=by
 refine D.ok zKP (λvs H Q E h=>?_) (λf cdv A outer s H vs Q E hr h=>?_)
 .obtain⟨p,dx,v1,v2,rfl,_⟩:=h;rfl
 .obtain⟨p,dx,v1,v2,rfl,hp,k⟩:=h;refine⟨_,zD (ZG (pv 0) (pv 1) rfl) (zE (ZG (pv 0) (pv 2) rfl)),?_⟩;refine⟨_,rfl,_,rfl,p,C,dx,_,rfl,hp,T.cl,T.n0,(by show 0<1000;decide),?_⟩;refine⟨_,rfl,_,rfl,p,C,dx,_,rfl,zF,T.cl,T.n1,yU (yS (n:=1) (by show 0<1;decide)) (by decide),?_⟩;exact k _ zF λb o e hb=>by rw[zG hb,zG hb];exact e
theorem zKR:zO ["self","x","y","painting"] ["self","x","y","painting"] (zI zCy):=yG (by decide +kernel)
theorem zKS{C:Addr}(D:ZC K C "Mark.__init__" zCy ["self","x","y","painting"])(T:zKN K mg C):zAD P w K mg base 1 C ["self","x","y","painting"] (zEO C "x" "y" "painting"):=by
 refine D.ok zKR (λvs H Q E h=>?_) (λf cdv A outer s H vs Q E hr h=>?_)
 .obtain⟨p,dx,v1,v2,v3,rfl,_⟩:=h;rfl
 .obtain⟨p,dx,v1,v2,v3,rfl,hp,k⟩:=h;refine⟨_,zD (ZG (pv 0) (pv 1) rfl) (zD (ZG (pv 0) (pv 2) rfl) (zE (ZG (pv 0) (pv 3) rfl))),?_⟩;refine⟨_,rfl,_,rfl,p,C,dx,_,rfl,hp,T.cl,T.n0,(by show 0<1000;decide),?_⟩;refine⟨_,rfl,_,rfl,p,C,dx,_,rfl,zF,T.cl,T.n1,yU (yS (n:=1) (by show 0<1;decide)) (by decide),?_⟩;refine⟨_,rfl,_,rfl,p,C,dx,_,rfl,zF,T.cl,T.n2,yU (yS (n:=2) (yS (n:=1) (by show 0<1;decide))) (by decide),?_⟩;exact k _ zF λb o e hb=>by rw[zG hb,zG hb,zG hb];exact e
theorem zKT:zO ["self","width","height","points","lines","marks"] ["self","width","height","points","lines","marks"] (zI zBB):=yG (by decide +kernel)
theorem zKU{C:Addr}(D:ZC K C "Cartoon.__init__" zBB ["self","width","height","points","lines","marks"])(T:zKO K mg C):zAD P w K mg base 1 C ["self","width","height","points","lines","marks"] (zLi C "width" "height" "points" "lines" "marks"):=by
 refine D.ok zKT (λvs H Q E h=>?_) (λf cdv A outer s H vs Q E hr h=>?_)
 .obtain⟨p,dx,v1,v2,v3,v4,v5,rfl,_⟩:=h;rfl
 .obtain⟨p,dx,v1,v2,v3,v4,v5,rfl,hp,k⟩:=h;refine⟨_,zD (ZG (pv 0) (pv 1) rfl) (zD (ZG (pv 0) (pv 2) rfl) (zD (ZG (pv 0) (pv 3) rfl) (zD (ZG (pv 0) (pv 4) rfl) (zE (ZG (pv 0) (pv 5) rfl))))),?_⟩;refine⟨_,rfl,_,rfl,p,C,dx,_,rfl,hp,T.cl,T.n0,(by show 0<1000;decide),?_⟩;refine⟨_,rfl,_,rfl,p,C,dx,_,rfl,zF,T.cl,T.n1,yU (yS (n:=1) (by show 0<1;decide)) (by decide),?_⟩;refine⟨_,rfl,_,rfl,p,C,dx,_,rfl,zF,T.cl,T.n2,yU (yS (n:=2) (yS (n:=1) (by show 0<1;decide))) (by decide),?_⟩;refine⟨_,rfl,_,rfl,p,C,dx,_,rfl,zF,T.cl,T.n3,yU (yS (n:=3) (yS (n:=2) (yS (n:=1) (by show 0<1;decide)))) (by decide),?_⟩;refine⟨_,rfl,_,rfl,p,C,dx,_,rfl,zF,T.cl,T.n4,yU (yS (n:=4) (yS (n:=3) (yS (n:=2) (yS (n:=1) (by show 0<1;decide))))) (by decide),?_⟩;exact k _ zF λb o e hb=>by rw[zG hb,zG hb,zG hb,zG hb,zG hb];exact e
end
def zo {α:Type}(R:Hp->V->α->Prop)(H:Hp)(l:Addr)(xs:List α):Prop:=∃ vs,H l=some (.lst vs)/\Zc R H vs xs
def Nm {α:Type}(R:Hp->V->α->Prop):Prop:=∀ (H H':Hp) (v:V) (x:α),yg H H'->R H v x->R H' v x
theorem zo.same{α:Type}{R:Hp->V->α->Prop}{H H':Hp}{l:Addr}{xs:List α}(N:Nm R)(h:zo R H l xs)(s:zH H H'):zo R H' l xs:=let ⟨vs,e,q⟩:=h;⟨vs,s _ _ e,q.mono λv x r=>N H H' v x (yg.of s) r⟩
theorem zo.snoc{α:Type}{R:Hp->V->α->Prop}{H:Hp}{l:Addr}{vs:List V}{xs:List α}{y:V}{x:α}(N:Nm R)(e:H l=some (.lst vs))(q:Zc R H vs xs)(r:R H y x):zo R (upd H l (.lst (vs++[y]))) l (xs++[x]):=
 ⟨_,zF,(q.mono λv x r=>N H _ v x (yg.updL e) r).snoc (N H _ y x (yg.updL e) r)⟩
theorem zB4{K:Qf}:Nm (Z6 K):=λ_ _ _ _ s r=>Z6.mono s r
theorem zCm:Nm RLn:=λ_ _ _ _ s r=>RLn.mono s r
def RMk (K:Qf):Hp->V->P2×Int->Prop:=λH v m=>∃ a C dx fs,v=.ref a/\H a=some (.ins C dx fs)/\Y8 K C/\zl K C "x"/\zl K C "y"/\zl K C "painting"/\fs.lookup ("x" : Str)=some (.int m.1.1)/\fs.lookup ("y" : Str)=some (.int m.1.2)/\fs.lookup ("painting" : Str)=some (.int m.2)
theorem zEk{K:Qf}:Nm (RMk K):=λ_ _ _ _ s r=>let ⟨a,C,dx,fs,e1,e2,z⟩:=r;⟨a,C,dx,fs,e1,s a _ e2 (λxs z=>by cases z),z⟩
theorem RMk.xy{K:Qf}{H:Hp}{v:V}{m:P2×Int}(r:RMk K H v m):∃ a,v=.ref a/\XY K H a m.1:=let ⟨a,C,dx,fs,e1,e2,c,n1,n2,_,l1,l2,_⟩:=r;⟨a,e1,C,dx,fs,e2,c,n1,n2,l1,l2⟩
theorem zH8{f1 f2 f3:Str}{v1 v2 v3:V}(h2:f1≠f2)(h3:f1≠f3):(zFG f1 f2 f3 v1 v2 v3).lookup f1=some v1:=by
 unfold zFG;rw[yR,Wa h3,yR,Wa h2,yR,Wb rfl]
theorem zH9{f1 f2 f3:Str}{v1 v2 v3:V}(h3:f2≠f3):(zFG f1 f2 f3 v1 v2 v3).lookup f2=some v2:=by
 unfold zFG;rw[yR,Wa h3,yR,Wb rfl]
theorem zIA{f1 f2 f3:Str}{v1 v2 v3:V}:(zFG f1 f2 f3 v1 v2 v3).lookup f3=some v3:=by
 unfold zFG;rw[yR,Wb rfl]
theorem zGR{a:Addr}{i j:Int}(h:i=j):[V.ref a,V.int i]=[V.ref a,V.int j]:=by rw[h]
def ptI (d:List Int)(p:Nat):P2:=(numAt d p 4,numAt d (p+4) 4)
def lnI (d:List Int)(p:Nat):P2:=(numAt d p 2,numAt d (p+2) 2)
def mkI (d:List Int)(p:Nat):P2×Int:=((numAt d p 4,numAt d (p+4) 4),numAt d (p+10) 2)
def zBM {α:Type}(f:Nat->α)(lo c n:Nat):List α:=(List.range n).map λi=>f (lo+c*i)
theorem zOS{α:Type}{f:Nat->α}{lo c n i:Nat}(h:i<n):(zBM f lo c n)[i]?=some (f (lo+c*i)):=by
 unfold zBM;rw[WQ,List.getElem?_range h];rfl
theorem zFH{α:Type}{f:Nat->α}{lo c n:Nat}:(zBM f lo c n).length=n:=by
 unfold zBM;rw[zc,Xw]
section
variable {P:Program}{w:World}{K:Qf}{mg:Qm}{base:Heap}
def zGS {α:Type}(K:Qf)(R:Hp->V->α->Prop)(g:List Int->Nat->α):Sp:=λvs H Q _=>∃ (a:Addr) (d:List Int) (p:Nat),vs=[.ref a,.int (p:Int)]/\zM K H a (d.map V.int)/\∀ (H':Hp) (v:V),zH H H'->R H' v (g d p)->Q v H'
theorem zOT:zO ["data","place"] ["data","place"] (zI zDf):=yG (by decide +kernel)
theorem zOU{C:Addr}(D:zW K mg "point_at" zDf ["data","place"])(ON:Ok P w K mg base 1 "number_at" ["data","place","size"] (zB3 K))(M:zAD P w K mg base 1 C ["self","x","y"] (zAU C "x" "y"))(T:zKM K mg C):Ok P w K mg base 3 "point_at" ["data","place"] (zGS K (Z6 K) ptI):=by
 refine D.ok zOT (λvs H Q E h=>?_) (λf cdv A outer s H vs Q E hr h=>?_)
 .obtain⟨a,d,p,rfl,_⟩:=h;rfl
 .obtain⟨a,d,p,rfl,hS,k⟩:=h;have hr1:zt 1 _:=hr.mono (by decide);refine⟨_,zE (zS (zBn M hr T.mgC (zA (zT ON hr1 (zA (pv 0) (zA (pv 1) (zA zJ zC)))) (zA (zT ON hr1 (zA (pv 0) (zA (zi yP (pv 1) zJ) (zA zJ zC)))) zC)))),?_⟩;refine⟨_,rfl,_,rfl,a,d,p,4,rfl,hS,λH1 s1=>⟨_,rfl,_,rfl,_,_,rfl,rfl,a,d,p+4,4,rfl,s1.seq hS,λH2 s2=>?_⟩⟩;intro x dx nx ndx nex;refine⟨x,dx,_,_,rfl,zF,λH3 hx k1=>⟨rfl,k H3 _ ((s1.trans s2).trans (zH.made nx ndx k1)) ?_⟩⟩;exact⟨x,rfl,C,dx,_,hx,T.cl,T.n0,T.n1,zEK (by decide),zFw⟩
theorem zOV:zO ["data","place"] ["data","place"] (zI zEG):=yG (by decide +kernel)
theorem zOW(D:zW K mg "line_at" zEG ["data","place"])(ON:Ok P w K mg base 1 "number_at" ["data","place","size"] (zB3 K)):Ok P w K mg base 2 "line_at" ["data","place"] (zGS K RLn lnI):=by
 refine D.ok zOV (λvs H Q E h=>?_) (λf cdv A outer s H vs Q E hr h=>?_)
 .obtain⟨a,d,p,rfl,_⟩:=h;rfl
 .obtain⟨a,d,p,rfl,hS,k⟩:=h;refine⟨_,zE (zS (Y9 (zA (zT ON hr (zA (pv 0) (zA (pv 1) (zA zJ zC)))) (zA (zT ON hr (zA (pv 0) (zA (zi yP (pv 1) zJ) (zA zJ zC)))) zC)))),?_⟩;refine⟨_,rfl,_,rfl,a,d,p,2,rfl,hS,λH1 s1=>⟨_,rfl,_,rfl,_,_,rfl,rfl,a,d,p+2,2,rfl,s1.seq hS,λH2 s2=>⟨(by show 2<=sizeLine;decide),λx nx=>?_⟩⟩⟩;exact k _ _ (zR (s1.trans s2) nx) ⟨x,rfl,zF⟩
theorem zOX:zO ["data","place"] ["data","place"] (zI zEH):=yG (by decide +kernel)
theorem zOY{C:Addr}(D:zW K mg "mark_at" zEH ["data","place"])(ON:Ok P w K mg base 1 "number_at" ["data","place","size"] (zB3 K))(M:zAD P w K mg base 1 C ["self","x","y","painting"] (zEO C "x" "y" "painting"))(T:zKN K mg C):Ok P w K mg base 3 "mark_at" ["data","place"] (zGS K (RMk K) mkI):=by
 refine D.ok zOX (λvs H Q E h=>?_) (λf cdv A outer s H vs Q E hr h=>?_)
 .obtain⟨a,d,p,rfl,_⟩:=h;rfl
 .obtain⟨a,d,p,rfl,hS,k⟩:=h;have hr1:zt 1 _:=hr.mono (by decide);refine⟨_,zE (zS (zBn M hr T.mgC (zA (zT ON hr1 (zA (pv 0) (zA (pv 1) (zA zJ zC)))) (zA (zT ON hr1 (zA (pv 0) (zA (zi yP (pv 1) zJ) (zA zJ zC)))) (zA (zT ON hr1 (zA (pv 0) (zA (zi yP (pv 1) zJ) (zA zJ zC)))) zC))))),?_⟩;refine⟨_,rfl,_,rfl,a,d,p,4,rfl,hS,λH1 s1=>⟨_,rfl,_,rfl,_,_,rfl,rfl,a,d,p+4,4,rfl,s1.seq hS,λH2 s2=>⟨_,rfl,_,rfl,_,_,rfl,rfl,a,d,p+10,2,rfl,s2.seq (s1.seq hS),λH3 s3=>?_⟩⟩⟩;intro x dx nx ndx nex;refine⟨x,dx,_,_,_,rfl,zF,λH4 hx k1=>⟨rfl,k H4 _ (((s1.trans s2).trans s3).trans (zH.made nx ndx k1)) ?_⟩⟩;exact⟨x,C,dx,_,rfl,hx,T.cl,T.n0,T.n1,T.n2,zH8 (by decide) (by decide),zH9 (by decide),zIA⟩
end
structure Yb where
 wd:Int
 hg:Int
 pts:List P2
 lns:List P2
 mks:List (P2×Int)
def Yn (K:Qf)(H:Hp)(c:Addr)(Z:Yb):Prop:=∃ C dx fs pa la ma,H c=some (.ins C dx fs)/\Y8 K C/\zl K C "width"/\zl K C "height"/\zl K C "points"/\zl K C "lines"/\zl K C "marks"/\
 fs.lookup ("width" : Str)=some (.int Z.wd)/\fs.lookup ("height" : Str)=some (.int Z.hg)/\fs.lookup ("points" : Str)=some (.ref pa)/\fs.lookup ("lines" : Str)=some (.ref la)/\fs.lookup ("marks" : Str)=some (.ref ma)/\
 zo (Z6 K) H pa Z.pts/\zo RLn H la Z.lns/\zo (RMk K) H ma Z.mks
theorem Yn.same{K:Qf}{H H':Hp}{c:Addr}{Z:Yb}(h:Yn K H c Z)(s:zH H H'):Yn K H' c Z:=by
 obtain⟨C,dx,fs,pa,la,ma,h1,h2,h3,h4,h5,h6,h7,h8,h9,h10,h11,h12,h13,h14,h15⟩:=h;exact⟨C,dx,fs,pa,la,ma,s _ _ h1,h2,h3,h4,h5,h6,h7,h8,h9,h10,h11,h12,h13.same zB4 s,h14.same zCm s,h15.same zEk s⟩
def zKV (d:List Int)(n m k:Nat):Yb:=⟨numAt d 4 4,numAt d 8 4,zBM (ptI d) 20 8 n,zBM (lnI d) (20+8*n) 4 m,zBM (mkI d) (20+8*n+4*m) 12 k⟩
theorem zMu{v1 v2 v3 v4 v5:V}:let fs:=zMt "width" "height" "points" "lines" "marks" v1 v2 v3 v4 v5
  fs.lookup ("width" : Str)=some v1/\fs.lookup ("height" : Str)=some v2/\fs.lookup ("points" : Str)=some v3/\fs.lookup ("lines" : Str)=some v4/\fs.lookup ("marks" : Str)=some v5:=by
 refine⟨?_,?_,?_,?_,?_⟩ <;> (unfold zMt;simp only[yR]) <;> first|rfl|decide
section
variable {P:Program}{w:World}{K:Qf}{mg:Qm}{base:Heap}
theorem zFI{α:Type}{R:Hp->V->α->Prop}{g:List Int->Nat->α}{H H':Hp}{D:Addr}{d:List Int}{lo c n i:Nat}(N:Nm R)(hD:H D=none)(hn:n<1000000)(hi:i<n)(s:zH H H')(h:zo R H' D ((zBM (g d) lo c n).take i)){H4:Hp}{v:V}(s4:zH H' H4)(r:R H4 v (g d (lo+c*i))) :
  ∃ acc,H4 D=some (.lst acc)/\acc.length<sizeLine/\zH H (upd H4 D (.lst (acc++[v])))/\zo R (upd H4 D (.lst (acc++[v]))) D ((zBM (g d) lo c n).take (i+1)):=by
 obtain⟨vs,e,q⟩:=h.same N s4;refine⟨vs,e,?_,λb o eb=>?_,?_⟩
 .rw[q.1,Wy];exact Yp (VN _ _) (yU hi (WT (Vz hn) (by decide)))
 .rw[zG (zN eb hD)];exact s4 _ _ (s _ _ eb)
 .rw[yB (zOS hi)];exact zo.snoc N e q r
def zLj (K:Qf):Sp:=λvs H Q _=>∃ (a:Addr) (d:List Int) (n m k:Nat),vs=[.ref a]/\zM K H a (d.map V.int)/\numAt d 12 2=(n:Int)/\numAt d 14 2=(m:Int)/\numAt d 16 2=(k:Int)/\n<10000/\m<10000/\k<10000/\
 ∀ (H':Hp) (c:Addr),zH H H'->Yn K H' c (zKV d n m k)->Q (.ref c) H'
theorem zBN:zO ["data","points","lines","marks","place"] ["data"] (zI zAl):=yG (by decide +kernel)
theorem zOZ{C:Addr}(D:zW K mg "told_by" zAl ["data"])(ON:Ok P w K mg base 1 "number_at" ["data","place","size"] (zB3 K))(OP:Ok P w K mg base 3 "point_at" ["data","place"] (zGS K (Z6 K) ptI))(OL:Ok P w K mg base 2 "line_at" ["data","place"] (zGS K RLn lnI))(OM:Ok P w K mg base 3 "mark_at" ["data","place"] (zGS K (RMk K) mkI))
  (O1:Ok P w K mg base 2 "lines_from" ["data"] (zAy K zFE))(O2:Ok P w K mg base 3 "marks_from" ["data"] (zAy K zFF))(O3:Ok P w K mg base 4 "marks_end" ["data"] (zAy K zEN))(M:zAD P w K mg base 1 C ["self","width","height","points","lines","marks"] (zLi C "width" "height" "points" "lines" "marks"))(T:zKO K mg C)
  (g1:yt mg "HEAD_SIZE" 20)(g2:yt mg "POINT_SIZE" 8)(g3:yt mg "LINE_SIZE" 4)(g4:yt mg "MARK_SIZE" 12)(mr:mg "range" = none):Ok P w K mg base 5 "told_by" ["data"] (zLj K):=by
 refine D.ok zBN (λvs H Q E h=>?_) (λf cdv A outer s H vs Q E hr h=>?_)
 .obtain⟨a,d,n,m,k,rfl,_⟩:=h;rfl
 .obtain⟨a,d,n,m,k,rfl,hS,en,em,ek,hn,hm,hk,kk⟩:=h;have hr1:zt 1 _:=hr.mono (by decide);have hr2:zt 2 _:=hr.mono (by decide);have hr3:zt 3 _:=hr.mono (by decide);have el:zFE d=((20:Nat):Int)+((8:Nat):Int)*(n:Int):=by unfold zFE;rw[en];rfl
  have ef:zFF d=((20+8*n:Nat):Int)+((4:Nat):Int)*(m:Int):=by unfold zFF;rw[el,em];omega
  have ee:zEN d=((20+8*n+4*m:Nat):Int)+((12:Nat):Int)*(k:Int):=by unfold zEN;rw[ef,ek];omega
  refine⟨_,zD (Yj (i:=1) (own:=[("place",4)]) rfl zBN.nd rfl rfl rfl (zBh rfl mr (zA (ZA g1) (zA (zT O1 hr2 (zA (pv 0) zC)) (zA (ZA g2) zC)))) (ZM (show zAL ["data","points","lines","marks","place"] (zI zAl) _ _=true by decide +kernel))
    (λ_ _ _ _ _=>zV (i:=4) zBN.nd rfl (Or.inl rfl)) (λ_ _ _ _ _=>Zm) (λ_ _ _ _ _=>zT OP hr3 (zA (pv 0) (zA (pv 4) zC))))
   (zD (Yj (i:=2) (own:=[("place",4)]) rfl zBN.nd rfl rfl rfl (zBh rfl mr (zA (zT O1 hr2 (zA (pv 0) zC)) (zA (zT O2 hr3 (zA (pv 0) zC)) (zA (ZA g3) zC)))) (ZM (show zAL ["data","points","lines","marks","place"] (zI zAl) _ _=true by decide +kernel))
    (λ_ _ _ _ _=>zV (i:=4) zBN.nd rfl (Or.inl rfl)) (λ_ _ _ _ _=>Zm) (λ_ _ _ _ _=>zT OL hr2 (zA (pv 0) (zA (pv 4) zC))))
   (zD (Yj (i:=3) (own:=[("place",4)]) rfl zBN.nd rfl rfl rfl (zBh rfl mr (zA (zT O2 hr3 (zA (pv 0) zC)) (zA (zT O3 hr (zA (pv 0) zC)) (zA (ZA g4) zC)))) (ZM (show zAL ["data","points","lines","marks","place"] (zI zAl) _ _=true by decide +kernel))
    (λ_ _ _ _ _=>zV (i:=4) zBN.nd rfl (Or.inl rfl)) (λ_ _ _ _ _=>Zm) (λ_ _ _ _ _=>zT OM hr3 (zA (pv 0) (zA (pv 4) zC))))
   (zE (zS (zBn M hr2 T.mgC (zA (zT ON hr1 (zA (pv 0) (zA zJ (zA zJ zC)))) (zA (zT ON hr1 (zA (pv 0) (zA zJ (zA zJ zC)))) (zA (pv 1) (zA (pv 2) (zA (pv 3) zC)))))))))),?_⟩
  refine⟨_,rfl,a,d,rfl,hS,λH1 s1=>⟨_,_,_,n,rfl,(by rw[el];exact rgC (by decide) (by decide) (by omega) (by decide)),λL1 n1=>?_⟩⟩;refine zCl (λi H'=>zH H1 H'/\zo (Z6 K) H' L1 ((zBM (ptI d) 20 8 n).take i)) ⟨zR (zH.refl H1) n1,_,zF,Zc.nil⟩ ?_ ?_
  .rintro i H' hi ⟨s2,hl⟩;refine⟨rfl,?_⟩;refine⟨_,rfl,_,rfl,a,d,20+8*i,zGR (by omega),(s1.trans s2).seq hS,λH4 v s4 r=>?_⟩;exact zFI zB4 n1 (by omega) hi s2 hl s4 r
  rintro H2 ⟨s2,hl1⟩;rw[Ws (by rw[zFH];exact Wd _)] at hl1;have t2:=s1.trans s2;refine⟨_,rfl,a,d,rfl,t2.seq hS,λH3 s3=>⟨_,rfl,a,d,rfl,(t2.trans s3).seq hS,λH4 s4=>⟨_,_,_,m,rfl,(by rw[ef,el];exact rgC (lo:=20+8*n) (by decide) (by decide) (by omega) (by omega)),λL2 n2=>?_⟩⟩⟩;refine zCl (λi H'=>zH H4 H'/\zo RLn H' L2 ((zBM (lnI d) (20+8*n) 4 m).take i)) ⟨zR (zH.refl H4) n2,_,zF,Zc.nil⟩ ?_ ?_
  .rintro i H' hi ⟨s5,hl⟩;refine⟨rfl,?_⟩;refine⟨_,rfl,_,rfl,a,d,20+8*n+4*i,zGR (by rw[el];omega),(((t2.trans s3).trans s4).trans s5).seq hS,λH4 v s4 r=>?_⟩;exact zFI zCm n2 (by omega) hi s5 hl s4 r
  rintro H5 ⟨s5,hl2⟩;rw[Ws (by rw[zFH];exact Wd _)] at hl2;have t5:=((t2.trans s3).trans s4).trans s5;refine⟨_,rfl,a,d,rfl,t5.seq hS,λH6 s6=>⟨_,rfl,a,d,rfl,(t5.trans s6).seq hS,λH7 s7=>⟨_,_,_,k,rfl,(by rw[ee,ef];exact rgC (lo:=20+8*n+4*m) (by decide) (by decide) (by omega) (by omega)),λL3 n3=>?_⟩⟩⟩;refine zCl (λi H'=>zH H7 H'/\zo (RMk K) H' L3 ((zBM (mkI d) (20+8*n+4*m) 12 k).take i)) ⟨zR (zH.refl H7) n3,_,zF,Zc.nil⟩ ?_ ?_
  .rintro i H' hi ⟨s8,hl⟩;refine⟨rfl,?_⟩;refine⟨_,rfl,_,rfl,a,d,20+8*n+4*m+12*i,zGR (by rw[ef];omega),(((t5.trans s6).trans s7).trans s8).seq hS,λH4 v s4 r=>?_⟩;exact zFI zEk n3 (by omega) hi s8 hl s4 r
  rintro H8 ⟨s8,hl3⟩;rw[Ws (by rw[zFH];exact Wd _)] at hl3;have t8:=((t5.trans s6).trans s7).trans s8;refine⟨_,rfl,a,d,4,4,rfl,t8.seq hS,λH9 s9=>⟨_,rfl,a,d,8,4,rfl,(t8.trans s9).seq hS,λH10 s10=>⟨_,rfl,_,rfl,_,rfl,?_⟩⟩⟩;intro x dx nx ndx nex;refine⟨x,dx,_,_,_,_,_,rfl,zF,λH11 hx k1=>⟨rfl,?_⟩⟩;have s11:=(s9.trans s10).trans (zH.made nx ndx k1);obtain⟨l1,l2,l3,l4,l5⟩:=zMu (v1:=.int (numAt d 4 4)) (v2:=.int (numAt d 8 4)) (v3:=.ref L1) (v4:=.ref L2) (v5:=.ref L3);refine kk H11 x (t8.trans s11) ⟨C,dx,_,L1,L2,L3,hx,T.cl,T.n0,T.n1,T.n2,T.n3,T.n4,l1,l2,l3,l4,l5,?_,?_,hl3.same zEk s11⟩
  .exact hl1.same zB4 ((((s3.trans s4).trans s5).trans ((s6.trans s7).trans s8)).trans s11)
  .exact hl2.same zCm (((s6.trans s7).trans s8).trans s11)
end
def prD (p:P2):PyData:=.tuple [.int p.1,.int p.2]
theorem zGz{K:Qf}{H:Hp}:∀ {vs:List V}{xs:List P2},Zc RLn H vs xs->zB1 K H vs (xs.map prD)
|[],[],_=>.nil
|[],_::_,e=>by cases e.1
|_::_,[],e=>by cases e.1
|v::vs,x::xs,e=>by
  refine .cons ?_ (zGz ⟨Nat.succ.inj e.1,λj v' x' h1 h2=>e.2 (j+1) v' x' (by simpa using h1) (by simpa using h2)⟩);obtain⟨a,rfl,ha⟩:=e.2 0 v x rfl rfl;exact .tup (yH.of ha) (.cons (.int _) (.cons (.int _) .nil))
theorem zJP:∀ xs:List P2,PyData.canLayAll0 (xs.map prD)=true
|[]=>rfl
|x::xs=>by
  rw[Wj];unfold PyData.canLayAll0;rw[zJP xs];rfl
theorem zJQ{p:P2}:∀ xs:List P2,((xs.map prD).any λy=>PyData.eqv y (prD p))=decide (p∈xs)
|[]=>rfl
|x::xs=>by
  rw[Wj,Xf,zJQ xs,Wx];simp only[prD,PyData.eqv,PyData.eqvAll,Xr,Va,yZ,ym,Wc,Vs];constructor
  .rintro (⟨h1,h2⟩|h)
   .exact .inl (Prod.ext h1.symm h2.symm)
   .exact .inr h
  .rintro (rfl|h)
   .exact .inl ⟨rfl,rfl⟩
   .exact .inr h
def zOa (K:Qf):R2:=λx y H Q=>∃ l vs p xs,RLn H x p/\y=.ref l/\zM K H l vs/\Zc RLn H vs xs/\Q (.bl (!decide (p∈xs))) H
theorem zLk{X:Cx}(hu:X.A.units+64<cLine):Y7 X (compareOp .NotIn) (zOa X.K):=by
 intro pins s σ H x y v u Q I rx ry h;obtain⟨l,vs,p,xs,⟨a,ex,ha⟩,ey,hq,he,q⟩:=h;subst ex ey;obtain⟨as,r1⟩:=Dp.reads I (prD p) (.ref a) v (.tup (yH.of ha) (.cons (.int _) (.cons (.int _) .nil))) rx;obtain⟨bs,r2⟩:=Dp.reads I (.list (xs.map prD)) (.ref l) u (.lst hq (zGz he)) ry;refine SeqAt.notIn_list_reads r2 r1 (zJP xs) rfl ?_ ⟨.bl _,H,I,rfl,?_⟩
 .have:(prD p).depth=1:=rfl;rw[this];omega
 .rw[zJQ];exact q
def yY {α:Type}(g:Nat->α->Bool)(f:Nat->Int×Int):Nat->List α->Option (Int×Int)
|_,[]=>none
|i,x::xs=>if g i x=true then some (f i) else yY g f (i+1) xs
theorem Zg{α:Type}{g:Nat->α->Bool}{f:Nat->Int×Int}:∀ {l:List α}{k i:Nat}{x:α},(∀ j y,j<i->l[j]?=some y->g (k+j) y=false)->l[i]?=some x->g (k+i) x=true->yY g f k l=some (f (k+i))
|[],k,i,x,_,h,_=>by simp at h
|y::l,k,0,x,_,h,hg=>by
  have e:y=x:=by simpa using h
  subst e;unfold yY;rw[Wb (by simpa using hg)];rfl
|y::l,k,i+1,x,hb,h,hg=>by
  unfold yY;have h0:=hb 0 y (Ur _) rfl;rw[XV] at h0;rw[Wa (by rw[h0];decide),show k+(i+1)=k+1+i by omega];refine Zg (λj z hj hz=>?_) (by simpa using h) (by rw[show k+1+i=k+(i+1) by omega];exact hg);rw[show k+1+j=k+(j+1) by omega];exact hb (j+1) z (by omega) (by simpa using hz)
theorem Zh{α:Type}{g:Nat->α->Bool}{f:Nat->Int×Int}:∀ {l:List α}{k:Nat},(∀ j y,l[j]?=some y->g (k+j) y=false)->yY g f k l=none
|[],_,_=>rfl
|y::l,k,hb=>by
  unfold yY;have h0:=hb 0 y rfl;rw[XV] at h0;rw[Wa (by rw[h0];decide)];refine Zh λj z hz=>?_
  rw[show k+1+j=k+(j+1) by omega];exact hb (j+1) z (by simpa using hz)
section
variable {P:Program}{w:World}{K:Qf}{mg:Qm}{base:Heap}{C:Addr}
def zBx (Z:Yb)(n:Int):Int:=20+8*(Z.pts.length:Int)+4*n
def zBy (Z:Yb)(n:Int):Int:=zBx Z (Z.lns.length:Int)+12*n
def zBO (K:Qf)(g:Yb->Int->Int):Sp:=λvs H Q _=>∃ (c:Addr) (Z:Yb) (n:Int),vs=[.ref c,.int n]/\Yn K H c Z/\Q (.int (g Z n)) H
theorem zOb:zO ["cartoon","number"] ["cartoon","number"] (zI zCN):=yG (by decide +kernel)
theorem zOc(D:zW K mg "line_place" zCN ["cartoon","number"])(OP:Ok P w K mg base 1 "point_place" ["number"] zAm)(g2:yt mg "LINE_SIZE" 4)(ml:mg "len" = none):Ok P w K mg base 2 "line_place" ["cartoon","number"] (zBO K zBx):=by
 refine D.ok zOb (λvs H Q E h=>?_) (λf cdv A outer s H vs Q E hr h=>?_)
 .obtain⟨c,Z,n,rfl,_⟩:=h;rfl
 .obtain⟨c,Z,n,rfl,⟨Cc,dx,fs,pa,la,ma,h1,h2,h3,h4,h5,h6,h7,h8,h9,h10,h11,h12,⟨vs,hp,ep⟩,h14,h15⟩,k⟩:=h;refine⟨_,zE (zS (zi yP (zT OP hr (zA (yE ml (zA (zQ (pv 0) rfl) zC)) zC)) (zi YH (ZA g2) (pv 1)))),?_⟩;refine⟨_,rfl,c,Cc,dx,fs,_,rfl,h1,h2,h5,h10,pa,vs,rfl,.inl (zM.of hp),_,rfl,_,rfl,_,_,rfl,rfl,.inl ⟨by decide,by decide⟩,_,_,rfl,rfl,?_⟩;rw[ep.1];exact k
theorem zOd:zO ["cartoon","number"] ["cartoon","number"] (zI zCO):=yG (by decide +kernel)
theorem zOe(D:zW K mg "mark_place" zCO ["cartoon","number"])(OL:Ok P w K mg base 2 "line_place" ["cartoon","number"] (zBO K zBx))(g2:yt mg "MARK_SIZE" 12)(ml:mg "len" = none):Ok P w K mg base 3 "mark_place" ["cartoon","number"] (zBO K zBy):=by
 refine D.ok zOd (λvs H Q E h=>?_) (λf cdv A outer s H vs Q E hr h=>?_)
 .obtain⟨c,Z,n,rfl,_⟩:=h;rfl
 .obtain⟨c,Z,n,rfl,CA,k⟩:=h;obtain⟨Cc,dx,fs,pa,la,ma,h1,h2,h3,h4,h5,h6,h7,h8,h9,h10,h11,h12,h13,⟨vs,hp,ep⟩,h15⟩:=id CA;refine⟨_,zE (zS (zi yP (zT OL hr (zA (pv 0) (zA (yE ml (zA (zQ (pv 0) rfl) zC)) zC))) (zi YH (ZA g2) (pv 1)))),?_⟩;refine⟨_,rfl,_,rfl,c,Cc,dx,fs,_,rfl,h1,h2,h6,h11,la,vs,rfl,.inl (zM.of hp),c,Z,_,rfl,CA,_,rfl,_,_,rfl,rfl,.inl ⟨by decide,by decide⟩,_,_,rfl,rfl,?_⟩;rw[ep.1];exact k
def zFJ (Z:Yb)(i:Nat)(p:P2):Bool:=(decide (Z.wd<p.1)||decide (Z.hg<p.2))||(decide (0<i) && !(match Z.pts[i-1]? with |some q=>Yw p q|none=>true))
def r4 (Z:Yb):Option (Int×Int):=yY (zFJ Z) (λi=>(4,20+8*(i:Int))) 0 Z.pts
def spJ (K:Qf)(C:Addr)(g:Yb->Option (Int×Int)):Sp:=λvs H Q E=>∃ (c:Addr) (Z:Yb),vs=[.ref c]/\Yn K H c Z/\Res C E H Q (g Z)
theorem zEl:zO ["cartoon","points","number","point"] ["cartoon"] (zI zBC):=yG (by decide +kernel)
theorem zOf(D:zW K mg "judge_points" zBC ["cartoon"])(R:XR P w K mg base C)(OB:Ok P w K mg base 1 "is_behind" ["point","other"] (zEM K))(OP:Ok P w K mg base 1 "point_place" ["number"] zAm)(me:mg "enumerate" = none):Yf P w K mg base 3 "judge_points" ["cartoon"] (spJ K C r4):=by
 refine D.okN zEl (λvs H Q E h=>?_) (λf cdv A outer s H vs Q E hr h=>?_)
 .obtain⟨c,Z,rfl,_⟩:=h;rfl
 .obtain⟨c,Z,rfl,CA,k⟩:=h;have hr1:zt 1 _:=hr.mono (by decide);obtain⟨Cc,dx,fs,pa,la,ma,h1,h2,h3,h4,h5,h6,h7,h8,h9,h10,h11,h12,⟨pvs,hp,ep⟩,h14,h15⟩:=id CA
  refine⟨_,zD (zb (i:=1) zEl.nd rfl (Or.inl rfl) (zQ (pv 0) rfl))
   (zE (yI Vi rfl (YW rfl me (zA (pv 1) zC)) (YG rfl (zw (zV (i:=2) zEl.nd rfl (Or.inl rfl)) (zw (zV (i:=3) zEl.nd rfl (Or.inl rfl)) Zl)))
    (zD (zm (PW.pt (zB0 (zj Zx (zQ (pv 3) rfl) (zQ (pv 0) rfl) (zY _)) (zAo (zj Zx (zQ (pv 3) rfl) (zQ (pv 0) rfl) (zY _))))) (zE (YA R hr (zA zJ (zA (zT OP hr1 (zA (pv 2) zC)) zC)))) zZ)
    (zE (zm (PW.pt (zCB (zj Zx (pv 2) zJ (zY _)) (zA6 (Zi (yT (zT OB hr1 (zA (pv 3) (zA (zf za (pv 1) (zi ZL (pv 2) zJ) (λ_ _=>rfl)) zC)))))))) (zE (YA R hr (zA zJ (zA (zT OP hr1 (zA (pv 2) zC)) zC)))) zZ))))),?_⟩
  refine⟨_,rfl,c,Cc,dx,fs,_,rfl,h1,h2,h5,h10,?_⟩
  refine⟨_,rfl,pa,pvs,rfl,zM.of hp,Z3 (K:=K) (a:=pa) (xs:=pvs) (λi σ H'=>∃ v2 v3:Option V,σ=[some (.ref c),some (.ref pa),v2,v3]/\zH H H'/\∀ (j:Nat) (p:P2),j<i->Z.pts[j]?=some p->zFJ Z (0+j) p=false)
   ⟨none,none,rfl,zH.refl H,λj z hj=>absurd hj (W9 _)⟩ (λi σ H' _ hh=>hh.elim λ_ hh=>hh.elim λ_ hh=>zM.of (hh.2.1 _ _ hp)) ?_ ?_⟩
  .rintro i y σ H' T hi ⟨v2,v3,rfl,s1,hno⟩ hT;have s2:zH H (upd H' T (.tup [.int (i:Nat),y])):=zR s1 hT;obtain⟨p,hip,r⟩:=ep.get' hi;obtain⟨a,rfl,X⟩:=Z6.mono (yg.of s2) r;obtain⟨C1,d1,f1,a1,a2,a3,a4,a5,a6⟩:=id X
   have hit:zFJ Z (0+i) p=true->Rz C E H 4 (20+8*(i:Int)):=λhb=>by
    have e:=Zg (f:=λi=>((4:Int),20+8*(i:Int))) hno hip hb;unfold r4 at k;rw[e,WC] at k;exact k
   refine⟨T,_,rfl,yH.of zF,rfl,_,_,rfl,_,_,rfl,rfl,?_⟩
   try dsimp only[ZQ,Yh,Ze,YV,YO,YQ]
   show tOr _ _ _ _ _;refine zD5 (λR h=>⟨_,rfl,a,C1,d1,_,_,rfl,a1,a2,a3,a5,_,rfl,c,Cc,dx,fs,_,rfl,s2 _ _ h1,h2,h3,h8,_,_,rfl,rfl,_,rfl,h⟩) (λ_ R h=>⟨_,rfl,a,C1,d1,_,_,rfl,a1,a2,a4,a6,_,rfl,c,Cc,dx,fs,_,rfl,s2 _ _ h1,h2,h4,h9,_,_,rfl,rfl,_,rfl,h⟩) (zp (λhb=>?_) λhb=>?_)
   .refine⟨_,rfl,_,rfl,_,_,rfl,Ya (hit ?_) s2⟩;unfold zFJ;rw[hb];rfl
   .try dsimp only[ZQ,Yh,Ze,YV,YO,YQ]
    show zE5 _ _ _ _ _;refine zA9 (c:=decide (0<i)) (d:=!(match Z.pts[i-1]? with |some q=>Yw p q|none=>true)) (λR h=>⟨_,rfl,_,_,rfl,rfl,_,rfl,?_⟩) (λhc R h=>?_) (zp (λhb2=>?_) λhb2=>?_)
    .rw[show decide ((i:Int)>0)=decide (0<i) by rw[Wk];omega];exact h
    .have hc':=Wm hc
     have hlt:i-1<Z.pts.length:=by
      have:=(yQ hip).1;omega
     have hq:Z.pts[i-1]?=some Z.pts[i-1]:=yW hlt;generalize Z.pts[i-1]=q at hq;obtain⟨v,hv,r2⟩:=ep.get hq;obtain⟨b,rfl,Y⟩:=Z6.mono (yg.of s2) r2;rw[hq] at h;exact⟨_,rfl,_,rfl,_,rfl,_,_,rfl,rfl,pa,pvs,_,_,rfl,rfl,zM.of (s2 _ _ hp),y9 (j:=i-1) (by omega) hv,a,b,p,q,rfl,X,Y,_,rfl,h⟩
    .refine⟨_,rfl,_,rfl,_,_,rfl,Ya (hit ?_) s2⟩;unfold zFJ;rw[WC,hb2,UW]
    .refine⟨some (.int (i:Nat)),some (.ref a),rfl,s2,λj q hj hq=>?_⟩;by_cases e:j=i
     .subst e;rw[hip] at hq;cases hq;unfold zFJ;rw[WC,hb2,hb];rfl
     .exact hno j q (by omega) hq
  .rintro σ H' ⟨v2,v3,rfl,s1,hno⟩;unfold r4 at k;rw[Zh (λj y hy=>hno j y (by rw[ep.1];exact (yQ hy).1) hy)] at k;exact k H' s1
def zFK (Z:Yb)(i:Nat)(l:P2):Bool:=(decide (l.2<=l.1)||decide ((Z.pts.length:Int)<=l.2))||(decide (0<i)&&(match Z.lns[i-1]? with |some q=>Ky.leI [l.1,l.2] [q.1,q.2]|none=>false))
def r5 (Z:Yb):Option (Int×Int):=yY (zFK Z) (λi=>(5,zBx Z (i:Int))) 0 Z.lns
theorem zEm:zO ["cartoon","lines","number","line"] ["cartoon"] (zI zBu):=yG (by decide +kernel)
theorem zOg(D:zW K mg "judge_lines" zBu ["cartoon"])(R:XR P w K mg base C)(OL:Ok P w K mg base 2 "line_place" ["cartoon","number"] (zBO K zBx))(me:mg "enumerate" = none)(ml:mg "len" = none):Yf P w K mg base 3 "judge_lines" ["cartoon"] (spJ K C r5):=by
 refine D.okN zEm (λvs H Q E h=>?_) (λf cdv A outer s H vs Q E hr h=>?_)
 .obtain⟨c,Z,rfl,_⟩:=h;rfl
 .obtain⟨c,Z,rfl,CA,k⟩:=h;have hr1:zt 1 _:=hr.mono (by decide);have hu:=hr.units;obtain⟨Cc,dx,fs,pa,la,ma,h1,h2,h3,h4,h5,h6,h7,h8,h9,h10,h11,h12,⟨pvs,hp,ep⟩,⟨lvs,hl,el⟩,h15⟩:=id CA
  refine⟨_,zD (zb (i:=1) zEm.nd rfl (Or.inl rfl) (zQ (pv 0) rfl))
   (zE (yI Vi rfl (YW rfl me (zA (pv 1) zC)) (YG rfl (zw (zV (i:=2) zEm.nd rfl (Or.inl rfl)) (zw (zV (i:=3) zEm.nd rfl (Or.inl rfl)) Zl)))
    (zD (zm (PW.pt (zB0 (zj zHG (zf zAq (pv 3) zJ (λ_ _=>rfl)) (zf zAq (pv 3) zJ (λ_ _=>rfl)) (zY _)) (zAo (zj zHG (zf zAq (pv 3) zJ (λ_ _=>rfl)) (yE ml (zA (zQ (pv 0) rfl) zC)) (zY _))))) (zE (YA R hr (zA zJ (zA (zT OL hr (zA (pv 0) (zA (pv 2) zC))) zC)))) zZ)
    (zE (zm (PW.pt (zCB (zj Zx (pv 2) zJ (zY _)) (zA6 (zj (Ky.zPw (Yp (Um _ 64) hu)) (pv 3) (zf za (pv 1) (zi ZL (pv 2) zJ) (λ_ _=>rfl)) (zY _))))) (zE (YA R hr (zA zJ (zA (zT OL hr (zA (pv 0) (zA (pv 2) zC))) zC)))) zZ))))),?_⟩
  refine⟨_,rfl,c,Cc,dx,fs,_,rfl,h1,h2,h6,h11,?_⟩
  refine⟨_,rfl,la,lvs,rfl,zM.of hl,Z3 (K:=K) (a:=la) (xs:=lvs) (λi σ H'=>∃ v2 v3:Option V,σ=[some (.ref c),some (.ref la),v2,v3]/\zH H H'/\∀ (j:Nat) (p:P2),j<i->Z.lns[j]?=some p->zFK Z (0+j) p=false)
   ⟨none,none,rfl,zH.refl H,λj z hj=>absurd hj (W9 _)⟩ (λi σ H' _ hh=>hh.elim λ_ hh=>hh.elim λ_ hh=>zM.of (hh.2.1 _ _ hl)) ?_ ?_⟩
  .rintro i y σ H' T hi ⟨v2,v3,rfl,s1,hno⟩ hT;have s2:zH H (upd H' T (.tup [.int (i:Nat),y])):=zR s1 hT;obtain⟨p,hip,r⟩:=el.get' hi;obtain⟨a,rfl,X⟩:=RLn.mono (yg.of s2) r
   have hit:zFK Z (0+i) p=true->Rz C E H 5 (zBx Z (i:Int)):=λhb=>by
    have e:=Zg (f:=λi=>((5:Int),zBx Z (i:Int))) hno hip hb;unfold r5 at k;rw[e,WC] at k;exact k
   refine⟨T,_,rfl,yH.of zF,rfl,_,_,rfl,_,_,rfl,rfl,?_⟩
   try dsimp only[ZQ,Yh,Ze,YV,YO,YQ]
   show tOr _ _ _ _ _;refine zD5 (c:=decide (p.2<=p.1)) (d:=decide ((Z.pts.length:Int)<=p.2)) (λR h=>⟨_,rfl,a,_,_,_,rfl,rfl,yH.of X,rfl,_,rfl,a,_,_,_,rfl,rfl,yH.of X,rfl,_,_,rfl,rfl,_,rfl,h⟩) (λ_ R h=>⟨_,rfl,a,_,_,_,rfl,rfl,yH.of X,rfl,_,rfl,c,Cc,dx,fs,_,rfl,s2 _ _ h1,h2,h5,h10,pa,pvs,rfl,.inl (zM.of (s2 _ _ hp)),_,_,rfl,rfl,_,rfl,?_⟩) (zp (λhb=>?_) λhb=>?_)
   .rw[ep.1];exact h
   .refine⟨_,rfl,_,rfl,c,Z,_,rfl,CA.same s2,_,_,rfl,Ya (hit ?_) s2⟩;unfold zFK;rw[hb];rfl
   .try dsimp only[ZQ,Yh,Ze,YV,YO,YQ]
    show zE5 _ _ _ _ _;refine zA9 (c:=decide (0<i)) (d:=(match Z.lns[i-1]? with |some q=>Ky.leI [p.1,p.2] [q.1,q.2]|none=>false)) (λR h=>⟨_,rfl,_,_,rfl,rfl,_,rfl,?_⟩) (λhc R h=>?_) (zp (λhb2=>?_) λhb2=>?_)
    .rw[show decide ((i:Int)>0)=decide (0<i) by rw[Wk];omega];exact h
    .have hc':=Wm hc
     have hlt:i-1<Z.lns.length:=by
      have:=(yQ hip).1;omega
     have hq:Z.lns[i-1]?=some Z.lns[i-1]:=yW hlt;generalize Z.lns[i-1]=q at hq;obtain⟨v,hv,r2⟩:=el.get hq;obtain⟨b,rfl,Y⟩:=RLn.mono (yg.of s2) r2;rw[hq] at h;exact⟨_,rfl,_,rfl,_,rfl,_,_,rfl,rfl,la,lvs,_,_,rfl,rfl,zM.of (s2 _ _ hl),y9 (j:=i-1) (by omega) hv,a,b,[p.1,p.2],[q.1,q.2],rfl,rfl,yH.of X,yH.of Y,rfl,_,rfl,h⟩
    .refine⟨_,rfl,_,rfl,c,Z,_,rfl,CA.same s2,_,_,rfl,Ya (hit ?_) s2⟩;unfold zFK;rw[WC,hb2,UW]
    .refine⟨some (.int (i:Nat)),some (.ref a),rfl,s2,λj q hj hq=>?_⟩;by_cases e:j=i
     .subst e;rw[hip] at hq;cases hq;unfold zFK;rw[WC,hb2,hb];rfl
     .exact hno j q (by omega) hq
  .rintro σ H' ⟨v2,v3,rfl,s1,hno⟩;unfold r5 at k;rw[Zh (λj y hy=>hno j y (by rw[el.1];exact (yQ hy).1) hy)] at k;exact k H' s1
end
theorem zFL{tc:TT}{tb t2:TS}{D:Yx}{σ:L2.St}{H:Hp}{c:Bool}(J:Hp->Prop)(hc:∀ R:Bool->Hp->Prop,R c H->tc σ H R)(hb:c=true->∀ D':Yx,(∀ H',J H'->D'.nx σ H')->tb D' σ H)(hn:c=false->J H)(h2:∀ H',J H'->t2 D σ H'):YV (YO tc tb Ze) t2 D σ H:=by
 refine hc _ (zp (λe=>hb e _ h2) λe=>h2 _ (hn e))
theorem zMv{tc:TT}{tb:TS}{D:Yx}{σ:L2.St}{H:Hp}{c:Bool}(J:Hp->Prop)(hc:∀ R:Bool->Hp->Prop,R c H->tc σ H R)(hb:c=true->∀ D':Yx,(∀ H',J H'->D'.nx σ H')->tb D' σ H)(hn:c=false->J H)(h2:∀ H',J H'->D.nx σ H'):YO tc tb Ze D σ H:=by
 refine hc _ (zp (λe=>hb e _ h2) λe=>h2 _ (hn e))
theorem zBP{X:Cx}(K:Qf){e:Expr}{f:Str}{pos:Pos}{ta:TE}(he:PE X e ta)(hb:attributeBase e f X.env (eval e X.env)=eval e X.env:=by rfl)(hK:X.K=K:=by rfl):PE X (.Attribute e f pos) (zPU K ta f):=by
 subst hK;exact zQ he hb
def Z7 (H0 H:Hp)(q:Addr)(ls:List (List Int)):Prop:=∃ as:List Addr,zH H0 H/\H0 q=none/\(∀ a∈as,H0 a=none)/\H q=some (.lst (as.map V.ref))/\as.Nodup/\q∉as/\as.length=ls.length/\∀ (j:Nat) (a:Addr) (l:List Int),as[j]?=some a->ls[j]?=some l->H a=some (.lst (l.map V.int))
def zAz (H:Hp)(q:Addr)(ls:List (List Int)):Prop:=∃ as:List Addr,H q=some (.lst (as.map V.ref))/\as.length=ls.length/\∀ (j:Nat) (a:Addr) (l:List Int),as[j]?=some a->ls[j]?=some l->H a=some (.lst (l.map V.int))
theorem Z7.ok{H0 H:Hp}{q:Addr}{ls:List (List Int)}(h:Z7 H0 H q ls):zH H0 H/\zAz H q ls:=let ⟨as,h1,_,_,h4,_,_,h7,h8⟩:=h;⟨h1,as,h4,h7,h8⟩
theorem zAz.same{H H':Hp}{q:Addr}{ls:List (List Int)}(h:zAz H q ls)(s:zH H H'):zAz H' q ls:=let ⟨as,h1,h2,h3⟩:=h;⟨as,s _ _ h1,h2,λj a l e1 e2=>s _ _ (h3 j a l e1 e2)⟩
theorem zAz.get{H:Hp}{q:Addr}{ls:List (List Int)}{j:Nat}{l:List Int}(h:zAz H q ls)(e:ls[j]?=some l):∃ (as:List Addr) (a:Addr),H q=some (.lst (as.map V.ref))/\as[j]?=some a/\H a=some (.lst (l.map V.int)):=by
 obtain⟨as,h1,h2,h3⟩:=h;have hj:j<as.length:=by rw[h2];exact (yQ e).1
 exact⟨as,as[j],h1,yW hj,h3 j _ l (yW hj) e⟩
theorem Z7.same{H0 H H':Hp}{q:Addr}{ls:List (List Int)}(h:Z7 H0 H q ls)(s:zH H H'):Z7 H0 H' q ls:=let ⟨as,h1,h2,h3,h4,h5,h6,h7,h8⟩:=h;⟨as,h1.trans s,h2,h3,s _ _ h4,h5,h6,h7,λj a l e1 e2=>s _ _ (h8 j a l e1 e2)⟩
theorem Z7.app{H0 H:Hp}{q:Addr}{ls:List (List Int)}{j:Nat}{l:List Int}(h:Z7 H0 H q ls)(e:ls[j]?=some l)(x:Int):∃ (as:List Addr) (a:Addr),H q=some (.lst (as.map V.ref))/\as[j]?=some a/\H a=some (.lst (l.map V.int))/\Z7 H0 (upd H a (.lst (l.map V.int++[.int x]))) q (ls.set j (l++[x])):=by
 obtain⟨as,h1,h2,h3,h4,h5,h6,h7,h8⟩:=h;have hj:j<as.length:=by rw[h7];exact (yQ e).1
 have ha:as[j]?=some as[j]:=yW hj;generalize as[j]=a at ha;have ma:a∈as:=ZZ ha;refine⟨as,a,h4,ha,h8 j a l ha e,as,λb o eb=>?_,h2,h3,?_,h5,h6,by rw[VO];exact h7,λi b l' e1 e2=>?_⟩
 .rw[zG (zN eb (h3 a ma))];exact h1 _ _ eb
 .rw[zG (λz=>h6 (by rw[z];exact ma))];exact h4
 .by_cases hi:i=j
  .subst hi;rw[ha] at e1;cases e1;rw[VA (by rw[<-h7];exact hj)] at e2;cases e2;rw[zF,Ww];rfl
  .rw[W6 (Ne.symm hi)] at e2
   have ne:b≠a:=λz=>by
    subst z;have i1:=(yQ e1).1;exact hi ((List.getElem?_inj i1 h5).mp (e1.trans ha.symm))
   rw[zG ne];exact h8 i b l' e1 e2
def zIB (g:P2->Bool)(pts:List P2)(j:Nat):Bool:=match pts[j]? with
|some p=>g p
|none=>false
def ZD (g:P2->Bool)(pts:List P2)(i:Nat):List Int:=((List.range i).filter (zIB g pts)).map Int.ofNat
theorem zLl{g:P2->Bool}{pts:List P2}{i:Nat}{p:P2}(h:pts[i]?=some p):ZD g pts (i+1)=if g p=true then ZD g pts i++[(i:Int)] else ZD g pts i:=by
 unfold ZD;have e:zIB g pts i=g p:=by unfold zIB;rw[h]
 rw[List.range_succ,X9,Ww];by_cases hg:g p=true
 .rw[Wb hg,List.filter_cons_of_pos (by rw[e];exact hg)];rfl
 .rw[Wa hg,List.filter_cons_of_neg (by rw[e];exact hg)];simp
theorem zIC{g:P2->Bool}{pts:List P2}{i:Nat}:(ZD g pts i).length<=i:=by
 unfold ZD;rw[zc];have:=List.length_filter_le (zIB g pts) (List.range i);rw[Xw] at this;exact this
def Z8 (Z:Yb)(i:Nat):List (List Int):=[ZD (λp=>decide (p.2=0)) Z.pts i,ZD (λp=>decide (p.2=Z.hg)) Z.pts i,ZD (λp=>decide (p.1=0)) Z.pts i,ZD (λp=>decide (p.1=Z.wd)) Z.pts i]
def zCW (Z:Yb):Bool:=[0,Z.wd].all λx=>[0,Z.hg].all λy=>decide ((x,y)∈Z.pts)
section
variable {P:Program}{w:World}{K:Qf}{mg:Qm}{base:Heap}{C:Addr}
def zLm (K:Qf)(g:Yb->Bool):Sp:=λvs H Q _=>∃ (c:Addr) (Z:Yb),vs=[.ref c]/\Yn K H c Z/\Z.pts.length<10000/\∀ H',zH H H'->Q (.bl (g Z)) H'
theorem zDH:zO ["cartoon","places","x","y","point"] ["cartoon"] (zI zAa):=yG (by decide +kernel)
theorem zOh(D:zW K mg "has_corners" zAa ["cartoon"]):Ok P w K mg base 1 "has_corners" ["cartoon"] (zLm K zCW):=by
 refine D.ok zDH (λvs H Q E h=>?_) (λf cdv A outer s H vs Q E hr h=>?_)
 .obtain⟨c,Z,rfl,_⟩:=h;rfl
 .obtain⟨c,Z,rfl,CA,hn,k⟩:=h;obtain⟨Cc,dx,fs,pa,la,ma,h1,h2,h3,h4,h5,h6,h7,h8,h9,h10,h11,h12,⟨pvs,hp,ep⟩,h14,h15⟩:=id CA
  refine⟨_,zD (Yj (i:=1) (own:=[("point",4)]) rfl zDH.nd rfl rfl rfl (ZF (zQ (pv 0) rfl)) (ZM (show zAL ["cartoon","places","x","y","point"] (zI zAa) _ _=true by decide +kernel))
    (λ_ _ _ _ _=>zV (i:=4) zDH.nd rfl (Or.inl rfl)) (λ_ _ _ _ _=>Zm) (λ_ _ _ _ _=>Y9 (zA (zBP K (pv 4)) (zA (zBP K (pv 4)) zC))))
   (zD (yI Wz rfl (zHT (Y9 (zA zJ (zA (zQ (pv 0) rfl) zC)))) (zV (i:=2) zDH.nd rfl (Or.inl rfl))
    (zE (yI Wz rfl (zHT (Y9 (zA zJ (zA (zQ (pv 0) rfl) zC)))) (zV (i:=3) zDH.nd rfl (Or.inl rfl))
     (zE (zm (zj (zLk hr.units) (Y9 (zA (pv 2) (zA (pv 3) zC))) (pv 1) rfl) (zE (zS yk)) zZ)))))
   (zE (zS yk))),?_⟩
  refine⟨_,rfl,c,Cc,dx,fs,_,rfl,h1,h2,h5,h10,pa,rfl,⟨_,zM.of hp⟩,λL nL=>?_⟩;refine Yv (K:=K) (a:=pa) (xs:=pvs) (λi H'=>zH H H'/\zo RLn H' L (Z.pts.take i)) ⟨zR (zH.refl H) nL,_,zF,Zc.nil⟩ (λi H' _ hh=>zM.of (hh.1 _ _ hp)) ?_ ?_
  .rintro i y H' hi ⟨s1,vs,ev,qv⟩;obtain⟨p,hip,r⟩:=ep.get' hi;obtain⟨a,rfl,X⟩:=Z6.mono (yg.of s1) r;obtain⟨C1,d1,f1,a1,a2,a3,a4,a5,a6⟩:=id X;refine⟨rfl,?_⟩;refine⟨_,rfl,a,C1,d1,_,_,rfl,a1,a2,a3,a5,_,rfl,a,C1,d1,_,_,rfl,a1,a2,a4,a6,(by show 2<=sizeLine;decide),λt nt=>?_⟩;have ne:L≠t:=zN ev nt;refine⟨vs,by rw[zG ne];exact ev,?_,λb o eb=>?_,?_⟩
   .rw[qv.1,Wy];exact Yp (XD _ _) (yU hn (by decide))
   .rw[zG (zN eb nL),zG (zN (s1 _ _ eb) nt)];exact s1 _ _ eb
   .rw[yB hip];exact zo.snoc zCm (by rw[zG ne];exact ev) (qv.mono λv x r=>zCm _ _ v x (yg.of (zR (zH.refl H') nt)) r) ⟨t,rfl,zF⟩
  rintro H1 ⟨s1,vs,ev,qv⟩;rw[ep.1,Ws (Wd _)] at qv;refine⟨_,rfl,c,Cc,dx,fs,_,rfl,s1 _ _ h1,h2,h3,h8,(by show 2<=sizeLine;decide),λt nt=>?_⟩;have s2:zH H1 (upd H1 t (.tup [.int 0,.int Z.wd])):=zR (zH.refl H1) nt;refine⟨t,rfl,⟨_,yH.of zF⟩,zF8 (K:=K) (a:=t) (xs:=[0,Z.wd].map V.int) (λi σ H'=>∃ v2 v3 v4:Option V,σ=[some (.ref c),some (.ref L),v2,v3,v4]/\zH (upd H1 t (.tup [.int 0,.int Z.wd])) H'/\(([0,Z.wd]:List Int).take i).all (λx=>[0,Z.hg].all λy=>decide ((x,y)∈Z.pts))=true) ⟨_,_,_,rfl,zH.refl _,rfl⟩ (λi σ H' _ hh=>hh.elim λ_ hh=>hh.elim λ_ hh=>hh.elim λ_ hh=>yH.of (hh.2.1 _ _ zF)) ?_ ?_⟩
  .rintro i y σ H' hi ⟨v2,v3,v4,rfl,s3,hall⟩;obtain⟨x,hx,rfl⟩:=yz hi;have s13:=s2.trans s3;refine⟨_,rfl,c,Cc,dx,fs,_,rfl,s13 _ _ (s1 _ _ h1),h2,h4,h9,(by show 2<=sizeLine;decide),λt2 nt2=>?_⟩;have s4:zH H' (upd H' t2 (.tup [.int 0,.int Z.hg])):=zR (zH.refl H') nt2;refine⟨t2,rfl,⟨_,yH.of zF⟩,zF8 (K:=K) (a:=t2) (xs:=[0,Z.hg].map V.int) (λj σ H2=>∃ v3 v4:Option V,σ=[some (.ref c),some (.ref L),some (.int x),v3,v4]/\zH (upd H' t2 (.tup [.int 0,.int Z.hg])) H2/\(([0,Z.hg]:List Int).take j).all (λy=>decide ((x,y)∈Z.pts))=true) ⟨_,_,rfl,zH.refl _,rfl⟩ (λi σ H' _ hh=>hh.elim λ_ hh=>hh.elim λ_ hh=>yH.of (hh.2.1 _ _ zF)) ?_ ?_⟩
   .rintro j y σ H2 hj ⟨v3,v4,rfl,s5,hall2⟩;obtain⟨yy,hy,rfl⟩:=yz hj;refine⟨_,rfl,_,rfl,(by show 2<=sizeLine;decide),λt3 nt3=>?_⟩;have s6:zH H1 (upd H2 t3 (.tup [.int x,.int yy])):=zR ((s13.trans s4).trans s5) nt3;refine⟨_,rfl,L,vs,(x,yy),Z.pts,⟨t3,rfl,zF⟩,rfl,zM.of (s6 _ _ ev),qv.mono λv z r=>zCm _ _ v z (yg.of s6) r,_,rfl,zp (λhb=>?_) λhb=>?_⟩
    .rw[Wq] at hb;refine ZB (k _ (s1.trans s6)) ?_;exact zBK (f:=λx=>[0,Z.hg].all λy=>decide ((x,y)∈Z.pts)) hx (zBK (f:=λy=>decide ((x,y)∈Z.pts)) hy hb)
    .rw[Wu] at hb;exact⟨some (.int yy),v4,rfl,s5.trans (zR (zH.refl H2) nt3),zAi hall2 hy hb⟩
   .rintro σ H2 ⟨v3,v4,rfl,s5,hall2⟩;exact⟨_,_,_,rfl,(s3.trans s4).trans s5,zAi hall hx hall2⟩
  .rintro σ H' ⟨v2,v3,v4,rfl,s3,hall⟩;exact ZB (k _ (s1.trans (s2.trans s3))) hall
def zNI (K:Qf):Sp:=λvs H Q _=>∃ (c:Addr) (Z:Yb),vs=[.ref c]/\Yn K H c Z/\Z.pts.length<10000/\∀ H' q,zH H H'->zAz H' q (Z8 Z Z.pts.length)->Q (.ref q) H'
theorem zF0:zO ["cartoon","edges","number","point"] ["cartoon"] (zI zDg):=yG (by decide +kernel)
theorem zPz(D:zW K mg "edges_of" zDg ["cartoon"])(me:mg "enumerate" = none):Ok P w K mg base 1 "edges_of" ["cartoon"] (zNI K):=by
 refine D.ok zF0 (λvs H Q E h=>?_) (λf cdv A outer s H vs Q E hr h=>?_)
 .obtain⟨c,Z,rfl,_⟩:=h;rfl
 .obtain⟨c,Z,rfl,CA,hn,k⟩:=h;obtain⟨Cc,dx,fs,pa,la,ma,h1,h2,h3,h4,h5,h6,h7,h8,h9,h10,h11,h12,⟨pvs,hp,ep⟩,h14,h15⟩:=id CA
  refine⟨_,zD (zb (i:=1) zF0.nd rfl (Or.inl rfl) (yd (zA (yd zC) (zA (yd zC) (zA (yd zC) (zA (yd zC) zC))))))
   (zD (yI Wz rfl (YW rfl me (zA (zQ (pv 0) rfl) zC)) (YG rfl (zw (zV (i:=2) zF0.nd rfl (Or.inl rfl)) (zw (zV (i:=3) zF0.nd rfl (Or.inl rfl)) Zl)))
    (zD (zm (zj zAX (zQ (pv 3) rfl) zJ (zY _)) (zE (yf (zAG WF WP WO ZO (zf za (pv 1) zJ (λ_ _=>rfl)) (zA (pv 2) zC)))) zZ)
    (zD (zm (zj zAX (zQ (pv 3) rfl) (zQ (pv 0) rfl) (zY _)) (zE (yf (zAG WF WP WO ZO (zf za (pv 1) zJ (λ_ _=>rfl)) (zA (pv 2) zC)))) zZ)
    (zD (zm (zj zAX (zQ (pv 3) rfl) zJ (zY _)) (zE (yf (zAG WF WP WO ZO (zf za (pv 1) zJ (λ_ _=>rfl)) (zA (pv 2) zC)))) zZ)
    (zE (zm (zj zAX (zQ (pv 3) rfl) (zQ (pv 0) rfl) (zY _)) (zE (yf (zAG WF WP WO ZO (zf za (pv 1) zJ (λ_ _=>rfl)) (zA (pv 2) zC)))) zZ))))))
   (zE (zS (pv 1)))),?_⟩
  refine⟨WH _,λe0 n0=>⟨WH _,λe1 n1=>⟨WH _,λe2 n2=>⟨WH _,λe3 n3=>⟨(by show 4<=sizeLine;decide),λq nq=>?_⟩⟩⟩⟩⟩
  have hd:[e0,e1,e2,e3].Nodup/\q∉[e0,e1,e2,e3]/\H e0=none/\H e1=none/\H e2=none/\H e3=none/\H q=none:=by
   have a1:e0≠e1:=zN zF n1;have n1':H e1=none:=by rw[zG (Ne.symm a1)] at n1;exact n1
   have a2:e1≠e2:=zN zF n2;rw[zG (Ne.symm a2)] at n2;have a3:e0≠e2:=zN zF n2;have n2':H e2=none:=by rw[zG (Ne.symm a3)] at n2;exact n2
   have a4:e2≠e3:=zN zF n3;rw[zG (Ne.symm a4)] at n3;have a5:e1≠e3:=zN zF n3;rw[zG (Ne.symm a5)] at n3;have a6:e0≠e3:=zN zF n3;have n3':H e3=none:=by rw[zG (Ne.symm a6)] at n3;exact n3
   have b3:e3≠q:=zN zF nq;rw[zG (Ne.symm b3)] at nq;have b2:e2≠q:=zN zF nq;rw[zG (Ne.symm b2)] at nq;have b1:e1≠q:=zN zF nq;rw[zG (Ne.symm b1)] at nq;have b0:e0≠q:=zN zF nq;rw[zG (Ne.symm b0)] at nq;refine⟨?_,?_,n0,n1',n2',n3',nq⟩
   .simp[a1,a2,a3,a4,a5,a6]
   .simp[Ne.symm b0,Ne.symm b1,Ne.symm b2,Ne.symm b3]
  obtain⟨hnd,hqn,m0,m1,m2,m3,mq⟩:=hd
  have L0:Z7 H (upd (upd (upd (upd (upd H e0 (.lst [])) e1 (.lst [])) e2 (.lst [])) e3 (.lst [])) q (.lst [.ref e0,.ref e1,.ref e2,.ref e3])) q (Z8 Z 0):=by
   simp only[Vh,Wc,UX,or_false,not_or,Vl,not_false_eq_true,and_true] at hnd hqn;obtain⟨⟨a1,a2,a3⟩,⟨a4,a5⟩,a6⟩:=hnd;obtain⟨b0,b1,b2,b3⟩:=hqn;refine⟨[e0,e1,e2,e3],zR (zR (zR (zR (zR (zH.refl H) n0) n1) n2) n3) nq,mq,?_,zF,?_,?_,rfl,?_⟩
   .intro a ha;simp only[Wc,UX,or_false] at ha;rcases ha with rfl|rfl|rfl|rfl <;> assumption
   .simp[a1,a2,a3,a4,a5,a6]
   .simp[b0,b1,b2,b3]
   .intro j a l e1' e2'
    match j,e1',e2' with
   |0,e1',e2'=>cases e1';cases e2';rw[zG (Ne.symm b0),zG a3,zG a2,zG a1,zF];rfl
   |1,e1',e2'=>cases e1';cases e2';rw[zG (Ne.symm b1),zG a5,zG a4,zF];rfl
   |2,e1',e2'=>cases e1';cases e2';rw[zG (Ne.symm b2),zG a6,zF];rfl
   |3,e1',e2'=>cases e1';cases e2';rw[zG (Ne.symm b3),zF];rfl
  generalize upd (upd (upd (upd (upd H e0 (.lst [])) e1 (.lst [])) e2 (.lst [])) e3 (.lst [])) q (.lst [.ref e0,.ref e1,.ref e2,.ref e3])=Hb at L0;have sb:=L0.ok.1
  refine⟨_,rfl,c,Cc,dx,fs,_,rfl,sb _ _ h1,h2,h5,h10,pa,pvs,rfl,zM.of (sb _ _ hp),Z3 (K:=K) (a:=pa) (xs:=pvs) (λi σ H'=>∃ v2 v3:Option V,σ=[some (.ref c),some (.ref q),v2,v3]/\Z7 H H' q (Z8 Z i))
   ⟨none,none,rfl,L0⟩ (λi σ H' _ hh=>hh.elim λ_ hh=>hh.elim λ_ hh=>zM.of (hh.2.ok.1 _ _ hp)) ?_ ?_⟩
  .rintro i y σ H' T hi ⟨v2,v3,rfl,L⟩ hT;obtain⟨p,hip,r⟩:=ep.get' hi;have il:i<10000:=Vy (yQ hip).1 hn;have La:Z7 H (upd H' T (.tup [.int (i:Nat),y])) q (Z8 Z i):=L.same (zR (zH.refl H') hT);obtain⟨a,rfl,X0⟩:=r;refine⟨T,_,rfl,yH.of zF,rfl,_,_,rfl,_,_,rfl,rfl,?_⟩
   have app:∀ (g:P2->Bool) (j:Nat) (ls:List (List Int)) (Hx:Hp) (R:Hp->Prop),Z7 H Hx q ls->ls[j]?=some (ZD g Z.pts i)->(∀ Hy,Z7 H Hy q (ls.set j (ZD g Z.pts i++[(i:Int)]))->R Hy)->
     ∃ (as:List Addr) (b:Addr) (vs:List V),Hx q=some (.lst (as.map V.ref))/\as[j]?=some b/\Hx b=some (.lst vs)/\vs.length<sizeLine/\R (upd Hx b (.lst (vs++[.int (i:Int)]))):=by
    intro g j ls Hx R hL he hk;obtain⟨as,b,x1,x2,x3,x4⟩:=hL.app he (i:Int);refine⟨as,b,_,x1,x2,x3,?_,hk _ x4⟩;rw[zc];exact Yp zIC (yU il (by decide))
   have stp:∀ g:P2->Bool,ZD g Z.pts (i+1)=if g p=true then ZD g Z.pts i++[(i:Int)] else ZD g Z.pts i:=λg=>zLl hip
   have XX:∀ {Hx:Hp}{ls:List (List Int)},Z7 H Hx q ls->XY K Hx a p:=λhL=>X0.same hL.ok.1
   refine zFL (c:=decide (p.2=0)) (λHx=>Z7 H Hx q [ZD (λp=>decide (p.2=0)) Z.pts (i+1),ZD (λp=>decide (p.2=Z.hg)) Z.pts i,ZD (λp=>decide (p.1=0)) Z.pts i,ZD (λp=>decide (p.1=Z.wd)) Z.pts i]) (λR h=>?_) (λhc D' hD=>?_) (λhc=>?_) λHx1 Lx1=>?_
   .obtain⟨C1,d1,f1,a1,a2,a3,a4,a5,a6⟩:=XX La;exact⟨_,rfl,a,C1,d1,_,_,rfl,a1,a2,a4,a6,rfl,_,rfl,by rw[deq];exact h⟩
   .obtain⟨as,b,vs,x1,x2,x3,x4,x5⟩:=app (λp=>decide (p.2=0)) 0 _ _ (λHy=>D'.nx _ Hy) La rfl (λHy hy=>hD Hy (by rw[stp (λp=>decide (p.2=0)),Wb hc];exact hy));exact⟨_,rfl,q,_,_,_,rfl,rfl,zM.of x1,y9 (j:=0) rfl (map_some x2),.inl ⟨rfl,_,zM.of x3⟩,_,rfl,b,vs,_,rfl,rfl,x3,x4,x5⟩
   .rw[stp (λp=>decide (p.2=0)),Wa (by rw[hc];decide)];exact La
   refine zFL (c:=decide (p.2=Z.hg)) (λHx=>Z7 H Hx q [ZD (λp=>decide (p.2=0)) Z.pts (i+1),ZD (λp=>decide (p.2=Z.hg)) Z.pts (i+1),ZD (λp=>decide (p.1=0)) Z.pts i,ZD (λp=>decide (p.1=Z.wd)) Z.pts i]) (λR h=>?_) (λhc D' hD=>?_) (λhc=>?_) λHx2 Lx2=>?_
   .obtain⟨C1,d1,f1,a1,a2,a3,a4,a5,a6⟩:=XX Lx1;exact⟨_,rfl,a,C1,d1,_,_,rfl,a1,a2,a4,a6,_,rfl,c,Cc,dx,fs,_,rfl,Lx1.ok.1 _ _ h1,h2,h4,h9,rfl,_,rfl,by rw[deq];exact h⟩
   .obtain⟨as,b,vs,x1,x2,x3,x4,x5⟩:=app (λp=>decide (p.2=Z.hg)) 1 _ _ (λHy=>D'.nx _ Hy) Lx1 rfl (λHy hy=>hD Hy (by rw[stp (λp=>decide (p.2=Z.hg)),Wb hc];exact hy));exact⟨_,rfl,q,_,_,_,rfl,rfl,zM.of x1,y9 (j:=1) rfl (map_some x2),.inl ⟨rfl,_,zM.of x3⟩,_,rfl,b,vs,_,rfl,rfl,x3,x4,x5⟩
   .rw[stp (λp=>decide (p.2=Z.hg)),Wa (by rw[hc];decide)];exact Lx1
   refine zFL (c:=decide (p.1=0)) (λHx=>Z7 H Hx q [ZD (λp=>decide (p.2=0)) Z.pts (i+1),ZD (λp=>decide (p.2=Z.hg)) Z.pts (i+1),ZD (λp=>decide (p.1=0)) Z.pts (i+1),ZD (λp=>decide (p.1=Z.wd)) Z.pts i]) (λR h=>?_) (λhc D' hD=>?_) (λhc=>?_) λHx3 Lx3=>?_
   .obtain⟨C1,d1,f1,a1,a2,a3,a4,a5,a6⟩:=XX Lx2;exact⟨_,rfl,a,C1,d1,_,_,rfl,a1,a2,a3,a5,rfl,_,rfl,by rw[deq];exact h⟩
   .obtain⟨as,b,vs,x1,x2,x3,x4,x5⟩:=app (λp=>decide (p.1=0)) 2 _ _ (λHy=>D'.nx _ Hy) Lx2 rfl (λHy hy=>hD Hy (by rw[stp (λp=>decide (p.1=0)),Wb hc];exact hy));exact⟨_,rfl,q,_,_,_,rfl,rfl,zM.of x1,y9 (j:=2) rfl (map_some x2),.inl ⟨rfl,_,zM.of x3⟩,_,rfl,b,vs,_,rfl,rfl,x3,x4,x5⟩
   .rw[stp (λp=>decide (p.1=0)),Wa (by rw[hc];decide)];exact Lx2
   refine zMv (c:=decide (p.1=Z.wd)) (λHx=>Z7 H Hx q [ZD (λp=>decide (p.2=0)) Z.pts (i+1),ZD (λp=>decide (p.2=Z.hg)) Z.pts (i+1),ZD (λp=>decide (p.1=0)) Z.pts (i+1),ZD (λp=>decide (p.1=Z.wd)) Z.pts (i+1)]) (λR h=>?_) (λhc D' hD=>?_) (λhc=>?_) λHx4 Lx4=>?_
   .obtain⟨C1,d1,f1,a1,a2,a3,a4,a5,a6⟩:=XX Lx3;exact⟨_,rfl,a,C1,d1,_,_,rfl,a1,a2,a3,a5,_,rfl,c,Cc,dx,fs,_,rfl,Lx3.ok.1 _ _ h1,h2,h3,h8,rfl,_,rfl,by rw[deq];exact h⟩
   .obtain⟨as,b,vs,x1,x2,x3,x4,x5⟩:=app (λp=>decide (p.1=Z.wd)) 3 _ _ (λHy=>D'.nx _ Hy) Lx3 rfl (λHy hy=>hD Hy (by rw[stp (λp=>decide (p.1=Z.wd)),Wb hc];exact hy));exact⟨_,rfl,q,_,_,_,rfl,rfl,zM.of x1,y9 (j:=3) rfl (map_some x2),.inl ⟨rfl,_,zM.of x3⟩,_,rfl,b,vs,_,rfl,rfl,x3,x4,x5⟩
   .rw[stp (λp=>decide (p.1=Z.wd)),Wa (by rw[hc];decide)];exact Lx3
   exact⟨_,_,rfl,Lx4⟩
  .rintro σ H' ⟨v2,v3,rfl,L⟩;rw[ep.1] at L;exact⟨_,rfl,k H' q L.ok.1 L.ok.2⟩
end
def kPr (p:P2):List yF:=[.inl p.1,.inl p.2]
theorem zJR{p q:P2}(h:kPr p=kPr q):p=q:=by
 unfold kPr at h;injection h with h1 h2
 injection h2 with h2 _
 injection h1 with h1
 injection h2 with h2
 exact Prod.ext h1 h2
def zCX (l:List Int):List P2:=l.zip l.tail
def zDk (m:P2->Bool)(l:List Int):Bool:=(zCX l).all m
theorem zLn{l:List Int}:(zCX l).length=l.length-1:=by
 unfold zCX;rw[U3,List.length_tail];omega
theorem zMw{l:List Int}{i:Nat}(h:i<l.length-1):∃ x y,l[i]?=some x/\l[i+1]?=some y/\(zCX l)[i]?=some (x,y):=by
 have h1:i<l.length:=by omega
 have h2:i+1<l.length:=by omega
 refine⟨l[i],l[i+1],yW h1,yW h2,?_⟩;unfold zCX;rw[Uc];exact⟨yW h1,by rw[List.getElem?_tail];exact yW h2⟩
def RPd:Hp->V->P2->Prop:=λH v p=>∃ a t,v=.ref a/\H a=some (.tup [.ref t,.bl true])/\H t=some (.tup [.int p.1,.int p.2])
theorem zNJ:Nm RPd:=λ_ _ _ _ s r=>let ⟨a,t,e,h1,h2⟩:=r;⟨a,t,e,s _ _ h1 (λxs z=>by cases z),s _ _ h2 λxs z=>by cases z⟩
theorem zG0{K:Qf}{H:Hp}:∀ {vs:List V}{xs:List P2},Zc RPd H vs xs->∃ ps:List Addr,vs=ps.map V.ref/\Paired (λp (kv:List yF×V)=>∃ t,yH K H p [.ref t,kv.2]/\H t=some (.tup (kv.1.map kV))) ps (xs.map λp=>(kPr p,V.bl true))
|[],[],_=>⟨[],rfl,.nil⟩
|[],_::_,e=>by cases e.1
|_::_,[],e=>by cases e.1
|v::vs,x::xs,e=>by
  obtain⟨ps,rfl,q⟩:=zG0 (K:=K) (vs:=vs) (xs:=xs) ⟨Nat.succ.inj e.1,λj v' x' h1 h2=>e.2 (j+1) v' x' (by simpa using h1) (by simpa using h2)⟩;obtain⟨a,t,rfl,h1,h2⟩:=e.2 0 v x rfl rfl;exact⟨a::ps,rfl,.cons ⟨t,yH.of h1,h2⟩ q⟩
theorem zG1{k:List yF}:∀ (more kvs:List (List yF×V)),(y8 (Ky.Yu kvs more) k).isSome=((y8 kvs k).isSome||more.any λkv=>decide (kv.1=k))
|[],kvs=>by rw[List.any_nil,Bool.or_false];rfl
|p::r,kvs=>by
  show (y8 (Ky.Yu (YE kvs p.1 p.2) r) k).isSome=_;rw[zG1 r,zMQ,Xf];by_cases e:k=p.1
  .rw[Wb e,WJ e.symm];simp
  .rw[Wa e,WB (λz=>e z.symm),Xg]
theorem zJS{p:P2}(xs:List P2):(y8 (Ky.Yu [] (xs.map λp=>(kPr p,V.bl true))) (kPr p)).isSome=decide (p∈xs):=by
 rw[zG1,zMP,Wx];simp only[Option.isSome_none,Xg,UT,W4,Function.comp,ym];constructor
 .rintro⟨q,hq,e⟩;rw[<-zJR e];exact hq
 .exact λh=>⟨p,h,rfl⟩
def r6 (Z:Yb):Option (Int×Int):=if (zCW Z&&(Z8 Z Z.pts.length).all (zDk λp=>decide (p∈Z.lns)))=true then none else some (6,20)
def Few (Z:Yb):Prop:=Z.pts.length<10000/\Z.lns.length<10000/\Z.mks.length<10000
section
variable {P:Program}{w:World}{K:Qf}{mg:Qm}{base:Heap}{C:Addr}
def zNK (K:Qf):Sp:=λvs H Q _=>∃ (e d:Addr) (l:List Int) (kvs:List (List yF×V)),vs=[.ref e,.ref d]/\zM K H e (l.map V.int)/\(∀ H',zH H H'->zM K H' e (l.map V.int))/\H d=some (.dT kvs)/\l.length<10000/\∀ H',zH H H'->Q (.bl (zDk (λp=>(y8 kvs (kPr p)).isSome) l)) H'
theorem zLo:zO ["edge","joined","k"] ["edge","joined"] (zI zC2):=yG (by decide +kernel)
theorem zP0(D:zW K mg "is_joined" zC2 ["edge","joined"])(mr:mg "range" = none)(ml:mg "len" = none):Ok P w K mg base 1 "is_joined" ["edge","joined"] (zNK K):=by
 refine D.ok zLo (λvs H Q E h=>?_) (λf cdv A outer s H vs Q E hr h=>?_)
 .obtain⟨e,d,l,kvs,rfl,_⟩:=h;rfl
 .obtain⟨e,d,l,kvs,rfl,hS,hk,hd,hn,k⟩:=h
  refine⟨_,zD (yI Wz rfl (zGg rfl mr (zA zJ (zA (yE ml (zA (pv 0) zC)) zC))) (zV (i:=2) zLo.nd rfl (Or.inl rfl))
    (zE (zm (zFS (zLH (zHM hr) (Y9 (zA (zf za (pv 0) (zi ZL (pv 2) zJ) (λ_ _=>rfl)) (zA (zf za (pv 0) (pv 2) (λ_ _=>rfl)) zC))) (pv 1)) rfl) (zE (zS yk)) zZ)))
   (zE (zS yk)),?_⟩
  refine⟨_,rfl,e,_,rfl,.inl hS,1,_,rfl,⟨by decide,by decide,?_,?_⟩,Y6 (lo:=1) (λi σ H'=>∃ v:Option V,σ=[some (.ref e),some (.ref d),v]/\zH H H'/\((zCX l).take i).all (λp=>(y8 kvs (kPr p)).isSome)=true) ⟨none,rfl,zH.refl H,rfl⟩ ?_ ?_⟩
  .rw[zc];omega
  .rw[zc];omega
  .rintro i σ H' hi ⟨v,rfl,s1,ha⟩;rw[zc] at hi;obtain⟨x,y,hx,hy,hp⟩:=zMw (l:=l) (i:=i) (by omega);refine⟨_,rfl,_,rfl,_,_,rfl,rfl,e,_,_,_,rfl,rfl,hk _ s1,y9 (j:=i) (by omega) (map_some hx),_,rfl,_,rfl,e,_,_,_,rfl,rfl,hk _ s1,y9 (j:=i+1) (by omega) (map_some hy),(by show 2<=sizeLine;decide),λt nt=>?_⟩;have s2:zH H (upd H' t (.tup [.int x,.int y])):=zR s1 nt;refine⟨_,rfl,d,_,rfl,zBq.t (k:=kPr (x,y)) (s2 _ _ hd) zF,_,rfl,zp (λhb=>?_) λhb=>?_⟩
   .rw[Wq] at hb;exact ZB (k _ s2) (zBK (f:=λp=>(y8 kvs (kPr p)).isSome) hp hb)
   .rw[Wu] at hb;exact⟨_,rfl,s2,zAi ha hp hb⟩
  .rintro σ H' ⟨v,rfl,s1,ha⟩;rw[Ws (by rw[zLn,zc];omega)] at ha;exact ZB (k _ s1) ha
def zKW (K:Qf)(C:Addr)(B:Yb->Prop)(g:Yb->Option (Int×Int)):Sp:=λvs H Q E=>∃ (c:Addr) (Z:Yb),vs=[.ref c]/\Yn K H c Z/\B Z/\Res C E H Q (g Z)
theorem Res.rz{E:XK}{H:Hp}{Q:VK}{o:Option (Int×Int)}{r p:Int}(k:Res C E H Q o)(e:o=some (r,p)):Rz C E H r p:=by
 subst e;exact k
theorem Res.go{E:XK}{H H':Hp}{Q:VK}{o:Option (Int×Int)}(k:Res C E H Q o)(e:o=none)(s:zH H H'):Q .non H':=by
 subst e;exact k _ s
theorem zDI:zO ["cartoon","joined","edge","line"] ["cartoon"] (zI zAb):=yG (by decide +kernel)
theorem zOi(D:zW K mg "judge_frame" zAb ["cartoon"])(R:XR P w K mg base C)(OC:Ok P w K mg base 1 "has_corners" ["cartoon"] (zLm K zCW))(OE:Ok P w K mg base 1 "edges_of" ["cartoon"] (zNI K))(OJ:Ok P w K mg base 1 "is_joined" ["edge","joined"] (zNK K))
  (g0:yt mg "HEAD_SIZE" 20)(md:mg "dict" = none):Yf P w K mg base 3 "judge_frame" ["cartoon"] (zKW K C Few r6):=by
 refine D.okN zDI (λvs H Q E h=>?_) (λf cdv A outer s H vs Q E hr h=>?_)
 .obtain⟨c,Z,rfl,_⟩:=h;rfl
 .obtain⟨c,Z,rfl,CA,⟨hn,hm,_⟩,k⟩:=h;have hr1:zt 1 _:=hr.mono (by decide);have hu:=hr.units;obtain⟨Cc,dx,fs,pa,la,ma,h1,h2,h3,h4,h5,h6,h7,h8,h9,h10,h11,h12,⟨pvs,hp,ep⟩,⟨lvs,hl,el⟩,h15⟩:=id CA
  refine⟨_,zD (zm (Zi (yT (zT OC hr1 (zA (pv 0) zC)))) (zE (YA R hr (zA zJ (zA (ZA g0) zC)))) zZ)
   (zD (zb (i:=1) zDI.nd rfl (Or.inl rfl) (zGo (Ky.zKG (Yp (UI (by decide) _) hu) rfl) rfl md PyProof.Rows.boot_dict (zA (zFa (own:=[("line",3)]) rfl zDI.nd (ZF (zQ (pv 0) rfl)) (ZM (show zAL ["cartoon","joined","edge","line"] (zI zAb) _ _=true by decide +kernel))
    (λ_ _ _ _ _=>zV (i:=3) zDI.nd rfl (Or.inl rfl)) (λ_ _ _ _ _=>Zm) (λ_ _ _ _ _=>Y9 (zA (pv 3) (zA yk zC)))) zC)))
   (zE (yI Vi rfl (ZF (zT OE hr1 (zA (pv 0) zC))) (zV (i:=2) zDI.nd rfl (Or.inl rfl))
    (zE (zm (Zi (yT (zT OJ hr1 (zA (pv 2) (zA (pv 1) zC))))) (zE (YA R hr (zA zJ (zA (ZA g0) zC)))) zZ))))),?_⟩
  refine⟨_,rfl,c,Z,rfl,CA,hn,λH1 s1=>⟨_,rfl,zp (λhb=>?_) λhb=>?_⟩⟩
  .rw[Wq] at hb;exact⟨_,_,rfl,Ya (k.rz (by unfold r6;rw[hb];rfl)) s1⟩
  rw[Wu] at hb;refine⟨_,rfl,c,Cc,dx,fs,_,rfl,s1 _ _ h1,h2,h6,h11,la,rfl,⟨_,zM.of (s1 _ _ hl)⟩,λL nL=>?_⟩;refine Yv (K:=K) (a:=la) (xs:=lvs) (λi H'=>zH H1 H'/\zo RPd H' L (Z.lns.take i)) ⟨zR (zH.refl H1) nL,_,zF,Zc.nil⟩ (λi H' _ hh=>zM.of (hh.1 _ _ (s1 _ _ hl))) ?_ ?_
  .rintro i y H' hi ⟨s2,vs,ev,qv⟩;obtain⟨p,hip,r⟩:=el.get' hi;obtain⟨a,rfl,X⟩:=RLn.mono (yg.of (s1.trans s2)) r;refine⟨rfl,?_⟩;refine⟨_,rfl,(by show 2<=sizeLine;decide),λt nt=>?_⟩;have ne:L≠t:=zN ev nt;have s3:zH H' (upd H' t (.tup [.ref a,.bl true])):=zR (zH.refl H') nt;refine⟨vs,by rw[zG ne];exact ev,?_,λb o eb=>?_,?_⟩
   .rw[qv.1,Wy];exact Yp (XD _ _) (yU hm (by decide))
   .rw[zG (zN eb nL),zG (zN (s2 _ _ eb) nt)];exact s2 _ _ eb
   .rw[yB hip];exact zo.snoc zNJ (by rw[zG ne];exact ev) (qv.mono λv x r=>zNJ _ _ v x (yg.of s3) r) ⟨t,a,rfl,zF,s3 _ _ X⟩
  rintro H2 ⟨s2,vs,ev,qv⟩;rw[el.1,Ws (Wd _)] at qv;obtain⟨ps,rfl,qp⟩:=zG0 (K:=K) qv;refine⟨L,ps,_,rfl,zM.of ev,qp,λd nd=>?_⟩;have s3:zH H (upd H2 d (.dT (Ky.Yu [] (Z.lns.map λp=>(kPr p,V.bl true))))):=zR (s1.trans s2) nd;refine⟨_,rfl,c,Z,rfl,CA.same s3,hn,λH4 q s4 LO=>?_⟩;obtain⟨as,hq,hal,hat⟩:=id LO;refine⟨q,rfl,⟨_,zM.of hq⟩,Y5 (K:=K) (a:=q) (xs:=as.map V.ref) (λi σ H'=>∃ v2 v3:Option V,σ=[some (.ref c),some (.ref d),v2,v3]/\zH H4 H'/\((Z8 Z Z.pts.length).take i).all (zDk λp=>decide (p∈Z.lns))=true) ⟨none,none,rfl,zH.refl _,rfl⟩ (λi σ H' _ hh=>hh.elim λ_ hh=>hh.elim λ_ hh=>zM.of (hh.2.1 _ _ hq)) ?_ ?_⟩
  .rintro i y σ H' hi ⟨v2,v3,rfl,s5,ha⟩;obtain⟨a,hia,rfl⟩:=yz hi;have hil:i<(Z8 Z Z.pts.length).length:=by rw[<-hal];exact (yQ hia).1
   have he:(Z8 Z Z.pts.length)[i]?=some (Z8 Z Z.pts.length)[i]:=yW hil
   have hlen:(Z8 Z Z.pts.length)[i].length<10000:=by
    have hm:=XF hil;unfold Z8 at hm;simp only[Wc,UX,or_false] at hm;rcases hm with e|e|e|e <;> (rw[show (Z8 Z Z.pts.length)[i]=_ from e];exact Yp zIC hn)
   generalize (Z8 Z Z.pts.length)[i]=l at he hlen;have hl4:=hat i a l hia he;refine⟨_,rfl,_,rfl,a,d,l,_,rfl,zM.of (s5 _ _ hl4),λHx sx=>zM.of (sx _ _ (s5 _ _ hl4)),s5 _ _ (s4 _ _ zF),hlen,λH6 s6=>⟨_,rfl,zp (λhb2=>?_) λhb2=>?_⟩⟩
   .rw[Wq] at hb2;simp only[zJS] at hb2;refine⟨_,_,rfl,Ya (k.rz ?_) (s3.trans (s4.trans (s5.trans s6)))⟩;unfold r6;rw[zBK (f:=zDk λp=>decide (p∈Z.lns)) he hb2,XA];rfl
   .rw[Wu] at hb2;simp only[zJS] at hb2;exact⟨_,_,rfl,s5.trans s6,zAi ha he hb2⟩
  .rintro σ H' ⟨v2,v3,rfl,s5,ha⟩;rw[zc,hal,WY] at ha;exact k.go (by unfold r6;rw[hb,ha];rfl) (s3.trans (s4.trans s5))
end
def ptA (pts:List P2)(i:Int):P2:=pts.getD i.toNat (0,0)
theorem zGT{pts:List P2}{j:Nat}{p:P2}(h:pts[j]?=some p):ptA pts (j:Int)=p:=by
 unfold ptA;rw[Ve,Wi,h];rfl
theorem zB9{K:Qf}{H:Hp}{vs:List V}{pts:List P2}(q:Zc (Z6 K) H vs pts){i:Int}(h0:0<=i)(h1:i<pts.length):∃ b,atI vs i=some (.ref b)/\XY K H b (ptA pts i)/\ptA pts i∈pts:=by
 obtain⟨j,rfl⟩:=Uo h0;have hj:j<pts.length:=by omega
 have e:pts[j]?=some pts[j]:=yW hj;obtain⟨v,hv,b,rfl,X⟩:=q.get e;refine⟨b,y9 (j:=j) rfl hv,?_,?_⟩
 .rw[zGT e];exact X
 .rw[zGT e];exact XF hj
def zDl {α:Type}(g:Nat->α->Bool)(l:List α):Bool:=l.zipIdx.any λx=>g x.2 x.1
theorem zLp{α:Type}{g:Nat->α->Bool}{l:List α}{i:Nat}{x:α}(h:l[i]?=some x)(hg:g i x=true):zDl g l=true:=by
 unfold zDl;rw[W4];refine⟨(x,i),ZZ (i:=i) ?_,hg⟩;rw[List.getElem?_zipIdx,h];simp
theorem zKX{α:Type}{g:Nat->α->Bool}{l:List α}(h:∀ i x,l[i]?=some x->g i x=false):zDl g l=false:=by
 unfold zDl;rw[List.any_eq_false];rintro⟨x,i⟩ hm;have:=Vo.mp hm;rw[h i x this];decide
def zGU (n:Nat)(l:P2):Prop:=0<=l.1/\l.1<n/\0<=l.2/\l.2<n
def Sms (pts:List P2):Prop:=∀ p∈pts,Sm 1048576 p
def btw (pts:List P2)(l:P2)(i:Nat)(p:P2):Bool:=(!(decide (l.1=(i:Int))||decide (l.2=(i:Int))))&&onI p (ptA pts l.1) (ptA pts l.2)
def zFM (pts:List P2)(l m:P2):Bool:=zFx (ptA pts l.1) (ptA pts l.2) (ptA pts m.1) (ptA pts m.2)
def zC7 (Z:Yb)(i:Nat)(l:P2):Bool:=zDl (btw Z.pts l) Z.pts||(Z.lns.take i).any (zFM Z.pts l)
def r7 (Z:Yb):Option (Int×Int):=yY (zC7 Z) (λi=>(7,zBx Z (i:Int))) 0 Z.lns
structure zMx(Z:Yb):Prop where
 few:Few Z
 sm:Sms Z.pts
 ln:∀ l∈Z.lns,zGU Z.pts.length l
section
variable {P:Program}{w:World}{K:Qf}{mg:Qm}{base:Heap}{C:Addr}
def zNL (K:Qf):Sp:=λvs H Q _=>∃ (pa la:Addr) (pts:List P2) (l:P2),vs=[.ref pa,.ref la]/\zo (Z6 K) H pa pts/\H la=some (.tup [.int l.1,.int l.2])/\Sms pts/\zGU pts.length l/\∀ H',zH H H'->Q (.bl (zDl (btw pts l) pts)) H'
theorem zID:zO ["points","line","number","point"] ["points","line"] (zI Yz):=yG (by decide +kernel)
theorem zP1(D:zW K mg "has_point_between" Yz ["points","line"])(OO:Ok P w K mg base 2 "is_on" ["r","p","q"] (zMo K))(me:mg "enumerate" = none):Ok P w K mg base 3 "has_point_between" ["points","line"] (zNL K):=by
 refine D.ok zID (λvs H Q E h=>?_) (λf cdv A outer s H vs Q E hr h=>?_)
 .obtain⟨pa,la,pts,l,rfl,_⟩:=h;rfl
 .obtain⟨pa,la,pts,l,rfl,⟨pvs,hp,ep⟩,hl,hs,⟨l1,l2,l3,l4⟩,k⟩:=h
  refine⟨_,zD (yI Wz rfl (YW rfl me (zA (pv 0) zC)) (YG rfl (zw (zV (i:=2) zID.nd rfl (Or.inl rfl)) (zw (zV (i:=3) zID.nd rfl (Or.inl rfl)) Zl)))
    (zE (zm (PW.pt (zCB (zj zHZ (pv 2) (pv 1) rfl) (zA6 (yT (zT OO hr (zA (pv 3) (zA (zf za (pv 0) (zf zAq (pv 1) zJ (λ_ _=>rfl)) (λ_ _=>rfl)) (zA (zf za (pv 0) (zf zAq (pv 1) zJ (λ_ _=>rfl)) (λ_ _=>rfl)) zC)))))))) (zE (zS yk)) zZ)))
   (zE (zS yk)),?_⟩
  refine⟨_,rfl,pa,pvs,rfl,zM.of hp,Z3 (K:=K) (a:=pa) (xs:=pvs) (λi σ H'=>∃ v2 v3:Option V,σ=[some (.ref pa),some (.ref la),v2,v3]/\zH H H'/\∀ (j:Nat) (p:P2),j<i->pts[j]?=some p->btw pts l j p=false)
   ⟨none,none,rfl,zH.refl H,λj z hj=>absurd hj (W9 _)⟩ (λi σ H' _ hh=>hh.elim λ_ hh=>hh.elim λ_ hh=>zM.of (hh.2.1 _ _ hp)) ?_ ?_⟩
  .rintro i y σ H' T hi ⟨v2,v3,rfl,s1,hno⟩ hT;have s2:zH H (upd H' T (.tup [.int (i:Nat),y])):=zR s1 hT;obtain⟨p,hip,r⟩:=ep.get' hi;have hpm:=ZZ hip;obtain⟨a,rfl,X⟩:=Z6.mono (yg.of s2) r;have ep2:=ep.mono λv x r=>Z6.mono (yg.of s2) r
   obtain⟨b1,e1,X1,m1⟩:=zB9 ep2 l1 l2;obtain⟨b2,e2,X2,m2⟩:=zB9 ep2 l3 l4;refine⟨T,_,rfl,yH.of zF,rfl,_,_,rfl,_,_,rfl,rfl,?_⟩
   try dsimp only[ZQ,Yh,Ze,YV,YO,YQ]
   show zE5 _ _ _ _ _
   refine zA9 (c:=!(decide (l.1=(i:Int))||decide (l.2=(i:Int)))) (d:=onI p (ptA pts l.1) (ptA pts l.2)) (λR h=>⟨_,rfl,_,rfl,la,_,rfl,.inr (yH.of (s2 _ _ hl)),rfl,rfl,_,rfl,?_⟩)
    (λhc R h=>⟨_,rfl,_,rfl,_,rfl,la,_,_,_,rfl,rfl,yH.of (s2 _ _ hl),rfl,pa,pvs,_,_,rfl,rfl,zM.of (s2 _ _ hp),e1,_,rfl,_,rfl,la,_,_,_,rfl,rfl,yH.of (s2 _ _ hl),rfl,pa,pvs,_,_,rfl,rfl,zM.of (s2 _ _ hp),e2,a,b1,b2,p,_,_,rfl,X,X1,X2,(hs _ hpm).mono (by decide),(hs _ m1).mono (by decide),(hs _ m2).mono (by decide),_,rfl,h⟩)
    (zp (λhb=>?_) λhb=>?_)
   .have e:inV (V.int (i:Nat)) [V.int l.1,V.int l.2]=(decide (l.1=(i:Int))||decide (l.2=(i:Int))):=by
     show ((l.1==((i:Nat):Int))||((l.2==((i:Nat):Int))||false))=_;rw[Bool.or_false,W1,W1]
    show R (!inV (V.int (i:Nat)) [V.int l.1,V.int l.2]) _;rw[e];exact h
   .exact ZB (k _ s2) (zLp (g:=btw pts l) hip hb)
   .refine⟨_,_,rfl,s2,λj q hj hq=>?_⟩;by_cases e:j=i
    .subst e;rw[hip] at hq;cases hq;exact hb
    .exact hno j q (by omega) hq
  .rintro σ H' ⟨v2,v3,rfl,s1,hno⟩;exact ZB (k _ s1) (zKX (g:=btw pts l) λj y hy=>hno j y (by rw[ep.1];exact (yQ hy).1) hy)
def zNM (K:Qf):Sp:=λvs H Q _=>∃ (pa la oa:Addr) (pts:List P2) (l:P2) (ols:List P2),vs=[.ref pa,.ref la,.ref oa]/\zo (Z6 K) H pa pts/\H la=some (.tup [.int l.1,.int l.2])/\zo RLn H oa ols/\Sms pts/\zGU pts.length l/\(∀ m∈ols,zGU pts.length m)/\Q (.bl (ols.any (zFM pts l))) H
theorem zLq:zO ["points","line","others","other"] ["points","line","others"] (zI zCT):=yG (by decide +kernel)
theorem zIE{α:Type}{f:α->Bool}{l:List α}{i:Nat}{x:α}(h:(l.take i).any f=false)(hx:l[i]?=some x)(hf:f x=false):(l.take (i+1)).any f=false:=by
 rw[yB hx,List.any_append,h,Xf,hf];rfl
theorem zJT{α:Type}{f:α->Bool}{l:List α}{i:Nat}{x:α}(hx:l[i]?=some x)(hf:f x=true):l.any f=true:=W4.mpr ⟨x,ZZ hx,hf⟩
theorem zP2(D:zW K mg "is_crossed" zCT ["points","line","others"])(OX:Ok P w K mg base 2 "crosses" ["p","q","r","s"] (zJM K)):Ok P w K mg base 3 "is_crossed" ["points","line","others"] (zNM K):=by
 refine D.ok zLq (λvs H Q E h=>?_) (λf cdv A outer s H vs Q E hr h=>?_)
 .obtain⟨pa,la,oa,pts,l,ols,rfl,_⟩:=h;rfl
 .obtain⟨pa,la,oa,pts,l,ols,rfl,⟨pvs,hp,ep⟩,hl,⟨ovs,ho,eo⟩,hs,⟨l1,l2,l3,l4⟩,hok,k⟩:=h
  refine⟨_,zD (yI Wz rfl (ZF (pv 2)) (zV (i:=3) zLq.nd rfl (Or.inl rfl))
    (zE (zm (yT (zT OX hr (zA (zf za (pv 0) (zf zAq (pv 1) zJ (λ_ _=>rfl)) (λ_ _=>rfl)) (zA (zf za (pv 0) (zf zAq (pv 1) zJ (λ_ _=>rfl)) (λ_ _=>rfl)) (zA (zf za (pv 0) (zf zAq (pv 3) zJ (λ_ _=>rfl)) (λ_ _=>rfl)) (zA (zf za (pv 0) (zf zAq (pv 3) zJ (λ_ _=>rfl)) (λ_ _=>rfl)) zC)))))) (zE (zS yk)) zZ)))
   (zE (zS yk)),?_⟩
  obtain⟨b1,e1,X1,m1⟩:=zB9 ep l1 l2;obtain⟨b2,e2,X2,m2⟩:=zB9 ep l3 l4;refine⟨_,rfl,oa,rfl,⟨_,zM.of ho⟩,Y5 (K:=K) (a:=oa) (xs:=ovs) (λi σ H'=>∃ v:Option V,σ=[some (.ref pa),some (.ref la),some (.ref oa),v]/\H'=H/\(ols.take i).any (zFM pts l)=false) ⟨none,rfl,rfl,rfl⟩ (λi σ H' _ hh=>hh.elim λ_ hh=>by rw[hh.2.1];exact zM.of ho) ?_ ?_⟩
  .rintro i y σ H' hi ⟨v,rfl,rfl,ha⟩;obtain⟨m,him,b,rfl,hb⟩:=eo.get' hi;obtain⟨q1,q2,q3,q4⟩:=hok m (ZZ him);obtain⟨b3,e3,X3,m3⟩:=zB9 ep q1 q2;obtain⟨b4,e4,X4,m4⟩:=zB9 ep q3 q4
   refine⟨_,rfl,_,rfl,la,_,_,_,rfl,rfl,yH.of hl,rfl,pa,pvs,_,_,rfl,rfl,zM.of hp,e1,_,rfl,_,rfl,la,_,_,_,rfl,rfl,yH.of hl,rfl,pa,pvs,_,_,rfl,rfl,zM.of hp,e2,
    _,rfl,_,rfl,b,_,_,_,rfl,rfl,yH.of hb,rfl,pa,pvs,_,_,rfl,rfl,zM.of hp,e3,_,rfl,_,rfl,b,_,_,_,rfl,rfl,yH.of hb,rfl,pa,pvs,_,_,rfl,rfl,zM.of hp,e4,
    b1,b2,b3,b4,_,_,_,_,rfl,X1,X2,X3,X4,hs _ m1,hs _ m2,hs _ m3,hs _ m4,_,rfl,zp (λhb=>?_) λhb=>?_⟩
   .exact ZB k (zJT (f:=zFM pts l) him hb)
   .exact⟨_,rfl,rfl,zIE ha him hb⟩
  .rintro σ H' ⟨v,rfl,rfl,ha⟩;rw[eo.1,WY] at ha;exact ZB k ha
theorem zDJ:zO ["cartoon","points","before","number","line"] ["cartoon"] (zI zAN):=yG (by decide +kernel)
theorem zOj(D:zW K mg "judge_crossings" zAN ["cartoon"])(R:XR P w K mg base C)(OB:Ok P w K mg base 3 "has_point_between" ["points","line"] (zNL K))(OX:Ok P w K mg base 3 "is_crossed" ["points","line","others"] (zNM K))
  (OL:Ok P w K mg base 2 "line_place" ["cartoon","number"] (zBO K zBx))(me:mg "enumerate" = none):Yf P w K mg base 4 "judge_crossings" ["cartoon"] (zKW K C zMx r7):=by
 refine D.okN zDJ (λvs H Q E h=>?_) (λf cdv A outer s H vs Q E hr h=>?_)
 .obtain⟨c,Z,rfl,_⟩:=h;rfl
 .obtain⟨c,Z,rfl,CA,B,k⟩:=h;have hr2:zt 2 _:=hr.mono (by decide);obtain⟨hn,hm,_⟩:=B.few;obtain⟨Cc,dx,fs,pa,la,ma,h1,h2,h3,h4,h5,h6,h7,h8,h9,h10,h11,h12,⟨pvs,hp,ep⟩,⟨lvs,hl,el⟩,h15⟩:=id CA
  refine⟨_,zD (zb (i:=1) zDJ.nd rfl (Or.inl rfl) (zQ (pv 0) rfl)) (zD (zb (i:=2) zDJ.nd rfl (Or.inl rfl) (yd zC))
   (zE (yI Vi rfl (YW rfl me (zA (zQ (pv 0) rfl) zC)) (YG rfl (zw (zV (i:=3) zDJ.nd rfl (Or.inl rfl)) (zw (zV (i:=4) zDJ.nd rfl (Or.inl rfl)) Zl)))
    (zD (zm (PW.pt (zB0 (yT (zT OB hr (zA (pv 1) (zA (pv 4) zC)))) (zAo (yT (zT OX hr (zA (pv 1) (zA (pv 4) (zA (pv 2) zC)))))))) (zE (YA R hr2 (zA zJ (zA (zT OL hr2 (zA (pv 0) (zA (pv 3) zC))) zC)))) zZ)
    (zE (yf (zAG WF WP WO ZO (pv 2) (zA (pv 4) zC)))))))),?_⟩
  refine⟨_,rfl,c,Cc,dx,fs,_,rfl,h1,h2,h5,h10,WH _,λL nL=>?_⟩;have s0:zH H (upd H L (.lst [])):=zR (zH.refl H) nL
  refine⟨_,rfl,c,Cc,dx,fs,_,rfl,s0 _ _ h1,h2,h6,h11,la,lvs,rfl,zM.of (s0 _ _ hl),Z3 (K:=K) (a:=la) (xs:=lvs) (λi σ H'=>∃ v3 v4:Option V,σ=[some (.ref c),some (.ref pa),some (.ref L),v3,v4]/\zH H H'/\zo RLn H' L (Z.lns.take i)/\∀ (j:Nat) (p:P2),j<i->Z.lns[j]?=some p->zC7 Z (0+j) p=false)
   ⟨none,none,rfl,s0,⟨_,zF,Zc.nil⟩,λj z hj=>absurd hj (W9 _)⟩ (λi σ H' _ hh=>hh.elim λ_ hh=>hh.elim λ_ hh=>zM.of (hh.2.1 _ _ hl)) ?_ ?_⟩
  .rintro i y σ H' T hi ⟨v3,v4,rfl,s1,LL,hno⟩ hT;have sT:zH H' (upd H' T (.tup [.int (i:Nat),y])):=zR (zH.refl H') hT;have s2:zH H (upd H' T (.tup [.int (i:Nat),y])):=zR s1 hT;obtain⟨l,hil,r⟩:=el.get' hi;have hlk:=B.ln l (ZZ hil);obtain⟨a,rfl,X⟩:=RLn.mono (yg.of s2) r;refine⟨T,_,rfl,yH.of zF,rfl,_,_,rfl,_,_,rfl,rfl,?_⟩;generalize hG:upd H' T (.tup [.int (i:Nat),.ref a])=Hg at s2 sT X;have LP:∀ {Hx:Hp},zH H Hx->zo (Z6 K) Hx pa Z.pts:=λsx=>zo.same zB4 ⟨pvs,hp,ep⟩ sx
   refine⟨_,rfl,_,rfl,pa,a,Z.pts,l,rfl,LP s2,X,B.sm,hlk,λH3 s3=>?_⟩;have L3:zo RLn H3 L (Z.lns.take i):=LL.same zCm (sT.trans s3);have s23:=s2.trans s3;refine⟨_,rfl,?_⟩
   have fin:∀ b:Bool,b=zC7 Z (0+i) l->(b=true->Rz C E H 7 (zBx Z (i:Int)))/\(b=false->∀ (j:Nat) (p:P2),j<i+1->Z.lns[j]?=some p->zC7 Z (0+j) p=false):=by
    intro b hb;subst hb;refine⟨λhb=>?_,λhb j q hj hq=>?_⟩
    .have e:=Zg (f:=λi=>((7:Int),zBx Z (i:Int))) hno hil hb;rw[WC] at e;exact k.rz e
    .by_cases e:j=i
     .subst e;rw[hil] at hq;cases hq;exact hb
     .exact hno j q (by omega) hq
   have nx:zC7 Z (0+i) l=false->∃ (vs:List V),H3 L=some (.lst vs)/\vs.length<sizeLine/\zH H (upd H3 L (.lst (vs++[.ref a])))/\zo RLn (upd H3 L (.lst (vs++[.ref a]))) L (Z.lns.take (i+1)):=by
    intro hb;obtain⟨vs,ev,qv⟩:=L3;refine⟨vs,ev,?_,λb o eb=>?_,?_⟩
    .rw[qv.1,Wy];exact Yp (XD _ _) (yU hm (by decide))
    .rw[zG (zN eb nL)];exact s23 _ _ eb
    .rw[yB hil];exact zo.snoc zCm ev qv ⟨a,rfl,s3 _ _ X⟩
   refine zp (λhb=>?_) λhb=>?_
   .exact zDW ⟨_,rfl,_,rfl,c,Z,_,rfl,CA.same s23,_,_,rfl,Ya ((fin true (by unfold zC7;rw[hb];rfl)).1 rfl) s23⟩
   .refine⟨_,rfl,_,rfl,_,rfl,pa,a,L,Z.pts,l,_,rfl,LP s23,s3 _ _ X,L3,B.sm,hlk,λm hm=>B.ln m (XI hm),_,rfl,zp (λhb2=>?_) λhb2=>?_⟩
    .exact⟨_,rfl,_,rfl,c,Z,_,rfl,CA.same s23,_,_,rfl,Ya ((fin true (by unfold zC7;rw[hb,WC,hb2];rfl)).1 rfl) s23⟩
    .have hb3:zC7 Z (0+i) l=false:=by unfold zC7;rw[hb,WC,hb2];rfl
     obtain⟨vs,x1,x2,x3,x4⟩:=nx hb3;exact⟨_,rfl,.inl ⟨rfl,_,zM.of x1⟩,_,rfl,L,vs,_,rfl,rfl,x1,x2,_,_,rfl,x3,x4,(fin false hb3.symm).2 rfl⟩
  .rintro σ H' ⟨v3,v4,rfl,s1,LL,hno⟩;refine k.go ?_ s1;exact Zh λj y hy=>hno j y (by rw[el.1];exact (yQ hy).1) hy
end
def zq (p:Gla.Pt):P2:=((p.x:Int),(p.y:Int))
def ZS (l:Nat×Nat):P2:=((l.1:Int),(l.2:Int))
def cmk (m:Gla.Mark):P2×Int:=(zq m.at_,(m.painting:Int))
def zg (S:Gla.Plan):Yb:=⟨(S.w:Int),(S.h:Int),S.pts.map zq,S.lines.map ZS,S.marks.map cmk⟩
structure Yc(S:Gla.Plan):Prop where
 n:S.pts.length<10000
 n2:2<=S.pts.length
 m:S.lines.length<10000
 k:S.marks.length<10000
 sm:∀ p∈S.pts,p.x<=1048576/\p.y<=1048576
 ln:∀ l∈S.lines,l.1<l.2/\l.2<S.pts.length
theorem Yc.few{S:Gla.Plan}(B:Yc S):Few (zg S):=by
 unfold Few zg;simp only[zc];exact⟨B.n,B.m,B.k⟩
theorem Yc.car{S:Gla.Plan}(B:Yc S):zMx (zg S):=by
 refine⟨B.few,λp hp=>?_,λl hl=>?_⟩
 .obtain⟨q,hq,rfl⟩:=Wg.mp (show p∈S.pts.map zq from hp);have:=B.sm q hq;unfold Sm zq;simp only;omega
 .obtain⟨q,hq,rfl⟩:=Wg.mp (show l∈S.lines.map ZS from hl);have:=B.ln q hq;show zGU (S.pts.map zq).length (ZS q);rw[zc];unfold zGU ZS;simp only;omega
def YB (ls:List (Nat×Nat))(i:Nat):List Nat:=ls.filterMap λ(l:Nat×Nat)=>if l.1=i then some l.2 else if l.2=i then some l.1 else none
def yL (n:Nat)(ls:List (Nat×Nat)):List (List Nat):=(List.range n).map (YB ls)
def zAV (n:Nat)(ls:List (Nat×Nat)):List (List Int):=(yL n ls).map (List.map Int.ofNat)
theorem zEP{n i:Nat}{ls:List (Nat×Nat)}(h:i<n):(yL n ls)[i]?=some (YB ls i):=by
 unfold yL;rw[WQ,List.getElem?_range h];rfl
theorem zBo{n i:Nat}{ls:List (Nat×Nat)}(h:i<n):(zAV n ls)[i]?=some ((YB ls i).map Int.ofNat):=by
 unfold zAV;rw[WQ,zEP h];rfl
theorem zA0{n:Nat}{ls:List (Nat×Nat)}:(zAV n ls).length=n:=by
 unfold zAV yL;rw[zc,zc,Xw]
theorem zLr{ls:List (Nat×Nat)}{i:Nat}:(YB ls i).length<=ls.length:=List.length_filterMap_le _ _
theorem zKY{ls:List (Nat×Nat)}{l:Nat×Nat}{i:Nat}:YB (ls++[l]) i=YB ls i++(if l.1=i then [l.2] else if l.2=i then [l.1] else []):=by
 unfold YB;rw[List.filterMap_append]
 congr 1
 by_cases h1:l.1=i
 .simp[h1]
 .by_cases h2:l.2=i
  .simp[h1,h2]
  .simp[h1,h2]
theorem zIr{n:Nat}{ls:List (Nat×Nat)}{l:Nat×Nat}(h1:l.1<l.2)(h2:l.2<n) :
  zAV n (ls++[l])=((zAV n ls).set l.1 ((YB ls l.1).map Int.ofNat++[(l.2:Int)])).set l.2 ((YB ls l.2).map Int.ofNat++[(l.1:Int)]):=by
 refine List.ext_getElem? λi=>?_
 by_cases hi:i<n
 .rw[zBo hi,zKY,Ww];by_cases e2:l.2=i
  .subst e2;rw[VA (by rw[VO,zA0];exact h2),Wa (by omega),Wb rfl];rfl
  .rw[W6 e2];by_cases e1:l.1=i
   .subst e1;rw[VA (by rw[zA0];omega),Wb rfl];rfl
   .rw[W6 e1,zBo hi,Wa e1,Wa e2,V6,VD]
 .rw[W3 (by rw[zA0];omega),W3 (by rw[VO,VO,zA0];omega)]
theorem Z7.push{H0 H:Hp}{q a:Addr}{ls:List (List Int)}(h:Z7 H0 H q ls)(na:H a=none) :
  ∃ as:List Addr,H q=some (.lst (as.map V.ref))/\as.length=ls.length/\Z7 H0 (upd (upd H a (.lst [])) q (.lst (as.map V.ref++[.ref a]))) q (ls++[[]]):=by
 obtain⟨as,h1,h2,h3,h4,h5,h6,h7,h8⟩:=h;have qa:q≠a:=zN h4 na;have n0:H0 a=none:=zCk h1 a na
 have aas:∀ b,b∈as->b≠a:=by
  intro b hb e;subst e;obtain⟨j,hj⟩:=Vv hb;have hl:j<ls.length:=by rw[<-h7];exact (yQ hj).1
  rw[h8 j b _ hj (yW hl)] at na;cases na
 refine⟨as,h4,h7,as++[a],λb o eb=>?_,h2,?_,?_,?_,?_,by simp[h7],λj b l e1 e2=>?_⟩
 .rw[zG (zN eb h2),zG (zN eb n0)];exact h1 _ _ eb
 .intro b hb;rcases Wp.mp hb with hb|hb
  .exact h3 b hb
  .rw[Wn.mp hb];exact n0
 .rw[zF,Ww];rfl
 .rw[Xv];refine⟨h5,by simp,λx hx y hy=>?_⟩;rw[Wn.mp hy];exact aas x hx
 .intro hb;rcases Wp.mp hb with hb|hb
  .exact h6 hb
  .exact qa (Wn.mp hb)
 .have bq:b≠q:=by
   intro e;subst e;rcases Wp.mp (ZZ e1) with hb|hb
   .exact h6 hb
   .exact qa (Wn.mp hb)
  rw[zG bq];by_cases hj:j<as.length
  .rw[W7 hj] at e1;rw[W7 (by rw[<-h7];exact hj)] at e2;rw[zG (aas b (ZZ e1))];exact h8 j b l e1 e2
  .have hj2:j=as.length:=by
    have:=(yQ e1).1;rw[Wr,VV] at this;omega
   subst hj2;rw[VB (Wd _),XU] at e1;rw[VB (by omega),h7,XU] at e2;cases e1;cases e2;rw[zF];rfl
section
variable {P:Program}{w:World}{K:Qf}{mg:Qm}{base:Heap}{C:Addr}
def zKZ (K:Qf):Sp:=λvs H Q _=>∃ (c:Addr) (S:Gla.Plan),vs=[.ref c]/\Yn K H c (zg S)/\Yc S/\∀ H' q,zH H H'->zAz H' q (zAV S.pts.length S.lines)->Q (.ref q) H'
theorem zEQ:zO ["cartoon","neighbours","first","second","point"] ["cartoon"] (zI Y4):=yG (by decide +kernel)
theorem zLs{n:Nat}:zAV n []=List.replicate n []:=by
 refine List.ext_getElem? λi=>?_
 by_cases hi:i<n
 .rw[zBo hi,V4,Wb hi];rfl
 .rw[W3 (by rw[zA0];omega),W3 (by rw[VF];omega)]
theorem zP3(D:zW K mg "neighbours_of" Y4 ["cartoon"]):Ok P w K mg base 1 "neighbours_of" ["cartoon"] (zKZ K):=by
 refine D.ok zEQ (λvs H Q E h=>?_) (λf cdv A outer s H vs Q E hr h=>?_)
 .obtain⟨c,S,rfl,_⟩:=h;rfl
 .obtain⟨c,S,rfl,CA,B,k⟩:=h;obtain⟨Cc,dx,fs,pa,la,ma,h1,h2,h3,h4,h5,h6,h7,h8,h9,h10,h11,h12,⟨pvs,hp,ep⟩,⟨lvs,hl,el⟩,h15⟩:=id CA;have hpl:pvs.length=S.pts.length:=by rw[ep.1];exact zc ..
  have hll:lvs.length=S.lines.length:=by rw[el.1];exact zc ..
  refine⟨_,zD (Yj (i:=1) (own:=[("point",4)]) rfl zEQ.nd rfl rfl rfl (ZF (zQ (pv 0) rfl)) (ZM (show zAL ["cartoon","neighbours","first","second","point"] (zI Y4) _ _=true by decide +kernel))
    (λ_ _ _ _ _=>zV (i:=4) zEQ.nd rfl (Or.inl rfl)) (λ_ _ _ _ _=>Zm) (λ_ _ _ _ _=>yd zC))
   (zD (yI Wz rfl (ZF (zQ (pv 0) rfl)) (YG rfl (zw (zV (i:=2) zEQ.nd rfl (Or.inl rfl)) (zw (zV (i:=3) zEQ.nd rfl (Or.inl rfl)) Zl)))
    (zD (yf (zAG WF WP WO ZO (zf za (pv 1) (pv 2) (λ_ _=>rfl)) (zA (pv 3) zC)))
    (zE (yf (zAG WF WP WO ZO (zf za (pv 1) (pv 3) (λ_ _=>rfl)) (zA (pv 2) zC))))))
   (zE (zS (pv 1)))),?_⟩
  refine⟨_,rfl,c,Cc,dx,fs,_,rfl,h1,h2,h5,h10,pa,rfl,⟨_,zM.of hp⟩,λL nL=>?_⟩;refine Yv (K:=K) (a:=pa) (xs:=pvs) (λi H'=>Z7 H H' L (List.replicate i [])) ⟨[],zR (zH.refl H) nL,nL,λa ha=>(by cases ha),zF,Vl,(by simp),rfl,λj a l e1=>(by simp at e1)⟩ (λi H' _ LA=>zM.of (LA.ok.1 _ _ hp)) ?_ ?_
  .rintro i y H' hi LA;refine⟨rfl,?_⟩;refine⟨WH _,λa na=>?_⟩;obtain⟨as,e1,e2,e3⟩:=LA.push na;refine⟨_,by rw[zG (zN e1 na)];exact e1,?_,?_⟩
   .rw[zc,e2,VF];have:=(yQ hi).1;exact Vy this (yU (by rw[hpl];exact B.n) (by decide))
   .rw[List.replicate_succ'];exact e3
  rintro H1 LA;rw[hpl,<-zLs] at LA;have s1:=LA.ok.1
  refine⟨_,rfl,c,Cc,dx,fs,_,rfl,s1 _ _ h1,h2,h6,h11,la,rfl,⟨_,zM.of (s1 _ _ hl)⟩,Y5 (K:=K) (a:=la) (xs:=lvs) (λi σ H'=>∃ v2 v3 v4:Option V,σ=[some (.ref c),some (.ref L),v2,v3,v4]/\Z7 H H' L (zAV S.pts.length (S.lines.take i)))
   ⟨_,_,_,rfl,LA⟩ (λi σ H' _ hh=>hh.elim λ_ hh=>hh.elim λ_ hh=>hh.elim λ_ hh=>zM.of (hh.2.ok.1 _ _ hl)) ?_ ?_⟩
  .rintro i y σ H' hi ⟨v2,v3,v4,rfl,LA⟩;obtain⟨p,hip,r⟩:=el.get' hi;obtain⟨l,hil,rfl⟩:=yz (show (S.lines.map ZS)[i]?=some p from hip);have hlo:=B.ln l (ZZ hil);obtain⟨a,rfl,X⟩:=RLn.mono (yg.of LA.ok.1) r
   have szn:∀ j,((YB (S.lines.take i) j).map Int.ofNat).length<sizeLine-1:=λj=>by
    rw[zc];refine Yp zLr ?_;rw[Wy];exact Yp (XD _ _) (yU B.m (by decide))
   have sz:∀ j,(((YB (S.lines.take i) j).map Int.ofNat).map V.int).length<sizeLine:=λj=>by
    rw[zc];exact yU (szn j) (Nat.sub_le _ _)
   obtain⟨as,b,x1,x2,x3,x4⟩:=LA.app (zBo (i:=l.1) (by omega)) ((l.2:Nat):Int)
   have hat2:((zAV S.pts.length (S.lines.take i)).set l.1 ((YB (S.lines.take i) l.1).map Int.ofNat++[((l.2:Nat):Int)]))[l.2]?=some ((YB (S.lines.take i) l.2).map Int.ofNat):=by
    rw[W6 (by omega)];exact zBo hlo.2
   obtain⟨as2,b2,y1,y2,y3,y4⟩:=x4.app hat2 ((l.1:Nat):Int);refine⟨a,_,rfl,yH.of X,rfl,_,_,rfl,_,_,rfl,rfl,?_⟩;refine⟨_,rfl,_,rfl,L,_,_,_,rfl,rfl,zM.of x1,y9 (j:=l.1) rfl (map_some x2),.inl ⟨rfl,_,zM.of x3⟩,_,rfl,b,_,_,rfl,rfl,x3,sz _,?_⟩;refine⟨_,rfl,_,rfl,L,_,_,_,rfl,rfl,zM.of y1,y9 (j:=l.2) rfl (map_some y2),.inl ⟨rfl,_,zM.of y3⟩,_,rfl,b2,_,_,rfl,rfl,y3,sz _,?_⟩;refine⟨_,_,_,rfl,?_⟩;rw[yB hil,zIr hlo.1 hlo.2];exact y4
  .rintro σ H' ⟨v2,v3,v4,rfl,LA⟩;rw[hll,WY] at LA;exact⟨_,rfl,k _ _ LA.ok.1 LA.ok.2⟩
end
def zRB (K:Qf):V->List V->Hp->VK->Prop:=λx xs H Q=>∃ (a:Addr) (bs:List Bool),x=.ref a/\xs=[.bl true]/\zM K H a (bs.map V.bl)/\Q (.int (bs.count true:Nat)) H
theorem zG2{K:Qf}{H:Hp}:∀ bs:List Bool,zB1 K H (bs.map V.bl) (bs.map PyData.bool)
|[]=>.nil
|b::bs=>.cons (.bl b) (zG2 bs)
theorem zJU:∀ bs:List Bool,(bs.map PyData.bool).all Shape.bool.has=true
|[]=>rfl
|b::bs=>by
  rw[Wj,Xp,zJU bs];rfl
theorem zJV:∀ bs:List Bool,countIn (.bool true) (bs.map PyData.bool)=(bs.count true:Nat)
|[]=>rfl
|b::bs=>by
  rw[Wj,countIn,zJV bs];cases b <;> simp[same] <;> omega
theorem zOk{X:Cx}:MtR X "list.count" (zRB X.K):=by
 intro pins s σ H x xs v us Q I rx rv h;obtain⟨a,bs,rfl,rfl,hs,q⟩:=h;cases rx;obtain⟨u,rfl,ru⟩:=rv.one;cases ru;obtain⟨its,r,hl,_⟩:=I.list hs;obtain⟨as,ra⟩:=Dp.readsAll I _ _ _ (zG2 (K:=X.K) (H:=H) bs) r;refine count_list_bools hl.isList ra (zJU bs) ⟨.int _,H,I.tok _,⟨_,rfl⟩,?_⟩;rw[zJV];exact q
def yV (lo:Int)(a:List Nat×List Bool)(j:Nat):List Nat×List Bool:=if (!decide ((j:Int)=lo) && !(a.2.getD j true))=true then (j::a.1,a.2.set j true) else a
def rgo (near:List (List Nat))(lo:Int):Nat->List Nat->List Bool->List Bool
|0,_,r=>r
|_+1,[],r=>r
|m+1,k::t,r=>rgo near lo m ((near.getD k []).foldl (yV lo) (t,r)).1 ((near.getD k []).foldl (yV lo) (t,r)).2
def ZI (near:List (List Nat))(lo:Int)(s:Nat):List Bool:=rgo near lo (near.length+1) [s] ((List.replicate near.length false).set s true)
theorem zEn:∀ {r:List Bool}{j:Nat},r[j]?=some false->(r.set j true).count false+1=r.count false
|[],j,h=>by simp at h
|a::r,0,h=>by
  simp at h;subst h;simp
|a::r,j+1,h=>by
  have:=zEn (r:=r) (j:=j) (by simpa using h);cases a <;> simp <;> omega
theorem zG3{r:List Bool}{j:Nat}(h:j<r.length):r[j]?=some (r.getD j true):=by
 rw[Wi,yW h];rfl
structure zAQ(n c:Nat)(a:List Nat×List Bool):Prop where
 len:a.2.length=n
 lt:∀ j∈a.1,j<n
 cnt:a.2.count false+a.1.length=c
theorem zAQ.step{n c:Nat}{a:List Nat×List Bool}{lo:Int}{j:Nat}(I:zAQ n c a)(h:j<n):zAQ n c (yV lo a j):=by
 unfold yV;by_cases hc:(!decide ((j:Int)=lo) && !(a.2.getD j true))=true
 .rw[Wb hc];rw[yZ,Wq] at hc
  have hg:a.2[j]?=some false:=by
   rw[zG3 (by rw[I.len];exact h)];have:=hc.2;rw[Wq] at this;rw[this]
  refine⟨by rw[VO];exact I.len,λi hi=>?_,?_⟩
  .rcases Wc.mp hi with rfl|hi
   .exact h
   .exact I.lt i hi
  .have:=zEn hg;have:=I.cnt;rw[WD];show (a.2.set j true).count false+(a.1.length+1)=c;omega
 .rw[Wa hc];exact I
theorem zAQ.fold{n c:Nat}{lo:Int}:∀ {l:List Nat}{a:List Nat×List Bool},zAQ n c a->(∀ j∈l,j<n)->zAQ n c (l.foldl (yV lo) a)
|[],_,I,_=>I
|j::l,a,I,h=>zAQ.fold (l:=l) (I.step (h j Wt)) λi hi=>h i (We _ hi)
def zDK (near:List (List Nat)):Prop:=near.length<10000/\∀ l∈near,∀ j∈l,j<near.length
def LLN (H:Hp)(q:Addr)(near:List (List Nat)):Prop:=zAz H q (near.map (List.map Int.ofNat))
theorem zJW{near:List (List Nat)}{lo:Int}(ok:zDK near):∀ {m:Nat}{t:List Nat}{r:List Bool},r.length=near.length->(∀ j∈t,j<near.length)->(rgo near lo m t r).length=near.length
|0,_,_,h,_=>h
|_+1,[],_,h,_=>h
|m+1,k::t,r,h,ht=>by
  have hk:=ht k Wt
  have hm:near.getD k []∈near:=by
   rw[Wi,yW hk];exact XF hk
  have I:zAQ near.length (r.count false+t.length) ((near.getD k []).foldl (yV lo) (t,r)):=zAQ.fold ⟨h,λj hj=>ht j (We _ hj),rfl⟩ (ok.2 _ hm);show (rgo near lo m ((near.getD k []).foldl (yV lo) (t,r)).1 ((near.getD k []).foldl (yV lo) (t,r)).2).length=_;exact zJW ok I.len I.lt
theorem zF1{near:List (List Nat)}{lo:Int}{s:Nat}(ok:zDK near)(hs:s<near.length):(ZI near lo s).length=near.length:=by
 refine zJW ok (by rw[VO,VF]) λj hj=>?_
 rw[Wn.mp hj];exact hs
section
variable {P:Program}{w:World}{K:Qf}{mg:Qm}{base:Heap}{C:Addr}
def zKa (K:Qf):Sp:=λvs H Q _=>∃ (s:Nat) (q:Addr) (lo:Int) (near:List (List Nat)),vs=[.int (s:Int),.ref q,.int lo]/\LLN H q near/\zDK near/\s<near.length/\∀ H' R,zH H H'->H' R=some (.lst ((ZI near lo s).map V.bl))->Q (.ref R) H'
theorem zDL:zO ["start","neighbours","left_out","reached","waiting","here","number","point"] ["start","neighbours","left_out"] (zI zAJ):=yG (by decide +kernel)
theorem zJX{n j:Nat}(h:j<n):ixN n ((j:Nat):Int)=some j:=by
 unfold ixN;rw[Wb (V8 _),Wb (by omega),Ve]
theorem zP4(D:zW K mg "reached_from" zAJ ["start","neighbours","left_out"])(ml:mg "len" = none):Ok P w K mg base 1 "reached_from" ["start","neighbours","left_out"] (zKa K):=by
  refine D.ok zDL (λvs H Q E h=>?_) (λf cdv A outer s H vs Q E hr h=>?_)
  · obtain⟨s,q,lo,near,rfl,_⟩:=h
    rfl
  · obtain⟨st,q,lo,near,rfl,LO,NO,hst,k⟩:=h
    obtain⟨as,hq,hal,hat⟩:=id LO;rw[zc] at hal;have hn:=NO.1
    refine⟨_,zD (Yj (i:=3) (own:=[("point",7)]) rfl zDL.nd rfl rfl rfl (ZF (pv 1)) (ZM (show zAL ["start","neighbours","left_out","reached","waiting","here","number","point"] (zI zAJ) _ _=true by decide +kernel))
        (λ_ _ _ _ _=>zV (i:=7) zDL.nd rfl (Or.inl rfl)) (λ_ _ _ _ _=>Zm) (λ_ _ _ _ _=>yk))
      (zD (zK4 yk (zK3 (pv 3) (pv 0) zHX))
      (zD (zb (i:=4) zDL.nd rfl (Or.inl rfl) (yd (zA (pv 0) zC)))
      (zD (zCC Wz (zj Zx (yE ml (zA (pv 4) zC)) zJ (zY _))
        (zD (zb (i:=5) zDL.nd rfl (Or.inl rfl) (zPY WF PySem.F.slot_list_pop PySem.F.type_list_pop zPZ (pv 4)))
        (zE (yI Wz rfl (ZF (zf za (pv 1) (pv 5) (λ_ _=>rfl))) (zV (i:=6) zDL.nd rfl (Or.inl rfl))
          (zE (zm (PW.pt (zCB (zj zEX (pv 6) (pv 2) (zY _)) (zA6 (Zi (yT (zf za (pv 3) (pv 6) (λ_ _=>rfl)))))))
            (zD (zK4 yk (zK3 (pv 3) (pv 6) zHX)) (zE (yf (zAG WF WP WO ZO (pv 4) (zA (pv 6) zC))))) zZ))))))
      (zE (zS (pv 3)))))),?_⟩
    refine⟨_,rfl,q,rfl,⟨_,zM.of hq⟩,λR nR=>?_⟩;refine Yv (K:=K) (a:=q) (xs:=as.map V.ref) (λi H'=>zH H H'/\H' R=some (.lst ((List.replicate i false).map V.bl))) ⟨zR (zH.refl H) nR,zF⟩ (λi H' _ hh=>zM.of (hh.1 _ _ hq)) ?_ ?_
    · rintro i y H' hi ⟨s1,e1⟩
      refine⟨rfl,?_⟩;refine⟨_,e1,?_,λb o eb=>?_,?_⟩
      · rw[zc,VF]
        have:=(yQ hi).1;rw[zc,hal] at this;exact Vy this (yU hn (by decide))
      · rw[zG (zN eb nR)]
        exact s1 _ _ eb
      · rw[zF,List.replicate_succ',Ww]
        rfl
    rintro H1 ⟨s1,e1⟩;rw[zc,hal] at e1;refine⟨_,rfl,_,rfl,R,_,_,st,rfl,rfl,e1,zJX (by rw[zc,VF];exact hst),?_⟩;have e2:((List.replicate near.length false).map V.bl).set st (.bl true)=((List.replicate near.length false).set st true).map V.bl:=by rw[List.map_set]
    rw[e2];refine⟨_,rfl,(by show 1<=sizeLine;decide),λT nT=>?_⟩
    have nT1:H1 T=none:=by
      have ne:T≠R:=λe=>by rw[e,zF] at nT;cases nT
      rw[zG ne] at nT;exact nT
    have nTR:T≠R:=λe=>by rw[e,zF] at nT;cases nT
    have hT0:H T=none:=zCk s1 T nT1
    have s2:zH H (upd (upd H1 R (.lst (((List.replicate near.length false).set st true).map V.bl))) T (.lst [.int (st:Int)])):=λb o eb=>by
      rw[zG (zN eb hT0),zG (zN eb nR)];exact s1 _ _ eb
    have sub:∀ {Hx:Hp},zH H Hx->∀ (Hy:Hp),(∀ b,b≠R->b≠T->Hy b=Hx b)->zH H Hy:=λsx Hy hy b o eb=>by
      rw[hy b (zN eb nR) (zN eb hT0)];exact sx _ _ eb
    refine⟨λm σ H'=>∃ (t:List Nat) (r:List Bool) (v5 v6 v7:Option V) (fu:Nat),σ=[some (.int (st:Int)),some (.ref q),some (.int lo),some (.ref R),some (.ref T),v5,v6,v7]/\zH H H'/\H' R=some (.lst (r.map V.bl))/\H' T=some (.lst ((t.reverse.map λ(j:Nat)=>V.int (j:Int))))/\zAQ near.length m (t,r)/\m<=near.length/\m<fu/\rgo near lo fu t r=ZI near lo st,
      ⟨((List.replicate near.length false).set st true).count false+1,[st],_,none,none,none,near.length+1,rfl,s2,by rw[zG (Ne.symm nTR),zF],zF,⟨by rw[VO,VF],λj hj=>by rw[Wn.mp hj];exact hst,rfl⟩,?_,?_,rfl⟩,?_⟩
    iterate 2
     · have h0:(List.replicate near.length false)[st]?=some false:=by rw[V4,Wb hst]
       have h1:=zEn h0;rw[List.count_replicate_self] at h1;omega
    rintro m σ H' ⟨t,r,v5,v6,v7,fu,rfl,s3,hR,hT,I,hmn,hfu,hv⟩;refine⟨_,rfl,T,_,rfl,.inl (zM.of hT),_,_,rfl,rfl,_,rfl,zp (λhb=>?_) λhb=>?_⟩
    · match t,hT,I,hv with
     |[],hT,I,hv=>exact absurd hb (by decide)
     |kk::t,hT,I,hv=>
        match fu,hfu,hv with
       |fu+1,hfu,hv=>
        have hk:=I.lt kk Wt;have hgk:near.getD kk []=near[kk]:=by rw[Wi,yW hk];rfl
        have hmem:near.getD kk []∈near:=by rw[hgk];exact XF hk
        have hlk:∀ j∈near.getD kk [],j<near.length:=NO.2 _ hmem;have hka:kk<as.length:=by rw[hal];exact hk
        have ha:=yW hka;generalize as[kk]=a at ha
        have hla:H a=some (.lst (((near.getD kk []).map Int.ofNat).map V.int)):=by
          refine hat kk a _ ha ?_;rw[WQ,yW hk,hgk];rfl
        have ecat:((kk::t).reverse.map λ(j:Nat)=>V.int (j:Int))=(t.reverse.map λ(j:Nat)=>V.int (j:Int))++[V.int (kk:Int)]:=by rw[UR,Ww];rfl
        rw[ecat] at hT;refine⟨λσ' H'=>∃ m',m'<m/\∃ (t:List Nat) (r:List Bool) (v5 v6 v7:Option V) (fu:Nat),σ'=[some (.int (st:Int)),some (.ref q),some (.int lo),some (.ref R),some (.ref T),v5,v6,v7]/\zH H H'/\H' R=some (.lst (r.map V.bl))/\H' T=some (.lst ((t.reverse.map λ(j:Nat)=>V.int (j:Int))))/\zAQ near.length m' (t,r)/\m'<=near.length/\m'<fu/\rgo near lo fu t r=ZI near lo st,λ_ _ h=>h,?_⟩;refine⟨_,rfl,.inl ⟨rfl,_,zM.of hT⟩,T,_,.int (kk:Int),rfl,rfl,hT,by simp,?_⟩;rw[List.dropLast_concat];have s4:zH H (upd H' T (.lst (t.reverse.map λ(j:Nat)=>V.int (j:Int)))):=sub s3 _ λb _ h2=>zG h2
        refine⟨_,rfl,_,rfl,q,_,_,_,rfl,rfl,zM.of (s4 _ _ hq),y9 (j:=kk) rfl (map_some ha),a,rfl,⟨_,zM.of (s4 _ _ hla)⟩,?_⟩;have I0:zAQ near.length (r.count false+t.length) (t,r):=⟨I.len,λj hj=>I.lt j (We _ hj),rfl⟩
        have hcm:r.count false+t.length+1=m:=by
          have:=I.cnt;simp only[WD] at this;omega
        refine Y5 (K:=K) (a:=a) (xs:=((near.getD kk []).map Int.ofNat).map V.int) (λi σ Hx=>∃ (v6 v7:Option V),σ=[some (.int (st:Int)),some (.ref q),some (.int lo),some (.ref R),some (.ref T),some (.int (kk:Int)),v6,v7]/\zH H Hx/\Hx R=some (.lst ((((near.getD kk []).take i).foldl (yV lo) (t,r)).2.map V.bl))/\Hx T=some (.lst ((((near.getD kk []).take i).foldl (yV lo) (t,r)).1.reverse.map λ(j:Nat)=>V.int (j:Int))))
          ⟨_,_,rfl,s4,by rw[zG (Ne.symm nTR)];exact hR,zF⟩ (λi σ Hx _ hh=>hh.elim λ_ hh=>hh.elim λ_ hh=>zM.of (hh.2.1 _ _ hla)) ?_ ?_
        · rintro i y σ Hx hi ⟨v6,v7,rfl,sx,xR,xT⟩
          rw[VH] at hi;obtain⟨j,hij,rfl⟩:=yz hi;have hjn:=hlk j (ZZ hij);have Ii:zAQ near.length (r.count false+t.length) (((near.getD kk []).take i).foldl (yV lo) (t,r)):=zAQ.fold I0 λx hx=>hlk x (XI hx)
          have efold:((near.getD kk []).take (i+1)).foldl (yV lo) (t,r)=yV lo (((near.getD kk []).take i).foldl (yV lo) (t,r)) j:=by rw[yB hij,Uf];rfl
          rw[efold];generalize ((near.getD kk []).take i).foldl (yV lo) (t,r)=z at Ii xR xT;show zE5 _ _ _ _ _;refine zA9 (c:=!decide ((j:Int)=lo)) (d:=!(z.2.getD j true)) (λRr h=>⟨_,rfl,_,rfl,rfl,_,rfl,by show Rr (!decide (V.int (Int.ofNat j)=V.int lo)) _;rw[deq];exact h⟩) (λhc Rr h=>⟨_,rfl,_,rfl,R,_,_,_,rfl,rfl,zM.of xR,y9 (j:=j) rfl (map_some (zG3 (by rw[Ii.len];exact hjn))),_,rfl,h⟩) (zp (λhb2=>?_) λhb2=>?_)
          · have ez:yV lo z j=(j::z.1,z.2.set j true):=by unfold yV;rw[Wb hb2]
            rw[ez];refine⟨_,rfl,_,rfl,R,_,_,j,rfl,rfl,xR,zJX (by rw[zc,Ii.len];exact hjn),?_⟩;have xT2:upd Hx R (.lst ((z.2.map V.bl).set j (.bl true))) T=some (.lst (z.1.reverse.map λ(j:Nat)=>V.int (j:Int))):=by rw[zG nTR];exact xT
            refine⟨_,rfl,.inl ⟨rfl,_,zM.of xT2⟩,_,rfl,T,_,_,rfl,rfl,xT2,?_,?_⟩
            · rw[zc,List.length_reverse]
              have h1:=Ii.cnt;have h4:z.1.length<=near.length:=by omega
              exact Yp h4 (yU hn (by decide))
            · refine⟨_,_,rfl,sub sx _ λb b1 b2=>by rw[zG b2,zG b1],?_,?_⟩
              · rw[zG (Ne.symm nTR),zF,List.map_set]
              · rw[zF,UR,Ww]
                rfl
          · have ez:yV lo z j=z:=by unfold yV;rw[Wa (by rw[hb2];decide)]
            rw[ez];exact⟨_,_,rfl,sx,xR,xT⟩
        · rintro σ Hx ⟨v6,v7,rfl,sx,xR,xT⟩
          rw[zc,zc,WY] at xR xT;have Ii:zAQ near.length (r.count false+t.length) ((near.getD kk []).foldl (yV lo) (t,r)):=zAQ.fold I0 hlk;exact⟨_,by omega,_,_,_,_,_,fu,rfl,sx,xR,xT,Ii,by omega,by omega,hv⟩
    · match t,hT,I,hv with
     |kk::t,hT,I,hv=>
        rw[UR,Ww,Wr] at hb;exact absurd (Wo hb) (by simp)
     |[],hT,I,hv=>
        match fu,hfu,hv with
       |fu+1,hfu,hv=>
          have e:r=ZI near lo st:=hv;exact⟨_,rfl,k _ _ s3 (by rw[<-e];exact hR)⟩
end
def zDm (r:Int)(i:Nat):Int×Int:=(r,20+8*(i:Int))
def r8 (near:List (List Nat)):Option (Int×Int):=yY (λ_ (l:List Nat)=>decide (l.length<2)) (zDm 8) 0 near
def r9 (near:List (List Nat)):Option (Int×Int):=yY (λ_ (b:Bool)=>!b) (zDm 9) 0 (ZI near (-1) 0)
def zBa (near:List (List Nat))(i:Nat):Bool:=decide ((((ZI near (i:Int) (if i=0 then 1 else 0)).count true:Nat):Int)<(near.length:Int)-1)
def r10 (near:List (List Nat)):Option (Int×Int):=yY (λi (_:List Nat)=>zBa near i) (zDm 10) 0 near
theorem Res.same{C:Addr}{E:XK}{H H':Hp}{Q:VK}{o:Option (Int×Int)}(k:Res C E H Q o)(s:zH H H'):Res C E H' Q o:=by
 cases o with
|none=>exact λHx sx=>k Hx (s.trans sx)
|some z=>exact Rz.same k s
theorem Res.seq{C:Addr}{E:XK}{H:Hp}{Q Q':VK}{a b:Option (Int×Int)}(k:Res C E H Q (a.or b))(h:a=none->∀ H',zH H H'->Res C E H' Q b->Q' .non H'):Res C E H Q' a:=by
 cases a with
|some z=>exact k
|none=>exact λH' s=>h rfl H' s (Res.same (o:=b) (by simpa using k) s)
section
variable {P:Program}{w:World}{K:Qf}{mg:Qm}{base:Heap}{C:Addr}
def zGV (C:Addr)(g:List (List Nat)->Option (Int×Int)):Sp:=λvs H Q E=>∃ (q:Addr) (near:List (List Nat)),vs=[.ref q]/\LLN H q near/\zDK near/\2<=near.length/\Res C E H Q (g near)
theorem zGW:zO ["neighbours","number","joined"] ["neighbours"] (zI zCU):=yG (by decide +kernel)
theorem zOl(D:zW K mg "judge_ends" zCU ["neighbours"])(R:XR P w K mg base C)(OP:Ok P w K mg base 1 "point_place" ["number"] zAm)(me:mg "enumerate" = none)(ml:mg "len" = none):Yf P w K mg base 3 "judge_ends" ["neighbours"] (zGV C r8):=by
 refine D.okN zGW (λvs H Q E h=>?_) (λf cdv A outer s H vs Q E hr h=>?_)
 .obtain⟨q,near,rfl,_⟩:=h;rfl
 .obtain⟨q,near,rfl,LO,NO,h2,k⟩:=h;have hr1:zt 1 _:=hr.mono (by decide);obtain⟨as,hq,hal,hat⟩:=id LO;rw[zc] at hal
  refine⟨_,zE (yI Vi rfl (YW rfl me (zA (pv 0) zC)) (YG rfl (zw (zV (i:=1) zGW.nd rfl (Or.inl rfl)) (zw (zV (i:=2) zGW.nd rfl (Or.inl rfl)) Zl)))
    (zE (zm (zj Zf (yE ml (zA (pv 2) zC)) zJ (zY _)) (zE (YA R hr (zA zJ (zA (zT OP hr1 (zA (pv 1) zC)) zC)))) zZ))),?_⟩
  refine⟨_,rfl,q,_,rfl,zM.of hq,Z3 (K:=K) (a:=q) (xs:=as.map V.ref) (λi σ H'=>∃ v1 v2:Option V,σ=[some (.ref q),v1,v2]/\zH H H'/\∀ (j:Nat) (l:List Nat),j<i->near[j]?=some l->decide (l.length<2)=false)
   ⟨none,none,rfl,zH.refl H,λj z hj=>absurd hj (W9 _)⟩ (λi σ H' _ hh=>hh.elim λ_ hh=>hh.elim λ_ hh=>zM.of (hh.2.1 _ _ hq)) ?_ ?_⟩
  .rintro i y σ H' T hi ⟨v1,v2,rfl,s1,hno⟩ hT;have s2:zH H (upd H' T (.tup [.int (i:Nat),y])):=zR s1 hT;obtain⟨a,hia,rfl⟩:=yz hi;have hin:i<near.length:=by rw[<-hal];exact (yQ hia).1
   have hl:=yW hin;generalize near[i]=l at hl;have hla:=hat i a _ hia (map_some hl);refine⟨T,_,rfl,yH.of zF,rfl,_,_,rfl,_,_,rfl,rfl,?_⟩;refine⟨_,rfl,a,_,rfl,.inl (zM.of (s2 _ _ hla)),_,_,rfl,rfl,_,rfl,?_⟩
   have e:decide (((((l.map Int.ofNat).map V.int).length:Nat):Int)<2)=decide (l.length<2):=by
    rw[zc,zc,Wk];omega
   rw[e];refine zp (λhb=>?_) λhb=>?_
   .have e:=Zg (g:=λ_ (l:List Nat)=>decide (l.length<2)) (f:=zDm 8) (k:=0) (λj y hj hy=>hno j y hj hy) hl hb;rw[WC] at e;exact⟨_,rfl,_,rfl,_,_,rfl,Ya (k.rz e) s2⟩
   .refine⟨_,_,rfl,s2,λj z hj hz=>?_⟩;by_cases e:j=i
    .subst e;rw[hl] at hz;cases hz;exact hb
    .exact hno j z (by omega) hz
  .rintro σ H' ⟨v1,v2,rfl,s1,hno⟩;rw[zc,hal] at hno;exact k.go (Zh λj y hy=>hno j y (yQ hy).1 hy) s1
theorem zGX:zO ["neighbours","number","reached"] ["neighbours"] (zI zCV):=yG (by decide +kernel)
theorem zOm(D:zW K mg "judge_ways" zCV ["neighbours"])(R:XR P w K mg base C)(OP:Ok P w K mg base 1 "point_place" ["number"] zAm)(OR:Ok P w K mg base 1 "reached_from" ["start","neighbours","left_out"] (zKa K))(gN:yt mg "NO_POINT" (-1))(me:mg "enumerate" = none):Yf P w K mg base 3 "judge_ways" ["neighbours"] (zGV C r9):=by
 refine D.okN zGX (λvs H Q E h=>?_) (λf cdv A outer s H vs Q E hr h=>?_)
 .obtain⟨q,near,rfl,_⟩:=h;rfl
 .obtain⟨q,near,rfl,LO,NO,h2,k⟩:=h;have hr1:zt 1 _:=hr.mono (by decide)
  refine⟨_,zE (yI Vi rfl (YW rfl me (zA (zT OR hr1 (zA zJ (zA (pv 0) (zA (ZA gN) zC)))) zC)) (YG rfl (zw (zV (i:=1) zGX.nd rfl (Or.inl rfl)) (zw (zV (i:=2) zGX.nd rfl (Or.inl rfl)) Zl)))
    (zE (zm (Zi (yT (pv 2))) (zE (YA R hr (zA zJ (zA (zT OP hr1 (zA (pv 1) zC)) zC)))) zZ))),?_⟩
  refine⟨_,rfl,0,q,-1,near,rfl,LO,NO,by omega,λH1 L s1 hL=>?_⟩
  refine⟨L,_,rfl,zM.of hL,Z3 (K:=K) (a:=L) (xs:=(ZI near (-1) 0).map V.bl) (λi σ H'=>∃ v1 v2:Option V,σ=[some (.ref q),v1,v2]/\zH H1 H'/\∀ (j:Nat) (b:Bool),j<i->(ZI near (-1) 0)[j]?=some b->(!b)=false)
   ⟨none,none,rfl,zH.refl H1,λj z hj=>absurd hj (W9 _)⟩ (λi σ H' _ hh=>hh.elim λ_ hh=>hh.elim λ_ hh=>zM.of (hh.2.1 _ _ hL)) ?_ ?_⟩
  .rintro i y σ H' T hi ⟨v1,v2,rfl,s2,hno⟩ hT;have s3:zH H1 (upd H' T (.tup [.int (i:Nat),y])):=zR s2 hT;obtain⟨b,hib,rfl⟩:=yz hi;refine⟨T,_,rfl,yH.of zF,rfl,_,_,rfl,_,_,rfl,rfl,?_⟩;refine⟨_,rfl,_,rfl,zp (λhb=>?_) λhb=>?_⟩
   .have e:=Zg (g:=λ_ (b:Bool)=>!b) (f:=zDm 9) (k:=0) (λj y hj hy=>hno j y hj hy) hib hb;rw[WC] at e;exact⟨_,rfl,_,rfl,_,_,rfl,Ya (k.rz e) (s1.trans s3)⟩
   .refine⟨_,_,rfl,s3,λj z hj hz=>?_⟩;by_cases e:j=i
    .subst e;rw[hib] at hz;cases hz;exact hb
    .exact hno j z (by omega) hz
  .rintro σ H' ⟨v1,v2,rfl,s2,hno⟩;rw[zc] at hno;exact k.go (Zh λj y hy=>hno j y (yQ hy).1 hy) (s1.trans s2)
theorem zGY:zO ["neighbours","number","start"] ["neighbours"] (zI zBE):=yG (by decide +kernel)
theorem zOn(D:zW K mg "judge_joints" zBE ["neighbours"])(R:XR P w K mg base C)(OP:Ok P w K mg base 1 "point_place" ["number"] zAm)(OR:Ok P w K mg base 1 "reached_from" ["start","neighbours","left_out"] (zKa K))(mr:mg "range" = none)(ml:mg "len" = none):Yf P w K mg base 3 "judge_joints" ["neighbours"] (zGV C r10):=by
 refine D.okN zGY (λvs H Q E h=>?_) (λf cdv A outer s H vs Q E hr h=>?_)
 .obtain⟨q,near,rfl,_⟩:=h;rfl
 .obtain⟨q,near,rfl,LO,NO,h2,k⟩:=h;have hr1:zt 1 _:=hr.mono (by decide);have hn:=NO.1;obtain⟨as,hq,hal,hat⟩:=id LO;rw[zc] at hal
  refine⟨_,zE (yI Vi rfl (zBf rfl mr (zA (yE ml (zA (pv 0) zC)) zC)) (zV (i:=1) zGY.nd rfl (Or.inl rfl))
    (zD (zb (i:=2) zGY.nd rfl (Or.inl rfl) (zMK (zj zAX (pv 1) zJ (zY _)) zJ zJ))
    (zE (zm (zj Zf (zAG WF PySem.F.slot_list_count PySem.F.type_list_count zOk (zT OR hr1 (zA (pv 2) (zA (pv 0) (zA (pv 1) zC)))) (zA yk zC)) (zi ZL (yE ml (zA (pv 0) zC)) zJ) (zY _)) (zE (YA R hr (zA zJ (zA (zT OP hr1 (zA (pv 1) zC)) zC)))) zZ)))),?_⟩
  have hlen:((as.map V.ref).length:Int)=near.length:=by rw[zc,hal]
  refine⟨_,rfl,q,_,rfl,.inl (zM.of hq),_,rfl,by omega,by omega,?_⟩;rw[hlen,Ve];refine Y6 (lo:=0) (λi σ H'=>∃ v1 v2:Option V,σ=[some (.ref q),v1,v2]/\zH H H'/\∀ (j:Nat) (l:List Nat),j<i->near[j]?=some l->zBa near (0+j)=false) ⟨none,none,rfl,zH.refl H,λj z hj=>absurd hj (W9 _)⟩ ?_ ?_
  .rintro i σ H' hi ⟨v1,v2,rfl,s1,hno⟩;have hl:=yW hi;generalize near[i]=l at hl;have LO':LLN H' q near:=zAz.same LO s1;have e0:((0:Int)+(i:Nat))=((i:Nat):Int):=VQ _;rw[e0];refine⟨_,rfl,rfl,_,rfl,?_⟩;refine zp (λhb=>?_) λhb=>?_
   .have hi0:i=0:=by
     have:=Wm hb;injection this with this
     omega
    have hst:(1:Nat)=(if i=0 then 1 else 0):=by rw[Wb hi0]
    refine⟨_,rfl,_,rfl,_,rfl,1,q,(i:Int),near,rfl,LO',NO,by omega,λHx L sx hL=>?_⟩;refine⟨.inl ⟨rfl,_,zM.of hL⟩,L,_,rfl,rfl,zM.of hL,_,rfl,q,_,rfl,.inl (zM.of (sx _ _ (s1 _ _ hq))),_,_,rfl,rfl,_,_,rfl,rfl,_,rfl,?_⟩;rw[hlen];have eb:decide ((((ZI near (i:Int) 1).count true:Nat):Int)<(near.length:Int)-1)=zBa near (0+i):=by unfold zBa;rw[WC,<-hst]
    rw[eb];refine zp (λhb=>?_) λhb=>?_
    .have e:=Zg (g:=λi (_:List Nat)=>zBa near i) (f:=zDm 10) (k:=0) (λj y hj hy=>hno j y hj hy) hl hb;rw[WC] at e;exact⟨_,rfl,_,rfl,_,_,rfl,Ya (k.rz e) (s1.trans sx)⟩
    .refine⟨_,_,rfl,s1.trans sx,λj z hj hz=>?_⟩;by_cases e:j=i
     .subst e;exact hb
     .exact hno j z (by omega) hz
   .have hi0:¬ i=0:=by
     intro e;subst e;exact absurd hb (by decide)
    have hst:(0:Nat)=(if i=0 then 1 else 0):=by rw[Wa hi0]
    refine⟨_,rfl,_,rfl,_,rfl,0,q,(i:Int),near,rfl,LO',NO,by omega,λHx L sx hL=>?_⟩;refine⟨.inl ⟨rfl,_,zM.of hL⟩,L,_,rfl,rfl,zM.of hL,_,rfl,q,_,rfl,.inl (zM.of (sx _ _ (s1 _ _ hq))),_,_,rfl,rfl,_,_,rfl,rfl,_,rfl,?_⟩;rw[hlen];have eb:decide ((((ZI near (i:Int) 0).count true:Nat):Int)<(near.length:Int)-1)=zBa near (0+i):=by unfold zBa;rw[WC,<-hst]
    rw[eb];refine zp (λhb=>?_) λhb=>?_
    .have e:=Zg (g:=λi (_:List Nat)=>zBa near i) (f:=zDm 10) (k:=0) (λj y hj hy=>hno j y hj hy) hl hb;rw[WC] at e;exact⟨_,rfl,_,rfl,_,_,rfl,Ya (k.rz e) (s1.trans sx)⟩
    .refine⟨_,_,rfl,s1.trans sx,λj z hj hz=>?_⟩;by_cases e:j=i
     .subst e;exact hb
     .exact hno j z (by omega) hz
  .rintro σ H' ⟨v1,v2,rfl,s1,hno⟩;exact k.go (Zh λj y hy=>hno j y (yQ hy).1 hy) s1
def zEo (S:Gla.Plan):Option (Int×Int):=(r6 (zg S)).or ((r7 (zg S)).or ((r8 (yL S.pts.length S.lines)).or ((r9 (yL S.pts.length S.lines)).or (r10 (yL S.pts.length S.lines)))))
def zP5 (K:Qf)(C:Addr)(g:Gla.Plan->Option (Int×Int)):Sp:=λvs H Q E=>∃ (c:Addr) (S:Gla.Plan),vs=[.ref c]/\Yn K H c (zg S)/\Yc S/\Res C E H Q (g S)
theorem Yo{n:Nat}{ls:List (Nat×Nat)}:(yL n ls).length=n:=by unfold yL;rw[zc,Xw]
theorem Yc.near{S:Gla.Plan}(B:Yc S):zDK (yL S.pts.length S.lines):=by
 refine⟨by rw[Yo];exact B.n,λl hl j hj=>?_⟩;rw[Yo];unfold yL at hl;obtain⟨i,_,rfl⟩:=Wg.mp hl;unfold YB at hj;obtain⟨x,hx,e⟩:=VG.mp hj;have:=B.ln x hx;by_cases h1:x.1=i
 .rw[Wb h1] at e;injection e with e
  omega
 .rw[Wa h1] at e;by_cases h2:x.2=i
  .rw[Wb h2] at e;injection e with e
   omega
  .rw[Wa h2] at e;cases e
theorem zJY:zO ["cartoon","neighbours"] ["cartoon"] (zI zAw):=yG (by decide +kernel)
theorem zOo(D:zW K mg "judge_drawing" zAw ["cartoon"])(O6:Yf P w K mg base 3 "judge_frame" ["cartoon"] (zKW K C Few r6))(O7:Yf P w K mg base 4 "judge_crossings" ["cartoon"] (zKW K C zMx r7))(ON:Ok P w K mg base 1 "neighbours_of" ["cartoon"] (zKZ K))
  (O8:Yf P w K mg base 3 "judge_ends" ["neighbours"] (zGV C r8))(O9:Yf P w K mg base 3 "judge_ways" ["neighbours"] (zGV C r9))(O10:Yf P w K mg base 3 "judge_joints" ["neighbours"] (zGV C r10)):Yf P w K mg base 5 "judge_drawing" ["cartoon"] (zP5 K C zEo):=by
 refine D.okN zJY (λvs H Q E h=>?_) (λf cdv A outer s H vs Q E hr h=>?_)
 .obtain⟨c,S,rfl,_⟩:=h;rfl
 .obtain⟨c,S,rfl,CA,B,k⟩:=h;have hr1:zt 1 _:=hr.mono (by decide);have hr3:zt 3 _:=hr.mono (by decide)
  refine⟨_,zD (yf (zAE O6 hr3 (zA (pv 0) zC))) (zD (yf (zAE O7 hr (zA (pv 0) zC))) (zD (zb (i:=1) zJY.nd rfl (Or.inl rfl) (zT ON hr1 (zA (pv 0) zC)))
   (zD (yf (zAE O8 hr3 (zA (pv 1) zC))) (zD (yf (zAE O9 hr3 (zA (pv 1) zC))) (zE (yf (zAE O10 hr3 (zA (pv 1) zC)))))))),?_⟩
  refine⟨_,rfl,c,zg S,rfl,CA,B.few,Res.seq k λ_ H1 s1 k1=>?_⟩;refine⟨_,rfl,c,zg S,rfl,CA.same s1,B.car,Res.seq k1 λ_ H2 s2 k2=>?_⟩;refine⟨_,rfl,c,S,rfl,CA.same (s1.trans s2),B,λH3 q s3 L3=>?_⟩;have n2:2<=(yL S.pts.length S.lines).length:=by rw[Yo];exact B.n2
  refine⟨_,rfl,q,yL S.pts.length S.lines,rfl,L3,B.near,n2,Res.seq (k2.same s3) λ_ H4 s4 k4=>?_⟩;refine⟨_,rfl,q,yL S.pts.length S.lines,rfl,zAz.same L3 s4,B.near,n2,Res.seq k4 λ_ H5 s5 k5=>?_⟩;refine⟨_,rfl,q,yL S.pts.length S.lines,rfl,zAz.same L3 (s4.trans s5),B.near,n2,?_⟩;exact k5
end
theorem zDM(p q r:Gla.Pt):YL (zq p) (zq q) (zq r)=Gla.turn p q r:=rfl
def zBb (K:Qf)(H:Hp)(pa:Addr)(S:Gla.Plan):Prop:=zo (Z6 K) H pa (S.pts.map zq)
theorem zBb.same{K:Qf}{H H':Hp}{pa:Addr}{S:Gla.Plan}(h:zBb K H pa S)(s:zH H H'):zBb K H' pa S:=zo.same zB4 h s
theorem zCY{S:Gla.Plan}{i:Nat}(h:i<S.pts.length):S.pts[i]?=some (S.pt i)/\S.pt i∈S.pts:=by
 have e:S.pts[i]?=some S.pts[i]:=yW h;rw[Kt.zFl e];exact⟨e,XF h⟩
theorem Yc.smp{S:Gla.Plan}(B:Yc S){i:Nat}(h:i<S.pts.length):Sm 1048576 (zq (S.pt i)):=by
 have:=B.sm _ (zCY h).2;unfold Sm zq;simp only;omega
theorem zBb.rd{K:Qf}{H:Hp}{pa:Addr}{S:Gla.Plan}(h:zBb K H pa S):∃ vs,zM K H pa vs/\H pa=some (.lst vs)/\vs.length=S.pts.length/\∀ i,i<S.pts.length->∃ b,atI vs ((i:Nat):Int)=some (.ref b)/\XY K H b (zq (S.pt i)):=by
 obtain⟨vs,hv,e⟩:=h;refine⟨vs,zM.of hv,hv,by rw[e.1,zc],λi hi=>?_⟩;obtain⟨v,hv,b,rfl,X⟩:=e.get (map_some (f:=zq) (zCY hi).1);exact⟨b,y9 (j:=i) rfl hv,X⟩
section
variable {P:Program}{w:World}{K:Qf}{mg:Qm}{base:Heap}{C:Addr}
def zLt (K:Qf):Sp:=λvs H Q _=>∃ (a b c d:Addr) (p q r t:Gla.Pt),vs=[.ref a,.ref b,.ref c,.ref d]/\XY K H a (zq p)/\XY K H b (zq q)/\XY K H c (zq r)/\XY K H d (zq t)/\Sm 1048576 (zq p)/\Sm 1048576 (zq q)/\Sm 1048576 (zq r)/\Sm 1048576 (zq t)/\Q (.bl (Kt.zAB p q r t)) H
theorem zGZ:zO ["before","here","point","other","goes_left","other_goes_left"] ["before","here","point","other"] (zI zBF):=yG (by decide +kernel)
theorem zOp{a b:Bool}:(!decide (V.bl a=V.bl b))=(a != b):=by cases a <;> cases b <;> decide
theorem zOq(D:zW K mg "is_more_left" zBF ["before","here","point","other"])(OT:Ok P w K mg base 1 "turn" ["p","q","r"] (zEL K)):Ok P w K mg base 2 "is_more_left" ["before","here","point","other"] (zLt K):=by
 refine D.ok zGZ (λvs H Q E h=>?_) (λf cdv A outer s H vs Q E hr h=>?_)
 .obtain⟨a,b,c,d,p,q,r,t,rfl,_⟩:=h;rfl
 .obtain⟨a,b,c,d,p,q,r,t,rfl,xa,xb,xc,xd,s1,s2,s3,s4,k⟩:=h;have big:∀ {z:P2},Sm 1048576 z->Sm 4294967296 z:=λh=>h.mono (by decide)
  refine⟨_,zD (zb (i:=4) zGZ.nd rfl (Or.inl rfl) (yO Zx (zT OT hr (zA (pv 0) (zA (pv 1) (zA (pv 2) zC)))) zJ (zY _)))
   (zD (zb (i:=5) zGZ.nd rfl (Or.inl rfl) (yO Zx (zT OT hr (zA (pv 0) (zA (pv 1) (zA (pv 3) zC)))) zJ (zY _)))
   (zD (zm (zj zEX (pv 4) (pv 5) (zY _)) (zE (zS (pv 4))) zZ)
   (zE (zS (yO Zf (zT OT hr (zA (pv 1) (zA (pv 2) (zA (pv 3) zC)))) zJ (zY _)))))),?_⟩
  refine⟨_,rfl,_,rfl,_,rfl,a,b,c,_,_,_,rfl,xa,xb,xc,big s1,big s2,big s3,_,_,rfl,rfl,?_⟩;refine⟨_,rfl,_,rfl,_,rfl,a,b,d,_,_,_,rfl,xa,xb,xd,big s1,big s2,big s4,_,_,rfl,rfl,?_⟩;refine⟨_,rfl,_,rfl,rfl,_,rfl,?_⟩;rw[zOp];refine zp (λhb=>?_) λhb=>?_
  .exact⟨_,rfl,ZB k (by unfold Kt.zAB;rw[zDM,zDM] at hb;rw[Wb hb,zDM])⟩
  .exact⟨_,rfl,_,rfl,_,rfl,b,c,d,_,_,_,rfl,xb,xc,xd,big s2,big s3,big s4,_,_,rfl,rfl,ZB k (by unfold Kt.zAB;rw[zDM,zDM] at hb;rw[Wa (by rw[hb];decide),zDM])⟩
def zDn:Option Nat->Int
|none=>-1
|some j=>(j:Int)
def zu (l:List Nat):List V:=l.map λ(j:Nat)=>V.int (j:Int)
theorem zDN{l:List Nat}{i:Nat}{y:V}(h:(zu l)[i]?=some y):∃ j,l[i]?=some j/\y=.int (j:Int):=yz h
theorem z9{l:List Nat}:(zu l).length=l.length:=zc ..
def zP6 (K:Qf):Sp:=λvs H Q _=>∃ (pa ja:Addr) (S:Gla.Plan) (l:List Nat) (p v:Nat),vs=[.ref pa,.ref ja,.int (p:Int),.int (v:Int)]/\zBb K H pa S/\Yc S/\H ja=some (.lst (zu l))/\(∀ j∈l,j<S.pts.length)/\p<S.pts.length/\v<S.pts.length/\Q (.int (zDn (l.foldl (Kt.ZJ S p v) none))) H
theorem zHP:zO ["points","joined","before","here","found","number"] ["points","joined","before","here"] (zI zDh):=yG (by decide +kernel)
theorem zRC(D:zW K mg "leftmost" zDh ["points","joined","before","here"])(OM:Ok P w K mg base 2 "is_more_left" ["before","here","point","other"] (zLt K))(gN:yt mg "NO_POINT" (-1)):Ok P w K mg base 3 "leftmost" ["points","joined","before","here"] (zP6 K):=by
 refine D.ok zHP (λvs H Q E h=>?_) (λf cdv A outer s H vs Q E hr h=>?_)
 .obtain⟨pa,ja,S,l,p,v,rfl,_⟩:=h;rfl
 .obtain⟨pa,ja,S,l,p,v,rfl,PA,B,hj,hlt,hp,hv,k⟩:=h;obtain⟨pvs,hps,_,_,rd⟩:=PA.rd
  refine⟨_,zD (zb (i:=4) zHP.nd rfl (Or.inl rfl) (ZA gN))
   (zD (yI Wz rfl (ZF (pv 1)) (zV (i:=5) zHP.nd rfl (Or.inl rfl))
    (zD (zm (zj zAX (pv 5) (pv 2) (zY _)) (zE zE0) zZ)
    (zE (zm (PW.pt (zB0 (zj zAX (pv 4) (ZA gN) (zY _)) (zAo (yT (zT OM hr (zA (zf za (pv 0) (pv 2) (λ_ _=>rfl)) (zA (zf za (pv 0) (pv 3) (λ_ _=>rfl)) (zA (zf za (pv 0) (pv 5) (λ_ _=>rfl)) (zA (zf za (pv 0) (pv 4) (λ_ _=>rfl)) zC)))))))))
     (zE (zb (i:=4) zHP.nd rfl (Or.inl rfl) (pv 5))) zZ))))
   (zE (zS (pv 4)))),?_⟩
  refine⟨_,rfl,ja,rfl,⟨_,zM.of hj⟩,Y5 (K:=K) (a:=ja) (xs:=zu l) (λi σ H'=>∃ (o:Option Nat) (v5:Option V),σ=[some (.ref pa),some (.ref ja),some (.int (p:Int)),some (.int (v:Int)),some (.int (zDn o)),v5]/\H'=H/\o=(l.take i).foldl (Kt.ZJ S p v) none/\∀ g,o=some g->g<S.pts.length)
   ⟨none,none,rfl,rfl,rfl,λg e=>by cases e⟩ (λi σ H' _ hh=>hh.elim λ_ hh=>hh.elim λ_ hh=>by rw[hh.2.1];exact zM.of hj) ?_ ?_⟩
  .rintro i y σ H' hi ⟨o,v5,rfl,rfl,ho,hg⟩;obtain⟨j,hij,rfl⟩:=zDN hi;have hjl:=hlt j (ZZ hij);have hst:(l.take (i+1)).foldl (Kt.ZJ S p v) none=Kt.ZJ S p v o j:=by rw[yB hij,Uf,<-ho];rfl
   refine⟨_,rfl,_,rfl,rfl,_,rfl,?_⟩;rw[deq];refine zp (λhb=>?_) λhb=>?_
   .have e:j=p:=by have:=Wm hb;omega
    refine⟨o,_,rfl,rfl,?_,hg⟩;rw[hst];unfold Kt.ZJ;rw[Wb e]
   .have ne:¬ j=p:=by have:=Wo hb;omega
    have nx:∀ (z:Bool),Kt.ZJ S p v o j=(if z=true then some j else o)->(z=true->∃ (o':Option Nat) (v5:Option V),[some (.ref pa),some (.ref ja),some (.int (p:Int)),some (.int (v:Int)),some (.int (j:Int)),some (V.int (j:Int))]=[some (.ref pa),some (.ref ja),some (.int (p:Int)),some (.int (v:Int)),some (.int (zDn o')),v5]/\H'=H'/\o'=(l.take (i+1)).foldl (Kt.ZJ S p v) none/\∀ g,o'=some g->g<S.pts.length)/\
      (z=false->∃ (o':Option Nat) (v5:Option V),[some (.ref pa),some (.ref ja),some (.int (p:Int)),some (.int (v:Int)),some (.int (zDn o)),some (V.int (j:Int))]=[some (.ref pa),some (.ref ja),some (.int (p:Int)),some (.int (v:Int)),some (.int (zDn o')),v5]/\H'=H'/\o'=(l.take (i+1)).foldl (Kt.ZJ S p v) none/\∀ g,o'=some g->g<S.pts.length):=by
     intro z hz;refine⟨λe=>⟨some j,_,rfl,rfl,?_,λg e=>by cases e;exact hjl⟩,λe=>⟨o,_,rfl,rfl,?_,hg⟩⟩
     .rw[hst,hz,Wb e]
     .rw[hst,hz,Wa (by rw[e];decide)]
    cases o with
   |none=>
     obtain⟨n1,_⟩:=nx true (by unfold Kt.ZJ;rw[Wa ne];rfl);exact⟨_,rfl,rfl,_,rfl,zDW (zDW ⟨_,rfl,n1 rfl⟩)⟩
   |some g=>
     have hgl:=hg g rfl;obtain⟨n1,n2⟩:=nx (Kt.zAB (S.pt p) (S.pt v) (S.pt j) (S.pt g)) (by unfold Kt.ZJ;rw[Wa ne]);obtain⟨b1,e1,x1⟩:=rd p hp;obtain⟨b2,e2,x2⟩:=rd v hv;obtain⟨b3,e3,x3⟩:=rd j hjl;obtain⟨b4,e4,x4⟩:=rd g hgl;refine⟨_,rfl,rfl,_,rfl,?_⟩
     have ef:decide (V.int (zDn (some g))=V.int (-1))=false:=by
      rw[deq];exact WB (by show ¬ ((g:Nat):Int) = -1;omega)
     rw[ef];refine zJ3 ⟨_,rfl,_,rfl,pa,_,_,_,rfl,rfl,hps,e1,_,rfl,_,rfl,pa,_,_,_,rfl,rfl,hps,e2,_,rfl,_,rfl,pa,_,_,_,rfl,rfl,hps,e3,_,rfl,_,rfl,pa,_,_,_,rfl,rfl,hps,e4,b1,b2,b3,b4,_,_,_,_,rfl,x1,x2,x3,x4,B.smp hp,B.smp hv,B.smp hjl,B.smp hgl,_,rfl,zp (λhb2=>?_) λhb2=>?_⟩
     .exact⟨_,rfl,n1 hb2⟩
     .exact n2 hb2
  .rintro σ H' ⟨o,v5,rfl,rfl,ho,hg⟩;rw[z9,WY] at ho;exact⟨_,rfl,by rw[<-ho] at k;exact k⟩
def zLu (K:Qf):Sp:=λvs H Q _=>∃ (a b:Nat) (pa na:Addr) (S:Gla.Plan),vs=[.int (a:Int),.int (b:Int),.ref pa,.ref na]/\zBb K H pa S/\Yc S/\Kt.yD S/\LLN H na (yL S.pts.length S.lines)/\Kt.JJ S a b/\∀ H' q,zH H H'->H' q=some (.lst (zu (Kt.Y3 S (a,b))))->H q=none->Q (.ref q) H'
theorem zBQ:zO ["first","second","points","neighbours","outline","before","here","following"] ["first","second","points","neighbours"] (zI zBG):=yG (by decide +kernel)
theorem zIF{nx:Nat->Nat->Nat}:∀ (i:Nat) (e:Kt.zh),Kt.zU nx (i+1) e=Kt.zU nx i e++[Kt.yC nx i e]
|0,e=>rfl
|i+1,e=>by
  show e::Kt.zU nx (i+1) (Kt.ph nx e)=_;rw[zIF i (Kt.ph nx e)];rfl
theorem ZW{nx:Nat->Nat->Nat}:∀ (i:Nat) (e:Kt.zh),(Kt.zU nx i e).length=i
|0,_=>rfl
|i+1,e=>by
  show (Kt.zU nx i (Kt.ph nx e)).length+1=_;rw[ZW i]
theorem zDA{H:Hp}{na:Addr}{n i:Nat}{ls:List (Nat×Nat)}(L:LLN H na (yL n ls))(hi:i<n):∃ (as:List Addr) (a:Addr),H na=some (.lst (as.map V.ref))/\as[i]?=some a/\H a=some (.lst (zu (YB ls i))):=by
 obtain⟨as,a,h1,h2,h3⟩:=zAz.get L (j:=i) (l:=(YB ls i).map Int.ofNat) (map_some (zEP hi));refine⟨as,a,h1,h2,?_⟩;rw[h3,VH];rfl
theorem zIG{S:Gla.Plan}(O:Kt.yD S){e:Kt.zh}{k:Nat}(je:Kt.JJ S e.1 e.2)(P:Kt.Zv S.next k e):k<=2*S.lines.length:=by
 have h:=Kt.Yl (Kt.zU S.next k e) (Gla.ways S) (Kt.zBk k e λa b ha hb h=>P.inj O.dr je (by omega) (by omega) h) (λx hx=>by
  obtain⟨i,_,rfl⟩:=Kt.zn.mp hx;exact (Kt.zAf O _).mpr (Kt.Zy O.dr.hnx i je))
 rw[ZW,Kt.zDa] at h;exact h
theorem zOr(D:zW K mg "outline_from" zBG ["first","second","points","neighbours"])(OL:Ok P w K mg base 3 "leftmost" ["points","joined","before","here"] (zP6 K)):Ok P w K mg base 4 "outline_from" ["first","second","points","neighbours"] (zLu K):=by
 refine D.ok zBQ (λvs H Q E h=>?_) (λf cdv A outer s H vs Q E hr h=>?_)
 .obtain⟨a,b,pa,na,S,rfl,_⟩:=h;rfl
 .obtain⟨a,b,pa,na,S,rfl,PA,B,O,LN,jj,k⟩:=h;obtain⟨kk,Pk,hrn,_⟩:=Kt.zB8 O (e:=(a,b)) jj;have hkk:=zIG O (e:=(a,b)) jj Pk;have D0:=O.dr
  refine⟨_,zD (zb (i:=4) zBQ.nd rfl (Or.inl rfl) (yd (zA (pv 0) zC))) (zD (zb (i:=5) zBQ.nd rfl (Or.inl rfl) (pv 0)) (zD (zb (i:=6) zBQ.nd rfl (Or.inl rfl) (pv 1))
   (zD (zCC Wz (zj zEX (pv 6) (pv 0) (zY _))
    (zD (yf (zAG WF WP WO ZO (pv 4) (zA (pv 6) zC)))
    (zD (zb (i:=7) zBQ.nd rfl (Or.inl rfl) (zT OL hr (zA (pv 2) (zA (zf za (pv 3) (pv 6) (λ_ _=>rfl)) (zA (pv 5) (zA (pv 6) zC))))))
    (zD (zb (i:=5) zBQ.nd rfl (Or.inl rfl) (pv 6)) (zE (zb (i:=6) zBQ.nd rfl (Or.inl rfl) (pv 7)))))))
   (zE (zS (pv 4)))))),?_⟩
  refine⟨_,rfl,(by show 1<=sizeLine;decide),λL nL=>?_⟩;refine⟨_,rfl,_,rfl,?_⟩
  refine⟨λm σ H'=>∃ (i:Nat) (v7:Option V),i<kk/\m=kk-i/\σ=[some (.int (a:Int)),some (.int (b:Int)),some (.ref pa),some (.ref na),some (.ref L),some (.int ((Kt.yC S.next i (a,b)).1:Int)),some (.int ((Kt.yC S.next i (a,b)).2:Int)),v7]/\zH H H'/\H' L=some (.lst (zu ((Kt.zU S.next (i+1) (a,b)).map Prod.fst))),
   ⟨kk,0,none,Pk.pos,rfl,rfl,zR (zH.refl H) nL,zF⟩,?_⟩
  rintro m σ H' ⟨i,v7,hi,rfl,rfl,s1,hL⟩;have ji:=Kt.Zy D0.hnx i (e:=(a,b)) jj;have jl:=O.jlt ji;refine⟨_,rfl,_,rfl,rfl,_,rfl,?_⟩;rw[deq];refine zp (λhb=>?_) λhb=>?_
  .rw[Wq] at hb;have ne:¬ (Kt.yC S.next i (a,b)).2=a:=by have:=Wo hb;omega
   have hi1:i+1<kk:=by
    apply Nat.lt_of_le_of_ne hi;intro e;have hbk:=Pk.back;rw[<-e,Kt.ZV] at hbk;exact ne (WV Prod.fst hbk)
   obtain⟨as,c,y1,y2,y3⟩:=zDA LN jl.2.1
   have s2:∀ (o:HO),zH H (upd H' L o):=λo b x eb=>by
    rw[zG (zN eb nL)];exact s1 _ _ eb
   obtain⟨lm,lne⟩:=Kt.zN9 O ji;refine⟨λσ' H'=>∃ m',m'<kk-i/\∃ (i:Nat) (v7:Option V),i<kk/\m'=kk-i/\σ'=[some (.int (a:Int)),some (.int (b:Int)),some (.ref pa),some (.ref na),some (.ref L),some (.int ((Kt.yC S.next i (a,b)).1:Int)),some (.int ((Kt.yC S.next i (a,b)).2:Int)),v7]/\zH H H'/\H' L=some (.lst (zu ((Kt.zU S.next (i+1) (a,b)).map Prod.fst))),λ_ _ h=>h,?_⟩;refine⟨_,rfl,.inl ⟨rfl,_,zM.of hL⟩,_,rfl,L,_,_,rfl,rfl,hL,?_,?_⟩
   .rw[z9,zc,ZW];exact yU (by have:=B.m;omega:i+1<30000) (by decide)
   .refine⟨_,rfl,_,rfl,_,rfl,na,_,_,_,rfl,rfl,zM.of (s2 _ _ _ y1),y9 (j:=(Kt.yC S.next i (a,b)).2) rfl (map_some y2),_,rfl,_,rfl,pa,c,S,S.near (Kt.yC S.next i (a,b)).2,_,_,rfl,PA.same (s2 _),B,s2 _ _ _ y3,λj hj=>(O.jlt ((Kt.Z4 O).mp hj)).2.1,jl.1,jl.2.1,?_⟩;rw[lm];refine⟨_,rfl,_,rfl,_,by omega,i+1,some (V.int (zDn (some (S.next (Kt.yC S.next i (a,b)).1 (Kt.yC S.next i (a,b)).2)))),hi1,rfl,?_,s2 _,?_⟩
    .rw[Kt.ZV];rfl
    .rw[zF,zIF (i+1),Ww,Kt.ZV];show _=some (HO.lst (zu (_++[_])));unfold zu;rw[Ww];rfl
  .rw[Wu] at hb;have e2:(Kt.yC S.next i (a,b)).2=a:=by have:=Wm hb;omega
   have hik:i+1=kk:=by
    apply Nat.le_antisymm hi;apply Ul;intro hlt;refine Pk.simple D0 (e:=(a,b)) jj (j:=i+1) (by omega) hlt ?_;rw[Kt.ZV];exact e2
   refine⟨_,rfl,k _ _ s1 ?_ nL⟩;rw[hL,hik,hrn]
end
def Yd {α:Type}:List α->List (α×α)
|[]=>[]
|a::r=>((a::r).getLast (UZ a r),a)::(a::r).zip r
def pvI (k n:Nat):Nat:=if k=0 then n-1 else k-1
theorem zFN{α:Type}{l:List α}:(Yd l).length=l.length:=by
 cases l with
|nil=>rfl
|cons a r=>
  show ((a::r).zip r).length+1=r.length+1;rw[U3,WD];omega
theorem zLv{α:Type}{l:List α}{k:Nat}(h:k<l.length):∃ x y,(Yd l)[k]?=some (x,y)/\l[pvI k l.length]?=some x/\l[k]?=some y:=by
 cases l with
|nil=>exact absurd h (by simp)
|cons a r=>
  cases k with
 |zero=>
   refine⟨_,_,rfl,?_,rfl⟩;unfold pvI;rw[Wb rfl,<-List.getLast?_eq_getElem?,List.getLast?_eq_some_getLast]
 |succ k=>
   have h1:k<(a::r).length:=by omega
   have h2:k<r.length:=by simpa using h
   refine⟨(a::r)[k],r[k],?_,?_,by simp⟩
   .show ((a::r).zip r)[k]?=_;rw[Uc];exact⟨yW h1,yW h2⟩
   .unfold pvI;rw[Wa (by omega)];exact yW h1
theorem zJZ{vs:List V}{k:Nat}{v:V}(hk:k<vs.length)(h:vs[pvI k vs.length]?=some v):atI vs ((k:Int)-1)=some v:=by
 unfold pvI at h;by_cases e:k=0
 .rw[Wb e] at h;subst e;unfold atI ixN;rw[Wa (by omega),Wb (by omega)];show vs[(((0:Nat):Int)-1+vs.length).toNat]?=_;rw[show (((0:Nat):Int)-1+vs.length).toNat=vs.length-1 by omega];exact h
 .rw[Wa e] at h;exact y9 (j:=k-1) (by omega) h
theorem zIH{α:Type}{a:α}:∀ {b:α}{r:List α},(b::r).zip (r++[a])=(b::r).zip r++[((b::r).getLast (UZ b r),a)]
|b,[]=>rfl
|b,c::r=>by
  show (b,c)::(c::r).zip (r++[a])=_;rw[zIH (b:=c) (r:=r)];rfl
theorem zER{α:Type}{a:α}{r:List α}:(a::r).zip ((a::r).drop 1++(a::r).take 1)=(a::r).zip r++[((a::r).getLast (UZ a r),a)]:=zIH
theorem zJa{α:Type}{l:List α}{x:α×α}:x∈Yd l↔x∈l.zip (l.drop 1++l.take 1):=by
 cases l with
|nil=>simp[Yd]
|cons a r=>
  rw[zER];show x∈_::(a::r).zip r↔_;rw[Wc,Wp,Wn];exact Or.comm
theorem zDo{α β:Type}(f:α->β):∀ (l:List α),Yd (l.map f)=(Yd l).map λx=>(f x.1,f x.2)
|[]=>rfl
|a::r=>by
  show (((a::r).map f).getLast _,f a)::((a::r).map f).zip (r.map f)=(_,_)::List.map _ ((a::r).zip r);rw[List.zip_map]
  congr 1
  rw[List.getLast_map]
def zBz (l:List Int):Int:=l.foldr (λa b=>a+b) 0
theorem zES{x:Int}:∀ {l:List Int},zBz (l++[x])=zBz l+x
|[]=>by simp[zBz]
|a::l=>by
  show a+zBz (l++[x])=a+zBz l+x;rw[zES];omega
def crs (x:P2×P2):Int:=x.1.1*x.2.2-x.2.1*x.1.2
def zHQ (ps:List P2):Int:=zBz ((Yd ps).map crs)
theorem zOs{S:Gla.Plan}{l:List Nat}:zHQ ((l.map S.pt).map zq)=Gla.twiceArea S l:=by
 unfold zHQ Gla.twiceArea;rw[zDo,zDo,VH,VH];cases l with
|nil=>rfl
|cons a r=>
  rw[zER];show zBz (_::List.map _ ((a::r).zip r))=zBz (List.map _ ((a::r).zip r++[_]));rw[Ww];show _=zBz (_++[_]);rw[zES];show _+zBz _=_;rw[V0];rfl
def Zz (H H':Hp):Prop:=∀ b o,H b=some o->(∀ kvs,o≠.dT kvs)->H' b=some o
theorem Zz.of{H H':Hp}(s:zH H H'):Zz H H':=λb o e _=>s b o e
theorem Zz.trans{H H1 H2:Hp}(a:Zz H H1)(b:Zz H1 H2):Zz H H2:=λc o e n=>b c o (a c o e n) n
theorem Zz.upd{H:Hp}{d:Addr}{xs:List (List yF×V)}{o:HO}(e:H d=some (.dT xs)):Zz H (L2.upd H d o):=λb o' e' n=>by
 rw[zG (λz=>by subst z;rw[e] at e';cases e';exact n xs rfl)];exact e'
theorem XY.d{K:Qf}{H H':Hp}{a:Addr}{p:P2}(h:XY K H a p)(s:Zz H H'):XY K H' a p:=let ⟨C,dx,fs,e,r⟩:=h;⟨C,dx,fs,s a _ e (λxs z=>by cases z),r⟩
theorem zOt{K:Qf}{H H':Hp}{a:Addr}{l:List P2}(h:zo (Z6 K) H a l)(s:Zz H H'):zo (Z6 K) H' a l:=let ⟨vs,e,q⟩:=h;⟨vs,s _ _ e (λxs z=>by cases z),q.mono λv x r=>let ⟨b,e,X⟩:=r;⟨b,e,X.d s⟩⟩
def zDp (K:Qf)(H:Hp)(q:Addr)(ls:List (List P2)):Prop:=∃ as:List Addr,H q=some (.lst (as.map V.ref))/\as.length=ls.length/\q∉as/\∀ (j:Nat) (a:Addr) (l:List P2),as[j]?=some a->ls[j]?=some l->zo (Z6 K) H a l
theorem zDp.sameD{K:Qf}{H H':Hp}{q:Addr}{ls:List (List P2)}(h:zDp K H q ls)(s:Zz H H'):zDp K H' q ls:=let ⟨as,h1,h2,h3,h4⟩:=h;⟨as,s _ _ h1 (λxs z=>by cases z),h2,h3,λj a l e1 e2=>zOt (h4 j a l e1 e2) s⟩
theorem zDp.push{K:Qf}{H:Hp}{q a:Addr}{ls:List (List P2)}{l:List P2}(h:zDp K H q ls)(hl:zo (Z6 K) H a l)(ne:a≠q) :
  ∃ as:List Addr,H q=some (.lst (as.map V.ref))/\as.length=ls.length/\zDp K (L2.upd H q (.lst (as.map V.ref++[.ref a]))) q (ls++[l]):=by
 obtain⟨as,h1,h2,h3,h4⟩:=h
 have keep:∀ (b:Addr) (l':List P2),b≠q->zo (Z6 K) H b l'->zo (Z6 K) (L2.upd H q (.lst (as.map V.ref++[.ref a]))) b l':=λb l' nb h=>by
  obtain⟨vs,e,z⟩:=h;exact⟨vs,by rw[zG nb];exact e,z.mono λv x r=>Z6.mono (yg.updL h1) r⟩
 refine⟨as,h1,h2,as++[a],by rw[zF,Ww];rfl,by simp[h2],?_,λj b l' e1 e2=>?_⟩
 .intro hm;rcases Wp.mp hm with hm|hm
  .exact h3 hm
  .exact ne (Wn.mp hm).symm
 .by_cases hj:j<as.length
  .rw[W7 hj] at e1;rw[W7 (by rw[<-h2];exact hj)] at e2;exact keep b l' (λz=>h3 (by rw[<-z];exact ZZ e1)) (h4 j b l' e1 e2)
  .have hj2:j=as.length:=by
    have:=(yQ e1).1;rw[Wr,VV] at this;omega
   subst hj2;rw[VB (Wd _),XU] at e1;rw[VB (by omega),h2,XU] at e2;cases e1;cases e2;exact keep a l ne hl
def YC (D:List (Nat×Nat)):List (List yF×V):=D.map λx=>(kPr (ZS x),V.bl true)
def zBR (D:List (Nat×Nat))(x:Nat×Nat):List (Nat×Nat):=if x∈D then D else D++[x]
theorem zJb{x y:Nat×Nat}(h:ZS x=ZS y):x=y:=by
 unfold ZS at h;injection h with h1 h2
 exact Prod.ext (by omega) (by omega)
theorem zJc{D:List (Nat×Nat)}{x:Nat×Nat}:((YC D).any λkv=>decide (kv.1=kPr (ZS x)))=decide (x∈D):=by
 unfold YC;rw[UT,Wx];simp only[W4,Function.comp,ym];constructor
 .rintro⟨q,hq,e⟩;rw[<-zJb (zJR e)];exact hq
 .exact λh=>⟨x,h,rfl⟩
theorem zJd{D:List (Nat×Nat)}{x:Nat×Nat}:(y8 (YC D) (kPr (ZS x))).isSome=decide (x∈D):=by rw[<-zAe,zJc]
theorem zJe{D:List (Nat×Nat)}{x:Nat×Nat}:YE (YC D) (kPr (ZS x)) (.bl true)=YC (zBR D x):=by
 unfold YE zBR;rw[zJc];by_cases h:x∈D
 .rw[Wb (WJ h),Wb h];unfold YC;rw[VH];refine XT λy _=>?_
  simp only[Function.comp];split <;> rfl
 .rw[Wa (by rw[WB h];decide),Wa h];unfold YC;rw[Ww];rfl
theorem zMy{D:List (Nat×Nat)}{x y:Nat×Nat}:y∈zBR D x↔y∈D\/y=x:=by
 unfold zBR;by_cases h:x∈D
 .rw[Wb h];exact⟨.inl,λz=>z.elim id λe=>e ▸ h⟩
 .rw[Wa h,Wp,Wn]
theorem zOu{D:List (Nat×Nat)}{x:Nat×Nat}(h:D.Nodup):(zBR D x).Nodup:=by
 unfold zBR;by_cases hx:x∈D
 .rw[Wb hx];exact h
 .rw[Wa hx,Xv];refine⟨h,by simp,λa ha b hb e=>?_⟩;rw[Wn.mp hb] at e;exact hx (e ▸ ha)
theorem zCn{y:Nat×Nat}:∀ {l D:List (Nat×Nat)},y∈l.foldl zBR D↔y∈D\/y∈l
|[],D=>by simp
|x::l,D=>by
  rw[Vp,zCn,zMy,Wc];constructor
  .rintro ((h|h)|h)
   .exact .inl h
   .exact .inr (.inl h)
   .exact .inr (.inr h)
  .rintro (h|h|h)
   .exact .inl (.inl h)
   .exact .inl (.inr h)
   .exact .inr h
theorem zDq:∀ {l D:List (Nat×Nat)},D.Nodup->(l.foldl zBR D).Nodup
|[],_,h=>h
|x::l,D,h=>zDq (l:=l) (zOu h)
section
variable {P:Program}{w:World}{K:Qf}{mg:Qm}{base:Heap}{C:Addr}
theorem Zc.prev{R:Hp->V->P2->Prop}{H:Hp}{vs:List V}{ps:List P2}(q:Zc R H vs ps){k:Nat}(h:k<ps.length):∃ v u x y,atI vs ((k:Int)-1)=some v/\atI vs (k:Int)=some u/\(Yd ps)[k]?=some (x,y)/\x∈ps/\y∈ps/\R H v x/\R H u y:=by
 obtain⟨x,y,h1,h2,h3⟩:=zLv h;obtain⟨v,hv,rv⟩:=q.get h2;obtain⟨u,hu,ru⟩:=q.get h3;exact⟨v,u,x,y,zJZ (by rw[q.1];exact h) (by rw[q.1];exact hv),y9 rfl hu,h1,ZZ h2,ZZ h3,rv,ru⟩
def zNN (K:Qf):Sp:=λvs H Q _=>∃ (ca:Addr) (ps:List P2),vs=[.ref ca]/\zo (Z6 K) H ca ps/\Sms ps/\ps.length<100000/\Q (.bl (decide (0<zHQ ps))) H
theorem zF2:zO ["corners","doubled_area","k"] ["corners"] (zI zAO):=yG (by decide +kernel)
theorem zP7(D:zW K mg "goes_round_left" zAO ["corners"])(mr:mg "range" = none)(ml:mg "len" = none):Ok P w K mg base 1 "goes_round_left" ["corners"] (zNN K):=by
 refine D.ok zF2 (λvs H Q E h=>?_) (λf cdv A outer s H vs Q E hr h=>?_)
 .obtain⟨ca,ps,rfl,_⟩:=h;rfl
 .obtain⟨ca,ps,rfl,⟨cvs,hc,ec⟩,hs,hn,k⟩:=h
  refine⟨_,zD (zb (i:=1) zF2.nd rfl (Or.inl rfl) zJ)
   (zD (yI Wz rfl (zBf rfl mr (zA (yE ml (zA (pv 0) zC)) zC)) (zV (i:=2) zF2.nd rfl (Or.inl rfl))
    (zE (zb (i:=1) zF2.nd rfl (Or.inl rfl) (zi ZL (zi yP (pv 1) (zi YH (zQ (zf za (pv 0) (zi ZL (pv 2) zJ) (λ_ _=>rfl)) rfl) (zQ (zf za (pv 0) (pv 2) (λ_ _=>rfl)) rfl)))
     (zi YH (zQ (zf za (pv 0) (pv 2) (λ_ _=>rfl)) rfl) (zQ (zf za (pv 0) (zi ZL (pv 2) zJ) (λ_ _=>rfl)) rfl))))))
   (zE (zS (yO Zx (pv 1) zJ (zY _))))),?_⟩
  refine⟨_,rfl,ca,_,rfl,.inl (zM.of hc),_,rfl,by omega,by rw[ec.1];omega,?_⟩;rw[ec.1,Ve];refine Y6 (lo:=0) (λi σ H'=>∃ v:Option V,σ=[some (.ref ca),some (.int (zBz (((Yd ps).take i).map crs))),v]/\H'=H) ⟨none,rfl,rfl⟩ ?_ ?_
  .rintro i σ H' hi ⟨v,rfl,rfl⟩;rw[VQ];obtain⟨v1,u1,x,y,e1,e2,e3,mx,my,⟨b1,rfl,X1⟩,b2,rfl,X2⟩:=ec.prev hi;obtain⟨C1,d1,f1,a1,a2,a3,a4,a5,a6⟩:=id X1;obtain⟨C2,d2,f2,c1,c2,c3,c4,c5,c6⟩:=id X2;have sx:=hs x mx;have sy:=hs y my;unfold Sm at sx sy
   refine⟨_,rfl,_,rfl,_,rfl,_,_,rfl,rfl,ca,_,_,_,rfl,rfl,zM.of hc,e1,b1,C1,d1,_,_,rfl,a1,a2,a3,a5,_,rfl,_,rfl,ca,_,_,_,rfl,rfl,zM.of hc,e2,b2,C2,d2,_,_,rfl,c1,c2,c4,c6,_,_,rfl,rfl,.inl ⟨by omega,by omega⟩,_,_,rfl,rfl,
    _,rfl,_,rfl,ca,_,_,_,rfl,rfl,zM.of hc,e2,b2,C2,d2,_,_,rfl,c1,c2,c3,c5,_,rfl,_,rfl,_,_,rfl,rfl,ca,_,_,_,rfl,rfl,zM.of hc,e1,b1,C1,d1,_,_,rfl,a1,a2,a4,a6,_,_,rfl,rfl,.inl ⟨by omega,by omega⟩,_,_,rfl,rfl,?_⟩
   refine⟨some (.int (i:Int)),?_,rfl⟩;rw[yB e3,Ww];show _=[_,some (V.int (zBz (_++[_]))),_]
   rw[zES];show [_,some (V.int (_+x.1*y.2-y.1*x.2)),_]=[_,some (V.int (_+(x.1*y.2-y.1*x.2))),_]
   rw[Int.add_sub_assoc]
  .rintro σ H' ⟨v,rfl,rfl⟩;rw[<-zFN,WY];exact⟨_,rfl,_,_,rfl,rfl,k⟩
theorem zDr{X:Cx}(K:Qf)(hK:X.K=K:=by rfl):IxR X (zPW K):=by
 subst hK;exact za
def zA1 (S:Gla.Plan)(i:Nat):List Kt.zh:=(List.range i).flatMap λi=>(S.near i).map λj=>(i,j)
theorem zET{S:Gla.Plan}{i:Nat}:zA1 S (i+1)=zA1 S i++(S.near i).map λj=>(i,j):=by
 unfold zA1;rw[List.range_succ,List.flatMap_append];simp
theorem zG4{S:Gla.Plan}{i:Nat}:∀ (d:Nat),(zA1 S i).length<=(zA1 S (i+d)).length
|0=>Wd _
|d+1=>by
  have h:=zG4 (S:=S) (i:=i) d;rw[show i+(d+1)=i+d+1 by omega,zET,Wr];omega
theorem zMz{S:Gla.Plan}(O:Kt.yD S):(zA1 S S.pts.length).length<=2*S.lines.length:=by
 have nd:(Kt.zAg S).Nodup:=by
  unfold Kt.zAg;show List.Pairwise (λa b=>a≠b) _;rw[List.pairwise_flatMap];refine⟨λi _=>?_,?_⟩
  .rw[US];exact Xx (λh e=>h (WV Prod.snd e)) (Kt.zDc O i)
  .refine Xx ?_ Xu;intro a b hab x hx y hy e;obtain⟨_,_,rfl⟩:=Wg.mp hx;obtain⟨_,_,rfl⟩:=Wg.mp hy;have:a=b:=WV Prod.fst e;omega
 have h:=Kt.Yl (Kt.zAg S) (Gla.ways S) nd λx hx=>(Kt.zAf O x).mpr ((Kt.zCJ O x).mp hx)
 rw[Kt.zDa] at h;exact h
theorem zM0{S:Gla.Plan}{st:List Kt.zh×List (List Nat)}{e:Kt.zh}(h:e∈st.1):Kt.yq S st e=st:=by
 unfold Kt.yq;rw[Wb h]
theorem zLw{S:Gla.Plan}{st:List Kt.zh×List (List Nat)}{e:Kt.zh}(h:e∉st.1):Kt.yq S st e=(st.1++Kt.zAh S e,if 0<Gla.twiceArea S (Kt.Y3 S e) then st.2++[Kt.Y3 S e] else st.2):=by
 unfold Kt.yq;rw[Wa h]
def ZR (S:Gla.Plan)(l:List Nat):List P2:=(l.map S.pt).map zq
structure OSt(K:Qf)(S:Gla.Plan)(H0 H:Hp)(wa oa:Addr)(pre:List Kt.zh):Prop where
 same:zH H0 H
 nw:H0 wa=none
 no:H0 oa=none
 out:zDp K H oa (((pre.foldl (Kt.yq S) ([],[])).2).map (ZR S))
 wk:∃ D:List Kt.zh,H wa=some (.dT (YC D))/\D.Nodup/\(∀ x∈D,x∈Gla.ways S)/\∀ x,x∈D↔x∈(pre.foldl (Kt.yq S) ([],[])).1
def zLx (K:Qf):Sp:=λvs H Q _=>∃ (c:Addr) (S:Gla.Plan),vs=[.ref c]/\Yn K H c (zg S)/\Yc S/\Kt.yD S/\∀ H' q,zH H H'->zDp K H' q ((Kt.YJ S).2.map (ZR S))->H q=none->Q (.ref q) H'
theorem Ye:zO ["cartoon","points","neighbours","walked","outlines","first","second","outline","k","corners","number"] ["cartoon"] (zI zAc):=yG (by decide +kernel)
theorem zII{S:Gla.Plan}:∀ (pre:List Kt.zh) (st:List Kt.zh×List (List Nat)),(pre.foldl (Kt.yq S) st).2.length<=st.2.length+pre.length
|[],st=>by simp
|e::pre,st=>by
  have h:=zII (S:=S) pre (Kt.yq S st e)
  have h2:(Kt.yq S st e).2.length<=st.2.length+1:=by
   unfold Kt.yq;split
   .exact Um _ _
   .dsimp only;split
    .rw[Wr,VV];exact Wd _
    .exact Um _ _
  rw[Vp,WD];omega
theorem zOv(D:zW K mg "outlines_of" zAc ["cartoon"])(ON:Ok P w K mg base 1 "neighbours_of" ["cartoon"] (zKZ K))(OO:Ok P w K mg base 4 "outline_from" ["first","second","points","neighbours"] (zLu K))(OG:Ok P w K mg base 1 "goes_round_left" ["corners"] (zNN K))(mr:mg "range" = none)(ml:mg "len" = none) :
  Ok P w K mg base 5 "outlines_of" ["cartoon"] (zLx K):=by
 refine D.ok Ye (λvs H Q E h=>?_) (λf cdv A outer s H vs Q E hr h=>?_)
 .obtain⟨c,S,rfl,_⟩:=h;rfl
 .obtain⟨c,S,rfl,CA,B,O,k⟩:=h;have hr1:zt 1 _:=hr.mono (by decide);have hu:=zHM hr;obtain⟨Cc,dx,fs,pa,la,ma,h1,h2,h3,h4,h5,h6,h7,h8,h9,h10,h11,h12,hpts,h14,h15⟩:=id CA;have PA0:zBb K H pa S:=hpts
  refine⟨_,zD (zb (i:=1) Ye.nd rfl (Or.inr rfl) (zQ (pv 0) rfl)) (zD (zb (i:=2) Ye.nd rfl (Or.inl rfl) (zT ON hr1 (zA (pv 0) zC))) (zD (zb (i:=3) Ye.nd rfl (Or.inl rfl) zHf) (zD (zb (i:=4) Ye.nd rfl (Or.inl rfl) (yd zC))
   (zD (yI Wz rfl (zBf rfl mr (zA (yE ml (zA (pv 1) zC)) zC)) (zV (i:=5) Ye.nd rfl (Or.inl rfl))
    (zE (yI Wz rfl (ZF (zf za (pv 2) (pv 5) (λ_ _=>rfl))) (zV (i:=6) Ye.nd rfl (Or.inl rfl))
     (zD (zm (zFS (zHe hu (Y9 (zA (pv 5) (zA (pv 6) zC))) (pv 3)) rfl) (zE zE0) zZ)
     (zD (zb (i:=7) Ye.nd rfl (Or.inl rfl) (zT OO hr (zA (pv 5) (zA (pv 6) (zA (pv 1) (zA (pv 2) zC))))))
     (zD (yI Wz rfl (zBf rfl mr (zA (yE ml (zA (pv 7) zC)) zC)) (zV (i:=8) Ye.nd rfl (Or.inl rfl))
      (zE (zGC hu (pv 3) (Y9 (zA (zf za (pv 7) (zi ZL (pv 8) zJ) (λ_ _=>rfl)) (zA (zf za (pv 7) (pv 8) (λ_ _=>rfl)) zC))) yk rfl)))
     (zD (Yj (i:=9) (own:=[("number",10)]) rfl Ye.nd rfl rfl rfl (ZF (pv 7)) (ZM (show zAL ["cartoon","points","neighbours","walked","outlines","first","second","outline","k","corners","number"] (zI zAc) _ _=true by decide +kernel))
      (λ_ _ _ _ _=>zV (i:=10) Ye.nd rfl (Or.inl rfl)) (λ_ _ _ _ _=>Zm) (λ_ _ _ _ _=>zf (zDr K) (pv 1) (pv 10) (λ_ _=>rfl)))
     (zE (zm (yT (zT OG hr1 (zA (pv 9) zC))) (zE (yf (zAG WF WP WO ZO (pv 4) (zA (pv 9) zC)))) zZ))))))))
    )
   (zE (zS (pv 4))))))),?_⟩
  refine⟨_,rfl,c,Cc,dx,fs,_,rfl,h1,h2,h5,h10,?_⟩;refine⟨_,rfl,c,S,rfl,CA,B,λH1 na s1 LN0=>?_⟩;refine λwa nwa=>⟨WH _,λoa noa=>?_⟩
  have ne:oa≠wa:=λe=>by rw[e,zF] at noa;cases noa
  have noa1:H1 oa=none:=by rw[zG ne] at noa;exact noa
  have LN:LLN H1 na (yL S.pts.length S.lines):=LN0;have PA1:zBb K H1 pa S:=PA0.same s1;obtain⟨pvs,hp1,hp2,hp3,rd⟩:=PA1.rd
  have st0:OSt K S H1 (upd (upd H1 wa (.dT [])) oa (.lst [])) wa oa (zA1 S 0):=by
   refine⟨zR (zR (zH.refl H1) nwa) noa,nwa,noa1,⟨[],zF,rfl,by simp,λj a l e1=>by simp at e1⟩,[],?_,Vl,λx hx=>by simp at hx,λx=>by simp[zA1]⟩;rw[zG (Ne.symm ne),zF];rfl
  generalize upd (upd H1 wa (.dT [])) oa (.lst [])=H2 at st0;refine⟨_,rfl,pa,_,rfl,.inl (zM.of (st0.same _ _ hp2)),_,rfl,by omega,by have:=B.n;omega,?_⟩;rw[hp3,Ve];refine Y6 (lo:=0) (λi σ H'=>∃ v5 v6 v7 v8 v9 v10:Option V,σ=[some (.ref c),some (.ref pa),some (.ref na),some (.ref wa),some (.ref oa),v5,v6,v7,v8,v9,v10]/\OSt K S H1 H' wa oa (zA1 S i)) ⟨_,_,_,_,_,_,rfl,st0⟩ ?_ ?_
  .rintro i σ H' hi ⟨v5,v6,v7,v8,v9,v10,rfl,st⟩;rw[VQ];obtain⟨as,ai,y1,y2,y3⟩:=zDA LN hi;have hnr:YB S.lines i=S.near i:=rfl;refine⟨_,rfl,_,rfl,na,_,_,_,rfl,rfl,zM.of (st.same _ _ y1),y9 (j:=i) rfl (map_some y2),ai,rfl,⟨_,zM.of (st.same _ _ y3)⟩,?_⟩;refine Y5 (K:=K) (a:=ai) (xs:=zu (YB S.lines i)) (λj σ H'=>∃ v6 v7 v8 v9 v10:Option V,σ=[some (.ref c),some (.ref pa),some (.ref na),some (.ref wa),some (.ref oa),some (.int (i:Int)),v6,v7,v8,v9,v10]/\OSt K S H1 H' wa oa (zA1 S i++((S.near i).take j).map λj=>(i,j))) ⟨_,_,_,_,_,rfl,by simpa using st⟩ (λj σ H' _ ⟨_,_,_,_,_,_,st⟩=>zM.of (st.same _ _ y3)) ?_ ?_
   .rintro j y σ H' hj ⟨v6,v7,v8,v9,v10,rfl,st⟩;obtain⟨b,hb,rfl⟩:=zDN hj;have hb':(S.near i)[j]?=some b:=hb;have jj:Kt.JJ S i b:=(Kt.Z4 O).mp (ZZ hb')
    have epre:zA1 S i++((S.near i).take (j+1)).map (λj=>(i,j))=(zA1 S i++((S.near i).take j).map λj=>(i,j))++[(i,b)]:=by
     rw[yB hb',Ww,Xj];rfl
    rw[epre]
    have hpl:(zA1 S i++((S.near i).take j).map (λj=>(i,j))).length<=2*S.lines.length:=by
     have q1:=zMz O;have q2:=zG4 (S:=S) (i:=i+1) (S.pts.length-(i+1));rw[show i+1+(S.pts.length-(i+1))=S.pts.length by omega,zET,Wr,zc] at q2;rw[Wr,zc,Wy];omega
    generalize zA1 S i++((S.near i).take j).map (λj=>(i,j))=pre at st hpl;obtain⟨D,hD,nd,hDw,hDm⟩:=st.wk;have efold:(pre++[(i,b)]).foldl (Kt.yq S) ([],[])=Kt.yq S (pre.foldl (Kt.yq S) ([],[])) (i,b):=by rw[Uf];rfl
    refine⟨_,rfl,_,rfl,(by show 2<=sizeLine;decide),λt nt=>?_⟩;have s3:zH H' (upd H' t (.tup [.int (i:Int),.int (b:Int)])):=zR (zH.refl H') nt;refine⟨_,rfl,wa,_,rfl,zBq.t (k:=kPr (ZS (i,b))) (s3 _ _ hD) zF,_,rfl,?_⟩;rw[zJd];have D3:upd H' t (.tup [.int (i:Int),.int (b:Int)]) wa=some (.dT (YC D)):=s3 _ _ hD;have O3:=st.out.sameD (Zz.of s3);have S3:zH H1 (upd H' t (.tup [.int (i:Int),.int (b:Int)])):=st.same.trans s3;generalize upd H' t (.tup [.int (i:Int),.int (b:Int)])=H3 at D3 O3 S3;refine zp (λhb1=>?_) λhb1=>?_
    .have hin:(i,b)∈(pre.foldl (Kt.yq S) ([],[])).1:=(hDm _).mp (Wm hb1);have eo:Kt.yq S (pre.foldl (Kt.yq S) ([],[])) (i,b)=pre.foldl (Kt.yq S) ([],[]):=zM0 hin;refine⟨_,_,_,_,_,rfl,S3,st.nw,st.no,?_,D,D3,nd,hDw,?_⟩
     .rw[efold,eo];exact O3
     .rw[efold,eo];exact hDm
    .have hnin:(i,b)∉(pre.foldl (Kt.yq S) ([],[])).1:=λh=>Wo hb1 ((hDm _).mpr h)
     have eo:Kt.yq S (pre.foldl (Kt.yq S) ([],[])) (i,b)=((pre.foldl (Kt.yq S) ([],[])).1++Kt.zAh S (i,b),if 0<Gla.twiceArea S (Kt.Y3 S (i,b)) then (pre.foldl (Kt.yq S) ([],[])).2++[Kt.Y3 S (i,b)] else (pre.foldl (Kt.yq S) ([],[])).2):=zLw hnin;refine⟨_,rfl,_,rfl,_,rfl,_,rfl,i,b,pa,na,S,rfl,PA1.same S3,B,O,zAz.same LN S3,jj,λH4 q s4 hq nq=>?_⟩;obtain⟨kk,Pk,hrn,hrw⟩:=Kt.zB8 O (e:=(i,b)) jj;have hkk:=zIG O (e:=(i,b)) jj Pk;have rlen:(Kt.Y3 S (i,b)).length=kk:=by rw[hrn,zc,ZW]
     have rmem:∀ x∈Yd (Kt.Y3 S (i,b)),x∈Gla.ways S:=λx hx=>(Kt.zAf O x).mpr (Kt.zEi O (e:=(i,b)) jj (zJa.mp hx)).1
     have rlt:∀ x∈Kt.Y3 S (i,b),x<S.pts.length:=λx hx=>by
      rw[hrn] at hx;obtain⟨z,hz,rfl⟩:=Wg.mp hx;obtain⟨i',_,rfl⟩:=Kt.zn.mp hz;exact (O.jlt (Kt.Zy O.dr.hnx i' (e:=(i,b)) jj)).1
     have D4:=s4 _ _ D3;have O4:=O3.sameD (Zz.of s4);have S4:=S3.trans s4;have hml:=B.m;generalize hR:Kt.Y3 S (i,b)=R at *
     refine⟨_,rfl,q,_,rfl,.inl (zM.of hq),_,rfl,by omega,by rw[z9,rlen];omega,?_⟩;rw[z9,Ve];refine Y6 (lo:=0) (λkx σ Hx=>∃ v8 v9 v10:Option V,σ=[some (.ref c),some (.ref pa),some (.ref na),some (.ref wa),some (.ref oa),some (.int (i:Int)),some (.int (b:Int)),some (.ref q),v8,v9,v10]/\zH H1 Hx/\Zz H4 Hx/\Hx wa=some (.dT (YC (((Yd R).take kx).foldl zBR D)))) ⟨_,_,_,rfl,S4,Zz.of (zH.refl _),D4⟩ ?_ ?_
     .rintro kx σ Hx hkx ⟨v8,v9,v10,rfl,S5,sd,hw5⟩;rw[VQ];obtain⟨x,y,c1,c2,c3⟩:=zLv hkx;have q5:Hx q=some (.lst (zu R)):=sd _ _ hq (λxs z=>by cases z);have e1:atI (zu R) ((kx:Int)-1)=some (.int (x:Int)):=zJZ (by rw[z9];exact hkx) (by rw[z9];exact map_some (f:=λ(j:Nat)=>V.int (j:Int)) c2);have e2:atI (zu R) (kx:Int)=some (.int (y:Int)):=y9 rfl (map_some (f:=λ(j:Nat)=>V.int (j:Int)) c3);refine⟨_,rfl,_,rfl,_,rfl,_,_,rfl,rfl,q,_,_,_,rfl,rfl,zM.of q5,e1,_,rfl,_,rfl,q,_,_,_,rfl,rfl,zM.of q5,e2,(by show 2<=sizeLine;decide),λt2 nt2=>?_⟩;have s6:zH Hx (upd Hx t2 (.tup [.int (x:Int),.int (y:Int)])):=zR (zH.refl Hx) nt2;have w6:=s6 _ _ hw5;refine⟨wa,_,rfl,zDV.t (k:=kPr (ZS (x,y))) w6 zF ?_,?_⟩
      .have hle:=Kt.Yl (((Yd R).take kx).foldl zBR D) (Gla.ways S) (zDq nd) (λz hz=>(zCn.mp hz).elim (hDw z) λh=>rmem z (XI h));rw[Kt.zDa] at hle;unfold YC;rw[zc];exact Yp hle (yU (by omega:2*S.lines.length<30000) (by decide))
      .refine⟨_,_,_,rfl,λb' o' eb=>?_,sd.trans ((Zz.of s6).trans (Zz.upd w6)),?_⟩
       .rw[zG (zN eb st.nw)];exact s6 _ _ (S5 _ _ eb)
       .rw[zF,zJe,yB c1,Uf];rfl
     .rintro σ Hx ⟨v8,v9,v10,rfl,S5,sd,hw5⟩;rw[<-zFN,WY] at hw5;have q5:Hx q=some (.lst (zu R)):=sd _ _ hq (λxs z=>by cases z);have O5:=O4.sameD sd;refine⟨_,rfl,q,rfl,⟨_,zM.of q5⟩,λL nL=>?_⟩;refine Yv (K:=K) (a:=q) (xs:=zu R) (λm Hy=>zH Hx Hy/\zo (Z6 K) Hy L ((ZR S R).take m)) ⟨zR (zH.refl Hx) nL,_,zF,Zc.nil⟩ (λm Hy _ hh=>zM.of (hh.1 _ _ q5)) ?_ ?_
      .rintro m y Hy hm ⟨s6,vs,ev,qv⟩;obtain⟨z,hz,rfl⟩:=zDN hm;have hzl:=rlt z (ZZ hz);have S6:zH H1 Hy:=S5.trans s6;obtain⟨bz,ez,Xz⟩:=rd z hzl;refine⟨rfl,?_⟩;refine⟨_,rfl,_,rfl,pa,pvs,_,_,rfl,rfl,zM.of (S6 _ _ hp2),ez,vs,ev,?_,λb' o' eb=>?_,?_⟩
       .rw[qv.1,Wy];have hlR:(ZR S R).length<30000:=by unfold ZR;rw[zc,zc,rlen];omega
        exact Yp (XD _ _) (yU hlR (by decide))
       .rw[zG (zN eb nL)];exact s6 _ _ eb
       .have hc:(ZR S R)[m]?=some (zq (S.pt z)):=map_some (map_some hz);rw[yB hc];exact zo.snoc zB4 ev qv ⟨bz,rfl,Xz.same S6⟩
      rintro Hy ⟨s6,LC⟩;have hcl:(zu R).length=(ZR S R).length:=by rw[z9];unfold ZR;rw[zc,zc]
      rw[hcl,WY] at LC;have S6:=S5.trans s6;have O6:=O5.sameD (Zz.of s6);have w6:=s6 _ _ hw5
      have smc:Sms (ZR S R):=λp hp=>by
       obtain⟨p',hp',rfl⟩:=Wg.mp hp;obtain⟨z,hz,rfl⟩:=Wg.mp hp';exact B.smp (rlt z hz)
      refine⟨_,rfl,L,ZR S R,rfl,LC,smc,by rw[<-hcl,z9,rlen];omega,_,rfl,?_⟩;rw[show zHQ (ZR S R)=Gla.twiceArea S R from zOs]
      have hmem':∀ x,x∈(Yd R).foldl zBR D↔x∈(pre.foldl (Kt.yq S) ([],[])).1++Kt.zAh S (i,b):=λx=>by
       rw[zCn,hDm,Wp,zJa];unfold Kt.zAh;rw[hR]
      have sub':∀ x∈(Yd R).foldl zBR D,x∈Gla.ways S:=λx hx=>(zCn.mp hx).elim (hDw x) (rmem x)
      have Lo:L≠oa:=by
       obtain⟨as',g1,_⟩:=O5;exact λz=>by rw[<-z,nL] at g1;cases g1
      refine zp (λhb2=>?_) λhb2=>?_
      .obtain⟨as',g1,g2,g3⟩:=O6.push LC Lo;refine⟨_,rfl,.inl ⟨rfl,_,zM.of g1⟩,_,rfl,oa,_,_,rfl,rfl,g1,?_,?_⟩
       .rw[zc,g2,zc];have q1:=zII (S:=S) pre ([],[]);rw[Xc,WC] at q1;exact Yp (WT q1 hpl) (yU (by omega:2*S.lines.length<30000) (by decide))
       .refine⟨_,_,_,_,_,rfl,λb' o' eb=>?_,st.nw,st.no,?_,_,?_,zDq nd,sub',?_⟩
        .rw[zG (zN eb st.no)];exact S6 _ _ eb
        .rw[efold,eo];dsimp only;rw[Wb (Wm hb2),Ww];exact g3
        .rw[zG (Ne.symm ne)];exact w6
        .rw[efold,eo];exact hmem'
      .refine⟨_,_,_,_,_,rfl,S6,st.nw,st.no,?_,_,w6,zDq nd,sub',?_⟩
       .rw[efold,eo];dsimp only;rw[Wa (Wo hb2)];exact O6
       .rw[efold,eo];exact hmem'
   .rintro σ H' ⟨v6,v7,v8,v9,v10,rfl,st⟩;rw[z9,hnr,WY] at st;exact⟨_,_,_,_,_,_,rfl,by rw[zET];exact st⟩
  .rintro σ H' ⟨v5,v6,v7,v8,v9,v10,rfl,st⟩;exact⟨_,rfl,k _ _ (s1.trans st.same) st.out (zCk s1 _ st.no)⟩
end
def zFO (z:P2)(x:P2×P2):Bool:=((decide (x.1.2<=z.2)&&decide (z.2<x.2.2))&&decide (0<YL x.1 x.2 z))||((decide (x.2.2<=z.2)&&decide (z.2<x.1.2))&&decide (YL x.1 x.2 z<0))
def zFP (n:Nat):Bool:=decide (n%2=1)
theorem zLy{n:Nat}:zFP (n+1) = !zFP n:=by
 unfold zFP;by_cases h:n%2=1
 .rw[WJ h,WB (by omega)];rfl
 .rw[WB h,WJ (by omega)];rfl
def zIJ (ps:List P2)(z:P2):Bool:=zFP ((Yd ps).filter (zFO z)).length
theorem zLz{S:Gla.Plan}{l:List Nat}{z:Gla.Pt}:zIJ (ZR S l) (zq z)=Gla.insideOf S l z:=by
 unfold zIJ Gla.insideOf ZR zFP;rw[zDo,zDo,VH]
 have key:∀ x:Nat×Nat,zFO (zq z) (((λx=>(zq x.1,zq x.2))∘λx=>(S.pt x.1,S.pt x.2)) x) =
   ((decide ((S.pt x.1).y<=z.y)&&(decide (z.y<(S.pt x.2).y)&&decide (0<Gla.turn (S.pt x.1) (S.pt x.2) z)))||(decide ((S.pt x.2).y<=z.y)&&(decide (z.y<(S.pt x.1).y)&&decide (Gla.turn (S.pt x.1) (S.pt x.2) z<0)))):=by
  intro x;show ((decide (((S.pt x.1).y:Int)<=(z.y:Int))&&decide ((z.y:Int)<((S.pt x.2).y:Int)))&&decide (0<Gla.turn (S.pt x.1) (S.pt x.2) z)||(decide (((S.pt x.2).y:Int)<=(z.y:Int))&&decide ((z.y:Int)<((S.pt x.1).y:Int)))&&decide (Gla.turn (S.pt x.1) (S.pt x.2) z<0))=_;simp only[Xy,Int.ofNat_lt,Bool.and_assoc]
 rw[List.filter_map,zc];have e0:=List.filter_congr (l:=Yd l) (p:=λx:Nat×Nat=>zFO (zq z) (zq (S.pt x.1),zq (S.pt x.2))) (q:=λx:Nat×Nat=>((decide ((S.pt x.1).y<=z.y)&&(decide (z.y<(S.pt x.2).y)&&decide (0<Gla.turn (S.pt x.1) (S.pt x.2) z)))||(decide ((S.pt x.2).y<=z.y)&&(decide (z.y<(S.pt x.1).y)&&decide (Gla.turn (S.pt x.1) (S.pt x.2) z<0))))) (λx _=>key x);show decide ((List.filter (λx:Nat×Nat=>zFO (zq z) (zq (S.pt x.1),zq (S.pt x.2))) (Yd l)).length%2=1)=_;rw[e0]
 congr 2
 cases l with
|nil=>rfl
|cons a r=>
  rw[zER];show (List.filter _ (_::(a::r).zip r)).length%2=(List.filter _ ((a::r).zip r++[_])).length%2;rw[X9,Wr,UY];simp only[UY,U4];split <;> simp
theorem zJf(a b c:Nat):YI (c:Int) (zC5 a b) (zC6 a b)=Gla.between a b c:=by
 have h1:zC5 (a:Int) (b:Int)=((min a b:Nat):Int):=by unfold zC5;split <;> omega
 have h2:zC6 (a:Int) (b:Int)=((max a b:Nat):Int):=by unfold zC6;split <;> omega
 rw[h1,h2];unfold YI Gla.between;rw[Wk.mpr Xy,Wk.mpr Xy]
theorem zNO{p q r:Gla.Pt}:onI (zq r) (zq p) (zq q)=Gla.isOn p q r:=by
 show (YI (r.y:Int) (zC5 p.y q.y) (zC6 p.y q.y)&&(YI (r.x:Int) (zC5 p.x q.x) (zC6 p.x q.x)&&decide (Gla.turn p q r=0)))=_;rw[zJf,zJf];unfold Gla.isOn;rw[W1];cases Gla.between p.y q.y r.y <;> cases Gla.between p.x q.x r.x <;> cases decide (Gla.turn p q r=0) <;> rfl
section
variable {P:Program}{w:World}{K:Qf}{mg:Qm}{base:Heap}{C:Addr}
def zNP (K:Qf):Sp:=λvs H Q _=>∃ (ca ma:Addr) (ps:List P2) (z:P2),vs=[.ref ca,.ref ma]/\zo (Z6 K) H ca ps/\XY K H ma z/\Sms ps/\Sm 4294967296 z/\ps.length<100000/\Q (.bl (zIJ ps z)) H
theorem zBp:zO ["corners","mark","within","k","before","corner","rises","falls"] ["corners","mark"] (zI zDi):=yG (by decide +kernel)
theorem zP8(D:zW K mg "is_round" zDi ["corners","mark"])(OT:Ok P w K mg base 1 "turn" ["p","q","r"] (zEL K))(mr:mg "range" = none)(ml:mg "len" = none):Ok P w K mg base 2 "is_round" ["corners","mark"] (zNP K):=by
 refine D.ok zBp (λvs H Q E h=>?_) (λf cdv A outer s H vs Q E hr h=>?_)
 .obtain⟨ca,ma,ps,z,rfl,_⟩:=h;rfl
 .obtain⟨ca,ma,ps,z,rfl,⟨cvs,hc,ec⟩,XM,hs,hz,hn,k⟩:=h;obtain⟨C0,d0,f0,m1,m2,m3,m4,m5,m6⟩:=id XM
  refine⟨_,zD (zb (i:=2) zBp.nd rfl (Or.inl rfl) yk)
   (zD (yI Wz rfl (zBf rfl mr (zA (yE ml (zA (pv 0) zC)) zC)) (zV (i:=3) zBp.nd rfl (Or.inl rfl))
    (zD (zb (i:=4) zBp.nd rfl (Or.inl rfl) (zf za (pv 0) (zi ZL (pv 3) zJ) (λ_ _=>rfl)))
    (zD (zb (i:=5) zBp.nd rfl (Or.inl rfl) (zf za (pv 0) (pv 3) (λ_ _=>rfl)))
    (zD (zb (i:=6) zBp.nd rfl (Or.inl rfl) (Yr (yO zHF (zQ (pv 4) rfl) (zQ (pv 1) rfl) (zY _)) (Yq (yO Zf (zQ (pv 1) rfl) (zQ (pv 5) rfl) (zY _)))))
    (zD (zb (i:=7) zBp.nd rfl (Or.inl rfl) (Yr (yO zHF (zQ (pv 5) rfl) (zQ (pv 1) rfl) (zY _)) (Yq (yO Zf (zQ (pv 1) rfl) (zQ (pv 4) rfl) (zY _)))))
    (zE (zm (PW.pt (zB0 (PW.pt (zCB (yT (pv 6)) (zA6 (zj Zx (zT OT hr (zA (pv 4) (zA (pv 5) (zA (pv 1) zC)))) zJ (zY _))))) (zAo (PW.pt (zCB (yT (pv 7)) (zA6 (zj Zf (zT OT hr (zA (pv 4) (zA (pv 5) (zA (pv 1) zC)))) zJ (zY _))))))))
     (zE (zb (i:=2) zBp.nd rfl (Or.inl rfl) (zPO (pv 2)))) zZ)))))))
   (zE (zS (pv 2)))),?_⟩
  refine⟨_,rfl,ca,_,rfl,.inl (zM.of hc),_,rfl,by omega,by rw[ec.1];omega,?_⟩;rw[ec.1,Ve];refine Y6 (lo:=0) (λi σ H'=>∃ v3 v4 v5 v6 v7:Option V,σ=[some (.ref ca),some (.ref ma),some (.bl (zFP (((Yd ps).take i).filter (zFO z)).length)),v3,v4,v5,v6,v7]/\H'=H) ⟨none,none,none,none,none,rfl,rfl⟩ ?_ ?_
  .rintro i σ H' hi ⟨v3,v4,v5,v6,v7,rfl,rfl⟩;rw[VQ];obtain⟨v1,u1,x,y,e1,e2,e3,mx,my,⟨b1,rfl,X1⟩,b2,rfl,X2⟩:=ec.prev hi;obtain⟨C1,d1,f1,a1,a2,a3,a4,a5,a6⟩:=id X1;obtain⟨C2,d2,f2,c1,c2,c3,c4,c5,c6⟩:=id X2;have sx:=(hs x mx).mono (n:=4294967296) (by decide);have sy:=(hs y my).mono (n:=4294967296) (by decide);refine⟨_,rfl,_,rfl,_,_,rfl,rfl,ca,_,_,_,rfl,rfl,zM.of hc,e1,?_⟩;refine⟨_,rfl,_,rfl,ca,_,_,_,rfl,rfl,zM.of hc,e2,?_⟩
   try dsimp only[ZQ,Yh,Ze,YV,YO,YQ]
   show zBS _ _ _ _ _;refine Z2 (c:=decide (x.2<=z.2)) (d:=decide (z.2<y.2)) (λR h=>⟨_,rfl,b1,C1,d1,_,_,rfl,a1,a2,a4,a6,_,rfl,ma,C0,d0,_,_,rfl,m1,m2,m4,m6,_,_,rfl,rfl,h⟩) (λ_ R h=>⟨_,rfl,ma,C0,d0,_,_,rfl,m1,m2,m4,m6,_,rfl,b2,C2,d2,_,_,rfl,c1,c2,c4,c6,_,_,rfl,rfl,h⟩) ?_
   try dsimp only[ZQ,Yh,Ze,YV,YO,YQ]
   show zBS _ _ _ _ _;refine Z2 (c:=decide (y.2<=z.2)) (d:=decide (z.2<x.2)) (λR h=>⟨_,rfl,b2,C2,d2,_,_,rfl,c1,c2,c4,c6,_,rfl,ma,C0,d0,_,_,rfl,m1,m2,m4,m6,_,_,rfl,rfl,h⟩) (λ_ R h=>⟨_,rfl,ma,C0,d0,_,_,rfl,m1,m2,m4,m6,_,rfl,b1,C1,d1,_,_,rfl,a1,a2,a4,a6,_,_,rfl,rfl,h⟩) ?_
   try dsimp only[ZQ,Yh,Ze,YV,YO,YQ]
   show tOr _ _ _ _ _
   refine zD5 (c:=(decide (x.2<=z.2)&&decide (z.2<y.2))&&decide (0<YL x y z)) (d:=(decide (y.2<=z.2)&&decide (z.2<x.2))&&decide (YL x y z<0))
    (λR h=>zA9 (c:=decide (x.2<=z.2)&&decide (z.2<y.2)) (d:=decide (0<YL x y z)) (λR h=>⟨_,rfl,_,rfl,h⟩) (λ_ R h=>⟨_,rfl,_,rfl,_,rfl,b1,b2,ma,x,y,z,rfl,X1,X2,XM,sx,sy,hz,_,_,rfl,rfl,_,rfl,h⟩) h)
    (λ_ R h=>zA9 (c:=decide (y.2<=z.2)&&decide (z.2<x.2)) (d:=decide (YL x y z<0)) (λR h=>⟨_,rfl,_,rfl,h⟩) (λ_ R h=>⟨_,rfl,_,rfl,_,rfl,b1,b2,ma,x,y,z,rfl,X1,X2,XM,sx,sy,hz,_,_,rfl,rfl,_,rfl,h⟩) h) (zp (λhb=>?_) λhb=>?_)
   .have hh:zFO z (x,y)=true:=hb;refine⟨_,rfl,_,rfl,some (.int (i:Int)),some (.ref b1),some (.ref b2),some (.bl (decide (x.2<=z.2)&&decide (z.2<y.2))),some (.bl (decide (y.2<=z.2)&&decide (z.2<x.2))),?_,rfl⟩;rw[yB e3,X9,Wr,List.filter_cons_of_pos hh,U4];show _=[_,_,some (V.bl (zFP (_+1))),_,_,_,_,_]
    rw[zLy];rfl
   .have hh:zFO z (x,y)=false:=hb;refine⟨some (.int (i:Int)),some (.ref b1),some (.ref b2),some (.bl (decide (x.2<=z.2)&&decide (z.2<y.2))),some (.bl (decide (y.2<=z.2)&&decide (z.2<x.2))),?_,rfl⟩;rw[yB e3,X9,List.filter_cons_of_neg (by rw[hh];decide),U4,VD];rfl
  .rintro σ H' ⟨v3,v4,v5,v6,v7,rfl,rfl⟩;rw[show (Yd ps).take ps.length=Yd ps from Ws (by rw[zFN];exact Wd _)];exact⟨_,rfl,k⟩
def zP9 (K:Qf):Sp:=λvs H Q _=>∃ (oa ma:Addr) (ls:List (List P2)) (z:P2) (i:Nat) (l:List P2),vs=[.ref oa,.ref ma]/\zDp K H oa ls/\XY K H ma z/\Sm 4294967296 z/\(∀ l∈ls,Sms l/\l.length<100000)/\ls[i]?=some l/\zIJ l z=true/\(∀ (j:Nat) (l:List P2),j<i->ls[j]?=some l->zIJ l z=false)/\Q (.int (i:Int)) H
theorem zKb:zO ["outlines","mark","number"] ["outlines","mark"] (zI zAx):=yG (by decide +kernel)
theorem zRD(D:zW K mg "outline_round" zAx ["outlines","mark"])(OI:Ok P w K mg base 2 "is_round" ["corners","mark"] (zNP K)):Ok P w K mg base 3 "outline_round" ["outlines","mark"] (zP9 K):=by
 refine D.ok zKb (λvs H Q E h=>?_) (λf cdv A outer s H vs Q E hr h=>?_)
 .obtain⟨oa,ma,ls,z,i,l,rfl,_⟩:=h;rfl
 .obtain⟨oa,ma,ls,z,i,l,rfl,⟨as,o1,o2,o3,o4⟩,XM,hz,hls,hil,hin,hno,k⟩:=h
  refine⟨_,zD (zb (i:=2) zKb.nd rfl (Or.inl rfl) zJ)
   (zD (zCC Wz (Zi (yT (zT OI hr (zA (zf za (pv 0) (pv 2) (λ_ _=>rfl)) (zA (pv 1) zC)))))
    (zE (zb (i:=2) zKb.nd rfl (Or.inl rfl) (zi yP (pv 2) zJ))))
   (zE (zS (pv 2)))),?_⟩
  refine⟨λm σ H'=>∃ j:Nat,j<=i/\m=i-j/\σ=[some (.ref oa),some (.ref ma),some (.int (j:Int))]/\H'=H,⟨i,0,WH _,rfl,rfl,rfl⟩,?_⟩;rintro m σ H' ⟨j,hj,rfl,rfl,rfl⟩
  have hjl:j<ls.length:=by
   have:=(yQ hil).1;omega
  have el:=yW hjl;have ea:=yW (l:=as) (i:=j) (by rw[o2];exact hjl);generalize as[j]'(by rw[o2];exact hjl)=a at ea;generalize ls[j]=lj at el;have hl:=hls lj (ZZ el);refine⟨_,rfl,_,rfl,oa,_,_,_,rfl,rfl,zM.of o1,y9 (j:=j) rfl (map_some ea),_,rfl,a,ma,lj,z,rfl,o4 j a lj ea el,XM,hl.1,hz,hl.2,_,rfl,zp (λhb=>?_) λhb=>?_⟩
  .rw[Wq] at hb
   have hji:j≠i:=λe=>by
    subst e;rw[hil] at el;cases el;rw[hin] at hb;cases hb
   refine⟨λσ' H''=>∃ m',m'<i-j/\∃ j:Nat,j<=i/\m'=i-j/\σ'=[some (.ref oa),some (.ref ma),some (.int (j:Int))]/\H''=H',λ_ _ h=>h,?_⟩;exact⟨_,rfl,_,_,rfl,rfl,i-(j+1),by omega,j+1,by omega,rfl,rfl,rfl⟩
  .rw[Wu] at hb
   have hji:j=i:=by
    apply Nat.le_antisymm hj;apply Ul;intro hlt;rw[hno j lj hlt el] at hb;cases hb
   subst hji;exact⟨_,rfl,k⟩
def frB (S:Gla.Plan)(z:Gla.Pt):Bool:=decide (0<z.x)&&(decide (z.x<S.w)&&(decide (0<z.y)&&decide (z.y<S.h)))
def zHR (K:Qf)(g:Gla.Plan->Gla.Pt->Bool):Sp:=λvs H Q _=>∃ (c ma:Addr) (S:Gla.Plan) (z:Gla.Pt),vs=[.ref c,.ref ma]/\Yn K H c (zg S)/\Yc S/\XY K H ma (zq z)/\Sm 4294967296 (zq z)/\Q (.bl (g S z)) H
theorem zF3:zO ["cartoon","mark","points","first","second"] ["cartoon","mark"] (zI zBH):=yG (by decide +kernel)
theorem zQA(D:zW K mg "is_on_a_line" zBH ["cartoon","mark"])(OO:Ok P w K mg base 2 "is_on" ["r","p","q"] (zMo K)):Ok P w K mg base 3 "is_on_a_line" ["cartoon","mark"] (zHR K Gla.onLines):=by
 refine D.ok zF3 (λvs H Q E h=>?_) (λf cdv A outer s H vs Q E hr h=>?_)
 .obtain⟨c,ma,S,z,rfl,_⟩:=h;rfl
 .obtain⟨c,ma,S,z,rfl,CA,B,XM,hz,k⟩:=h;obtain⟨Cc,dx,fs,pa,la,mma,h1,h2,h3,h4,h5,h6,h7,h8,h9,h10,h11,h12,hpts,⟨lvs,hl,el⟩,h15⟩:=id CA;obtain⟨pvs,hp1,hp2,hp3,rd⟩:=zBb.rd (S:=S) hpts
  refine⟨_,zD (zb (i:=2) zF3.nd rfl (Or.inl rfl) (zQ (pv 0) rfl))
   (zD (yI Wz rfl (ZF (zQ (pv 0) rfl)) (YG rfl (zw (zV (i:=3) zF3.nd rfl (Or.inl rfl)) (zw (zV (i:=4) zF3.nd rfl (Or.inl rfl)) Zl)))
    (zE (zm (yT (zT OO hr (zA (pv 1) (zA (zf za (pv 2) (pv 3) (λ_ _=>rfl)) (zA (zf za (pv 2) (pv 4) (λ_ _=>rfl)) zC))))) (zE (zS yk)) zZ)))
   (zE (zS yk))),?_⟩
  refine⟨_,rfl,c,Cc,dx,fs,_,rfl,h1,h2,h5,h10,?_⟩;refine⟨_,rfl,c,Cc,dx,fs,_,rfl,h1,h2,h6,h11,la,rfl,⟨_,zM.of hl⟩,Y5 (K:=K) (a:=la) (xs:=lvs) (λi σ H'=>∃ v3 v4:Option V,σ=[some (.ref c),some (.ref ma),some (.ref pa),v3,v4]/\H'=H/\(S.lines.take i).any (λl=>Gla.isOn (S.pt l.1) (S.pt l.2) z)=false) ⟨none,none,rfl,rfl,rfl⟩ (λi σ H' _ hh=>hh.elim λ_ hh=>hh.elim λ_ hh=>by rw[hh.2.1];exact zM.of hl) ?_ ?_⟩
  .rintro i y σ H' hi ⟨v3,v4,rfl,rfl,ha⟩;obtain⟨p,hip,r⟩:=el.get' hi;obtain⟨l,hil,rfl⟩:=yz (show (S.lines.map ZS)[i]?=some p from hip);have hlo:=B.ln l (ZZ hil);obtain⟨a,rfl,X⟩:=r;obtain⟨b1,e1,x1⟩:=rd l.1 (by omega);obtain⟨b2,e2,x2⟩:=rd l.2 hlo.2;refine⟨a,_,rfl,yH.of X,rfl,_,_,rfl,_,_,rfl,rfl,?_⟩;refine⟨_,rfl,_,rfl,_,rfl,pa,_,_,_,rfl,rfl,hp1,e1,_,rfl,_,rfl,pa,_,_,_,rfl,rfl,hp1,e2,ma,b1,b2,_,_,_,rfl,XM,x1,x2,hz,(B.smp (by omega:l.1<_)).mono (by decide),(B.smp hlo.2).mono (by decide),_,rfl,?_⟩;rw[zNO];refine zp (λhb=>?_) λhb=>?_
   .have e0:Gla.onLines S z=true:=by
     unfold Gla.onLines;have q:=zJT (f:=λ(l:Nat×Nat)=>Gla.isOn (S.pt l.1) (S.pt l.2) z) hil hb;exact q
    rw[e0] at k;exact k
   .exact⟨_,_,rfl,rfl,zIE ha hil hb⟩
  .rintro σ H' ⟨v3,v4,rfl,rfl,ha⟩;rw[el.1,show (zg S).lns.length=S.lines.length from zc ..,WY] at ha
   have e0:Gla.onLines S z=false:=by
    unfold Gla.onLines;exact ha
   rw[e0] at k;exact k
theorem zQB:zO ["cartoon","mark"] ["cartoon","mark"] (zI zAP):=yG (by decide +kernel)
theorem zQC(D:zW K mg "is_within_frame" zAP ["cartoon","mark"]):Ok P w K mg base 1 "is_within_frame" ["cartoon","mark"] (zHR K frB):=by
 refine D.ok zQB (λvs H Q E h=>?_) (λf cdv A outer s H vs Q E hr h=>?_)
 .obtain⟨c,ma,S,z,rfl,_⟩:=h;rfl
 .obtain⟨c,ma,S,z,rfl,CA,B,XM,hz,k⟩:=h;obtain⟨Cc,dx,fs,pa,la,mma,h1,h2,h3,h4,h5,h6,h7,h8,h9,h10,h11,h12,hpts,h14,h15⟩:=id CA;obtain⟨C0,d0,f0,m1,m2,m3,m4,m5,m6⟩:=id XM;refine⟨_,zE (zS (Yr (yO Zf zJ (zQ (pv 1) rfl) (zY _)) (Yr (yO Zf (zQ (pv 1) rfl) (zQ (pv 0) rfl) (zY _)) (Yr (yO Zf zJ (zQ (pv 1) rfl) (zY _)) (Yq (yO Zf (zQ (pv 1) rfl) (zQ (pv 0) rfl) (zY _))))))),?_⟩;have e1:decide ((0:Int)<((z.x:Nat):Int))=decide (0<z.x):=by rw[Wk];omega
  have e2:decide (((z.x:Nat):Int)<((S.w:Nat):Int))=decide (z.x<S.w):=by rw[Wk];omega
  have e3:decide ((0:Int)<((z.y:Nat):Int))=decide (0<z.y):=by rw[Wk];omega
  have e4:decide (((z.y:Nat):Int)<((S.h:Nat):Int))=decide (z.y<S.h):=by rw[Wk];omega
  refine Z2 (c:=decide (0<z.x)) (d:=decide (z.x<S.w)&&(decide (0<z.y)&&decide (z.y<S.h))) (λR h=>⟨_,rfl,ma,C0,d0,_,_,rfl,m1,m2,m3,m5,_,_,rfl,rfl,by rw[<-e1] at h;exact h⟩) (λ_ R h=>?_) k;refine Z2 (c:=decide (z.x<S.w)) (d:=decide (0<z.y)&&decide (z.y<S.h)) (λR h=>⟨_,rfl,ma,C0,d0,_,_,rfl,m1,m2,m3,m5,_,rfl,c,Cc,dx,fs,_,rfl,h1,h2,h3,h8,_,_,rfl,rfl,by rw[<-e2] at h;exact h⟩) (λ_ R h=>?_) h;exact Z2 (c:=decide (0<z.y)) (d:=decide (z.y<S.h)) (λR h=>⟨_,rfl,ma,C0,d0,_,_,rfl,m1,m2,m4,m6,_,_,rfl,rfl,by rw[<-e3] at h;exact h⟩) (λ_ R h=>⟨_,rfl,ma,C0,d0,_,_,rfl,m1,m2,m4,m6,_,rfl,c,Cc,dx,fs,_,rfl,h1,h2,h4,h9,_,_,rfl,rfl,by rw[<-e4] at h;exact h⟩) h
def zDs (S:Gla.Plan)(i:Nat)(m:Gla.Mark):Bool:=(!frB S m.at_||Gla.onLines S m.at_)||(decide (0<i) && !(match S.marks[i-1]? with |some q=>Yw (zq m.at_) (zq q.at_)|none=>true))
def r11 (S:Gla.Plan):Option (Int×Int):=yY (zDs S) (λi=>(11,zBy (zg S) (i:Int))) 0 S.marks
def MkB (S:Gla.Plan):Prop:=∀ m∈S.marks,m.at_.x<=4294967296/\m.at_.y<=4294967296
theorem MkB.sm{S:Gla.Plan}(h:MkB S){m:Gla.Mark}(hm:m∈S.marks):Sm 4294967296 (zq m.at_):=by
 have:=h m hm;unfold Sm zq;simp only;omega
def zQD (K:Qf)(C:Addr)(g:Gla.Plan->Option (Int×Int)):Sp:=λvs H Q E=>∃ (c:Addr) (S:Gla.Plan),vs=[.ref c]/\Yn K H c (zg S)/\Yc S/\MkB S/\Res C E H Q (g S)
theorem zEp:zO ["cartoon","marks","number","mark"] ["cartoon"] (zI zBw):=yG (by decide +kernel)
theorem zOw(D:zW K mg "judge_marks" zBw ["cartoon"])(R:XR P w K mg base C)(OF:Ok P w K mg base 1 "is_within_frame" ["cartoon","mark"] (zHR K frB))(OO:Ok P w K mg base 3 "is_on_a_line" ["cartoon","mark"] (zHR K Gla.onLines))(OB:Ok P w K mg base 1 "is_behind" ["point","other"] (zEM K))
  (OM:Ok P w K mg base 3 "mark_place" ["cartoon","number"] (zBO K zBy))(me:mg "enumerate" = none):Yf P w K mg base 4 "judge_marks" ["cartoon"] (zQD K C r11):=by
 refine D.okN zEp (λvs H Q E h=>?_) (λf cdv A outer s H vs Q E hr h=>?_)
 .obtain⟨c,S,rfl,_⟩:=h;rfl
 .obtain⟨c,S,rfl,CA,B,MB,k⟩:=h;have hr1:zt 1 _:=hr.mono (by decide);have hr2:zt 2 _:=hr.mono (by decide);obtain⟨Cc,dx,fs,pa,la,ma,h1,h2,h3,h4,h5,h6,h7,h8,h9,h10,h11,h12,h13,h14,⟨mvs,hm,em⟩⟩:=id CA
  refine⟨_,zD (zb (i:=1) zEp.nd rfl (Or.inl rfl) (zQ (pv 0) rfl))
   (zE (yI Vi rfl (YW rfl me (zA (pv 1) zC)) (YG rfl (zw (zV (i:=2) zEp.nd rfl (Or.inl rfl)) (zw (zV (i:=3) zEp.nd rfl (Or.inl rfl)) Zl)))
    (zD (zm (PW.pt (zB0 (Zi (yT (zT OF hr1 (zA (pv 0) (zA (pv 3) zC))))) (zAo (yT (zT OO hr (zA (pv 0) (zA (pv 3) zC))))))) (zE (YA R hr2 (zA zJ (zA (zT OM hr (zA (pv 0) (zA (pv 2) zC))) zC)))) zZ)
    (zE (zm (PW.pt (zCB (zj Zx (pv 2) zJ (zY _)) (zA6 (Zi (yT (zT OB hr1 (zA (pv 3) (zA (zf za (pv 1) (zi ZL (pv 2) zJ) (λ_ _=>rfl)) zC)))))))) (zE (YA R hr2 (zA zJ (zA (zT OM hr (zA (pv 0) (zA (pv 2) zC))) zC)))) zZ))))),?_⟩
  refine⟨_,rfl,c,Cc,dx,fs,_,rfl,h1,h2,h7,h12,?_⟩
  refine⟨_,rfl,ma,mvs,rfl,zM.of hm,Z3 (K:=K) (a:=ma) (xs:=mvs) (λi σ H'=>∃ v2 v3:Option V,σ=[some (.ref c),some (.ref ma),v2,v3]/\zH H H'/\∀ (j:Nat) (m:Gla.Mark),j<i->S.marks[j]?=some m->zDs S (0+j) m=false)
   ⟨none,none,rfl,zH.refl H,λj z hj=>absurd hj (W9 _)⟩ (λi σ H' _ hh=>hh.elim λ_ hh=>hh.elim λ_ hh=>zM.of (hh.2.1 _ _ hm)) ?_ ?_⟩
  .rintro i y σ H' T hi ⟨v2,v3,rfl,s1,hno⟩ hT;have s2:zH H (upd H' T (.tup [.int (i:Nat),y])):=zR s1 hT;obtain⟨pm,hip,r⟩:=em.get' hi;obtain⟨m,him,rfl⟩:=yz (show (S.marks.map cmk)[i]?=some pm from hip);have hmm:=ZZ him;obtain⟨a,rfl,X⟩:=RMk.xy (zEk _ _ _ _ (yg.of s2) r);have X':XY K (upd H' T (.tup [.int (i:Nat),.ref a])) a (zq m.at_):=X
   have hit:zDs S (0+i) m=true->Rz C E H 11 (zBy (zg S) (i:Int)):=λhb=>by
    have e:=Zg (f:=λi=>((11:Int),zBy (zg S) (i:Int))) hno him hb;rw[WC] at e;exact k.rz e
   refine⟨T,_,rfl,yH.of zF,rfl,_,_,rfl,_,_,rfl,rfl,?_⟩
   try dsimp only[ZQ,Yh,Ze,YV,YO,YQ]
   show tOr _ _ _ _ _;refine zD5 (c:=!frB S m.at_) (d:=Gla.onLines S m.at_) (λR h=>⟨_,rfl,_,rfl,c,a,S,m.at_,rfl,CA.same s2,B,X',MB.sm hmm,_,rfl,h⟩) (λ_ R h=>⟨_,rfl,_,rfl,c,a,S,m.at_,rfl,CA.same s2,B,X',MB.sm hmm,_,rfl,h⟩) (zp (λhb=>?_) λhb=>?_)
   .refine⟨_,rfl,_,rfl,c,zg S,_,rfl,CA.same s2,_,_,rfl,Ya (hit ?_) s2⟩;unfold zDs;rw[hb];rfl
   .try dsimp only[ZQ,Yh,Ze,YV,YO,YQ]
    show zE5 _ _ _ _ _;refine zA9 (c:=decide (0<i)) (d:=!(match S.marks[i-1]? with |some q=>Yw (zq m.at_) (zq q.at_)|none=>true)) (λR h=>⟨_,rfl,_,_,rfl,rfl,_,rfl,?_⟩) (λhc R h=>?_) (zp (λhb2=>?_) λhb2=>?_)
    .rw[show decide ((i:Int)>0)=decide (0<i) by rw[Wk];omega];exact h
    .have hc':=Wm hc
     have hlt:i-1<S.marks.length:=by
      have:=(yQ him).1;omega
     have hq:S.marks[i-1]?=some S.marks[i-1]:=yW hlt;generalize S.marks[i-1]=q at hq;obtain⟨v,hv,r2⟩:=em.get (show (S.marks.map cmk)[i-1]?=some (cmk q) from map_some hq);obtain⟨b,rfl,Y⟩:=RMk.xy (zEk _ _ _ _ (yg.of s2) r2);rw[hq] at h;exact⟨_,rfl,_,rfl,_,rfl,_,_,rfl,rfl,ma,mvs,_,_,rfl,rfl,zM.of (s2 _ _ hm),y9 (j:=i-1) (by omega) hv,a,b,_,_,rfl,X',Y,_,rfl,h⟩
    .refine⟨_,rfl,_,rfl,c,zg S,_,rfl,CA.same s2,_,_,rfl,Ya (hit ?_) s2⟩;unfold zDs;rw[WC,hb2,UW]
    .refine⟨some (.int (i:Nat)),some (.ref a),rfl,s2,λj q hj hq=>?_⟩;by_cases e:j=i
     .subst e;rw[him] at hq;cases hq;unfold zDs;rw[WC,hb2,hb];rfl
     .exact hno j q (by omega) hq
  .rintro σ H' ⟨v2,v3,rfl,s1,hno⟩;refine k.go (Zh λj y hy=>hno j y ?_ hy) s1;rw[em.1,show (zg S).mks.length=S.marks.length from zc ..];exact (yQ hy).1
end
structure zKc(K:Qf)(mg:Qm)(C:Addr):Prop where
 cl:Y8 K C
 n0:zl K C "corners"
 n1:zl K C "painting"
 mgC:mg "Pane" = some (.ref C)
theorem zOx{K:Qf}{h:Heap}{mg:Qm}{C:Addr}(X:K.In h)(G:h.Ns mainGlobals mg)(aC:PySem.W.nsIn K mainGlobals "Pane" = some (some (.ref C)))
  (pg:PySem.W.plainGet K C Str.empty=true)(hd:PySem.W.hasDictIn K C=true)(po:PySem.W.plainOver K C=true)(sa:PySem.W.findIn K (.ref C) "__setattr__" = some (some (.builtin "object.__setattr__")))
  (n0:PySem.W.findIn K (.ref C) "corners" = some none)(n1:PySem.W.findIn K (.ref C) "painting" = some none):zKc K mg C:=⟨⟨pg,hd,po,sa⟩,n0,n1,Vb X G aC⟩
def RPn (K:Qf)(S:Gla.Plan)(H1:Hp):Hp->V->List Nat×Int->Prop:=λH v x=>∃ a C dx fs ca,v=.ref a/\H a=some (.ins C dx fs)/\Y8 K C/\zl K C "corners"/\zl K C "painting"/\fs.lookup ("corners" : Str)=some (.ref ca)/\fs.lookup ("painting" : Str)=some (.int x.2)/\zo (Z6 K) H1 ca (ZR S x.1)
theorem zKd{K:Qf}{S:Gla.Plan}{H1:Hp}:Nm (RPn K S H1):=λ_ _ _ _ s r=>let ⟨a,C,dx,fs,ca,e1,e2,z⟩:=r;⟨a,C,dx,fs,ca,e1,s a _ e2 (λxs z=>by cases z),z⟩
def zAW (S:Gla.Plan):List (List Nat×Int):=S.marks.map λm=>((S.among S.outlines m.at_).getD [],(m.painting:Int))
def rMk (S:Gla.Plan):Option (Int×Int):=match Gla.twice S S.outlines 0 [] S.marks with
|some i=>some (12,zBy (zg S) (i:Int))
|none=>if S.marks.length<S.outlines.length then some (13,zBy (zg S) (S.marks.length:Int)) else none
def zA2 (C:Addr)(E:XK)(H:Hp)(Qp:Addr->Hp->Prop)(T:Hp->Addr->Prop):Option (Int×Int)->Prop
|some z=>Rz C E H z.1 z.2
|none=>∀ (H':Hp) (q:Addr),zH H H'->T H' q->Qp q H'
theorem zNQ{S:Gla.Plan}(O:Kt.yD S){l:List Nat}(h:l∈(Kt.YJ S).2):(∀ x∈l,x<S.pts.length)/\l.length<=2*S.lines.length/\0<l.length:=by
 obtain⟨k,e,F,rfl,_⟩:=(Kt.zDb O l).mp ((Kt.zBm O l).mp h);refine⟨λx hx=>?_,?_,?_⟩
 .obtain⟨z,hz,rfl⟩:=Wg.mp hx;obtain⟨i,_,rfl⟩:=Kt.zn.mp hz;exact (O.jlt (Kt.Zy O.dr.hnx i F.j)).1
 .rw[zc,ZW];exact zIG O F.j F.P
 .rw[zc,ZW];exact F.P.pos
theorem zOy{S:Gla.Plan}(B:Yc S)(O:Kt.yD S):∀ l∈(Kt.YJ S).2.map (ZR S),Sms l/\l.length<100000:=by
 intro l hl;obtain⟨m,hm,rfl⟩:=Wg.mp hl;obtain⟨h1,h2,_⟩:=zNQ O hm;refine⟨λp hp=>?_,?_⟩
 .obtain⟨p',hp',rfl⟩:=Wg.mp hp;obtain⟨z,hz,rfl⟩:=Wg.mp hp';exact B.smp (h1 z hz)
 .unfold ZR;rw[zc,zc];have:=B.m;omega
def Y0 (M:List Nat):List (yF×V):=M.map λ(i:Nat)=>((.inl (i:Int):yF),V.bl true)
theorem zIK{M:List Nat}{i:Nat}:(y8 (Y0 M) (.inl (i:Int):yF)).isSome=decide (i∈M):=by
 rw[<-zAe];unfold Y0;rw[UT,Wx];simp only[W4,Function.comp,ym];constructor
 .rintro⟨q,hq,e⟩;injection e with e
  have:q=i:=by omega
  rw[<-this];exact hq
 .exact λh=>⟨i,h,rfl⟩
theorem zM1{M:List Nat}{i:Nat}(h:i∉M):YE (Y0 M) (.inl (i:Int):yF) (.bl true)=Y0 (M++[i]):=by
 have hn:y8 (Y0 M) (.inl (i:Int):yF)=none:=by
  have:=zIK (M:=M) (i:=i);rw[WB h] at this;cases e:y8 (Y0 M) (.inl (i:Int):yF) with
 |none=>rfl
 |some v=>rw[e] at this;cases this
 rw[zMR _ hn];unfold Y0;rw[Ww];rfl
structure zGa(S:Gla.Plan)(i:Nat)(M:List Nat):Prop where
 len:M.length=i
 at_:∀ (j:Nat) (m:Gla.Mark),j<i->S.marks[j]?=some m->∃ ix l,M[j]?=some ix/\(Kt.YJ S).2[ix]?=some l/\S.among S.outlines m.at_=some l
 tw:Gla.twice S S.outlines 0 [] S.marks=Gla.twice S S.outlines i (((S.marks.take i).map λm=>S.among S.outlines m.at_).reverse) (S.marks.drop i)
theorem zGa.has{S:Gla.Plan}{i:Nat}{M:List Nat}(I:zGa S i M){ix:Nat}{l:List Nat}(h1:(Kt.YJ S).2[ix]?=some l)(hu:∀ j:Nat,(Kt.YJ S).2[j]?=some l->j=ix)(hi:i<=S.marks.length) :
  (((S.marks.take i).map λm=>S.among S.outlines m.at_).reverse).contains (some l)=decide (ix∈M):=by
 rw[Wx,ym,WU,List.mem_reverse,Wg];constructor
 .rintro⟨m,hm,e⟩;obtain⟨j,hj⟩:=Vv hm
  have hji:j<i:=by
   have:=(yQ hj).1;rw[Wy] at this;omega
  rw[Uk hji] at hj;obtain⟨ix',l',q1,q2,q3⟩:=I.at_ j m hji hj;rw[e] at q3;cases q3;rw[<-hu ix' q2];exact ZZ q1
 .intro h;obtain⟨j,hj⟩:=Vv h;have hji:j<i:=by rw[<-I.len];exact (yQ hj).1
  have hm:S.marks[j]?=some (S.marks[j]'(by omega)):=yW (by omega);obtain⟨ix',l',q1,q2,q3⟩:=I.at_ j _ hji hm;rw[hj] at q1;cases q1;rw[h1] at q2;cases q2;exact⟨_,ZZ (i:=j) (by rw[Uk hji];exact hm),q3⟩
theorem zGa.hit{S:Gla.Plan}{i:Nat}{M:List Nat}(I:zGa S i M){m:Gla.Mark}(hm:S.marks[i]?=some m){ix:Nat}{l:List Nat}(h1:(Kt.YJ S).2[ix]?=some l)(hu:∀ j:Nat,(Kt.YJ S).2[j]?=some l->j=ix)(ha:S.among S.outlines m.at_=some l) :
  (ix∈M->Gla.twice S S.outlines 0 [] S.marks=some i)/\(ix∉M->zGa S (i+1) (M++[ix])):=by
 have hil:=(yQ hm).1
 have hd:S.marks.drop i=m::S.marks.drop (i+1):=by
  rw[Ud hil,(yQ hm).2]
 have hc:=I.has h1 hu (Vz hil);have tw:=I.tw;rw[hd] at tw;have ht:Gla.twice S S.outlines i (((S.marks.take i).map λm=>S.among S.outlines m.at_).reverse) (m::S.marks.drop (i+1))=if (((S.marks.take i).map λm=>S.among S.outlines m.at_).reverse).contains (S.among S.outlines m.at_)=true then some i else Gla.twice S S.outlines (i+1) (S.among S.outlines m.at_::((S.marks.take i).map λm=>S.among S.outlines m.at_).reverse) (S.marks.drop (i+1)):=rfl
 rw[ht,ha,hc] at tw;refine⟨λh=>?_,λh=>⟨?_,λj m' hj hm'=>?_,?_⟩⟩
 .rw[tw,Wb (WJ h)]
 .rw[Wr,I.len];rfl
 .by_cases e:j=i
  .subst e;rw[hm] at hm';cases hm';exact⟨ix,l,by rw[<-I.len];simp,h1,ha⟩
  .obtain⟨ix',l',q1,q2,q3⟩:=I.at_ j m' (by omega) hm';exact⟨ix',l',by rw[W7 (by rw[I.len];omega)];exact q1,q2,q3⟩
 .rw[tw,Wa (by rw[WB h];decide),yB hm,Ww,List.reverse_append];show _=Gla.twice S S.outlines (i+1) (S.among S.outlines m.at_::_) _;rw[ha];rfl
section
variable {P:Program}{w:World}{K:Qf}{mg:Qm}{base:Heap}{C:Addr}
theorem zKe:zO ["self","corners","painting"] ["self","corners","painting"] (zI zC3):=yG (by decide +kernel)
theorem zKf{C:Addr}(D:ZC K C "Pane.__init__" zC3 ["self","corners","painting"])(T:zKc K mg C):zAD P w K mg base 1 C ["self","corners","painting"] (zAU C "corners" "painting"):=by
 refine D.ok zKe (λvs H Q E h=>?_) (λf cdv A outer s H vs Q E hr h=>?_)
 .obtain⟨p,dx,v1,v2,rfl,_⟩:=h;rfl
 .obtain⟨p,dx,v1,v2,rfl,hp,k⟩:=h;refine⟨_,zD (ZG (pv 0) (pv 1) rfl) (zE (ZG (pv 0) (pv 2) rfl)),?_⟩;refine⟨_,rfl,_,rfl,p,C,dx,_,rfl,hp,T.cl,T.n0,(by show 0<1000;decide),?_⟩;refine⟨_,rfl,_,rfl,p,C,dx,_,rfl,zF,T.cl,T.n1,yU (yS (n:=1) (by show 0<1;decide)) (by decide),?_⟩;exact k _ zF λb o e hb=>by rw[zG hb,zG hb];exact e
def zKg (K:Qf)(S:Gla.Plan)(H:Hp)(q:Addr):Prop:=zo (RPn K S H) H q (zAW S)
def zNR (K:Qf)(C:Addr):Sp:=λvs H Q E=>∃ (c:Addr) (S:Gla.Plan),vs=[.ref c]/\Yn K H c (zg S)/\Yc S/\MkB S/\Kt.yD S/\(∀ m∈S.marks,Gla.clear S m.at_=true)/\zA2 C E H (λq H'=>Q (.ref q) H') (λH' q=>zKg K S H' q) (rMk S)
theorem zCZ:zO ["cartoon","outlines","marked","panes","number","mark","outline"] ["cartoon"] (zI zBI):=yG (by decide +kernel)
theorem zQE{CP:Addr}(D:zW K mg "marked_panes" zBI ["cartoon"])(R:XR P w K mg base C)(OO:Ok P w K mg base 5 "outlines_of" ["cartoon"] (zLx K))(OR:Ok P w K mg base 3 "outline_round" ["outlines","mark"] (zP9 K))(OM:Ok P w K mg base 3 "mark_place" ["cartoon","number"] (zBO K zBy))
  (MP:zAD P w K mg base 1 CP ["self","corners","painting"] (zAU CP "corners" "painting"))(T:zKc K mg CP)(me:mg "enumerate" = none)(ml:mg "len" = none):Yf P w K mg base 6 "marked_panes" ["cartoon"] (zNR K C):=by
 refine D.okN zCZ (λvs H Q E h=>?_) (λf cdv A outer s H vs Q E hr h=>?_)
 .obtain⟨c,S,rfl,_⟩:=h;rfl
 .obtain⟨c,S,rfl,CA,B,MB,O,hcl,k⟩:=h;have hr2:zt 2 _:=hr.mono (by decide);have hr3:zt 3 _:=hr.mono (by decide);have hu:=zHM hr;obtain⟨Cc,dx,fs,pa,la,ma,h1,h2,h3,h4,h5,h6,h7,h8,h9,h10,h11,h12,h13,h14,⟨mvs,hm,em⟩⟩:=id CA;have hml:mvs.length=S.marks.length:=by rw[em.1];exact zc ..
  refine⟨_,zD (zb (i:=1) zCZ.nd rfl (Or.inl rfl) (zT OO hr (zA (pv 0) zC))) (zD (zb (i:=2) zCZ.nd rfl (Or.inl rfl) zMU) (zD (zb (i:=3) zCZ.nd rfl (Or.inl rfl) (yd zC))
   (zD (yI Vi rfl (YW rfl me (zA (zQ (pv 0) rfl) zC)) (YG rfl (zw (zV (i:=4) zCZ.nd rfl (Or.inl rfl)) (zw (zV (i:=5) zCZ.nd rfl (Or.inl rfl)) Zl)))
    (zD (zb (i:=6) zCZ.nd rfl (Or.inl rfl) (zT OR hr3 (zA (pv 1) (zA (pv 5) zC))))
    (zD (zm (zFS (zHe hu (pv 6) (pv 2)) rfl) (zE (YA R hr2 (zA zJ (zA (zT OM hr3 (zA (pv 0) (zA (pv 4) zC))) zC)))) zZ)
    (zD (zGC hu (pv 2) (pv 6) yk rfl)
    (zE (yf (zAG WF WP WO ZO (pv 3) (zA (zBn MP hr2 T.mgC (zA (zf za (pv 1) (pv 6) (λ_ _=>rfl)) (zA (zQ (pv 5) rfl) zC))) zC))))))))
   (zD (zm (zj Zf (yE ml (zA (pv 3) zC)) (yE ml (zA (pv 1) zC)) (zY _)) (zE (YA R hr2 (zA zJ (zA (zT OM hr3 (zA (pv 0) (zA (yE ml (zA (zQ (pv 0) rfl) zC)) zC))) zC)))) zZ)
   (zE (zS (pv 3))))))),?_⟩
  refine⟨_,rfl,c,S,rfl,CA,B,O,λH1 oa s1 LO _=>?_⟩;intro da nda;refine⟨WH _,λna nna=>?_⟩;have ne:na≠da:=λe=>by rw[e,zF] at nna;cases nna
  have nna1:H1 na=none:=by rw[zG ne] at nna;exact nna
  obtain⟨as,o1,o2,o3,o4⟩:=id LO;rw[zc] at o2;have S2:zH H1 (upd (upd H1 da (.dK [])) na (.lst [])):=zR (zR (zH.refl H1) nda) nna;have d2:upd (upd H1 da (.dK [])) na (.lst []) da=some (.dK (Y0 [])):=by rw[zG (Ne.symm ne),zF];rfl
  have n2:upd (upd H1 da (.dK [])) na (.lst []) na=some (.lst []):=zF;generalize upd (upd H1 da (.dK [])) na (.lst [])=H2 at S2 d2 n2
  have keep:∀ {Hx:Hp}(o:HO),zH H1 Hx->zH H1 (upd Hx da o):=λo sx b x eb=>by
   rw[zG (zN eb nda)];exact sx _ _ eb
  have keep2:∀ {Hx:Hp}(o:HO),zH H1 Hx->zH H1 (upd Hx na o):=λo sx b x eb=>by
   rw[zG (zN eb nna1)];exact sx _ _ eb
  refine⟨_,rfl,c,Cc,dx,fs,_,rfl,S2 _ _ (s1 _ _ h1),h2,h7,h12,ma,mvs,rfl,zM.of (S2 _ _ (s1 _ _ hm)),?_⟩
  refine Z3 (K:=K) (a:=ma) (xs:=mvs) (λi σ H'=>∃ (M:List Nat) (v4 v5 v6:Option V),σ=[some (.ref c),some (.ref oa),some (.ref da),some (.ref na),v4,v5,v6]/\zH H1 H'/\H' da=some (.dK (Y0 M))/\(∃ vs,H' na=some (.lst vs)/\Zc (RPn K S H1) H' vs ((zAW S).take i))/\zGa S i M)
   ⟨[],none,none,none,rfl,S2,d2,⟨[],n2,Zc.nil⟩,rfl,λj m hj=>absurd hj (W9 _),rfl⟩ (λi σ H' _ hh=>hh.elim λ_ hh=>hh.elim λ_ hh=>hh.elim λ_ hh=>hh.elim λ_ hh=>zM.of (hh.2.1 _ _ (s1 _ _ hm))) ?_ ?_
  .rintro i y σ H' U hi ⟨M,v4,v5,v6,rfl,s3,hda,⟨vs,ev,qv⟩,MI⟩ hU;have sU:zH H' (upd H' U (.tup [.int (i:Nat),y])):=zR (zH.refl H') hU;have s4:zH H1 (upd H' U (.tup [.int (i:Nat),y])):=s3.trans sU;have s04:=s1.trans s4;obtain⟨pm,hip,r⟩:=em.get' hi;obtain⟨m,him,rfl⟩:=yz (show (S.marks.map cmk)[i]?=some pm from hip);have hmm:=ZZ him;have rm:=zEk _ _ _ _ (yg.of s04) r;obtain⟨a,rfl,X⟩:=RMk.xy rm;obtain⟨a',C1,d1,f1,ea,a1,a2,a3,a4,a5,a6,a7,a8⟩:=id rm;cases ea;have X':XY K (upd H' U (.tup [.int (i:Nat),.ref a])) a (zq m.at_):=X;obtain⟨ix,l,w1,w2,w3,w4,w5⟩:=Kt.zJH O (hcl m hmm);refine⟨U,_,rfl,yH.of zF,rfl,_,_,rfl,_,_,rfl,rfl,?_⟩;have hda4:=sU _ _ hda;have ev4:=sU _ _ ev;have qv4:=qv.mono λv x r=>zKd _ _ v x (yg.of sU) r
   generalize hG:upd H' U (.tup [.int (i:Nat),.ref a])=H4 at s4 s04 X' hda4 ev4 qv4 a1;refine⟨_,rfl,_,rfl,oa,a,_,_,ix,ZR S l,rfl,LO.sameD (Zz.of s4),X',MB.sm hmm,zOy B O,map_some w1,by rw[zLz];exact w2,λj lj hj hlj=>?_,?_⟩
   .obtain⟨lj',h',rfl⟩:=yz hlj;rw[zLz];exact w3 j lj' hj h'
   obtain⟨hitY,hitN⟩:=MI.hit him w1 w5 w4;refine⟨_,rfl,_,rfl,da,_,rfl,zBq.k (k:=(.inl (ix:Int):yF)) hda4,_,rfl,?_⟩;rw[zIK];refine zp (λhb=>?_) λhb=>?_
   .have e12:rMk S=some (12,zBy (zg S) (i:Int)):=by unfold rMk;rw[hitY (Wm hb)]
    rw[e12] at k;exact⟨_,rfl,_,rfl,c,zg S,_,rfl,CA.same s04,_,_,rfl,Ya k s04⟩
   .have hnin:=Wo hb;have MI':=hitN hnin
    have hMl:(Y0 M).length<sizeLine:=by
     unfold Y0;rw[zc,MI.len];exact yU (Vy (yQ him).1 B.k) (by decide)
    refine⟨_,rfl,_,rfl,da,_,rfl,zDV.k (k:=(.inl (ix:Int):yF)) hda4 hMl,?_⟩;rw[zM1 hnin];have s5:zH H1 (upd H4 da (.dK (Y0 (M++[ix])))):=keep _ s4;have ev5:upd H4 da (.dK (Y0 (M++[ix]))) na=some (.lst vs):=by rw[zG ne];exact ev4
    have qv5:Zc (RPn K S H1) (upd H4 da (.dK (Y0 (M++[ix])))) vs ((zAW S).take i):=by
     refine qv4.mono λv x r=>?_
     obtain⟨b,Cb,db,fb,cb,g1,g2,g3⟩:=r;exact⟨b,Cb,db,fb,cb,g1,by rw[zG (λz=>by rw[z,hda4] at g2;cases g2)];exact g2,g3⟩
    have a15:upd H4 da (.dK (Y0 (M++[ix]))) a=some (.ins C1 d1 f1):=by rw[zG (λz=>by rw[z,hda4] at a1;cases a1)];exact a1
    have da5:upd H4 da (.dK (Y0 (M++[ix]))) da=some (.dK (Y0 (M++[ix]))):=zF;generalize upd H4 da (.dK (Y0 (M++[ix])))=H5 at s5 ev5 qv5 a15 da5;have hixl:ix<as.length:=by rw[o2];exact (yQ w1).1
    have hix:=yW hixl;generalize as[ix]=ca at hix;have hca:=o4 ix ca (ZR S l) hix (map_some w1);refine⟨_,rfl,.inl ⟨rfl,_,zM.of ev5⟩,_,rfl,_,rfl,oa,_,_,_,rfl,rfl,zM.of (s5 _ _ o1),y9 (j:=ix) rfl (map_some hix),_,rfl,a,C1,d1,f1,_,rfl,a15,a2,a5,a8,?_⟩;intro x dx' nx ndx nex;refine⟨x,dx',_,_,rfl,zF,λH6 hx k1=>⟨rfl,na,vs,_,rfl,rfl,?_,?_,?_⟩⟩
    .exact (zH.made nx ndx k1) _ _ ev5
    .rw[qv5.1,Wy];exact Yp (VN _ _) (yU (Vy (yQ him).1 B.k) (by decide))
    .have s56:zH H5 H6:=zH.made nx ndx k1;refine⟨M++[ix],_,_,_,rfl,keep2 _ (s5.trans s56),by rw[zG (Ne.symm ne)];exact s56 _ _ da5,?_,MI'⟩
     have hpl:(zAW S)[i]?=some (l,(m.painting:Int)):=by
      unfold zAW;rw[WQ,him,VW,w4];rfl
     rw[yB hpl];exact zo.snoc zKd (s56 _ _ ev5) (qv5.mono λv x r=>zKd _ _ v x (yg.of s56) r) ⟨x,CP,dx',_,ca,rfl,hx,T.cl,T.n0,T.n1,zEK (by decide),zFw,hca⟩
  .rintro σ H' ⟨M,v4,v5,v6,rfl,s3,hda,⟨vs,ev,qv⟩,MI⟩;rw[hml] at MI qv;have hpl:(zAW S).length=S.marks.length:=zc ..;rw[<-hpl,WY] at qv;have tw:Gla.twice S S.outlines 0 [] S.marks=none:=by rw[MI.tw,List.drop_length];rfl
   refine⟨_,rfl,na,_,rfl,.inl (zM.of ev),_,rfl,oa,_,rfl,.inl (zM.of (s3 _ _ o1)),_,_,rfl,rfl,_,rfl,?_⟩
   have e:decide (((vs.length:Nat):Int)<(((as.map V.ref).length:Nat):Int))=decide (S.marks.length<S.outlines.length):=by
    rw[qv.1,hpl,zc,o2,Kt.zLU O,Wk];omega
   rw[e];refine zp (λhb=>?_) λhb=>?_
   .have e13:rMk S=some (13,zBy (zg S) (S.marks.length:Int)):=by unfold rMk;rw[tw];exact Wb (Wm hb)
    rw[e13] at k;have s03:=s1.trans s3;refine⟨_,rfl,_,rfl,c,Cc,dx,fs,_,rfl,s03 _ _ h1,h2,h7,h12,ma,mvs,rfl,.inl (zM.of (s03 _ _ hm)),c,zg S,_,rfl,CA.same s03,_,_,rfl,?_⟩;rw[hml];exact Ya k s03
   .have e0:rMk S=none:=by unfold rMk;rw[tw];exact Wa (Wo hb)
    rw[e0] at k;refine⟨_,rfl,k _ _ (s1.trans s3) ⟨vs,ev,qv.1,λj v x e1 e2=>?_⟩⟩;obtain⟨b,Cb,db,fb,cb,g1,g2,g3,g4,g5,g6,g7,g8⟩:=qv.2 j v x e1 e2;exact⟨b,Cb,db,fb,cb,g1,g2,g3,g4,g5,g6,g7,g8.same zB4 s3⟩
end
theorem zE3{α:Type}{g:Nat->α->Bool}{f:Nat->Int×Int}:∀ (l:List α) (k:Nat),yY g f k l=((l.zipIdx k).find? λx=>g x.2 x.1).map λx=>f x.2
|[],_=>rfl
|x::xs,k=>by
  rw[List.zipIdx_cons,VP];unfold yY;by_cases h:g k x=true
  .rw[Wb h];simp[h]
  .rw[Wa h,zE3 xs (k+1)];simp[h]
theorem zAn{α:Type}{g:Nat->α->Bool}{f:Nat->Int×Int}{l:List α}:yY g f 0 l=(Gla.firstAt g l).map f:=by
 rw[zE3];unfold Gla.firstAt;rw[Option.map_map];rfl
theorem zB5{α β:Type}{h:β->α}{g:Nat->α->Bool}{f:Nat->Int×Int}:∀ (l:List β) (k:Nat),yY g f k (l.map h)=yY (λi x=>g i (h x)) f k l
|[],_=>rfl
|x::xs,k=>by
  show (if g k (h x)=true then _ else _)=(if g k (h x)=true then _ else _)
  rw[zB5 xs (k+1)]
theorem Zj{α:Type}{g g':Nat->α->Bool}{f f':Nat->Int×Int}(hf:∀ i,f i=f' i):∀ (l:List α) (k:Nat),(∀ i x,l[i]?=some x->g (k+i) x=g' (k+i) x)->yY g f k l=yY g' f' k l
|[],_,_=>rfl
|x::xs,k,h=>by
  have h0:=h 0 x rfl;rw[XV] at h0;show (if g k x=true then _ else _)=(if g' k x=true then _ else _)
  have e:yY g f (k+1) xs=yY g' f' (k+1) xs:=Zj hf xs (k+1) λi y hy=>by
   have:=h (i+1) y (by simpa using hy);rw[show k+1+i=k+(i+1) by omega];exact this
  rw[h0,hf k,e]
theorem zDv{α:Type}{p:Nat->Bool}{f:Nat->Int×Int}:∀ (l:List α) (k:Nat),yY (λi _=>p i) f k l=((List.range' k l.length).find? p).map f
|[],_=>rfl
|x::xs,k=>by
  rw[WD,List.range'_succ,VP];show (if p k=true then _ else _)=_;by_cases h:p k=true
  .rw[Wb h];simp[h]
  .rw[Wa h,zDv xs (k+1)];simp[h]
theorem zCa{α:Type}{p:Nat->Bool}{f:Nat->Int×Int}{l:List α}:yY (λi _=>p i) f 0 l=((List.range l.length).find? p).map f:=by rw[zDv,List.range_eq_range']
def YD (lo:Int)(r:List Bool):List Bool:=if 0<=lo then r.set lo.toNat true else r
theorem zKh{lo:Int}{r:List Bool}{j:Nat}:(YD lo r).getD j true=(decide ((j:Int)=lo)||r.getD j true):=by
 unfold YD;by_cases h:0<=lo
 .rw[Wb h,Wi,Wi];by_cases e:(j:Int)=lo
  .have e2:lo.toNat=j:=by omega
   rw[WJ e,e2,List.getElem?_set];by_cases hj:j<r.length
   .simp[hj]
   .simp[hj]
  .rw[WB e,Xg,W6 (by omega)]
 .rw[Wa h,WB (by omega),Xg]
theorem zG5{lo:Int}{r:List Bool}{j:Nat}:YD lo (r.set j true)=(YD lo r).set j true:=by
 unfold YD;by_cases h:0<=lo
 .rw[Wb h,Wb h];by_cases e:lo.toNat=j
  .rw[e]
  .rw[List.set_comm _ _ e]
 .rw[Wa h,Wa h]
def zB6 (a:List Nat×Array Bool)(j:Nat):List Nat×Array Bool:=if a.2.getD j true=true then a else (j::a.1,a.2.setIfInBounds j true)
theorem zIL{a:Array Bool}{j:Nat}{d:Bool}:a.getD j d=a.toList.getD j d:=by
 rw[Wi,Array.getElem?_toList,WS]
theorem zOz{lo:Int}{t:List Nat}{r:List Bool}{seen:Array Bool}(h:seen.toList=YD lo r)(j:Nat):(zB6 (t,seen) j).1=(yV lo (t,r) j).1/\(zB6 (t,seen) j).2.toList=YD lo (yV lo (t,r) j).2:=by
 unfold zB6 yV;have e:seen.getD j true=(decide ((j:Int)=lo)||r.getD j true):=by rw[zIL,h,zKh]
 simp only[e];cases h1:decide ((j:Int)=lo) <;> cases h2:r.getD j true
 .simp only[Bool.or_false,Bool.false_eq_true,UD,Bool.not_false,Xr,UH];refine⟨trivial,?_⟩;rw[Xl,h,zG5]
 .simp[h]
 .simp[h]
 .simp[h]
theorem zJg{lo:Int}:∀ (l:List Nat) {t:List Nat}{r:List Bool}{seen:Array Bool},seen.toList=YD lo r->(l.foldl zB6 (t,seen)).1=(l.foldl (yV lo) (t,r)).1/\(l.foldl zB6 (t,seen)).2.toList=YD lo (l.foldl (yV lo) (t,r)).2
|[],_,_,_,h=>⟨rfl,h⟩
|j::l,t,r,seen,h=>by
  rw[Vp,Vp];obtain⟨h1,h2⟩:=zOz (t:=t) h j;have e1:zB6 (t,seen) j=((yV lo (t,r) j).1,(zB6 (t,seen) j).2):=Prod.ext h1 rfl;rw[e1];exact zJg l h2
theorem zEU{near:List (List Nat)}{lo:Int}:∀ (m:Nat) {t:List Nat}{r:List Bool}{seen:Array Bool},seen.toList=YD lo r->(Gla.spread near.toArray m t seen).toList=YD lo (rgo near lo m t r)
|0,_,_,_,h=>h
|_+1,[],_,_,h=>h
|m+1,k::t,r,seen,h=>by
  have eg:near.toArray.getD k []=near.getD k []:=by
   rw[WS,List.getElem?_toArray,Wi]
  show (Gla.spread near.toArray m ((near.toArray.getD k []).foldl zB6 (t,seen)).1 ((near.toArray.getD k []).foldl zB6 (t,seen)).2).toList=YD lo (rgo near lo m ((near.getD k []).foldl (yV lo) (t,r)).1 ((near.getD k []).foldl (yV lo) (t,r)).2);rw[eg];obtain⟨h1,h2⟩:=zJg (near.getD k []) (t:=t) h;rw[h1];exact zEU m h2
theorem zRE{near:List (List Nat)}:(Gla.seenFrom near.toArray near.length 0 (Gla.noneSeen near.length)).toList=ZI near (-1) 0:=by
 unfold Gla.seenFrom ZI
 have h:((Gla.noneSeen near.length).setIfInBounds 0 true).toList=YD (-1) ((List.replicate near.length false).set 0 true):=by
  rw[Xl];unfold Gla.noneSeen;rw[Array.toList_replicate];rfl
 rw[zEU _ h];rfl
theorem zQF{near:List (List Nat)}{i s:Nat}:(Gla.seenFrom near.toArray near.length s ((Gla.noneSeen near.length).setIfInBounds i true)).toList=YD (i:Int) (ZI near (i:Int) s):=by
 unfold Gla.seenFrom ZI;refine zEU _ ?_;rw[zG5];rw[Xl,Xl];unfold Gla.noneSeen YD;rw[Array.toList_replicate,Wb (V8 _),Ve]
theorem zM2{i:Nat}{a:List Nat×List Bool}{j:Nat}(h:a.2[i]?=some false):(yV (i:Int) a j).2[i]?=some false:=by
 unfold yV;by_cases hc:(!decide ((j:Int)=(i:Int)) && !(a.2.getD j true))=true
 .rw[Wb hc];rw[yZ,Wq] at hc;have hne:j≠i:=λe=>Wo hc.1 (by rw[e])
  show (a.2.set j true)[i]?=_;rw[W6 hne];exact h
 .rw[Wa hc];exact h
theorem zIM{i:Nat}:∀ (l:List Nat) {a:List Nat×List Bool},a.2[i]?=some false->(l.foldl (yV (i:Int)) a).2[i]?=some false
|[],_,h=>h
|j::l,a,h=>zIM l (zM2 h)
theorem zL0{near:List (List Nat)}{i:Nat}:∀ (m:Nat) {t:List Nat}{r:List Bool},r[i]?=some false->(rgo near (i:Int) m t r)[i]?=some false
|0,_,_,h=>h
|_+1,[],_,h=>h
|m+1,k::t,r,h=>by
  show (rgo near (i:Int) m ((near.getD k []).foldl (yV (i:Int)) (t,r)).1 ((near.getD k []).foldl (yV (i:Int)) (t,r)).2)[i]?=_;exact zL0 m (zIM _ h)
theorem zL1:∀ (r:List Bool),r.count true+r.count false=r.length
|[]=>rfl
|b::r=>by
  have:=zL1 r;cases b <;> simp <;> omega
theorem zM3{near:List (List Nat)}(ok:zDK near)(h2:2<=near.length){i:Nat}(hi:i<near.length):zBa near i=Gla.cuts near.toArray near.length i:=by
 unfold zBa Gla.cuts;have hs:(if i=0 then 1 else 0)<near.length:=by split <;> omega
 have hne:(if i=0 then 1 else 0)≠i:=by split <;> omega
 generalize hS:(if i=0 then 1 else 0)=s at hs hne ⊢
 have hr0:((List.replicate near.length false).set s true)[i]?=some false:=by
  rw[W6 hne,V4,Wb hi]
 have hR:(ZI near (i:Int) s)[i]?=some false:=zL0 _ hr0;have hl:(ZI near (i:Int) s).length=near.length:=zF1 ok hs;have e:=zQF (near:=near) (i:=i) (s:=s)
 have hc:(Gla.seenFrom near.toArray near.length s ((Gla.noneSeen near.length).setIfInBounds i true)).contains false=(YD (i:Int) (ZI near (i:Int) s)).contains false:=by
  rw[<-e,<-Array.contains_toList]
 rw[hc];generalize ZI near (i:Int) s=R at hR hl ⊢;have h3:=zEn hR;have h4:=zL1 R;have e2:YD (i:Int) R=R.set i true:=by unfold YD;rw[Wb (V8 _),Ve]
 rw[e2,Wx,ym,WU,<-List.count_pos_iff];omega
open Gla
def fz (e:Fault):Int×Int:=((e.rule:Int),(e.place:Int))
theorem zO0{p q:Pt}(h:zq p=zq q):p=q:=by
 obtain⟨a,b⟩:=p;obtain⟨c,d⟩:=q;unfold zq at h;injection h with h1 h2
 simp only at h1 h2
 congr 1 <;> omega
theorem zEq{p:Pt}{l:List Pt}:decide (zq p∈l.map zq)=l.contains p:=by
 rw[Wx,ym,WU,Wg];exact⟨λ⟨q,h,e⟩=>zO0 e ▸ h,λh=>⟨p,h,rfl⟩⟩
theorem zO1{p:Nat×Nat}{l:List (Nat×Nat)}:decide (ZS p∈l.map ZS)=l.contains p:=by
 rw[Wx,ym,WU,Wg];exact⟨λ⟨q,h,e⟩=>zJb e ▸ h,λh=>⟨p,h,rfl⟩⟩
theorem zG6{p q:Pt}:Yw (zq p) (zq q)=q.below p:=by
 unfold Yw Pt.below zq;simp only;rw[Wx];simp only[Va,yZ,ym,Vs];omega
def okP (S:Plan):Pt->Bool:=λ(p:Pt)=>decide (p.x<=S.w)&&decide (p.y<=S.h)
def okL (S:Plan):Nat×Nat->Bool:=λ(l:Nat×Nat)=>decide (l.1<l.2)&&decide (l.2<S.pts.length)
theorem L4(S:Plan):r4 (zg S)=(firstBad (okP S) Pt.below S.pts).map λi=>((4:Int),((ptPlace i:Nat):Int)):=by
 unfold r4 firstBad;rw[<-zAn];show yY _ _ 0 (S.pts.map zq)=_;rw[zB5];refine Zj (λi=>?_) _ _ λi x hx=>?_
 .show ((4:Int),20+8*(i:Int))=(4,((20+8*i:Nat):Int))
  congr 1
 .unfold zFJ okP;show ((decide ((S.w:Int)<(x.x:Int))||decide ((S.h:Int)<(x.y:Int)))||(decide (0<0+i) && !(match (S.pts.map zq)[0+i-1]? with |some q=>Yw (zq x) q|none=>true)))=_;rw[WQ]
  have e1:(decide ((S.w:Int)<(x.x:Int))||decide ((S.h:Int)<(x.y:Int))) = !(decide (x.x<=S.w)&&decide (x.y<=S.h)):=by
   rw[Wx];simp only[Va,ym,Wq,UB,Vu];omega
  rw[e1]
  congr 2
  cases S.pts[0+i-1]? with
 |none=>rfl
 |some y=>
   show (!Yw (zq x) (zq y)) = !y.below x;rw[zG6]
theorem zRF{x y:Nat×Nat}:Ky.leI [(ZS x).1,(ZS x).2] [(ZS y).1,(ZS y).2] = !lineBelow y x:=by
 unfold lineBelow ZS;simp only[Ky.leI];rw[Wx];simp only[Wq,WX,UB,Vu,Vd];split
 .split
  .simp;omega
  .simp;omega
 .simp;omega
theorem L5(S:Plan):r5 (zg S)=(firstBad (okL S) lineBelow S.lines).map λi=>((5:Int),((linePlace S i:Nat):Int)):=by
 unfold r5 firstBad;rw[<-zAn];show yY _ _ 0 (S.lines.map ZS)=_;rw[zB5];have hl:((zg S).pts.length:Int)=S.pts.length:=by show (((S.pts.map zq).length:Nat):Int)=_;rw[zc]
 refine Zj (λi=>?_) _ _ λi x hx=>?_
 .show ((5:Int),20+8*((zg S).pts.length:Int)+4*(i:Int))=(5,((20+8*S.pts.length+4*i:Nat):Int))
  rw[hl]
  congr 1
 .unfold zFK okL;rw[hl];show ((decide ((x.2:Int)<=(x.1:Int))||decide ((S.pts.length:Int)<=(x.2:Int)))||(decide (0<0+i)&&(match (S.lines.map ZS)[0+i-1]? with |some q=>Ky.leI [(ZS x).1,(ZS x).2] [q.1,q.2]|none=>false)))=_;rw[WQ]
  have e1:(decide ((x.2:Int)<=(x.1:Int))||decide ((S.pts.length:Int)<=(x.2:Int))) = !(decide (x.1<x.2)&&decide (x.2<S.pts.length)):=by
   rw[Wx];simp only[Va,ym,Wq,UB,Vu];omega
  rw[e1]
  congr 2
  cases S.lines[0+i-1]? with
 |none=>rfl
 |some y=>exact zRF
theorem zF4{S:Plan}{g:P2->Bool}{on:Pt->Bool}(h:∀ p,g (zq p)=on p):ZD g (S.pts.map zq) S.pts.length=(edgePts S on).map Int.ofNat:=by
 unfold ZD edgePts
 congr 1
 refine List.filter_congr λi hi=>?_
 unfold zIB;rw[WQ,(zCY (VI.mp hi)).1,VW];exact h _
theorem zL2:∀ {l:List Nat},l.Pairwise (· < ·)->∀ x∈l.zip l.tail,x.1<x.2
|[],_,x,hx=>by simp at hx
|[a],_,x,hx=>by simp at hx
|a::b::l,h,x,hx=>by
  rw[X6] at h;have hx':x∈(a,b)::(b::l).zip l:=hx;rcases Wc.mp hx' with e|e
  .rw[e];exact h.1 b Wt
  .exact zL2 (l:=b::l) h.2 x e
theorem zEr{S:Plan}{l:List Nat}(h:l.Pairwise (· < ·)):zDk (λp=>decide (p∈(zg S).lns)) (l.map Int.ofNat)=chained S l:=by
 unfold zDk chained zCX;rw[<-List.map_tail,List.zip_map,List.all_map,List.drop_one];rw[Wx,WI,WI]
 have key:∀ x∈l.zip l.tail,decide (((x.1:Int),(x.2:Int))∈(zg S).lns)=S.joined x.1 x.2:=by
  intro x hx;have hlt:=zL2 h x hx;unfold Plan.joined;rw[XQ (Vz hlt),Nat.max_eq_right (Vz hlt)];exact zO1 (p:=(x.1,x.2))
 exact⟨λhh x hx=>by rw[<-key x hx];exact hh x hx,λhh x hx=>(key x hx).trans (hh x hx)⟩
theorem zDt{S:Plan}{on:Pt->Bool}:(edgePts S on).Pairwise (· < ·):=UE _ Xu
theorem L6(S:Plan):r6 (zg S)=if frameOk S=true then none else some (6,20):=by
 unfold r6;have hl:(zg S).pts.length=S.pts.length:=zc ..
 have e:(zCW (zg S)&&(Z8 (zg S) (zg S).pts.length).all (zDk λp=>decide (p∈(zg S).lns)))=frameOk S:=by
  rw[hl];unfold Z8 frameOk
  rw[show (zg S).pts=S.pts.map zq from rfl,zF4 (on:=λp=>p.y==0) (λp=>by show decide ((p.y:Int)=0)=_;rw[W1,Wk];omega),zF4 (on:=λp=>p.y==S.h) (λp=>by show decide ((p.y:Int)=(S.h:Int))=_;rw[W1,Wk];omega),
   zF4 (on:=λp=>p.x==0) (λp=>by show decide ((p.x:Int)=0)=_;rw[W1,Wk];omega),zF4 (on:=λp=>p.x==S.w) (λp=>by show decide ((p.x:Int)=(S.w:Int))=_;rw[W1,Wk];omega)]
  simp only[Xp,List.all_nil,Xr];rw[zEr zDt,zEr zDt,zEr zDt,zEr zDt];unfold zCW;simp only[Xp,List.all_nil,Xr];rw[show decide (((0:Int),(0:Int))∈(zg S).pts)=S.pts.contains ⟨0,0⟩ from zEq (p:=⟨0,0⟩),show decide (((0:Int),(zg S).hg)∈(zg S).pts)=S.pts.contains ⟨0,S.h⟩ from zEq (p:=⟨0,S.h⟩),show decide (((zg S).wd,(0:Int))∈(zg S).pts)=S.pts.contains ⟨S.w,0⟩ from zEq (p:=⟨S.w,0⟩),show decide (((zg S).wd,(zg S).hg)∈(zg S).pts)=S.pts.contains ⟨S.w,S.h⟩ from zEq (p:=⟨S.w,S.h⟩)];cases S.pts.contains ⟨0,0⟩ <;> cases S.pts.contains ⟨0,S.h⟩ <;> cases S.pts.contains ⟨S.w,0⟩ <;> cases S.pts.contains ⟨S.w,S.h⟩ <;> simp
 rw[e]
theorem zEs{S:Plan}{i:Nat}(h:i<S.pts.length):ptA (S.pts.map zq) (i:Int)=zq (S.pt i):=zGT (map_some (zCY h).1)
theorem zO2(p q r s:Pt):zFx (zq p) (zq q) (zq r) (zq s)=crosses p q r s:=rfl
theorem L7{S:Plan}(B:Yc S):r7 (zg S)=(firstAt (touches S) S.lines).map λi=>((7:Int),((linePlace S i:Nat):Int)):=by
 unfold r7;rw[<-zAn];show yY _ _ 0 (S.lines.map ZS)=_;rw[zB5];have hl:((zg S).pts.length:Int)=S.pts.length:=by show (((S.pts.map zq).length:Nat):Int)=_;rw[zc]
 refine Zj (λi=>?_) _ _ λi x hx=>?_
 .show ((7:Int),20+8*((zg S).pts.length:Int)+4*(i:Int))=(7,((20+8*S.pts.length+4*i:Nat):Int))
  rw[hl]
  congr 1
 .have hxl:=B.ln x (ZZ hx);have h1:x.1<S.pts.length:=by omega
  unfold zC7 touches;rw[WC]
  congr 1
  .unfold zDl;rw[Wx,W4,W4]
   have key:∀ k,k<S.pts.length->btw (S.pts.map zq) (ZS x) k (zq (S.pt k))=(k != x.1&&(k != x.2&&isOn (S.pt x.1) (S.pt x.2) (S.pt k))):=by
    intro k hk;unfold btw;show ((!(decide ((x.1:Int)=(k:Int))||decide ((x.2:Int)=(k:Int))))&&onI (zq (S.pt k)) (ptA (S.pts.map zq) (x.1:Int)) (ptA (S.pts.map zq) (x.2:Int)))=_;rw[zEs h1,zEs hxl.2,zNO]
    have e1:(k != x.1) = !decide ((x.1:Int)=(k:Int)):=by
     show (!(k==x.1))=_;rw[W1,show decide (k=x.1)=decide ((x.1:Int)=(k:Int)) by rw[Wk];omega]
    have e2:(k != x.2) = !decide ((x.2:Int)=(k:Int)):=by
     show (!(k==x.2))=_;rw[W1,show decide (k=x.2)=decide ((x.2:Int)=(k:Int)) by rw[Wk];omega]
    rw[e1,e2];cases decide ((x.1:Int)=(k:Int)) <;> cases decide ((x.2:Int)=(k:Int)) <;> rfl
   constructor
   .rintro⟨⟨p,k⟩,hm,hb⟩;have hk:=Vo.mp hm;obtain⟨q,hq,e⟩:=yz (show (S.pts.map zq)[k]?=some p from hk);subst e;have hkl:=(yQ hq).1;have eq:q=S.pt k:=by rw[(zCY hkl).1] at hq;exact (WN hq).symm
    subst eq;exact⟨k,VI.mpr hkl,by rw[<-key k hkl];exact hb⟩
   .rintro⟨k,hk,hb⟩;have hkl:=VI.mp hk;refine⟨(zq (S.pt k),k),Vo.mpr (map_some (zCY hkl).1),?_⟩;show btw (S.pts.map zq) (ZS x) k (zq (S.pt k))=true;rw[key k hkl];exact hb
  .show ((S.lines.map ZS).take i).any _=_;rw[<-Xe,UT];rw[Wx,W4,W4]
   have key:∀ m∈S.lines.take i,zFM (zg S).pts (ZS x) (ZS m)=crosses (S.pt x.1) (S.pt x.2) (S.pt m.1) (S.pt m.2):=by
    intro m hm;have hml:=B.ln m (XI hm);unfold zFM;show zFx (ptA (S.pts.map zq) (x.1:Int)) (ptA (S.pts.map zq) (x.2:Int)) (ptA (S.pts.map zq) (m.1:Int)) (ptA (S.pts.map zq) (m.2:Int))=_;rw[zEs h1,zEs hxl.2,zEs (by omega:m.1<_),zEs hml.2,zO2]
   exact⟨λ⟨m,hm,hb⟩=>⟨m,hm,by rw[<-key m hm];exact hb⟩,λ⟨m,hm,hb⟩=>⟨m,hm,by show zFM (zg S).pts (ZS x) (ZS m)=true;rw[key m hm];exact hb⟩⟩
theorem zKi(r:Int)(i:Nat):zDm r i=(r,((ptPlace i:Nat):Int)):=by
 unfold zDm ptPlace HEAD
 congr 1
theorem L8(S:Plan):r8 (yL S.pts.length S.lines)=((List.range S.pts.length).find? λ(i:Nat)=>decide ((S.near i).length<2)).map λi=>((8:Int),((ptPlace i:Nat):Int)):=by
 unfold r8;have e:=zCa (p:=λ(i:Nat)=>decide ((S.near i).length<2)) (f:=λi=>((8:Int),((ptPlace i:Nat):Int))) (l:=yL S.pts.length S.lines);rw[Yo] at e;rw[<-e];refine Zj (zKi 8) _ _ λi x hx=>?_
 have hi:i<S.pts.length:=by have:=(yQ hx).1;rw[Yo] at this;exact this
 rw[zEP hi] at hx;cases hx;rw[WC];rfl
theorem L9{S:Plan}(B:Yc S):r9 (yL S.pts.length S.lines)=((List.range S.pts.length).find? λ(i:Nat)=>!((seenFrom S.nears S.pts.length 0 (noneSeen S.pts.length)).getD i false)).map λi=>((9:Int),((ptPlace i:Nat):Int)):=by
 unfold r9;have hn:(yL S.pts.length S.lines).length=S.pts.length:=Yo;have e9:=zRE (near:=yL S.pts.length S.lines);have hl:(ZI (yL S.pts.length S.lines) (-1) 0).length=S.pts.length:=(zF1 B.near (by rw[hn];have:=B.n2;omega)).trans hn;have e:=zCa (p:=λ(i:Nat)=>!((seenFrom S.nears S.pts.length 0 (noneSeen S.pts.length)).getD i false)) (f:=λi=>((9:Int),((ptPlace i:Nat):Int))) (l:=ZI (yL S.pts.length S.lines) (-1) 0);rw[hl] at e;rw[<-e];refine Zj (zKi 9) _ _ λi x hx=>?_
 rw[WC];have hS:S.nears=(yL S.pts.length S.lines).toArray:=rfl;rw[hn] at e9
 have:(seenFrom S.nears S.pts.length 0 (noneSeen S.pts.length)).getD i false=x:=by
  rw[zIL,hS,e9,Wi,hx];rfl
 simp only[this]
theorem L10{S:Plan}(B:Yc S):r10 (yL S.pts.length S.lines)=((List.range S.pts.length).find? (cuts S.nears S.pts.length)).map λi=>((10:Int),((ptPlace i:Nat):Int)):=by
 unfold r10;have hn:(yL S.pts.length S.lines).length=S.pts.length:=Yo;have e:=zCa (p:=cuts S.nears S.pts.length) (f:=λi=>((10:Int),((ptPlace i:Nat):Int))) (l:=yL S.pts.length S.lines);rw[hn] at e;rw[<-e];refine Zj (zKi 10) _ _ λi x hx=>?_
 have hi:i<(yL S.pts.length S.lines).length:=(yQ hx).1;rw[WC];have:=zM3 B.near (by rw[hn];exact B.n2) hi;rw[this,hn];rfl
theorem zKj(S:Plan)(i:Nat):zBy (zg S) (i:Int)=((markPlace S i:Nat):Int):=by
 unfold zBy zBx markPlace HEAD;have h1:(zg S).pts.length=S.pts.length:=zc ..;have h2:(zg S).lns.length=S.lines.length:=zc ..;rw[h1,h2];omega
theorem L11(S:Plan):r11 S=(firstBad (markOk S) markBelow S.marks).map λi=>((11:Int),((markPlace S i:Nat):Int)):=by
 unfold r11 firstBad;rw[<-zAn];refine Zj (λi=>by rw[zKj]) _ _ λi x hx=>?_
 unfold zDs markOk
 have e1:(!frB S x.at_||onLines S x.at_) = !clear S x.at_:=by
  unfold frB clear;cases decide (0<x.at_.x) <;> cases decide (x.at_.x<S.w) <;> cases decide (0<x.at_.y) <;> cases decide (x.at_.y<S.h) <;> cases onLines S x.at_ <;> rfl
 rw[e1]
 congr 2
 cases S.marks[0+i-1]? with
|none=>rfl
|some y=>
  show (!Yw (zq x.at_) (zq y.at_)) = !markBelow y x;rw[zG6];rfl
theorem L12(S:Plan):rMk S=match twice S S.outlines 0 [] S.marks with
 |some i=>some ((12:Int),((markPlace S i:Nat):Int))
 |none=>if S.marks.length<S.outlines.length then some (13,((S.size:Nat):Int)) else none:=by
 unfold rMk;cases twice S S.outlines 0 [] S.marks with
|some i=>simp only;rw[zKj]
|none=>simp only;rw[zKj];rfl
def PF (S:Plan):Option (Int×Int):=(r4 (zg S)).or ((r5 (zg S)).or ((zEo S).or ((r11 S).or (rMk S))))
theorem zM4(S:Plan):S.fault.map fz=((firstBad (okP S) Pt.below S.pts).map λi=>((4:Int),((ptPlace i:Nat):Int))).or (((firstBad (okL S) lineBelow S.lines).map λi=>((5:Int),((linePlace S i:Nat):Int))).or
  (((if frameOk S=true then none else some ((6:Int),(20:Int))).or (((firstAt (touches S) S.lines).map λi=>((7:Int),((linePlace S i:Nat):Int))).or ((((List.range S.pts.length).find? λ(i:Nat)=>decide ((S.near i).length<2)).map λi=>((8:Int),((ptPlace i:Nat):Int))).or
  ((((List.range S.pts.length).find? λ(i:Nat)=>!((seenFrom S.nears S.pts.length 0 (noneSeen S.pts.length)).getD i false)).map λi=>((9:Int),((ptPlace i:Nat):Int))).or (((List.range S.pts.length).find? (cuts S.nears S.pts.length)).map λi=>((10:Int),((ptPlace i:Nat):Int))))))).or
  (((firstBad (markOk S) markBelow S.marks).map λi=>((11:Int),((markPlace S i:Nat):Int))).or (match twice S S.outlines 0 [] S.marks with
 |some i=>some ((12:Int),((markPlace S i:Nat):Int))
 |none=>if S.marks.length<S.outlines.length then some (13,((S.size:Nat):Int)) else none)))):=by
 unfold Plan.fault;dsimp only;rw[show (λ(p:Pt)=>decide (p.x<=S.w)&&decide (p.y<=S.h))=okP S from rfl,show (λ(l:Nat×Nat)=>decide (l.1<l.2)&&decide (l.2<S.pts.length))=okL S from rfl];generalize firstBad (okP S) Pt.below S.pts=a4;generalize firstBad (okL S) lineBelow S.lines=a5;generalize firstAt (touches S) S.lines=a7;generalize ((List.range S.pts.length).find? λ(i:Nat)=>decide ((S.near i).length<2))=a8;generalize ((List.range S.pts.length).find? λ(i:Nat)=>!((seenFrom S.nears S.pts.length 0 (noneSeen S.pts.length)).getD i false))=a9;generalize ((List.range S.pts.length).find? (cuts S.nears S.pts.length))=a10;generalize firstBad (markOk S) markBelow S.marks=a11;generalize twice S S.outlines 0 [] S.marks=a12;cases a4 with
|some i=>rfl
|none=>
  cases a5 with
 |some i=>rfl
 |none=>
   by_cases h6:frameOk S=true
   .rw[h6,Wa (by decide),Wb rfl];cases a7 with
   |some i=>rfl
   |none=>
     cases a8 with
    |some i=>rfl
    |none=>
      cases a9 with
     |some i=>rfl
     |none=>
       cases a10 with
      |some i=>rfl
      |none=>
        cases a11 with
       |some i=>rfl
       |none=>
         cases a12 with
        |some i=>rfl
        |none=>
          simp only;by_cases h:S.marks.length<S.outlines.length
          .rw[Wb h];simp only[Option.map_none,Option.none_or];rw[Wb h];rfl
          .rw[Wa h];simp only[Option.map_none,Option.none_or];rw[Wa h]
   .rw[Wb (by simpa using h6),Wa h6];rfl
structure HdB(S:Plan):Prop where
 n:S.pts.length<=4096
 n4:4<=S.pts.length
 m:S.lines.length<=8192
 k:S.marks.length<=2048
 w:S.w<=1048575
 h:S.h<=1048575
theorem Yc.mk'{S:Plan}(hb:HdB S)(h4:r4 (zg S)=none)(h5:r5 (zg S)=none):Yc S:=by
 rw[L4,WW] at h4;rw[L5,WW] at h5;refine⟨by have:=hb.n;omega,by have:=hb.n4;omega,by have:=hb.m;omega,by have:=hb.k;omega,λp hp=>?_,λl hl=>?_⟩
 .obtain⟨i,hi⟩:=Vv hp;have:=Kt.ZH h4 hi;rw[WX,Wu] at this;have h1:=this.1;unfold okP at h1;rw[yZ,ym,ym] at h1;have:=hb.w;have:=hb.h;omega
 .obtain⟨i,hi⟩:=Vv hl;have:=Kt.ZH h5 hi;rw[WX,Wu] at this;have h1:=this.1;unfold okL at h1;rw[yZ,ym,ym] at h1;exact h1
theorem zEt{α:Type}{a b:Option α}(h:a.or b=none):a=none/\b=none:=by
 cases a with
|none=>exact⟨rfl,by simpa using h⟩
|some x=>cases h
theorem yD.mk'{S:Plan}(B:Yc S)(h4:r4 (zg S)=none)(h5:r5 (zg S)=none)(hd:zEo S=none):Kt.yD S:=by
 rw[L4,WW] at h4;rw[L5,WW] at h5;unfold zEo at hd;obtain⟨h6,hd⟩:=zEt hd;obtain⟨h7,hd⟩:=zEt hd;obtain⟨h8,hd⟩:=zEt hd;obtain⟨h9,h10⟩:=zEt hd;rw[L6] at h6;rw[L7 B,WW] at h7;rw[L8,WW] at h8;rw[L9 B,WW] at h9;rw[L10 B,WW] at h10;refine⟨h4,h5,?_,h7,h8,h9,h10⟩;by_cases h:frameOk S=true
 .exact h
 .rw[Wa h] at h6;cases h6
theorem zM5{S:Plan}(h:r11 S=none):∀ m∈S.marks,clear S m.at_=true:=by
 rw[L11,WW] at h;intro m hm;obtain⟨i,hi⟩:=Vv hm;have:=Kt.ZH h hi;rw[WX,Wu] at this;exact this.1
theorem zRG{S:Plan}(hb:HdB S):PF S=S.fault.map fz:=by
 rw[zM4];unfold PF;rw[<-L4,<-L5,<-L11,<-L12];cases h4:r4 (zg S) with
|some z=>rfl
|none=>
  cases h5:r5 (zg S) with
 |some z=>rfl
 |none=>
   have B:=Yc.mk' hb h4 h5;unfold zEo;rw[L6,L7 B,L8,L9 B,L10 B]
def bI (b:Gla.Bytes):List Int:=b.map λ(c:UInt8)=>(c.toNat:Int)
theorem zJh:∀ (l:Gla.Bytes),zFD (bI l)=(Gla.numLe l:Nat)
|[]=>rfl
|c::r=>by
  show (c.toNat:Int)+256*zFD (bI r)=((c.toNat+256*Gla.numLe r:Nat):Int)
  rw[zJh r];omega
theorem Vx(b:Gla.Bytes)(p w:Nat):numAt (bI b) p w=(Gla.num b p w:Nat):=by
 unfold numAt Gla.num bI;rw[<-Uj,<-Xe];exact zJh _
theorem zIN:∀ (l:Gla.Bytes),Gla.numLe l<256^l.length
|[]=>by decide
|c::r=>by
  have h:=zIN r;have hc:c.toNat<256:=c.toNat_lt;show c.toNat+256*Gla.numLe r<256^(r.length+1);rw[Nat.pow_succ];omega
theorem zL3(b:Gla.Bytes)(p w:Nat):Gla.num b p w<256^w:=by
 unfold Gla.num;refine yU (zIN _) (Nat.pow_le_pow_right (by decide) ?_);rw[Wy];exact VN _ _
theorem zL4:∀ {a b:Gla.Bytes},bI a=bI b->a=b
|[],[],_=>rfl
|[],_::_,h=>by cases h
|_::_,[],h=>by cases h
|x::a,y::b,h=>by
  have h':((x.toNat:Nat):Int)::bI a=((y.toNat:Nat):Int)::bI b:=h;injection h' with h1 h2
  have hx:x.toNat=y.toNat:=by omega
  rw[zL4 h2,UInt8.toNat_inj.mp hx]
theorem zO3(b:Gla.Bytes):zKV (bI b) (Gla.num b 12 2) (Gla.num b 14 2) (Gla.num b 16 2)=zg (Gla.parts b):=by
 unfold zKV zg Gla.parts zBM;dsimp only;rw[Vx,Vx,VH,VH,VH]
 have e1:(λi=>ptI (bI b) (20+8*i))=zq∘λ(i:Nat)=>(⟨Gla.num b (Gla.HEAD+8*i) 4,Gla.num b (Gla.HEAD+8*i+4) 4⟩:Gla.Pt):=funext λi=>by
  unfold ptI;rw[Vx,Vx];rfl
 have e2:(λi=>lnI (bI b) (20+8*Gla.num b 12 2+4*i))=ZS∘λ(i:Nat)=>(Gla.num b (Gla.HEAD+8*Gla.num b 12 2+4*i) 2,Gla.num b (Gla.HEAD+8*Gla.num b 12 2+4*i+2) 2):=funext λi=>by
  unfold lnI;rw[Vx,Vx];rfl
 have e3:(λi=>mkI (bI b) (20+8*Gla.num b 12 2+4*Gla.num b 14 2+12*i))=cmk∘λ(i:Nat)=>(⟨⟨Gla.num b (Gla.HEAD+8*Gla.num b 12 2+4*Gla.num b 14 2+12*i) 4,Gla.num b (Gla.HEAD+8*Gla.num b 12 2+4*Gla.num b 14 2+12*i+4) 4⟩,Gla.num b (Gla.HEAD+8*Gla.num b 12 2+4*Gla.num b 14 2+12*i+8) 2,Gla.num b (Gla.HEAD+8*Gla.num b 12 2+4*Gla.num b 14 2+12*i+10) 2⟩:Gla.Mark):=funext λi=>by
  unfold mkI;rw[Vx,Vx,Vx];rfl
 rw[e1,e2,e3]
def zAd (b:Gla.Bytes):Option (Int×Int):=match Gla.judgePlan b with
|.error e=>some (fz e)
|.ok _=>none
theorem zEu(b:Gla.Bytes)(p w lo hi:Nat):zBL (bI b) (p,w,(lo:Int),(hi:Int))=Gla.within lo hi (Gla.num b p w):=by
 unfold zBL YI Gla.within;show (decide ((lo:Int)<=numAt (bI b) p w)&&decide (numAt (bI b) p w<=(hi:Int)))=_;rw[Vx,Wk.mpr Xy,Wk.mpr Xy]
theorem zG7(b:Gla.Bytes):(Gla.parts b).pts.length=Gla.num b 12 2/\(Gla.parts b).lines.length=Gla.num b 14 2/\(Gla.parts b).marks.length=Gla.num b 16 2:=by
 unfold Gla.parts;dsimp only;simp only[zc,Xw,and_self]
theorem zGb(b:Gla.Bytes):(zBZ (bI b)=none->(HdB (Gla.parts b)/\MkB (Gla.parts b))/\zAd b=(Gla.parts b).fault.map fz)/\(∀ z,zBZ (bI b)=some z->zAd b=some z):=by
 have hl:(bI b).length=b.length:=zc ..
 have hm:((bI b).take 4≠[71,76,65,49])↔(b.take 4≠Gla.MAGIC):=by
  have e:(bI b).take 4=bI (b.take 4):=by unfold bI;rw[<-Xe]
  rw[e];exact not_congr ⟨λh=>zL4 (h.trans (show [71,76,65,49]=bI Gla.MAGIC from rfl)),λh=>by rw[h];rfl⟩
 have hE:((bI b).length:Int)≠zEN (bI b)↔b.length≠Gla.HEAD+8*Gla.num b 12 2+4*Gla.num b 14 2+12*Gla.num b 16 2:=by
  unfold zEN zFF zFE Gla.HEAD;rw[hl,Vx,Vx,Vx];omega
 unfold zBZ zAd Gla.judgePlan HN;simp only[VP,List.find?_nil]
 rw[show zBL (bI b) (4,4,16,1048575)=Gla.within Gla.SMALLEST Gla.LARGEST (Gla.num b 4 4) from zEu b 4 4 16 1048575,show zBL (bI b) (8,4,16,1048575)=Gla.within Gla.SMALLEST Gla.LARGEST (Gla.num b 8 4) from zEu b 8 4 16 1048575,
  show zBL (bI b) (12,2,4,4096)=Gla.within 4 Gla.POINTS (Gla.num b 12 2) from zEu b 12 2 4 4096,show zBL (bI b) (14,2,4,8192)=Gla.within 4 Gla.LINES (Gla.num b 14 2) from zEu b 14 2 4 8192,
  show zBL (bI b) (16,2,1,2048)=Gla.within 1 Gla.MARKS (Gla.num b 16 2) from zEu b 16 2 1 2048,show zBL (bI b) (18,2,0,0)=Gla.within 0 0 (Gla.num b 18 2) from zEu b 18 2 0 0]
 by_cases c1:b.length<Gla.HEAD
 .rw[Wb (by rw[hl];exact c1),Wb c1];refine⟨λh=>(by cases h),λz h=>?_⟩;rw[hl] at h;exact h
 rw[Wa (by rw[hl];exact c1),Wa c1];by_cases c2:b.take 4≠Gla.MAGIC
 .rw[Wb (hm.mpr c2),Wb c2];exact⟨λh=>(by cases h),λz h=>h⟩
 rw[Wa (λh=>c2 (hm.mp h)),Wa c2];cases q1:Gla.within Gla.SMALLEST Gla.LARGEST (Gla.num b 4 4) with
|false=>exact⟨λh=>(by cases h),λz h=>h⟩
|true=>
 cases q2:Gla.within Gla.SMALLEST Gla.LARGEST (Gla.num b 8 4) with
|false=>exact⟨λh=>(by cases h),λz h=>h⟩
|true=>
 cases q3:Gla.within 4 Gla.POINTS (Gla.num b 12 2) with
|false=>exact⟨λh=>(by cases h),λz h=>h⟩
|true=>
 cases q4:Gla.within 4 Gla.LINES (Gla.num b 14 2) with
|false=>exact⟨λh=>(by cases h),λz h=>h⟩
|true=>
 cases q5:Gla.within 1 Gla.MARKS (Gla.num b 16 2) with
|false=>exact⟨λh=>(by cases h),λz h=>h⟩
|true=>
 have w0:Gla.within 0 0 (Gla.num b 18 2)=decide (Gla.num b 18 2=0):=by
  unfold Gla.within;rw[Wx];simp
 rw[w0];by_cases c6:Gla.num b 18 2=0
 .rw[WJ c6];simp only[Bool.not_true,Bool.true_eq_false,UD];rw[Wa (show ¬ Gla.num b 18 2≠0 from λh=>h c6)];by_cases c7:b.length≠Gla.HEAD+8*Gla.num b 12 2+4*Gla.num b 14 2+12*Gla.num b 16 2
  .rw[Wb (hE.mpr c7),Wb c7];exact⟨λh=>(by cases h),λz h=>h⟩
  .rw[Wa (λh=>c7 (hE.mp h)),Wa c7];refine⟨λ_=>⟨⟨?_,?_⟩,?_⟩,λz h=>(by cases h)⟩
   .obtain⟨l1,l2,l3⟩:=zG7 b;unfold Gla.within at q1 q2 q3 q4 q5;simp only[yZ,ym] at q1 q2 q3 q4 q5;refine⟨by rw[l1];exact q3.2,by rw[l1];exact q3.1,by rw[l2];exact q4.2,by rw[l3];exact q5.2,q1.2,q2.2⟩
   .intro m hm';have hm2:m∈(List.range (Gla.num b 16 2)).map _:=hm';obtain⟨i,_,rfl⟩:=Wg.mp hm2;have a1:=zL3 b (Gla.HEAD+8*Gla.num b 12 2+4*Gla.num b 14 2+12*i) 4;have a2:=zL3 b (Gla.HEAD+8*Gla.num b 12 2+4*Gla.num b 14 2+12*i+4) 4;dsimp only;omega
   .cases (Gla.parts b).fault with
   |none=>rfl
   |some e=>rfl
 .rw[WB c6];simp only[Bool.not_true,Bool.not_false,Bool.true_eq_false,UD];rw[Wb c6];exact⟨λh=>(by cases h),λz h=>h⟩
section
variable {P:Program}{w:World}{K:Qf}{mg:Qm}{base:Heap}{C:Addr}
structure zNS(K:Qf)(S:Gla.Plan)(H:Hp)(q:Addr):Prop where
 at_:zKg K S H q
 B:Yc S
 O:Kt.yD S
 cl:∀ m∈S.marks,Gla.clear S m.at_=true
def zNT (K:Qf)(C:Addr):Sp:=λvs H Q E=>∃ (a:Addr) (b:Gla.Bytes),vs=[.ref a]/\zM K H a ((bI b).map V.int)/\zA2 C E H (λq H'=>Q (.ref q) H') (λH' q=>zNS K (Gla.parts b) H' q) (zAd b)
theorem zL5:zO ["data","cartoon"] ["data"] (zI zDj):=yG (by decide +kernel)
theorem zA2.same{E:XK}{H H':Hp}{Qp:Addr->Hp->Prop}{T:Hp->Addr->Prop}{o:Option (Int×Int)}(k:zA2 C E H Qp T o)(s:zH H H'):zA2 C E H' Qp T o:=by
 cases o with
|none=>exact λHx q sx t=>k Hx q (s.trans sx) t
|some z=>exact Rz.same k s
theorem zA2.seq{E:XK}{H:Hp}{Qp:Addr->Hp->Prop}{T:Hp->Addr->Prop}{Q':VK}{a b:Option (Int×Int)}(k:zA2 C E H Qp T (a.or b))(h:a=none->∀ H',zH H H'->zA2 C E H' Qp T b->Q' .non H'):Res C E H Q' a:=by
 cases a with
|some z=>exact k
|none=>exact λH' s=>h rfl H' s (zA2.same (o:=b) (by simpa using k) s)
theorem zQG(D:zW K mg "panes_of" zDj ["data"])(OH:Yf P w K mg base 5 "judge_head" ["data"] (zLh K C))(OT:Ok P w K mg base 5 "told_by" ["data"] (zLj K))(O4:Yf P w K mg base 3 "judge_points" ["cartoon"] (spJ K C r4))(O5:Yf P w K mg base 3 "judge_lines" ["cartoon"] (spJ K C r5))
  (OD:Yf P w K mg base 5 "judge_drawing" ["cartoon"] (zP5 K C zEo))(OM:Yf P w K mg base 4 "judge_marks" ["cartoon"] (zQD K C r11))(OP:Yf P w K mg base 6 "marked_panes" ["cartoon"] (zNR K C)):Yf P w K mg base 7 "panes_of" ["data"] (zNT K C):=by
 refine D.okN zL5 (λvs H Q E h=>?_) (λf cdv A outer s H vs Q E hr h=>?_)
 .obtain⟨a,b,rfl,_⟩:=h;rfl
 .obtain⟨a,b,rfl,hS,k⟩:=h;have hr5:zt 5 _:=hr.mono (by decide);have hr4:zt 4 _:=hr.mono (by decide);have hr3:zt 3 _:=hr.mono (by decide)
  refine⟨_,zD (yf (zAE OH hr5 (zA (pv 0) zC))) (zD (zb (i:=1) zL5.nd rfl (Or.inl rfl) (zT OT hr5 (zA (pv 0) zC)))
   (zD (yf (zAE O4 hr3 (zA (pv 1) zC))) (zD (yf (zAE O5 hr3 (zA (pv 1) zC))) (zD (yf (zAE OD hr5 (zA (pv 1) zC))) (zD (yf (zAE OM hr4 (zA (pv 1) zC)))
   (zE (zS (zAE OP hr (zA (pv 1) zC))))))))),?_⟩
  obtain⟨hN,hZ⟩:=zGb b;refine⟨_,rfl,a,bI b,rfl,hS,?_⟩;cases hh:zBZ (bI b) with
 |some z=>
   rw[hZ z hh] at k;exact k
 |none=>
  obtain⟨⟨hb,mb⟩,ep⟩:=hN hh;rw[ep,<-zRG hb] at k;intro H1 s1;obtain⟨l1,l2,l3⟩:=zG7 b;have b1:=hb.n;have b2:=hb.m;have b3:=hb.k;rw[l1] at b1;rw[l2] at b2;rw[l3] at b3;refine⟨_,rfl,a,bI b,Gla.num b 12 2,Gla.num b 14 2,Gla.num b 16 2,rfl,s1.seq hS,Vx ..,Vx ..,Vx ..,by omega,by omega,by omega,λH2 c s2 CA=>?_⟩;rw[zO3] at CA;generalize Gla.parts b=S at *
  have k2:=zA2.same k (s1.trans s2);unfold PF at k2;refine⟨_,rfl,c,zg S,rfl,CA,zA2.seq k2 λe4 H3 s3 k3=>?_⟩;refine⟨_,rfl,c,zg S,rfl,CA.same s3,zA2.seq k3 λe5 H4 s4 k4=>?_⟩;have B:=Yc.mk' hb e4 e5;have s34:=s3.trans s4;refine⟨_,rfl,c,S,rfl,CA.same s34,B,zA2.seq k4 λed H5 s5 k5=>?_⟩;have O:=yD.mk' B e4 e5 ed;have s35:=s34.trans s5;refine⟨_,rfl,c,S,rfl,CA.same s35,B,mb,zA2.seq k5 λe11 H6 s6 k6=>?_⟩;have cl:=zM5 e11;refine⟨_,rfl,c,S,rfl,CA.same (s35.trans s6),B,mb,O,cl,?_⟩;cases hm:rMk S with
 |some z=>
   rw[hm] at k6;exact k6
 |none=>
   rw[hm] at k6;exact λH7 q s7 t=>k6 H7 q s7 ⟨t,B,O,cl⟩
end
structure zKk(K:Qf)(mg:Qm)(C:Addr):Prop where
 cl:Y8 K C
 n0:zl K C "heat"
 n1:zl K C "hold"
 mgC:mg "Kind" = some (.ref C)
theorem zO4{K:Qf}{h:Heap}{mg:Qm}{C:Addr}(X:K.In h)(G:h.Ns mainGlobals mg)(aC:PySem.W.nsIn K mainGlobals "Kind" = some (some (.ref C)))
  (pg:PySem.W.plainGet K C Str.empty=true)(hd:PySem.W.hasDictIn K C=true)(po:PySem.W.plainOver K C=true)(sa:PySem.W.findIn K (.ref C) "__setattr__" = some (some (.builtin "object.__setattr__")))
  (n0:PySem.W.findIn K (.ref C) "heat" = some none)(n1:PySem.W.findIn K (.ref C) "hold" = some none):zKk K mg C:=⟨⟨pg,hd,po,sa⟩,n0,n1,Vb X G aC⟩
structure zKl(K:Qf)(mg:Qm)(C:Addr):Prop where
 cl:Y8 K C
 n0:zl K C "how_many"
 n1:zl K C "coats"
 mgC:mg "Painting" = some (.ref C)
theorem zO5{K:Qf}{h:Heap}{mg:Qm}{C:Addr}(X:K.In h)(G:h.Ns mainGlobals mg)(aC:PySem.W.nsIn K mainGlobals "Painting" = some (some (.ref C)))
  (pg:PySem.W.plainGet K C Str.empty=true)(hd:PySem.W.hasDictIn K C=true)(po:PySem.W.plainOver K C=true)(sa:PySem.W.findIn K (.ref C) "__setattr__" = some (some (.builtin "object.__setattr__")))
  (n0:PySem.W.findIn K (.ref C) "how_many" = some none)(n1:PySem.W.findIn K (.ref C) "coats" = some none):zKl K mg C:=⟨⟨pg,hd,po,sa⟩,n0,n1,Vb X G aC⟩
def Zo:List Nat->List (Nat×Nat)
|a::b::r=>(a,b)::Zo r
|_=>[]
theorem zEv:∀ l:List Nat,(Zo l).length=l.length/2
|[]=>rfl
|[_]=>by simp[Zo]
|a::b::r=>by
  show (Zo r).length+1=(r.length+2)/2;rw[zEv r];omega
theorem zIO:∀ {l:List Nat}{i:Nat},i<l.length/2->∃ x y,(Zo l)[i]?=some (x,y)/\l[2*i]?=some x/\l[2*i+1]?=some y
|[],i,h=>absurd h (by simp)
|[_],i,h=>absurd h (by simp)
|a::b::r,0,_=>⟨a,b,rfl,rfl,rfl⟩
|a::b::r,i+1,h=>by
  obtain⟨x,y,h1,h2,h3⟩:=zIO (l:=r) (i:=i) (by simp at h;omega);exact⟨x,y,by simpa[Zo] using h1,by rw[show 2*(i+1)=2*i+1+1 by omega];simpa using h2,by rw[show 2*(i+1)+1=2*i+1+1+1 by omega];simpa using h3⟩
def kB (x:Nat×Nat):Bool:=YI (x.1:Int) 1 1400&&YI (x.2:Int) 0 9999
def Zk (l:List Nat):Bool:=decide (l.length%2=0)&&(YI ((l.length/2:Nat):Int) 1 16&&(Zo l).all kB)
def zA3:Nat->List Nat->List (Nat×List Nat)
|0,_=>[]
|_+1,[]=>[]
|m+1,n::l=>(n,l.take n)::zA3 m (l.drop n)
def yM (xs:List (Nat×Nat))(k:Nat):Nat:=(xs.getD k (0,0)).1
def zBc (xs:List (Nat×Nat))(c:List Nat):Bool:=(c.zip c.tail).all λx=>decide (yM xs x.2<yM xs x.1)
def zAF (xs:List (Nat×Nat))(p:Nat×List Nat):Bool:=(YI (p.1:Int) 1 4&&decide (p.1<=p.2.length))&&(p.2.all (λk=>decide (k<xs.length))&&zBc xs p.2)
def ZX (xs:List (Nat×Nat))(ps:List (Nat×List Nat)):Bool:=decide (ps.length<=256)&&ps.all (zAF xs)
theorem zO6{l:List Nat}{i:Nat}(h:i<l.length-1):∃ x y,l[i]?=some x/\l[i+1]?=some y/\(l.zip l.tail)[i]?=some (x,y):=by
 have h1:i<l.length:=by omega
 have h2:i+1<l.length:=by omega
 refine⟨l[i],l[i+1],yW h1,yW h2,?_⟩;rw[Uc];exact⟨yW h1,by rw[List.getElem?_tail];exact yW h2⟩
theorem zM6{l:List Nat}:(l.zip l.tail).length=l.length-1:=by
 rw[U3,List.length_tail];omega
def RKd (K:Qf):Hp->V->Nat×Nat->Prop:=λH v x=>∃ a C dx fs,v=.ref a/\H a=some (.ins C dx fs)/\Y8 K C/\zl K C "heat"/\fs.lookup ("heat" : Str)=some (.int (x.1:Int))
theorem zDu{K:Qf}:Nm (RKd K):=λ_ _ _ _ s r=>let ⟨a,C,dx,fs,e1,e2,z⟩:=r;⟨a,C,dx,fs,e1,s a _ e2 (λxs z=>by cases z),z⟩
def YU (L:Addr)(H H':Hp):Prop:=∀ b o,b≠L->H b=some o->H' b=some o
theorem YU.of{L:Addr}{H H':Hp}(s:zH H H'):YU L H H':=λb o _ e=>s b o e
theorem YU.upd{L:Addr}{H:Hp}{o:HO}:YU L H (L2.upd H L o):=λb o' n e=>by rw[zG n];exact e
theorem YU.trans{L:Addr}{H H1 H2:Hp}(a:YU L H H1)(b:YU L H1 H2):YU L H H2:=λc o n e=>b c o n (a c o n e)
def RPa (K:Qf)(L:Addr):Hp->V->Nat×List Nat->Prop:=λH v x=>∃ a C dx fs ca,v=.ref a/\H a=some (.ins C dx fs)/\Y8 K C/\zl K C "how_many"/\zl K C "coats"/\fs.lookup ("how_many" : Str)=some (.int (x.1:Int))/\fs.lookup ("coats" : Str)=some (.ref ca)/\a≠L/\ca≠L/\H ca=some (.lst (zu x.2))
theorem zNU{K:Qf}{L:Addr}{H H':Hp}{v:V}{x:Nat×List Nat}(s:YU L H H')(r:RPa K L H v x):RPa K L H' v x:=
 let ⟨a,C,dx,fs,ca,e1,e2,e3,e4,e5,e6,e7,n1,n2,e8⟩:=r;⟨a,C,dx,fs,ca,e1,s _ _ n1 e2,e3,e4,e5,e6,e7,n1,n2,s _ _ n2 e8⟩
def zBd (K:Qf)(H:Hp)(q:Addr)(ps:List (Nat×List Nat)):Prop:=∃ vs,H q=some (.lst vs)/\Zc (RPa K q) H vs ps
theorem zBd.same{K:Qf}{H H':Hp}{q:Addr}{ps:List (Nat×List Nat)}(h:zBd K H q ps)(s:zH H H'):zBd K H' q ps:=let ⟨vs,e,z⟩:=h;⟨vs,s _ _ e,z.mono λ_ _ r=>zNU (YU.of s) r⟩
theorem ZY{l:List Nat}{z:Int}{j:Nat}{v:Nat}(e:z=(j:Int))(h:l[j]?=some v):atI (zu l) z=some (.int (v:Int)):=y9 e (map_some (f:=λ(j:Nat)=>V.int (j:Int)) h)
theorem YR{l:List Nat}:zu l=(l.map Int.ofNat).map V.int:=by unfold zu;rw[VH];rfl
theorem zEw{K:Qf}{H:Hp}{vs:List V}{xs:List (Nat×Nat)}(q:Zc (RKd K) H vs xs){k:Nat}(h:k<xs.length):∃ v,atI vs (k:Int)=some v/\∃ a C dx fs,v=.ref a/\H a=some (.ins C dx fs)/\Y8 K C/\zl K C "heat"/\fs.lookup ("heat" : Str)=some (.int (yM xs k:Int)):=by
 have e:=yW h;obtain⟨v,hv,r⟩:=q.get e;refine⟨v,y9 rfl hv,?_⟩;have eh:yM xs k=xs[k].1:=by unfold yM;rw[Wi,e];rfl
 rw[eh];exact r
section
variable {P:Program}{w:World}{K:Qf}{mg:Qm}{base:Heap}{C:Addr}
theorem zKm:zO ["self","heat","hold"] ["self","heat","hold"] (zI zCw):=yG (by decide +kernel)
theorem zKn{C:Addr}(D:ZC K C "Kind.__init__" zCw ["self","heat","hold"])(T:zKk K mg C):zAD P w K mg base 1 C ["self","heat","hold"] (zAU C "heat" "hold"):=by
 refine D.ok zKm (λvs H Q E h=>?_) (λf cdv A outer s H vs Q E hr h=>?_)
 .obtain⟨p,dx,v1,v2,rfl,_⟩:=h;rfl
 .obtain⟨p,dx,v1,v2,rfl,hp,k⟩:=h;refine⟨_,zD (ZG (pv 0) (pv 1) rfl) (zE (ZG (pv 0) (pv 2) rfl)),?_⟩;refine⟨_,rfl,_,rfl,p,C,dx,_,rfl,hp,T.cl,T.n0,(by show 0<1000;decide),?_⟩;refine⟨_,rfl,_,rfl,p,C,dx,_,rfl,zF,T.cl,T.n1,yU (yS (n:=1) (by show 0<1;decide)) (by decide),?_⟩;exact k _ zF λb o e hb=>by rw[zG hb,zG hb];exact e
theorem zKo:zO ["self","how_many","coats"] ["self","how_many","coats"] (zI zAu):=yG (by decide +kernel)
theorem zKp{C:Addr}(D:ZC K C "Painting.__init__" zAu ["self","how_many","coats"])(T:zKl K mg C):zAD P w K mg base 1 C ["self","how_many","coats"] (zAU C "how_many" "coats"):=by
 refine D.ok zKo (λvs H Q E h=>?_) (λf cdv A outer s H vs Q E hr h=>?_)
 .obtain⟨p,dx,v1,v2,rfl,_⟩:=h;rfl
 .obtain⟨p,dx,v1,v2,rfl,hp,k⟩:=h;refine⟨_,zD (ZG (pv 0) (pv 1) rfl) (zE (ZG (pv 0) (pv 2) rfl)),?_⟩;refine⟨_,rfl,_,rfl,p,C,dx,_,rfl,hp,T.cl,T.n0,(by show 0<1000;decide),?_⟩;refine⟨_,rfl,_,rfl,p,C,dx,_,rfl,zF,T.cl,T.n1,yU (yS (n:=1) (by show 0<1;decide)) (by decide),?_⟩;exact k _ zF λb o e hb=>by rw[zG hb,zG hb];exact e
def zL6:Sp:=λvs H Q _=>∃ x:Nat×Nat,vs=[.int (x.1:Int),.int (x.2:Int)]/\Q (.bl (kB x)) H
theorem zO7:zO ["heat","hold"] ["heat","hold"] (zI zEE):=yG (by decide +kernel)
theorem zO8(D:zW K mg "is_kind" zEE ["heat","hold"])(OW:Ok P w K mg base 1 "is_within" ["number","least","greatest"] zBJ)(g1:yt mg "HOTTEST" 1400)(g2:yt mg "LONGEST_HOLD" 9999):Ok P w K mg base 2 "is_kind" ["heat","hold"] zL6:=by
 refine D.ok zO7 (λvs H Q E h=>?_) (λf cdv A outer s H vs Q E hr h=>?_)
 .obtain⟨g,rfl,_⟩:=h;rfl
 .obtain⟨g,rfl,k⟩:=h;refine⟨_,zE (zS (Yr (zT OW hr (zA (pv 0) (zA zJ (zA (ZA g1) zC)))) (Yq (zT OW hr (zA (pv 1) (zA zJ (zA (ZA g2) zC))))))),?_⟩
  try dsimp only[ZQ,Yh,Ze,YV,YO,YQ]
  show zBS _ _ _ _ _;exact Z2 (λR h=>⟨_,rfl,_,_,_,rfl,h⟩) (λ_ R h=>⟨_,rfl,_,_,_,rfl,h⟩) k
def zNV (K:Qf):Sp:=λvs H Q _=>∃ (a:Addr) (l:List Nat),vs=[.ref a]/\zM K H a (zu l)/\l.length<10000/\Q (.bl (Zk l)) H
theorem zL7:zO ["row","k"] ["row"] (zI zC1):=yG (by decide +kernel)
theorem zQH(D:zW K mg "are_kinds" zC1 ["row"])(OW:Ok P w K mg base 1 "is_within" ["number","least","greatest"] zBJ)(OK:Ok P w K mg base 2 "is_kind" ["heat","hold"] zL6)(g1:yt mg "MOST_KINDS" 16)(ml:mg "len" = none)(mr:mg "range" = none):Ok P w K mg base 3 "are_kinds" ["row"] (zNV K):=by
 refine D.ok zL7 (λvs H Q E h=>?_) (λf cdv A outer s H vs Q E hr h=>?_)
 .obtain⟨a,l,rfl,_⟩:=h;rfl
 .obtain⟨a,l,rfl,hS,hl,k⟩:=h;have hr1:zt 1 _:=hr.mono (by decide)
  refine⟨_,zD (zm (PW.pt (zB0 (zj zEX (zi zPS (yE ml (zA (pv 0) zC)) zJ) zJ (zY _))
    (zAo (Zi (yT (zT OW hr1 (zA (zi zNo (yE ml (zA (pv 0) zC)) zJ) (zA zJ (zA (ZA g1) zC))))))))) (zE (zS yk)) zZ)
   (zD (yI Wz rfl (zBh rfl mr (zA zJ (zA (yE ml (zA (pv 0) zC)) (zA zJ zC)))) (zV (i:=1) zL7.nd rfl (Or.inl rfl))
    (zE (zm (Zi (yT (zT OK hr (zA (zf za (pv 0) (pv 1) (λ_ _=>rfl)) (zA (zf za (pv 0) (zi yP (pv 1) zJ) (λ_ _=>rfl)) zC))))) (zE (zS yk)) zZ)))
   (zE (zS yk))),?_⟩
  refine⟨_,rfl,a,_,rfl,.inl hS,_,_,rfl,rfl,(by show (0:Int)<2;decide),rfl,_,rfl,?_⟩;rw[z9];refine zp (λh1=>?_) (λh1=>?_)
  .refine ZB k ?_;unfold Zk;rw[WB (by simp at h1;omega),V5]
  .have h3:l.length%2=0:=by simp at h1;omega
   refine⟨_,rfl,a,_,rfl,.inl hS,_,_,rfl,rfl,⟨by decide,by decide⟩,_,_,_,rfl,_,rfl,?_⟩;rw[z9];have ed:(l.length:Int)/2=((l.length/2:Nat):Int):=by omega
   refine zp (λh2=>?_) (λh2=>?_)
   .refine ZB k ?_;unfold Zk;rw[ed,Wq] at h2;rw[h2,V5,XA]
   .rw[ed,Wu] at h2;refine⟨_,rfl,a,_,rfl,.inl hS,0,_,2,l.length/2,rfl,?_,zJ2 (λi σ H'=>∃ v:Option V,σ=[some (.ref a),v]/\H'=H/\((Zo l).take i).all kB=true) ⟨none,rfl,rfl,rfl⟩ ?_ ?_⟩
    .rw[z9];have:=rgC (lo:=0) (c:=2) (n:=l.length/2) (by decide) (by decide) (by omega) (by decide);rw[show ((0:Nat):Int)+((2:Nat):Int)*((l.length/2:Nat):Int)=(l.length:Int) by omega] at this;exact this
    .rintro i σ H' hi ⟨v,rfl,rfl,hall⟩;obtain⟨x,y,e0,e1,e2⟩:=zIO hi;refine⟨_,rfl,_,rfl,a,_,_,_,rfl,rfl,hS,ZY (j:=2*i) (by omega) e1,_,rfl,_,rfl,_,_,rfl,rfl,a,_,_,_,rfl,rfl,hS,ZY (j:=2*i+1) (by omega) e2,(x,y),rfl,_,rfl,?_⟩;refine zp (λh4=>?_) (λh4=>?_)
     .refine ZB k ?_;unfold Zk;rw[Wq] at h4;rw[zBK e0 h4,XA,XA]
     .rw[Wu] at h4;exact⟨_,rfl,rfl,zAi hall e0 h4⟩
    .rintro σ H' ⟨v,rfl,rfl,hall⟩;refine ZB k ?_;unfold Zk;rw[Ws (by rw[zEv];exact Wd _)] at hall;rw[WJ h3,h2,hall];rfl
def zNW (K:Qf):Sp:=λvs H Q _=>∃ (a:Addr) (l:List Nat),vs=[.ref a]/\zM K H a (zu l)/\l.length<10000/\l.length%2=0/\∀ H' q,zH H H'->zo (RKd K) H' q (Zo l)->Q (.ref q) H'
theorem zIP:zO ["row","k"] ["row"] (zI zB2):=yG (by decide +kernel)
theorem zQI(D:zW K mg "kinds_of" zB2 ["row"])(M:zAD P w K mg base 1 C ["self","heat","hold"] (zAU C "heat" "hold"))(T:zKk K mg C)(ml:mg "len" = none)(mr:mg "range" = none):Ok P w K mg base 3 "kinds_of" ["row"] (zNW K):=by
 refine D.ok zIP (λvs H Q E h=>?_) (λf cdv A outer s H vs Q E hr h=>?_)
 .obtain⟨a,l,rfl,_⟩:=h;rfl
 .obtain⟨a,l,rfl,hS,hl,h2,k⟩:=h
  refine⟨_,zE (zS (zFa (own:=[("k",1)]) rfl zIP.nd (zBh rfl mr (zA zJ (zA (yE ml (zA (pv 0) zC)) (zA zJ zC)))) (ZM (show zAL ["row","k"] (zI zB2) _ _=true by decide +kernel))
   (λ_ _ _ _ _=>zV (i:=1) zIP.nd rfl (Or.inl rfl)) (λ_ _ _ _ _=>Zm) (λ_ _ _ _ _=>zBn M hr T.mgC (zA (zf (zDr K) (pv 0) (pv 1) (λ_ _=>rfl)) (zA (zf (zDr K) (pv 0) (zi yP (pv 1) zJ) (λ_ _=>rfl)) zC))))),?_⟩
  refine⟨_,rfl,a,_,rfl,.inl hS,0,_,2,l.length/2,rfl,?_,λL nL=>?_⟩
  .rw[z9];have:=rgC (lo:=0) (c:=2) (n:=l.length/2) (by decide) (by decide) (by omega) (by decide);rw[show ((0:Nat):Int)+((2:Nat):Int)*((l.length/2:Nat):Int)=(l.length:Int) by omega] at this;exact this
  refine zCl (λi H'=>zH H H'/\zo (RKd K) H' L ((Zo l).take i)) ⟨zR (zH.refl H) nL,_,zF,Zc.nil⟩ ?_ ?_
  .rintro i H' hi ⟨s1,vs,ev,qv⟩;obtain⟨x,y,e0,e1,e2⟩:=zIO hi;refine⟨rfl,?_⟩;refine⟨_,rfl,_,rfl,a,_,_,_,rfl,rfl,s1.seq hS,ZY (j:=2*i) (by omega) e1,_,rfl,_,rfl,_,_,rfl,rfl,a,_,_,_,rfl,rfl,s1.seq hS,ZY (j:=2*i+1) (by omega) e2,?_⟩;intro o dx no ndx nex;refine⟨o,dx,_,_,rfl,zF,λH3 hx k1=>⟨rfl,vs,?_,?_,?_,?_⟩⟩
   .exact (zH.made no ndx k1) _ _ ev
   .rw[qv.1,Wy];exact Yp (VN _ _) (yU (by omega:i<10000) (by decide))
   .intro b ob eb;rw[zG (zN eb nL)];exact (zH.made no ndx k1) _ _ (s1 _ _ eb)
   .rw[yB e0];have s3:zH H' H3:=zH.made no ndx k1;exact zo.snoc zDu (s3 _ _ ev) (qv.mono λv x r=>zDu _ _ v x (yg.of s3) r) ⟨o,C,dx,_,rfl,hx,T.cl,T.n0,zEK (by decide)⟩
  .rintro H' ⟨s1,LK⟩;rw[Ws (by rw[zEv];exact Wd _)] at LK;exact k _ _ s1 LK
theorem zM7(m:Nat):zA3 m []=[]:=by cases m <;> rfl
theorem zG8:∀ (m m':Nat) (l:List Nat),l.length<m->l.length<m'->zA3 m l=zA3 m' l
|0,_,_,h,_=>absurd h (W9 _)
|_,0,_,_,h=>absurd h (W9 _)
|m+1,m'+1,[],_,_=>rfl
|m+1,m'+1,n::l,h,h'=>by
  show (n,l.take n)::zA3 m (l.drop n)=(n,l.take n)::zA3 m' (l.drop n);have hd:(l.drop n).length<=l.length:=by rw[VS];omega
  simp only[WD] at h h';rw[zG8 m m' (l.drop n) (by omega) (by omega)]
def ZE (l:List Nat):List (Nat×List Nat):=zA3 (l.length+1) l
theorem zL8{n:Nat}{l:List Nat}:ZE (n::l)=(n,l.take n)::ZE (l.drop n):=by
 show (n,l.take n)::zA3 (l.length+1) (l.drop n)=_
 congr 1
 exact zG8 _ _ _ (by rw[VS];omega) (Xm _)
def zL9 (K:Qf):Sp:=λvs H Q _=>∃ (a:Addr) (l:List Nat),vs=[.ref a]/\zM K H a (zu l)/\l.length<10000/\∀ H' q,zH H H'->zBd K H' q (ZE l)->Q (.ref q) H'
theorem zDO:zO ["row","paintings","place","behind"] ["row"] (zI zBD):=yG (by decide +kernel)
theorem zIQ{l:List Nat}{p n:Nat}(h:p<=l.length):zCE (zu l) (some (p:Int)) (some (((p+n:Nat)):Int))=zu ((l.drop p).take n):=by
 have e:=zJO (l:=l.map Int.ofNat) (p:=p) (w:=n);rw[YR,YR];rw[show (((p+n:Nat)):Int)=(p:Int)+(n:Int) by omega,e,<-Uj,<-Xe]
theorem zO9(D:zW K mg "paintings_of" zBD ["row"])(M:zAD P w K mg base 1 C ["self","how_many","coats"] (zAU C "how_many" "coats"))(T:zKl K mg C)(ml:mg "len" = none):Ok P w K mg base 3 "paintings_of" ["row"] (zL9 K):=by
 refine D.ok zDO (λvs H Q E h=>?_) (λf cdv A outer s H vs Q E hr h=>?_)
 .obtain⟨a,l,rfl,_⟩:=h;rfl
 .obtain⟨a,l,rfl,hS,hl,k⟩:=h
  refine⟨_,zD (zb (i:=1) zDO.nd rfl (Or.inl rfl) (yd zC)) (zD (zb (i:=2) zDO.nd rfl (Or.inl rfl) zJ)
   (zD (zCC Wz (zj Zf (pv 2) (yE ml (zA (pv 0) zC)) (zY _))
    (zD (zb (i:=3) zDO.nd rfl (Or.inl rfl) (zi yP (zi yP (pv 2) zJ) (zf za (pv 0) (pv 2) (λ_ _=>rfl))))
    (zD (yf (zAG WF WP WO ZO (pv 1) (zA (zBn M hr T.mgC (zA (zf za (pv 0) (pv 2) (λ_ _=>rfl)) (zA (zDT zEY (pv 0) (zA7 (zi yP (pv 2) zJ)) (zA7 (pv 3))) zC))) zC)))
    (zE (zb (i:=2) zDO.nd rfl (Or.inl rfl) (pv 3))))))
   (zE (zS (pv 1))))),?_⟩
  refine⟨WH _,λL nL=>?_⟩
  refine⟨λm σ H'=>∃ (p:Nat) (v3:Option V) (ds:List (Nat×List Nat)),m=l.length-p/\σ=[some (.ref a),some (.ref L),some (.int (p:Int)),v3]/\zH H H'/\zBd K H' L ds/\ds.length<=p/\ZE l=ds++ZE (l.drop p),
   ⟨l.length,0,none,[],rfl,rfl,zR (zH.refl H) nL,⟨_,zF,Zc.nil⟩,Wd _,rfl⟩,?_⟩
  rintro m σ H' ⟨p,v3,ds,rfl,rfl,s1,⟨vs,ev,qv⟩,hds,hp⟩;refine⟨_,rfl,_,rfl,a,_,rfl,.inl (s1.seq hS),_,_,rfl,rfl,_,rfl,?_⟩;rw[z9];refine zp (λhb=>?_) λhb=>?_
  .have hpl:p<l.length:=by have:=Wm hb;omega
   have en:=yW hpl;have ed:l.drop p=l[p]::l.drop (p+1):=Ud hpl;generalize l[p]=n at en ed;rw[ed,zL8] at hp;refine⟨λσ' H'=>∃ m',m'<l.length-p/\∃ (p:Nat) (v3:Option V) (ds:List (Nat×List Nat)),m'=l.length-p/\σ'=[some (.ref a),some (.ref L),some (.int (p:Int)),v3]/\zH H H'/\zBd K H' L ds/\ds.length<=p/\ZE l=ds++ZE (l.drop p),λ_ _ h=>h,?_⟩;refine⟨_,rfl,_,_,rfl,rfl,_,rfl,_,rfl,a,_,_,_,rfl,rfl,s1.seq hS,ZY (j:=p) rfl en,_,_,rfl,rfl,?_⟩;refine⟨_,rfl,.inl ⟨rfl,_,zM.of ev⟩,_,rfl,_,rfl,a,_,_,_,rfl,rfl,s1.seq hS,ZY (j:=p) rfl en,_,rfl,_,rfl,_,_,rfl,rfl,_,rfl,_,rfl,_,rfl,a,_,rfl,s1.seq hS,λt nt=>?_⟩
   have ecut:zCE (zu l) (some ((p:Int)+1)) (some ((p:Int)+1+(n:Int)))=zu ((l.drop (p+1)).take n):=by
    have:=zIQ (l:=l) (p:=p+1) (n:=n) (by omega);rw[show (((p+1+n:Nat)):Int)=(p:Int)+1+(n:Int) by omega,show (((p+1:Nat)):Int)=(p:Int)+1 by omega] at this;exact this
   rw[ecut];intro o dx no ndx nex;have s2:zH H' (upd H' t (.lst (zu ((l.drop (p+1)).take n)))):=zR (zH.refl H') nt;refine⟨o,dx,_,_,rfl,zF,λH3 hx k1=>⟨rfl,L,vs,_,rfl,rfl,?_,?_,?_⟩⟩
   .exact (zH.made no ndx k1) _ _ (s2 _ _ ev)
   .rw[qv.1];exact Yp (WT hds (Vz hpl)) (yU hl (by decide))
   .have s3:zH H' H3:=s2.trans (zH.made no ndx k1);have tL:t≠L:=λe=>by rw[e,ev] at nt;cases nt
    have oL:o≠L:=λe=>by rw[e,s2 _ _ ev] at no;cases no
    refine⟨_,rfl,l.length-(p+1+n),by omega,p+1+n,_,ds++[(n,(l.drop (p+1)).take n)],rfl,rfl,λb ob eb=>?_,⟨_,zF,?_⟩,?_,?_⟩
    .rw[zG (zN eb nL)];exact s3 _ _ (s1 _ _ eb)
    .refine (qv.mono λv x r=>zNU ((YU.of s3).trans YU.upd) r).snoc ?_;refine⟨o,C,dx,_,t,rfl,?_,T.cl,T.n0,T.n1,zEK (by decide),zFw,oL,tL,?_⟩
     .rw[zG oL];exact hx
     .rw[zG tL];exact (zH.made no ndx k1) _ _ zF
    .rw[Wr,VV];omega
    .rw[hp,List.drop_drop,Xj];rfl
  .have hpl:l.length<=p:=by have:=Wo hb;omega
   rw[List.drop_eq_nil_of_le hpl,show ZE []=[] from rfl,VD] at hp;rw[hp] at k;exact⟨_,rfl,k _ _ s1 ⟨vs,ev,qv⟩⟩
def zMA (K:Qf):Sp:=λvs H Q _=>∃ (ca ka:Addr) (c:List Nat) (xs:List (Nat×Nat)),vs=[.ref ca,.ref ka]/\H ca=some (.lst (zu c))/\zo (RKd K) H ka xs/\(∀ j∈c,j<xs.length)/\c.length<10000/\Q (.bl (zBc xs c)) H
theorem zJi:zO ["coats","kinds","k"] ["coats","kinds"] (zI zCS):=yG (by decide +kernel)
theorem zPA(D:zW K mg "heats_fall" zCS ["coats","kinds"])(ml:mg "len" = none)(mr:mg "range" = none):Ok P w K mg base 1 "heats_fall" ["coats","kinds"] (zMA K):=by
 refine D.ok zJi (λvs H Q E h=>?_) (λf cdv A outer s H vs Q E hr h=>?_)
 .obtain⟨ca,ka,c,xs,rfl,_⟩:=h;rfl
 .obtain⟨ca,ka,c,xs,rfl,hc,⟨kvs,hk,ek⟩,hlt,hl,k⟩:=h
  refine⟨_,zD (yI Wz rfl (zGg rfl mr (zA zJ (zA (yE ml (zA (pv 0) zC)) zC))) (zV (i:=2) zJi.nd rfl (Or.inl rfl))
    (zE (zm (zj zHG (zQ (zf za (pv 1) (zf za (pv 0) (pv 2) (λ_ _=>rfl)) (λ_ _=>rfl)) rfl) (zQ (zf za (pv 1) (zf za (pv 0) (zi ZL (pv 2) zJ) (λ_ _=>rfl)) (λ_ _=>rfl)) rfl) (zY _)) (zE (zS yk)) zZ)))
   (zE (zS yk)),?_⟩
  refine⟨_,rfl,ca,_,rfl,.inl (zM.of hc),1,_,rfl,⟨by decide,by decide,?_,?_⟩,?_⟩
  .rw[z9];omega
  .rw[z9];omega
  rw[z9];refine Y6 (lo:=1) (λi σ H'=>∃ v:Option V,σ=[some (.ref ca),some (.ref ka),v]/\H'=H/\((c.zip c.tail).take i).all (λx=>decide (yM xs x.2<yM xs x.1))=true) ⟨none,rfl,rfl,rfl⟩ ?_ ?_
  .rintro i σ H' hi ⟨v,rfl,rfl,ha⟩;obtain⟨x,y,hx,hy,hz⟩:=zO6 (l:=c) (i:=i) (by omega);obtain⟨v1,r1,b1,C1,d1,f1,rfl,a1,a2,a3,a4⟩:=zEw ek (hlt y (ZZ hy));obtain⟨v2,r2,b2,C2,d2,f2,rfl,c1,c2,c3,c4⟩:=zEw ek (hlt x (ZZ hx))
   refine⟨_,rfl,_,rfl,_,rfl,ca,_,_,_,rfl,rfl,zM.of hc,ZY (j:=i+1) (by omega) hy,ka,_,_,_,rfl,rfl,zM.of hk,r1,b1,C1,d1,_,_,rfl,a1,a2,a3,a4,
    _,rfl,_,rfl,_,rfl,_,_,rfl,rfl,ca,_,_,_,rfl,rfl,zM.of hc,ZY (j:=i) (by omega) hx,ka,_,_,_,rfl,rfl,zM.of hk,r2,b2,C2,d2,_,_,rfl,c1,c2,c3,c4,_,_,rfl,rfl,_,rfl,zp (λhb=>?_) λhb=>?_⟩
   .refine ZB k (zBK (f:=λ(x:Nat×Nat)=>decide (yM xs x.2<yM xs x.1)) hz ?_);have:=Wm hb;exact WB (by simp only;omega)
   .have:=Wo hb;exact⟨_,rfl,rfl,zAi (f:=λ(x:Nat×Nat)=>decide (yM xs x.2<yM xs x.1)) ha hz (WJ (by simp only;omega))⟩
  .rintro σ H' ⟨v,rfl,rfl,ha⟩;rw[Ws (by rw[zM6];omega)] at ha;exact ZB k ha
def zNX (K:Qf):Sp:=λvs H Q _=>∃ (v:V) (ka L:Addr) (p:Nat×List Nat) (xs:List (Nat×Nat)),vs=[v,.ref ka]/\RPa K L H v p/\zo (RKd K) H ka xs/\p.2.length<10000/\Q (.bl (zAF xs p)) H
theorem zQJ:zO ["painting","kinds"] ["painting","kinds"] (zI zBv):=yG (by decide +kernel)
theorem zQK{l:List Nat}(h:l≠[]):∃ m∈l,∀ y∈l,y<=m:=by
 induction l with
|nil=>exact absurd rfl h
|cons a r ih=>
  by_cases hr:r=[]
  .subst hr;exact⟨a,by simp,by simp⟩
  .obtain⟨m,h1,h2⟩:=ih hr;by_cases hm:m<=a
   .exact⟨a,by simp,λy hy=>by
     rcases Wc.mp hy with e|e
     .omega
     .have:=h2 y e;omega⟩
   .exact⟨m,by simp[h1],λy hy=>by
     rcases Wc.mp hy with e|e
     .omega
     .exact h2 y e⟩
theorem zQL(D:zW K mg "is_painting" zBv ["painting","kinds"])(OW:Ok P w K mg base 1 "is_within" ["number","least","greatest"] zBJ)(OF:Ok P w K mg base 1 "heats_fall" ["coats","kinds"] (zMA K))(g1:yt mg "MOST_COATS" 4)(ml:mg "len" = none)(mx:mg "max" = none):Ok P w K mg base 2 "is_painting" ["painting","kinds"] (zNX K):=by
 refine D.ok zQJ (λvs H Q E h=>?_) (λf cdv A outer s H vs Q E hr h=>?_)
 .obtain⟨v,ka,L,p,xs,rfl,_⟩:=h;rfl
 .obtain⟨v,ka,L,p,xs,rfl,⟨a,C1,dx,fs,ca,rfl,a1,a2,a3,a4,a5,a6,a7,a8,a9⟩,⟨kvs,hk,ek⟩,hl,k⟩:=h
  refine⟨_,zD (zm (PW.pt (zB0 (Zi (yT (zT OW hr (zA (zQ (pv 0) rfl) (zA zJ (zA (ZA g1) zC)))))) (zAo (zj Zf (yE ml (zA (zQ (pv 0) rfl) zC)) (zQ (pv 0) rfl) (zY _))))) (zE (zS yk)) zZ)
   (zE (zS (Yr (yO Zf (ZU (zHb rfl) rfl mx Xh (zA (zQ (pv 0) rfl) zC)) (yE ml (zA (pv 1) zC)) (zY _)) (Yq (zT OF hr (zA (zQ (pv 0) rfl) (zA (pv 1) zC))))))),?_⟩
  try dsimp only[ZQ,Yh,Ze,YV,YO,YQ]
  show tOr _ _ _ _ _;refine zD5 (c:=!YI (p.1:Int) 1 4) (d:=!decide (p.1<=p.2.length)) (λR h=>⟨_,rfl,a,C1,dx,fs,_,rfl,a1,a2,a3,a5,_,_,_,rfl,_,rfl,h⟩) (λ_ R h=>⟨_,rfl,a,C1,dx,fs,_,rfl,a1,a2,a4,a6,ca,_,rfl,.inl (zM.of a9),_,rfl,a,C1,dx,fs,_,rfl,a1,a2,a3,a5,_,_,rfl,rfl,_,rfl,?_⟩) (zp (λhb=>?_) λhb=>?_)
  .rw[z9,show decide (((p.2.length:Nat):Int)<((p.1:Nat):Int)) = !decide (p.1<=p.2.length) by rw[<-decide_not,Wk];omega];exact h
  .refine ZB k ?_;unfold zAF;cases h1:YI (p.1:Int) 1 4 with
  |false=>rfl
  |true=>
    rw[h1] at hb;have:decide (p.1<=p.2.length)=false:=by simpa using hb
    rw[this];rfl
  .have hb1:YI (p.1:Int) 1 4=true/\p.1<=p.2.length:=by
    rw[WX,Wu,Wu,ym] at hb;exact hb
   have hne:p.2≠[]:=λe=>by
    have h1:=hb1.1;unfold YI at h1;rw[yZ,ym] at h1;have h2:=hb1.2;rw[e] at h2;simp at h2;omega
   obtain⟨m,hm,hmax⟩:=zQK hne
   have ek1:zAF xs p=(decide (m<xs.length)&&zBc xs p.2):=by
    unfold zAF;rw[hb1.1,WJ hb1.2]
    have:(p.2.all λk=>decide (k<xs.length))=decide (m<xs.length):=by
     rw[Wx,WI,ym];exact⟨λh=>Wm (h m hm),λh y hy=>WJ (by have:=hmax y hy;omega)⟩
    rw[this];rfl
   rw[ek1] at k
   try dsimp only[ZQ,Yh,Ze,YV,YO,YQ]
   show zBS _ _ _ _ _;refine Z2 (c:=decide (m<xs.length)) (d:=zBc xs p.2) (λR h=>⟨_,rfl,a,C1,dx,fs,_,rfl,a1,a2,a4,a6,ca,p.2.map Int.ofNat,rfl,?_,?_,λm' hm' hmax'=>⟨_,rfl,ka,_,rfl,.inl (zM.of hk),_,_,rfl,rfl,?_⟩⟩) (λhc R h=>⟨_,rfl,a,C1,dx,fs,_,rfl,a1,a2,a4,a6,_,rfl,ca,ka,p.2,xs,rfl,a9,⟨kvs,hk,ek⟩,λj hj=>?_,hl,h⟩) k
   .rw[<-YR];exact zM.of a9
   .rw[zc];exact List.length_pos_iff.mpr hne
   .obtain⟨j,hj,rfl⟩:=Wg.mp hm';have h1:=hmax' (Int.ofNat m) (Wg.mpr ⟨m,hm,rfl⟩);have h2:=hmax j hj;have h1':(m:Int)<=(j:Int):=h1;have:j=m:=by omega
    subst this;rw[ek.1];show R (.bl (decide (((j:Nat):Int)<((xs.length:Nat):Int)))) _;rw[show decide (((j:Nat):Int)<((xs.length:Nat):Int))=decide (j<xs.length) by rw[Wk];exact Int.ofNat_lt];exact h
   .have:=hmax j hj;have:=Wm hc;omega
def zNY (K:Qf):Sp:=λvs H Q _=>∃ (pa ka:Addr) (ps:List (Nat×List Nat)) (xs:List (Nat×Nat)),vs=[.ref pa,.ref ka]/\zBd K H pa ps/\zo (RKd K) H ka xs/\(∀ p∈ps,p.2.length<10000)/\Q (.bl (ZX xs ps)) H
theorem zMB:zO ["paintings","kinds","painting"] ["paintings","kinds"] (zI zAv):=yG (by decide +kernel)
theorem zQM(D:zW K mg "are_paintings" zAv ["paintings","kinds"])(OI:Ok P w K mg base 2 "is_painting" ["painting","kinds"] (zNX K))(g1:yt mg "MOST_PAINTINGS" 256)(ml:mg "len" = none):Ok P w K mg base 3 "are_paintings" ["paintings","kinds"] (zNY K):=by
 refine D.ok zMB (λvs H Q E h=>?_) (λf cdv A outer s H vs Q E hr h=>?_)
 .obtain⟨pa,ka,ps,xs,rfl,_⟩:=h;rfl
 .obtain⟨pa,ka,ps,xs,rfl,⟨pvs,hp,ep⟩,LK,hlen,k⟩:=h
  refine⟨_,zD (zm (zj Zx (yE ml (zA (pv 0) zC)) (ZA g1) (zY _)) (zE (zS yk)) zZ)
   (zD (yI Wz rfl (ZF (pv 0)) (zV (i:=2) zMB.nd rfl (Or.inl rfl))
    (zE (zm (Zi (yT (zT OI hr (zA (pv 2) (zA (pv 1) zC))))) (zE (zS yk)) zZ)))
   (zE (zS yk))),?_⟩
  refine⟨_,rfl,pa,_,rfl,.inl (zM.of hp),_,_,rfl,rfl,_,rfl,zp (λhb=>?_) λhb=>?_⟩
  .have:=Wm hb;rw[ep.1] at this;refine ZB k ?_;unfold ZX;rw[WB (by omega),V5]
  .have h256:=Wo hb;rw[ep.1] at h256;refine⟨_,rfl,pa,rfl,⟨_,zM.of hp⟩,Y5 (K:=K) (a:=pa) (xs:=pvs) (λi σ H'=>∃ v:Option V,σ=[some (.ref pa),some (.ref ka),v]/\H'=H/\(ps.take i).all (zAF xs)=true) ⟨none,rfl,rfl,rfl⟩ (λi σ H' _ hh=>hh.elim λ_ hh=>by rw[hh.2.1];exact zM.of hp) ?_ ?_⟩
   .rintro i y σ H' hi ⟨v,rfl,rfl,ha⟩;obtain⟨p,hip,r⟩:=ep.get' hi;refine⟨_,rfl,_,rfl,y,ka,pa,p,xs,rfl,r,LK,hlen p (ZZ hip),_,rfl,zp (λhb=>?_) λhb=>?_⟩
    .rw[Wq] at hb;refine ZB k ?_;unfold ZX;rw[zBK hip hb,XA]
    .rw[Wu] at hb;exact⟨_,rfl,rfl,zAi ha hip hb⟩
   .rintro σ H' ⟨v,rfl,rfl,ha⟩;rw[ep.1,WY] at ha;refine ZB k ?_;unfold ZX;rw[ha,WJ (by omega)];rfl
end
structure zKq(K:Qf)(mg:Qm)(C:Addr):Prop where
 cl:Y8 K C
 n0:zl K C "area"
 n1:zl K C "coats"
 mgC:mg "Piece" = some (.ref C)
theorem zPB{K:Qf}{h:Heap}{mg:Qm}{C:Addr}(X:K.In h)(G:h.Ns mainGlobals mg)(aC:PySem.W.nsIn K mainGlobals "Piece" = some (some (.ref C)))
  (pg:PySem.W.plainGet K C Str.empty=true)(hd:PySem.W.hasDictIn K C=true)(po:PySem.W.plainOver K C=true)(sa:PySem.W.findIn K (.ref C) "__setattr__" = some (some (.builtin "object.__setattr__")))
  (n0:PySem.W.findIn K (.ref C) "area" = some none)(n1:PySem.W.findIn K (.ref C) "coats" = some none):zKq K mg C:=⟨⟨pg,hd,po,sa⟩,n0,n1,Vb X G aC⟩
def RPc (K:Qf)(L:Addr):Hp->V->Gla.Fired->Prop:=λH v x=>∃ a C dx fs ca,v=.ref a/\H a=some (.ins C dx fs)/\Y8 K C/\zl K C "area"/\zl K C "coats"/\fs.lookup ("area" : Str)=some (.int (x.area:Int))/\fs.lookup ("coats" : Str)=some (.ref ca)/\a≠L/\ca≠L/\H ca=some (.lst (zu x.coats))
theorem zNZ{K:Qf}{L:Addr}{H H':Hp}{v:V}{x:Gla.Fired}(s:YU L H H')(r:RPc K L H v x):RPc K L H' v x:=
 let ⟨a,C,dx,fs,ca,e1,e2,e3,e4,e5,e6,e7,n1,n2,e8⟩:=r;⟨a,C,dx,fs,ca,e1,s _ _ n1 e2,e3,e4,e5,e6,e7,n1,n2,s _ _ n2 e8⟩
def YM (K:Qf)(H:Hp)(q:Addr)(ps:List Gla.Fired):Prop:=∃ vs,H q=some (.lst vs)/\Zc (RPc K q) H vs ps
theorem YM.same{K:Qf}{H H':Hp}{q:Addr}{ps:List Gla.Fired}(h:YM K H q ps)(s:zH H H'):YM K H' q ps:=let ⟨vs,e,z⟩:=h;⟨vs,s _ _ e,z.mono λ_ _ r=>zNZ (YU.of s) r⟩
theorem zIs{α:Type}{g:Nat->α->Bool}{l:List α}{i:Nat}{x:α}(h:∀ j y,j<i->l[j]?=some y->g j y=false)(hx:l[i]?=some x)(hg:g i x=true):Gla.firstAt g l=some i:=by
 have e:=Zg (g:=g) (f:=λi=>((i:Int),0)) (k:=0) (λj y hj hy=>by rw[WC];exact h j y hj hy) hx (by rw[WC];exact hg);rw[zAn,WC] at e;cases q:Gla.firstAt g l with
|none=>rw[q] at e;cases e
|some j=>
  rw[q,VW] at e;injection e with e
  injection e with e _
  have:j=i:=by omega
  rw[this]
theorem zKr{α:Type}{g:Nat->α->Bool}{l:List α}(h:∀ j y,l[j]?=some y->g j y=false):Gla.firstAt g l=none:=by
 have e:=Zh (g:=g) (f:=λi=>((i:Int),0)) (k:=0) (l:=l) (λj y hy=>by rw[WC];exact h j y hy);rw[zAn] at e;exact WW.mp e
def zAK (n:Nat)(S:Gla.Plan):Option Nat:=Gla.firstAt (λ(_:Nat) (m:Gla.Mark)=>decide (n<m.painting)) S.marks
theorem zG9{m:Nat}:∀ {xs:List Nat}{a:Nat},a<=m->(∀ y∈xs,y<=m)->(a=m\/m∈xs)->xs.foldl max a=m
|[],a,_,_,h=>h.elim id λz=>by cases z
|x::xs,a,ha,hy,h=>by
  rw[Vp];have hx:=hy x Wt;refine zG9 (by omega) (λy h'=>hy y (We _ h')) ?_;rcases h with e|h
  .left;omega
  .rcases Wc.mp h with e|h
   .left;omega
   .right;exact h
theorem zF5{m:Nat}:∀ {xs:List Nat}{a:Nat},m<=a->(∀ y∈xs,m<=y)->(a=m\/m∈xs)->xs.foldl min a=m
|[],a,_,_,h=>h.elim id λz=>by cases z
|x::xs,a,ha,hy,h=>by
  rw[Vp];have hx:=hy x Wt;refine zF5 (by omega) (λy h'=>hy y (We _ h')) ?_;rcases h with e|h
  .left;omega
  .rcases Wc.mp h with e|h
   .left;omega
   .right;exact h
theorem zJj{xs:List Nat}{m n:Nat}(h1:m∈xs)(h2:∀ y∈xs,y<=m)(h3:n∈xs)(h4:∀ y∈xs,n<=y):((m:Int)-(n:Int))=((Gla.span xs:Nat):Int):=by
 unfold Gla.span
 have hh:n<=xs.headD 0:=by
  cases xs with
 |nil=>cases h1
 |cons a r=>exact h4 a Wt
 rw[zG9 (WH _) h2 (.inr h1),zF5 hh h4 (.inr h3)];have:=h2 n h3;omega
section
variable {P:Program}{w:World}{K:Qf}{mg:Qm}{base:Heap}{C:Addr}
theorem zKs:zO ["self","area","coats"] ["self","area","coats"] (zI zCL):=yG (by decide +kernel)
theorem zKt{C:Addr}(D:ZC K C "Piece.__init__" zCL ["self","area","coats"])(T:zKq K mg C):zAD P w K mg base 1 C ["self","area","coats"] (zAU C "area" "coats"):=by
 refine D.ok zKs (λvs H Q E h=>?_) (λf cdv A outer s H vs Q E hr h=>?_)
 .obtain⟨p,dx,v1,v2,rfl,_⟩:=h;rfl
 .obtain⟨p,dx,v1,v2,rfl,hp,k⟩:=h;refine⟨_,zD (ZG (pv 0) (pv 1) rfl) (zE (ZG (pv 0) (pv 2) rfl)),?_⟩;refine⟨_,rfl,_,rfl,p,C,dx,_,rfl,hp,T.cl,T.n0,(by show 0<1000;decide),?_⟩;refine⟨_,rfl,_,rfl,p,C,dx,_,rfl,zF,T.cl,T.n1,yU (yS (n:=1) (by show 0<1;decide)) (by decide),?_⟩;exact k _ zF λb o e hb=>by rw[zG hb,zG hb];exact e
theorem zIR{S:Gla.Plan}{i:Nat}{x:List Nat×Int}(h:(zAW S)[i]?=some x):∃ m,S.marks[i]?=some m/\x=((S.among S.outlines m.at_).getD [],(m.painting:Int)):=yz h
def zNa (K:Qf):Sp:=λvs H Q _=>∃ (qa pa:Addr) (S:Gla.Plan) (ps:List (Nat×List Nat)),vs=[.ref qa,.ref pa]/\zKg K S H qa/\zBd K H pa ps/\∀ H',zH H H'->Q (.int (zDn (zAK ps.length S))) H'
theorem zIS:zO ["panes","paintings","number","pane"] ["panes","paintings"] (zI Z5):=yG (by decide +kernel)
theorem zQN(D:zW K mg "first_without_painting" Z5 ["panes","paintings"])(gN:yt mg "NO_PANE" (-1))(me:mg "enumerate" = none)(ml:mg "len" = none):Ok P w K mg base 1 "first_without_painting" ["panes","paintings"] (zNa K):=by
 refine D.ok zIS (λvs H Q E h=>?_) (λf cdv A outer s H vs Q E hr h=>?_)
 .obtain⟨qa,pa,S,ps,rfl,_⟩:=h;rfl
 .obtain⟨qa,pa,S,ps,rfl,⟨qvs,hq,eq⟩,⟨pvs,hp,ep⟩,k⟩:=h
  refine⟨_,zD (yI Wz rfl (YW rfl me (zA (pv 0) zC)) (YG rfl (zw (zV (i:=2) zIS.nd rfl (Or.inl rfl)) (zw (zV (i:=3) zIS.nd rfl (Or.inl rfl)) Zl)))
    (zE (zm (zj Zx (zQ (pv 3) rfl) (yE ml (zA (pv 1) zC)) (zY _)) (zE (zS (pv 2))) zZ)))
   (zE (zS (ZA gN))),?_⟩
  refine⟨_,rfl,qa,qvs,rfl,zM.of hq,Z3 (K:=K) (a:=qa) (xs:=qvs) (λi σ H'=>∃ v2 v3:Option V,σ=[some (.ref qa),some (.ref pa),v2,v3]/\zH H H'/\∀ (j:Nat) (m:Gla.Mark),j<i->S.marks[j]?=some m->decide (ps.length<m.painting)=false)
   ⟨none,none,rfl,zH.refl H,λj z hj=>absurd hj (W9 _)⟩ (λi σ H' _ hh=>hh.elim λ_ hh=>hh.elim λ_ hh=>zM.of (hh.2.1 _ _ hq)) ?_ ?_⟩
  .rintro i y σ H' T hi ⟨v2,v3,rfl,s1,hno⟩ hT;have s2:zH H (upd H' T (.tup [.int (i:Nat),y])):=zR s1 hT;obtain⟨x,hix,r⟩:=eq.get' hi;obtain⟨m,him,rfl⟩:=zIR hix;obtain⟨a,C1,dx,fs,ca,rfl,a1,a2,a3,a4,a5,a6,a7⟩:=r;refine⟨T,_,rfl,yH.of zF,rfl,_,_,rfl,_,_,rfl,rfl,?_⟩;refine⟨_,rfl,a,C1,dx,fs,_,rfl,s2 _ _ a1,a2,a4,a6,_,rfl,pa,_,rfl,.inl (zM.of (s2 _ _ hp)),_,_,rfl,rfl,_,rfl,?_⟩;rw[ep.1,show decide (((ps.length:Nat):Int)<((m.painting:Nat):Int))=decide (ps.length<m.painting) by rw[Wk];exact Int.ofNat_lt];refine zp (λhb=>?_) λhb=>?_
   .have e:zAK ps.length S=some i:=zIs (g:=λ(_:Nat) (m:Gla.Mark)=>decide (ps.length<m.painting)) hno him hb;rw[e] at k;exact⟨_,rfl,k _ s2⟩
   .refine⟨_,_,rfl,s2,λj z hj hz=>?_⟩;by_cases e:j=i
    .subst e;rw[him] at hz;cases hz;exact hb
    .exact hno j z (by omega) hz
  .rintro σ H' ⟨v2,v3,rfl,s1,hno⟩
   have e:zAK ps.length S=none:=zKr (g:=λ(_:Nat) (m:Gla.Mark)=>decide (ps.length<m.painting)) λj m hm=>hno j m (by
    rw[eq.1,show (zAW S).length=S.marks.length from zc ..];exact (yQ hm).1) hm
   rw[e] at k;exact k _ s1
def zNb (K:Qf):Sp:=λvs H Q _=>∃ (ca:Addr) (S:Gla.Plan) (l:List Nat),vs=[.ref ca]/\zo (Z6 K) H ca (ZR S l)/\l≠[]/\l.length<100000/\Yc S/\(∀ j∈l,j<S.pts.length)/\∀ H',zH H H'->Q (.int ((Gla.sizeOfPane S (some l):Nat):Int)) H'
theorem zEV:zO ["corners","across","upward","corner"] ["corners"] (zI zAC):=yG (by decide +kernel)
theorem zQO(D:zW K mg "blank_area" zAC ["corners"])(mx:mg "max" = none)(mn:mg "min" = none):Ok P w K mg base 1 "blank_area" ["corners"] (zNb K):=by
 refine D.ok zEV (λvs H Q E h=>?_) (λf cdv A outer s H vs Q E hr h=>?_)
 .obtain⟨ca,S,l,rfl,_⟩:=h;rfl
 .obtain⟨ca,S,l,rfl,⟨cvs,hc,ec⟩,hne,hl,B,hlt,k⟩:=h;have hcl:(ZR S l).length=l.length:=by unfold ZR;rw[zc,zc]
  refine⟨_,zD (Yj (i:=1) (own:=[("corner",3)]) rfl zEV.nd rfl rfl rfl (ZF (pv 0)) (ZM (show zAL ["corners","across","upward","corner"] (zI zAC) _ _=true by decide +kernel))
    (λ_ _ _ _ _=>zV (i:=3) zEV.nd rfl (Or.inl rfl)) (λ_ _ _ _ _=>Zm) (λ_ _ _ _ _=>zBP K (pv 3)))
   (zD (Yj (i:=2) (own:=[("corner",3)]) rfl zEV.nd rfl rfl rfl (ZF (pv 0)) (ZM (show zAL ["corners","across","upward","corner"] (zI zAC) _ _=true by decide +kernel))
    (λ_ _ _ _ _=>zV (i:=3) zEV.nd rfl (Or.inl rfl)) (λ_ _ _ _ _=>Zm) (λ_ _ _ _ _=>zBP K (pv 3)))
   (zE (zS (zi YH (zi ZL (ZU (zHb rfl) rfl mx Xh (zA (pv 1) zC)) (ZU (zLE rfl) rfl mn XC (zA (pv 1) zC))) (zi ZL (ZU (zHb rfl) rfl mx Xh (zA (pv 2) zC)) (ZU (zLE rfl) rfl mn XC (zA (pv 2) zC))))))),?_⟩
  have len1:∀ (g:Nat->Nat) (i:Nat),i<cvs.length->(zu ((l.map g).take i)).length<sizeLine:=λg i hi=>by
   rw[z9,Wy];exact Yp (VN _ _) (yU (by rw[ec.1,hcl] at hi;omega:i<100000) (by decide))
  have one:∀ {i:Nat}{y:V}{Hx:Hp},cvs[i]?=some y->zH H Hx->∃ (j:Nat) (b:Addr),l[i]?=some j/\y=.ref b/\XY K Hx b (zq (S.pt j)):=λ{i y Hx} hi sx=>by
   obtain⟨p,hip,b,rfl,X⟩:=ec.get' hi;unfold ZR at hip;rw[VH] at hip;obtain⟨j,hj,rfl⟩:=yz hip;exact⟨j,b,hj,rfl,X.same sx⟩
  refine⟨_,rfl,ca,rfl,⟨_,zM.of hc⟩,λL1 n1=>?_⟩;refine Yv (K:=K) (a:=ca) (xs:=cvs) (λi H'=>zH H H'/\H' L1=some (.lst (zu ((l.map λj=>(S.pt j).x).take i)))) ⟨zR (zH.refl H) n1,zF⟩ (λi H' _ hh=>zM.of (hh.1 _ _ hc)) ?_ ?_
  .rintro i y H' hi ⟨s1,e1⟩;obtain⟨j,b,hj,rfl,X⟩:=one hi s1;obtain⟨C1,d1,f1,a1,a2,a3,a4,a5,a6⟩:=id X;refine⟨rfl,?_⟩;refine⟨_,rfl,b,C1,d1,_,_,rfl,a1,a2,a3,a5,_,e1,len1 _ i (yQ hi).1,λb' o' eb=>?_,?_⟩
   .rw[zG (zN eb n1)];exact s1 _ _ eb
   .rw[zF,yB (map_some (f:=λj=>(S.pt j).x) hj)];unfold zu;rw[Ww];rfl
  rintro H1 ⟨s1,e1⟩;rw[Ws (by rw[zc,ec.1,hcl];exact Wd _)] at e1;refine⟨_,rfl,ca,rfl,⟨_,zM.of (s1 _ _ hc)⟩,λL2' n2=>?_⟩;refine Yv (K:=K) (a:=ca) (xs:=cvs) (λi H'=>zH H1 H'/\H' L2'=some (.lst (zu ((l.map λj=>(S.pt j).y).take i)))) ⟨zR (zH.refl H1) n2,zF⟩ (λi H' _ hh=>zM.of (hh.1 _ _ (s1 _ _ hc))) ?_ ?_
  .rintro i y H' hi ⟨s2,e2⟩;obtain⟨j,b,hj,rfl,X⟩:=one hi (s1.trans s2);obtain⟨C1,d1,f1,a1,a2,a3,a4,a5,a6⟩:=id X;refine⟨rfl,?_⟩;refine⟨_,rfl,b,C1,d1,_,_,rfl,a1,a2,a4,a6,_,e2,len1 _ i (yQ hi).1,λb' o' eb=>?_,?_⟩
   .rw[zG (zN eb n2)];exact s2 _ _ eb
   .rw[zF,yB (map_some (f:=λj=>(S.pt j).y) hj)];unfold zu;rw[Ww];rfl
  rintro H2 ⟨s2,e2⟩;rw[Ws (by rw[zc,ec.1,hcl];exact Wd _)] at e2;have e12:=s2 _ _ e1;have pos:∀ g:Nat->Nat,0<((l.map g).map Int.ofNat).length:=λg=>by rw[zc,zc];exact List.length_pos_iff.mpr hne
  have sq1:zM K H2 L1 (((l.map λj=>(S.pt j).x).map Int.ofNat).map V.int):=by rw[<-YR];exact zM.of e12
  have sq2:zM K H2 L2' (((l.map λj=>(S.pt j).y).map Int.ofNat).map V.int):=by rw[<-YR];exact zM.of e2
  have bd:∀ j∈l,(S.pt j).x<=1048576/\(S.pt j).y<=1048576:=λj hj=>B.sm _ (zCY (hlt j hj)).2
  refine⟨_,rfl,L1,_,rfl,sq1,pos _,λm1 hm1 hM1=>⟨_,rfl,L1,_,rfl,sq1,pos _,λm2 hm2 hM2=>⟨_,_,rfl,rfl,?_⟩⟩⟩;refine⟨_,rfl,L2',_,rfl,sq2,pos _,λm3 hm3 hM3=>⟨_,rfl,L2',_,rfl,sq2,pos _,λm4 hm4 hM4=>⟨_,_,rfl,rfl,_,_,rfl,rfl,?_⟩⟩⟩;obtain⟨x1,hx1,rfl⟩:=Wg.mp hm1;obtain⟨x2,hx2,rfl⟩:=Wg.mp hm2;obtain⟨x3,hx3,rfl⟩:=Wg.mp hm3;obtain⟨x4,hx4,rfl⟩:=Wg.mp hm4;have up:∀ {xs:List Nat}{x:Nat},(∀ y∈xs.map Int.ofNat,y<=Int.ofNat x)->∀ y∈xs,y<=x:=λ{xs x} h y hy=>Xy.mp (h _ (Wg.mpr ⟨y,hy,rfl⟩))
  have dn:∀ {xs:List Nat}{x:Nat},(∀ y∈xs.map Int.ofNat,Int.ofNat x<=y)->∀ y∈xs,x<=y:=λ{xs x} h y hy=>Xy.mp (h _ (Wg.mpr ⟨y,hy,rfl⟩))
  have q1:=zJj hx1 (up hM1) hx2 (dn hM2);have q2:=zJj hx3 (up hM3) hx4 (dn hM4);refine⟨.inl ?_,?_⟩
  .show -(2^64)<((x1:Int)-(x2:Int))/\((x1:Int)-(x2:Int))<2^64;obtain⟨j1,hj1,rfl⟩:=Wg.mp hx1;obtain⟨j2,hj2,rfl⟩:=Wg.mp hx2;have b1:=bd j1 hj1;have b2:=bd j2 hj2;omega
  .refine zPj (k _ (s1.trans s2)) ?_;show _=((x1:Int)-(x2:Int))*((x3:Int)-(x4:Int))
   rw[q1,q2];unfold Gla.sizeOfPane Gla.blankOf;dsimp only[Option.getD];rw[Nat.mul_zero,XV,XV,Xd]
def zDP (ps:List (Nat×List Nat))(m:Nat):List Nat:=if m=0 then [] else (ps.getD (m-1) (0,[])).2
def zNc (K:Qf):Sp:=λvs H Q _=>∃ (v:V) (pa:Addr) (S:Gla.Plan) (Hc H0:Hp) (x:List Nat×Int) (m:Nat) (ps:List (Nat×List Nat)),vs=[v,.ref pa]/\RPn K S Hc H v x/\x.2=(m:Int)/\zH H0 H/\zBd K H0 pa ps/\m<=ps.length/\∀ H' ca,zH H H'->H' ca=some (.lst (zu (zDP ps m)))->(H ca=none\/∃ o,H0 ca=some o)->Q (.ref ca) H'
theorem zQP:zO ["pane","paintings"] ["pane","paintings"] (zI zDe):=yG (by decide +kernel)
theorem zQQ(D:zW K mg "coats_of" zDe ["pane","paintings"]):Ok P w K mg base 1 "coats_of" ["pane","paintings"] (zNc K):=by
 refine D.ok zQP (λvs H Q E h=>?_) (λf cdv A outer s H vs Q E hr h=>?_)
 .obtain⟨v,pa,S,Hc,H0,x,m,ps,rfl,_⟩:=h;rfl
 .obtain⟨v,pa,S,Hc,H0,x,m,ps,rfl,⟨a,C1,dx,fs,ca,rfl,a1,a2,a3,a4,a5,a6,a7⟩,hx,s0,⟨pvs,hp,ep⟩,hm,k⟩:=h;rw[hx] at a6
  refine⟨_,zD (zm (zj zAX (zQ (pv 0) rfl) zJ (zY _)) (zE (zS (yd zC))) zZ)
   (zE (zS (zQ (zf za (pv 1) (zi ZL (zQ (pv 0) rfl) zJ) (λ_ _=>rfl)) rfl))),?_⟩
  refine⟨_,rfl,a,C1,dx,fs,_,rfl,a1,a2,a4,a6,rfl,_,rfl,?_⟩;rw[deq];refine zp (λhb=>?_) λhb=>?_
  .have h0:m=0:=by have:=Wm hb;omega
   refine⟨WH _,λq nq=>k _ q (zR (zH.refl H) nq) ?_ (.inl nq)⟩;rw[zF];unfold zDP;rw[Wb h0];rfl
  .have h0:m≠0:=by have:=Wo hb;omega
   have hlt:m-1<ps.length:=by omega
   have e:=yW hlt;obtain⟨v,hv,b,C2,d2,f2,cb,rfl,c1,c2,c3,c4,c5,c6,c7,c8,c9⟩:=ep.get e;refine⟨_,rfl,_,rfl,a,C1,dx,fs,_,rfl,a1,a2,a4,a6,_,_,rfl,rfl,pa,_,_,_,rfl,rfl,zM.of (s0 _ _ hp),y9 (j:=m-1) (by omega) hv,b,C2,d2,f2,_,rfl,s0 _ _ c1,c2,c4,c6,k _ cb (zH.refl H) ?_ (.inr ⟨_,c9⟩)⟩;rw[s0 _ _ c9];unfold zDP;rw[Wa h0,Wi,e];rfl
def Z9 (S:Gla.Plan)(cs:List Gla.Coats):List Gla.Fired:=S.marks.map λm=>⟨Gla.sizeOfPane S (S.among S.outlines m.at_),Gla.coatsOf cs m⟩
theorem zM8(S:Gla.Plan)(cs:List Gla.Coats):Z9 S cs=Gla.firedOf cs S:=by
 unfold Z9 Gla.firedOf Gla.Plan.panes;dsimp only;generalize S.marks=l
 induction l with
|nil=>rfl
|cons m r ih=>
  rw[Wj,Wj,X5,Wj,ih]
theorem zM9{ps:List (Nat×List Nat)}{m:Gla.Mark}:zDP ps m.painting=Gla.coatsOf (ps.map Prod.snd) m:=by
 unfold zDP Gla.coatsOf;split
 .rfl
 .rw[Wi,Wi,WQ];cases ps[m.painting-1]? <;> rfl
def zNd (K:Qf):Sp:=λvs H Q _=>∃ (qa pa:Addr) (S:Gla.Plan) (ps:List (Nat×List Nat)),vs=[.ref qa,.ref pa]/\zNS K S H qa/\zBd K H pa ps/\(∀ m∈S.marks,m.painting<=ps.length)/\∀ H' q,zH H H'->YM K H' q (Z9 S (ps.map Prod.snd))->Q (.ref q) H'
theorem zIT:zO ["panes","paintings","pane"] ["panes","paintings"] (zI zBY):=yG (by decide +kernel)
theorem zQR(D:zW K mg "pieces_of" zBY ["panes","paintings"])(OB:Ok P w K mg base 1 "blank_area" ["corners"] (zNb K))(OC:Ok P w K mg base 1 "coats_of" ["pane","paintings"] (zNc K))(M:zAD P w K mg base 1 C ["self","area","coats"] (zAU C "area" "coats"))(T:zKq K mg C) :
  Ok P w K mg base 3 "pieces_of" ["panes","paintings"] (zNd K):=by
 refine D.ok zIT (λvs H Q E h=>?_) (λf cdv A outer s H vs Q E hr h=>?_)
 .obtain⟨qa,pa,S,ps,rfl,_⟩:=h;rfl
 .obtain⟨qa,pa,S,ps,rfl,⟨⟨qvs,hq,eq⟩,B,O,cl⟩,PA,hmp,k⟩:=h;have hr1:zt 1 _:=hr.mono (by decide)
  refine⟨_,zE (zS (zFa (own:=[("pane",2)]) rfl zIT.nd (ZF (pv 0)) (ZM (show zAL ["panes","paintings","pane"] (zI zBY) _ _=true by decide +kernel))
   (λ_ _ _ _ _=>zV (i:=2) zIT.nd rfl (Or.inl rfl)) (λ_ _ _ _ _=>Zm) (λ_ _ _ _ _=>zBn M hr T.mgC (zA (zT OB hr1 (zA (zBP K (pv 2)) zC)) (zA (zT OC hr1 (zA (pv 2) (zA (pv 1) zC))) zC))))),?_⟩
  refine⟨_,rfl,qa,rfl,⟨_,zM.of hq⟩,λL nL=>?_⟩;refine Yv (K:=K) (a:=qa) (xs:=qvs) (λi H'=>zH H H'/\YM K H' L ((Z9 S (ps.map Prod.snd)).take i)) ⟨zR (zH.refl H) nL,_,zF,Zc.nil⟩ (λi H' _ hh=>zM.of (hh.1 _ _ hq)) ?_ ?_
  .rintro i y H' hi ⟨s1,vs,ev,qv⟩;obtain⟨x,hix,r⟩:=eq.get' hi;obtain⟨m,him,rfl⟩:=zIR hix;have hmm:=ZZ him;obtain⟨a,C1,dx,fs,ca,rfl,a1,a2,a3,a4,a5,a6,a7⟩:=r;obtain⟨ix,l,w1,w2,w3,w4,w5⟩:=Kt.zJH O (cl m hmm);rw[w4] at a7;obtain⟨l1,l2,l3⟩:=zNQ O (ZZ w1);refine⟨rfl,?_⟩;refine⟨_,rfl,a,C1,dx,fs,_,rfl,s1 _ _ a1,a2,a3,a5,ca,S,l,rfl,zo.same zB4 a7 s1,λe=>by rw[e] at l3;exact absurd l3 (by decide),by have:=B.m;omega,B,l1,λH2 s2=>?_⟩;have s12:=s1.trans s2;refine⟨_,rfl,_,rfl,.ref a,pa,S,H,H,((S.among S.outlines m.at_).getD [],(m.painting:Int)),m.painting,ps,rfl,⟨a,C1,dx,fs,ca,rfl,s12 _ _ a1,a2,a3,a4,a5,a6,by rw[w4];exact a7⟩,rfl,s12,PA,hmp m hmm,λH3 cb s3 hcb hw=>?_⟩;intro o dx' no ndx nex;have ev2:=s2 _ _ ev;have ev3:=s3 _ _ ev2
   have cbL:cb≠L:=by
    rcases hw with h|⟨o',h⟩
    .exact λe=>by rw[e,ev2] at h;cases h
    .exact λe=>by rw[e,nL] at h;cases h
   have oL:o≠L:=λe=>by rw[e,ev3] at no;cases no
   refine⟨o,dx',_,_,rfl,zF,λH4 hx k1=>⟨rfl,vs,?_,?_,λb ob eb=>?_,?_⟩⟩
   .exact (zH.made no ndx k1) _ _ ev3
   .rw[qv.1,Wy];exact Yp (VN _ _) (yU (Vy (yQ him).1 B.k) (by decide))
   .rw[zG (zN eb nL)];exact (zH.made no ndx k1) _ _ (s3 _ _ (s12 _ _ eb))
   .have s4:zH H' H4:=(s2.trans s3).trans (zH.made no ndx k1)
    have hfi:(Z9 S (ps.map Prod.snd))[i]?=some ⟨Gla.sizeOfPane S (some l),zDP ps m.painting⟩:=by
     unfold Z9;rw[WQ,him,VW,w4,zM9]
    rw[yB hfi];refine⟨_,zF,(qv.mono λv x r=>zNZ ((YU.of s4).trans YU.upd) r).snoc ⟨o,C,dx',_,cb,rfl,?_,T.cl,T.n0,T.n1,zEK (by decide),zFw,oL,cbL,?_⟩⟩
    .rw[zG oL];exact hx
    .rw[zG cbL];exact (zH.made no ndx k1) _ _ hcb
  .rintro H' ⟨s1,PC⟩;rw[eq.1,show (zAW S).length=(Z9 S (ps.map Prod.snd)).length by unfold zAW Z9;rw[zc,zc],WY] at PC;exact k _ _ s1 PC
end
structure zIU(K:Qf)(mg:Qm)(C:Addr):Prop where
 cl:Y8 K C
 n0:zl K C "kinds"
 n1:zl K C "pieces"
 n2:zl K C "refusal"
 mgC:mg "Work" = some (.ref C)
theorem zPC{K:Qf}{h:Heap}{mg:Qm}{C:Addr}(X:K.In h)(G:h.Ns mainGlobals mg)(aC:PySem.W.nsIn K mainGlobals "Work" = some (some (.ref C)))
  (pg:PySem.W.plainGet K C Str.empty=true)(hd:PySem.W.hasDictIn K C=true)(po:PySem.W.plainOver K C=true)(sa:PySem.W.findIn K (.ref C) "__setattr__" = some (some (.builtin "object.__setattr__")))
  (n0:PySem.W.findIn K (.ref C) "kinds" = some none)(n1:PySem.W.findIn K (.ref C) "pieces" = some none)(n2:PySem.W.findIn K (.ref C) "refusal" = some none):zIU K mg C:=⟨⟨pg,hd,po,sa⟩,n0,n1,n2,Vb X G aC⟩
def OkQ (P:Program)(w:World)(K:Qf)(mg:Qm)(base:Heap)(k:Nat)(x:Str)(ps:List Str)(sp:Sp):Prop:=∃ f fd,Kq.FnQ P w K mg base CX0 k f fd ps sp/\mg x=some (.ref f)/\PySem.W.keepIn K (.ref f)=true/\ZK K fd ps []
def MkQ (P:Program)(w:World)(K:Qf)(mg:Qm)(base:Heap)(k:Nat)(C:Addr)(ps:List Str)(sp:Sp):Prop:=∃ f fd,Mk K C f/\Kq.FnQ P w K mg base CX0 k f fd ps sp/\ZK K fd ps []
section
variable {P:Program}{w:World}{K:Qf}{mg:Qm}{base:Heap}{C:Addr}{k:Nat}{x:Str}{ps:List Str}{sp:Sp}
theorem OkQ.ok(O:OkQ P w K mg base k x ps sp):Ok P w K mg base k x ps sp:=let ⟨f,fd,F,r⟩:=O;⟨f,fd,F.ok,r⟩
theorem MkQ.ok(O:MkQ P w K mg base k C ps sp):zAD P w K mg base k C ps sp:=let ⟨f,fd,M,F,b⟩:=O;⟨f,fd,M,F.ok,b⟩
theorem zKu:zO ["self","kinds","pieces","refusal"] ["self","kinds","pieces","refusal"] (zI zC4):=yG (by decide +kernel)
theorem zF6(D:ZC K C "Work.__init__" zC4 ["self","kinds","pieces","refusal"])(T:zIU K mg C):MkQ P w K mg base 1 C ["self","kinds","pieces","refusal"] (zEO C "kinds" "pieces" "refusal"):=by
 obtain⟨f,fd,M,D,b⟩:=D;obtain⟨oc,od,kV,doc,pm,an,cdv,ct,osl,efd,lk,hcd⟩:=D.ex;subst efd;refine⟨f,_,M,Kq.zPt lk hcd zKu (λvs H Q E h=>?_) (λA outer s H vs Q E hr h=>?_),b⟩
 .obtain⟨p,dx,v1,v2,v3,rfl,_⟩:=h;rfl
 .obtain⟨p,dx,v1,v2,v3,rfl,hp,k⟩:=h;refine⟨_,zD (ZG (pv 0) (pv 1) rfl) (zD (ZG (pv 0) (pv 2) rfl) (zE (ZG (pv 0) (pv 3) rfl))),?_⟩;refine⟨_,rfl,_,rfl,p,C,dx,_,rfl,hp,T.cl,T.n0,(by show 0<1000;decide),?_⟩;refine⟨_,rfl,_,rfl,p,C,dx,_,rfl,zF,T.cl,T.n1,yU (yS (n:=1) (by show 0<1;decide)) (by decide),?_⟩;refine⟨_,rfl,_,rfl,p,C,dx,_,rfl,zF,T.cl,T.n2,yU (yS (n:=2) (yS (n:=1) (by show 0<1;decide))) (by decide),?_⟩;exact k _ zF λb o e hb=>by rw[zG hb,zG hb,zG hb];exact e
def zQS (K:Qf)(H:Hp)(wk:Addr)(v1 v2 v3:V):Prop:=∃ C dx fs,H wk=some (.ins C dx fs)/\Y8 K C/\zl K C "kinds"/\zl K C "pieces"/\zl K C "refusal"/\fs.lookup ("kinds" : Str)=some v1/\fs.lookup ("pieces" : Str)=some v2/\fs.lookup ("refusal" : Str)=some v3
def zKv (K:Qf):Sp:=λvs H Q _=>∃ v:V,vs=[v]/\∀ (H':Hp) (wk ka pa:Addr),zH H H'->zQS K H' wk (.ref ka) (.ref pa) v->Q (.ref wk) H'
theorem zQT:zO ["numbers"] ["numbers"] (zI zEI):=yG (by decide +kernel)
theorem zQU(D:zW K mg "refused" zEI ["numbers"])(M:MkQ P w K mg base 1 C ["self","kinds","pieces","refusal"] (zEO C "kinds" "pieces" "refusal"))(T:zIU K mg C):OkQ P w K mg base 3 "refused" ["numbers"] (zKv K):=by
 obtain⟨f,fd,D⟩:=D;obtain⟨oc,od,kV,doc,pm,an,cdv,ct,osl,efd,lk,hcd⟩:=D.fn.ex;obtain⟨fi,fdi,Mi,Fi,bi⟩:=M;subst efd;refine⟨f,_,Kq.zPt lk hcd zQT (λvs H Q E h=>?_) (λA outer s H vs Q E hr h=>?_),D.at_,D.fn.kp,D.bi⟩
 .obtain⟨v,rfl,_⟩:=h;rfl
 .obtain⟨v,rfl,k⟩:=h;refine⟨_,zE (zS (Kq.zMk Mi Fi hr rfl T.mgC bi .nil zHL (zA (yd zC) (zA (yd zC) (zA (pv 0) zC))))),?_⟩;refine⟨WH _,λka nka=>⟨WH _,λpa npa=>⟨_,rfl,?_⟩⟩⟩;intro o dx no ndx nex;refine⟨o,dx,_,_,_,rfl,zF,λH4 hx k1=>⟨rfl,k _ o ka pa ?_ ?_⟩⟩
  .exact (zR (zR (zH.refl H) nka) npa).trans (zH.made no ndx k1)
  .exact⟨C,dx,_,hx,T.cl,T.n0,T.n1,T.n2,zH8 (by decide) (by decide),zH9 (by decide),zIA⟩
def zCb (kr pr:List Nat)(b:Gla.Bytes):Option (List Int):=if Zk kr=false then some [-1] else if ZX (Zo kr) (ZE pr)=false then some [-1] else match zAd b with
|some z=>some [-5,z.1,z.2]
|none=>match zAK (ZE pr).length (Gla.parts b) with
 |some i=>some [-3,(i:Int)]
 |none=>none
def WkR (K:Qf)(kr pr:List Nat)(b:Gla.Bytes)(H:Hp)(kq pq ra:Addr):Prop:=match zCb kr pr b with
|some l=>H ra=some (.lst (l.map V.int))
|none=>H ra=some (.lst [])/\zo (RKd K) H kq (Zo kr)/\YM K H pq (Z9 (Gla.parts b) ((ZE pr).map Prod.snd))/\Zk kr=true/\ZX (Zo kr) (ZE pr)=true/\zAd b=none
def zNe (K:Qf):Sp:=λvs H Q _=>∃ (ca ka pa:Addr) (b:Gla.Bytes) (kr pr:List Nat),vs=[.ref ca,.ref ka,.ref pa]/\zM K H ca ((bI b).map V.int)/\zM K H ka (zu kr)/\zM K H pa (zu pr)/\kr.length<10000/\pr.length<10000/\
 ∀ (H':Hp) (wk kq pq ra:Addr),zH H H'->zQS K H' wk (.ref kq) (.ref pq) (.ref ra)->WkR K kr pr b H' kq pq ra->Q (.ref wk) H'
theorem zIV:∀ (m:Nat) (l:List Nat),(∀ p∈zA3 m l,p.2.length<=l.length)
|0,_,p,hp=>by cases hp
|_+1,[],p,hp=>by cases hp
|m+1,n::l,p,hp=>by
  rcases Wc.mp (show p∈(n,l.take n)::zA3 m (l.drop n) from hp) with e|e
  .rw[e];simp only[Wy,WD];omega
  .have:=zIV m (l.drop n) p e;rw[VS] at this;rw[WD];omega
theorem zDQ:zO ["cartoon","kinds","paintings","known_kinds","known_paintings","panes","broken","unknown"] ["cartoon","kinds","paintings"] (zI zEJ):=yG (by decide +kernel)
theorem zQV{CX CW:Addr}(D:zW K mg "work_of" zEJ ["cartoon","kinds","paintings"])(R:XR P w K mg base CX)(OA:Ok P w K mg base 3 "are_kinds" ["row"] (zNV K))(OK:Ok P w K mg base 3 "kinds_of" ["row"] (zNW K))(OP:Ok P w K mg base 3 "paintings_of" ["row"] (zL9 K))(OPs:Ok P w K mg base 3 "are_paintings" ["paintings","kinds"] (zNY K))
  (OPn:Yf P w K mg base 7 "panes_of" ["data"] (zNT K CX))(OF:Ok P w K mg base 1 "first_without_painting" ["panes","paintings"] (zNa K))(OPc:Ok P w K mg base 3 "pieces_of" ["panes","paintings"] (zNd K))(OR:OkQ P w K mg base 3 "refused" ["numbers"] (zKv K))(M:MkQ P w K mg base 1 CW ["self","kinds","pieces","refusal"] (zEO CW "kinds" "pieces" "refusal"))(T:zIU K mg CW)(gN:yt mg "NO_PANE" (-1)) :
  Ok P w K mg base 8 "work_of" ["cartoon","kinds","paintings"] (zNe K):=by
 obtain⟨Nn,fI,fdI,TX,_⟩:=R;obtain⟨fp,fdp,Fp,mp,kp,bp⟩:=OPn;obtain⟨fr,fdr,Fr,mr,kr',br⟩:=id OR;refine D.ok zDQ (λvs H Q E h=>?_) (λf cdv A outer s H vs Q E hr h=>?_)
 .obtain⟨ca,ka,pa,b,kr,pr,rfl,_⟩:=h;rfl
 .obtain⟨ca,ka,pa,b,kr,pr,rfl,hC,hK,hP,lK,lP,k⟩:=h;have hr1:zt 1 _:=hr.mono (by decide);have hr2:zt 2 _:=hr.mono (by decide);have hr3:zt 3 _:=hr.mono (by decide)
  refine⟨_,zD (zm (Zi (yT (zT OA hr3 (zA (pv 1) zC)))) (zE (zS (zT OR.ok hr3 (zA (yd (zA (zHE zFU zJ) zC)) zC)))) zZ)
   (zD (zb (i:=3) zDQ.nd rfl (Or.inl rfl) (zT OK hr3 (zA (pv 1) zC)))
   (zD (zb (i:=4) zDQ.nd rfl (Or.inl rfl) (zT OP hr3 (zA (pv 2) zC)))
   (zD (zm (Zi (yT (zT OPs hr3 (zA (pv 4) (zA (pv 3) zC))))) (zE (zS (zT OR.ok hr3 (zA (yd (zA (zHE zFU zJ) zC)) zC)))) zZ)
   (zD (Kq.zOI (i:=6) TX rfl rfl rfl zDQ.nd rfl rfl rfl Fr (.of hr3) rfl mr kr' br (λE' xe' pn' hx=>zb (i:=5) zDQ.nd rfl (Or.inl rfl) (zGA Fp hr rfl mp kp bp .nil hx (zA (pv 0) zC))))
   (zD (zb (i:=7) zDQ.nd rfl (Or.inl rfl) (zT OF hr1 (zA (pv 5) (zA (pv 4) zC))))
   (zD (zm (zj zEX (pv 7) (ZA gN) (zY _)) (zE (zS (zT OR.ok hr3 (zA (yd (zA (zHE zFU zJ) (zA (pv 7) zC))) zC)))) zZ)
   (zE (zS (zBn M.ok hr2 T.mgC (zA (pv 3) (zA (zT OPc hr3 (zA (pv 5) (zA (pv 4) zC))) (zA (yd zC) zC)))))))))))),?_⟩
  have ref:∀ {Hx:Hp}{l:List Int}{q:Addr},zH H Hx->Hx q=none->zCb kr pr b=some l->zKv K [.ref q] (upd Hx q (.lst (l.map V.int))) Q E0:=λ{Hx l q} sx nq e=>by
   refine⟨.ref q,rfl,λH' wk ka' pa' s' W=>k H' wk ka' pa' q ((zR sx nq).trans s') W ?_⟩;unfold WkR;rw[e];exact s' _ _ zF
  refine⟨_,rfl,ka,kr,rfl,hK,lK,_,rfl,zp (λh1=>?_) λh1=>?_⟩
  .rw[Wq] at h1;exact⟨_,rfl,(by show 1<=sizeLine;decide),λq nq=>ref (zH.refl H) nq (l:=[-1]) (by unfold zCb;rw[Wb h1])⟩
  rw[Wu] at h1
  have h2:kr.length%2=0:=by
   unfold Zk at h1;rw[yZ,ym] at h1;exact h1.1
  refine⟨_,rfl,ka,kr,rfl,hK,lK,h2,λH1 kq s1 LK=>?_⟩;refine⟨_,rfl,pa,pr,rfl,s1.seq hP,lP,λH2 pq s2 PA=>?_⟩;have s12:=s1.trans s2;refine⟨_,rfl,_,rfl,pq,kq,ZE pr,Zo kr,rfl,PA,LK.same zDu s2,λp hp=>Yp (zIV _ _ p hp) lP,_,rfl,zp (λh3=>?_) λh3=>?_⟩
  .rw[Wq] at h3;exact⟨_,rfl,(by show 1<=sizeLine;decide),λq nq=>ref s12 nq (l:=[-1]) (by unfold zCb;rw[Wa (by rw[h1];decide),Wb h3])⟩
  rw[Wu] at h3;refine⟨_,rfl,ca,b,rfl,s12.seq hC,?_⟩;cases hp:zAd b with
 |some z=>
   intro H' dx s' e;refine⟨rfl,dx,z.1,z.2,rfl,e,λq nq=>?_⟩;exact ref (s12.trans s') nq (l:=[-5,z.1,z.2]) (by unfold zCb;rw[Wa (by rw[h1];decide),Wa (by rw[h3];decide),hp])
 |none=>
  intro H3 qp s3 PO;have s13:=s12.trans s3;refine⟨_,rfl,_,rfl,qp,pq,Gla.parts b,ZE pr,rfl,PO.at_,PA.same s3,λH4 s4=>?_⟩;have s14:=s13.trans s4;refine⟨_,rfl,rfl,_,rfl,?_⟩;rw[deq]
  have ew:zCb kr pr b=match zAK (ZE pr).length (Gla.parts b) with |some i=>some [-3,(i:Int)]|none=>none:=by
   unfold zCb;rw[Wa (by rw[h1];decide),Wa (by rw[h3];decide),hp]
  cases hn:zAK (ZE pr).length (Gla.parts b) with
 |some i=>
   rw[hn] at ew
   have en:(!decide (zDn (some i) = -1))=true:=by
    rw[Wq,Vu];show ¬ ((i:Int)) = -1;omega
   rw[en];exact zDW ⟨_,rfl,_,rfl,(by show 2<=sizeLine;decide),λq nq=>ref s14 nq (l:=[-3,(i:Int)]) ew⟩
 |none=>
   rw[hn] at ew
   have hmp:∀ m∈(Gla.parts b).marks,m.painting<=(ZE pr).length:=by
    intro m hm;obtain⟨i,hi⟩:=Vv hm;have:=Kt.ZH hn hi;have:=Wo this;omega
   refine zJ3 ⟨_,rfl,_,rfl,_,rfl,qp,pq,Gla.parts b,ZE pr,rfl,⟨?_,PO.B,PO.O,PO.cl⟩,(PA.same s3).same s4,hmp,λH5 cq s5 PC=>?_⟩
   .obtain⟨vs,e1,e2⟩:=PO.at_;exact⟨vs,s4 _ _ e1,e2.1,λj v x g1 g2=>let ⟨a,C1,dx,fs,c1,z1,z2,z3,z4,z5,z6,z7,z8⟩:=e2.2 j v x g1 g2;⟨a,C1,dx,fs,c1,z1,s4 _ _ z2,z3,z4,z5,z6,z7,zo.same zB4 z8 s4⟩⟩
   .refine⟨WH _,λra nra=>?_⟩;intro o dx no ndx nex;refine⟨o,dx,_,_,_,rfl,zF,λH6 hx k1=>⟨rfl,k H6 o kq cq ra ?_ ⟨CW,dx,_,hx,T.cl,T.n0,T.n1,T.n2,zH8 (by decide) (by decide),zH9 (by decide),zIA⟩ ?_⟩⟩
    .exact ((s14.trans s5).trans (zR (zH.refl H5) nra)).trans (zH.made no ndx k1)
    .have s56:zH H5 H6:=(zR (zH.refl H5) nra).trans (zH.made no ndx k1);unfold WkR;rw[ew];exact⟨(zH.made no ndx k1) _ _ zF,(LK.same zDu (((s2.trans s3).trans s4).trans s5)).same zDu s56,PC.same s56,h1,h3,hp⟩
end
def gk (xs:List (Nat×Nat)):List Gla.Kind:=xs.map λx=>⟨x.1,x.2⟩
def iL (l:List Nat):List Int:=l.map Int.ofNat
theorem zEx(n:Nat):KilnNeutral.nat (Int.ofNat n)=some n:=by
 have:=zPk (z:=Int.ofNat n) (V8 n);rw[this];rfl
theorem zIW:∀ (l:List Nat),∃ L,KilnNeutral.kinds (iL l)=some L/\(GlaKilns.Kinds.mk L [] |>.kinds.all Gla.Kind.ok)=(decide (l.length%2=0)&&(Zo l).all kB)/\(l.length%2=0->L=gk (Zo l))
|[]=>⟨[],rfl,rfl,λ_=>rfl⟩
|[a]=>⟨[⟨0,0⟩],rfl,rfl,λh=>absurd h (by simp)⟩
|a::b::r=>by
  obtain⟨L,h1,h2,h3⟩:=zIW r;refine⟨⟨a,b⟩::L,?_,?_,λh=>?_⟩
  .show (do
    let x <-KilnNeutral.kinds (iL r)
    return ⟨<-KilnNeutral.nat (Int.ofNat a),<-KilnNeutral.nat (Int.ofNat b)⟩::x:Option (List Gla.Kind))=_
   rw[h1,zEx,zEx];rfl
  .show (Gla.Kind.ok ⟨a,b⟩&&L.all Gla.Kind.ok)=(decide ((r.length+2)%2=0)&&(kB (a,b)&&(Zo r).all kB))
   have h2':L.all Gla.Kind.ok=(decide (r.length%2=0)&&(Zo r).all kB):=h2;rw[h2',show decide ((r.length+2)%2=0)=decide (r.length%2=0) by rw[Wk];omega]
   have hk:Gla.Kind.ok ⟨a,b⟩=kB (a,b):=by
    unfold Gla.Kind.ok kB YI Gla.within Gla.HOTTEST;rw[Wx];simp only[yZ,ym];omega
   rw[hk];cases kB (a,b) <;> cases decide (r.length%2=0) <;> rfl
  .rw[h3 (by simp at h;omega)];rfl
def cz (p:Nat×List Nat):List Nat:=if p.1<=p.2.length then p.2 else []
theorem zFQ:∀ (l:List Nat),(iL l).mapM KilnNeutral.nat=some l
|[]=>rfl
|a::l=>by
  show ((Int.ofNat a)::iL l).mapM KilnNeutral.nat=_;rw[List.mapM_cons,zEx,zFQ l];rfl
theorem zGc:∀ (m:Nat) (l:List Nat),∀ p∈zA3 m l,p.2.length<=p.1
|0,_,p,hp=>by cases hp
|_+1,[],p,hp=>by cases hp
|m+1,n::l,p,hp=>by
  rcases Wc.mp (show p∈(n,l.take n)::zA3 m (l.drop n) from hp) with e|e
  .rw[e,Wy];exact VN _ _
  .exact zGc m _ p e
theorem zIX:∀ (m:Nat) (l:List Nat),KilnNeutral.paintings m (iL l)=some ((zA3 m l).map cz)
|0,_=>rfl
|_+1,[]=>rfl
|m+1,n::l=>by
  show (if (Int.ofNat n)<0 then none else if ((iL l).length:Int)<Int.ofNat n then some [[]] else do
   let x <-((iL l).take (Int.ofNat n).toNat).mapM KilnNeutral.nat
   let r <-KilnNeutral.paintings m ((iL l).drop (Int.ofNat n).toNat)
   return x::r)=some (cz (n,l.take n)::(zA3 m (l.drop n)).map cz)
  have hl:(iL l).length=l.length:=zc ..;have hn:(Int.ofNat n).toNat=n:=rfl;rw[Wa (show ¬ (Int.ofNat n)<0 from Vt.mpr (V8 n)),hl,hn];by_cases h:l.length<n
  .rw[Wb (show ((l.length:Nat):Int)<Int.ofNat n from Int.ofNat_lt.mpr h)]
   have e1:cz (n,l.take n)=[]:=by
    unfold cz;rw[Wa (by rw[Wy];omega)]
   rw[e1,List.drop_eq_nil_of_le (Vz h),zM7];rfl
  .rw[Wa (show ¬ ((l.length:Nat):Int)<Int.ofNat n from λz=>h (Int.ofNat_lt.mp z))]
   have e1:cz (n,l.take n)=l.take n:=by
    unfold cz;rw[Wb (by rw[Wy];omega)]
   have t1:(iL l).take n=iL (l.take n):=by unfold iL;rw[Xe]
   have t2:(iL l).drop n=iL (l.drop n):=by unfold iL;rw[Uj]
   rw[t1,t2,zFQ,zIX m (l.drop n),e1];rfl
theorem zJk{xs:List (Nat×Nat)}{k:Nat}:(((gk xs)[k]?).map Gla.Kind.heat).getD 0=yM xs k:=by
 unfold gk yM;rw[WQ,Wi];cases xs[k]? <;> rfl
theorem zJl{xs:List (Nat×Nat)}:∀ (c:List Nat),Gla.rising (λ(a b:Nat)=>decide ((((gk xs)[b]?).map Gla.Kind.heat).getD 0<(((gk xs)[a]?).map Gla.Kind.heat).getD 0)) c=zBc xs c
|[]=>rfl
|[_]=>rfl
|a::b::r=>by
  show (decide ((((gk xs)[b]?).map Gla.Kind.heat).getD 0<(((gk xs)[a]?).map Gla.Kind.heat).getD 0)&&Gla.rising _ (b::r))=(decide (yM xs b<yM xs a)&&zBc xs (b::r))
  rw[zJk,zJk,zJl (b::r)]
theorem zJm{xs:List (Nat×Nat)}{p:Nat×List Nat}(hp:p.2.length<=p.1):Gla.coatsOk (gk xs) (cz p)=zAF xs p:=by
 unfold Gla.coatsOk zAF cz;by_cases h:p.1<=p.2.length
 .rw[Wb h,zJl,WJ h,Xr]
  have e1:Gla.within 1 4 p.2.length=YI (p.1:Int) 1 4:=by
   unfold Gla.within YI;rw[Wx];simp only[yZ,ym];omega
  have e2:(gk xs).length=xs.length:=zc ..;rw[e1,e2]
 .rw[Wa h,WB h,XA,V5];rfl
theorem zPD(kr pr:List Nat):∃ KK,KilnNeutral.both (iL kr) (iL pr)=some KK/\KK.ok=(Zk kr&&ZX (Zo kr) (ZE pr))/\(Zk kr=true->KK.kinds=gk (Zo kr))/\KK.paintings=(ZE pr).map cz:=by
 obtain⟨L,h1,h2,h3⟩:=zIW kr;refine⟨⟨L,(ZE pr).map cz⟩,?_,?_,λh=>?_,rfl⟩
 .show (do some ⟨<-KilnNeutral.kinds (iL kr),<-KilnNeutral.paintings ((iL pr).length+1) (iL pr)⟩:Option GlaKilns.Kinds)=_;rw[h1,zIX,show (iL pr).length=pr.length from zc ..];rfl
 .have h2':L.all Gla.Kind.ok=(decide (kr.length%2=0)&&(Zo kr).all kB):=h2;show (Gla.within 1 16 L.length&&(L.all Gla.Kind.ok&&(decide (((ZE pr).map cz).length<=256)&&((ZE pr).map cz).all (Gla.coatsOk L))))=_;rw[h2'];unfold Zk;by_cases he:kr.length%2=0
  .have eL:=h3 he
   have e1:Gla.within 1 16 L.length=YI ((kr.length/2:Nat):Int) 1 16:=by
    rw[eL,show (gk (Zo kr)).length=kr.length/2 from (zc ..).trans (zEv kr)];unfold Gla.within YI;rw[Wx];simp only[yZ,ym];omega
   have e2:((ZE pr).map cz).all (Gla.coatsOk L)=(ZE pr).all (zAF (Zo kr)):=by
    rw[eL,List.all_map,Wx,WI,WI];exact⟨λh p hp=>by rw[<-zJm (zGc _ _ p hp)];exact h p hp,λh p hp=>(zJm (zGc _ _ p hp)).trans (h p hp)⟩
   rw[e1,e2,zc,WJ he];unfold ZX;cases YI ((kr.length/2:Nat):Int) 1 16 <;> cases (Zo kr).all kB <;> rfl
  .rw[WB he];cases Gla.within 1 16 L.length <;> rfl
 .unfold Zk at h;rw[yZ,ym] at h;exact h3 h.1
theorem zPE{xs:List (Nat×Nat)}{ps:List (Nat×List Nat)}(h:ZX xs ps=true):ps.map cz=ps.map Prod.snd:=by
 unfold ZX at h;rw[yZ,WI] at h;refine XT λp hp=>?_
 have:=h.2 p hp;unfold zAF at this;rw[yZ,yZ,ym] at this;unfold cz;rw[Wb this.1.2]
theorem zJn{xs:List (Nat×Nat)}:∀ {a:Nat}{c:List Nat},zBc xs (a::c)=true->∀ x∈c,yM xs x<yM xs a
|_,[],_,x,hx=>by cases hx
|a,b::c,h,x,hx=>by
  have h':(decide (yM xs b<yM xs a)&&zBc xs (b::c))=true:=h;rw[yZ,ym] at h';rcases Wc.mp hx with e|e
  .rw[e];exact h'.1
  .have:=zJn h'.2 x e;omega
theorem zF7{xs:List (Nat×Nat)}:∀ {c:List Nat},zBc xs c=true->c.Nodup
|[],_=>Vl
|[a],_=>by simp
|a::b::c,h=>by
  have hlt:=zJn h;have h':(decide (yM xs b<yM xs a)&&zBc xs (b::c))=true:=h;rw[yZ] at h';rw[Vh];exact⟨λhm=>Vk _ (hlt a hm),zF7 h'.2⟩
theorem zNA{xs:List (Nat×Nat)}{ps:List (Nat×List Nat)}{S:Gla.Plan}(h:ZX xs ps=true):∀ x∈Z9 S (ps.map Prod.snd),x.coats.Nodup:=by
 intro x hx;obtain⟨m,_,rfl⟩:=Wg.mp hx;show (Gla.coatsOf (ps.map Prod.snd) m).Nodup;unfold Gla.coatsOf;split
 .exact Vl
 .rw[Wi,WQ];cases e:ps[m.painting-1]? with
 |none=>exact Vl
 |some p=>
   unfold ZX at h;rw[yZ,WI] at h;have:=h.2 p (ZZ e);unfold zAF at this;rw[yZ,yZ] at this;exact zF7 (yZ _ _ ▸ this.2).2
theorem zQW{kr:List Nat}(h:Zk kr=true):∀ k,k<(Zo kr).length->yM (Zo kr) k<=1400:=by
 intro k hk;unfold Zk at h;rw[yZ,yZ,WI] at h;have e:=yW hk;have:=h.2.2 _ (ZZ e);unfold kB YI at this;rw[yZ,yZ,ym,ym] at this;unfold yM;rw[Wi,e];show (Zo kr)[k].1<=1400;omega
theorem zEy:∀ (l:List Int),(∀ x∈l,0<=x)->∃ k:List Nat,l=iL k
|[],_=>⟨[],rfl⟩
|x::l,h=>by
  obtain⟨k,e⟩:=zEy l λy hy=>h y (We _ hy)
  obtain⟨n,hn⟩:=Uo (h x Wt);exact⟨n::k,by rw[e,hn];rfl⟩
theorem zIY:∀ (l:List Int),(∀ x∈l,0<=x/\x<=255)->∃ b:Gla.Bytes,l=bI b
|[],_=>⟨[],rfl⟩
|x::l,h=>by
  obtain⟨b,e⟩:=zIY l λy hy=>h y (We _ hy)
  have hx:=h x Wt;refine⟨UInt8.ofNat x.toNat::b,?_⟩;rw[e];show x::bI b=((UInt8.ofNat x.toNat).toNat:Int)::bI b;rw[UInt8.toNat_ofNat',Nat.mod_eq_of_lt (by omega)]
  congr 1
  omega
theorem zNB(b:Gla.Bytes):KilnNeutral.bytes (bI b)=some b:=by
 unfold KilnNeutral.bytes
 have h:NeutralIO.bytes (bI b)=true:=by
  unfold NeutralIO.bytes bI;rw[List.all_map,WI];intro c _;have hc:c.toNat<256:=c.toNat_lt;simp only[Function.comp,yZ,ym];omega
 rw[Wb h]
 congr 1
 unfold bI;rw[VH];refine (XT λc _=>?_).trans (List.map_id b);show UInt8.ofNat ((c.toNat:Int)).toNat=c;rw[Ve];exact UInt8.ofNat_toNat
theorem zNC{b:Gla.Bytes}(h:zAd b=none):Gla.judgePlan b=.ok (Gla.parts b):=by
 unfold zAd at h;cases e:Gla.judgePlan b with
|error z=>rw[e] at h;cases h
|ok S=>
  have:S=Gla.parts b:=by
   unfold Gla.judgePlan at e
   repeat' split at e
   all_goals first|cases e;done|(injection e with e;exact e.symm)
  rw[this]
theorem zMC{b:Gla.Bytes}{cs:List Gla.Coats}(h:zAd b=none):(Z9 (Gla.parts b) cs).length<10000:=by
 unfold Z9;rw[zc]
 have hd:zBZ (bI b)=none:=by
  cases e:zBZ (bI b) with
 |none=>rfl
 |some z=>rw[(zGb b).2 z e] at h;cases h
 have:=((zGb b).1 hd).1.1.k;omega
def zCc (row:List Nat)(p:Nat):Bool:=match row[p+1]? with
|none=>true
|some c=>decide (c=0)||decide (row.length<p+2+c)
def zBe (row:List Nat)(p:Nat)(xs:List (Nat×Nat))(hb:Nat):Nat:=if zCc row p=true then 1 else if xs.length<=row.getD p 0 then 2 else if hb<yM xs (row.getD p 0) then 3 else 0
def Y1 (fl:List Gla.Fired)(k i:Nat):Bool:=match fl[i]? with
|none=>false
|some x=>x.coats.contains k
theorem zJo{k:Nat}:∀ {l:List Nat},inV (.int (k:Int)) (zu l)=l.contains k
|[]=>rfl
|a::l=>by
  show (((a:Int)==(k:Int))||inV (.int (k:Int)) (zu l))=_;rw[zJo,List.contains_cons,W1,W1]
  congr 1
  rw[Wk];omega
theorem zHA:∀ (l:List Nat),(zu l).all zBT=true
|[]=>rfl
|a::l=>by
  show (true&&(zu l).all zBT)=true;rw[zHA l];rfl
def zRH (K:Qf)(t:TA):TE:=λσ H Q=>t σ H λxs H1=>∃ q ys,xs=[.ref q]/\(zM K H1 q ys\/yH K H1 q ys)/\Q (.int ys.length) H1
theorem zPF{X:Cx}(K:Qf){e:Expr}{t:TA}{p pos:Pos}(hm:X.mg "len" = none)(ha:PA X [e] t)(hK:X.K=K:=by rfl)(hg:Gl X "len":=by rfl)(hs:starEach [e] X.env=(false,eval e X.env)::starEach [] X.env:=by rfl)(hpl:(backTo pos (starEach [] X.env)).any (·.1)=false:=by rfl) :
  PE X (.Call (.Name "len" p) [e] [] pos) (zRH K t):=by
 subst hK;exact yE hm ha hg hs hpl
section
variable {P:Program}{w:World}{K:Qf}{mg:Qm}{base:Heap}{C:Addr}
def zNf (K:Qf):Sp:=λvs H Q _=>∃ (ra:Addr) (row:List Nat) (p:Nat),vs=[.ref ra,.int (p:Int)]/\zM K H ra (zu row)/\p<row.length/\Q (.bl (zCc row p)) H
theorem zMD:zO ["row","place","how_many"] ["row","place"] (zI zAM):=yG (by decide +kernel)
theorem zQX(D:zW K mg "is_cut_or_empty" zAM ["row","place"])(ml:mg "len" = none):Ok P w K mg base 1 "is_cut_or_empty" ["row","place"] (zNf K):=by
 refine D.ok zMD (λvs H Q E h=>?_) (λf cdv A outer s H vs Q E hr h=>?_)
 .obtain⟨ra,row,p,rfl,_⟩:=h;rfl
 .obtain⟨ra,row,p,rfl,hR,hp,k⟩:=h
  refine⟨_,zD (zm (zj zAX (zi yP (pv 1) zJ) (yE ml (zA (pv 0) zC)) (zY _)) (zE (zS yk)) zZ)
   (zD (zb (i:=2) zMD.nd rfl (Or.inl rfl) (zf za (pv 0) (zi yP (pv 1) zJ) (λ_ _=>rfl)))
   (zE (zS (zNE (yO zAX (pv 2) zJ (zY _)) (Yq (yO Zx (zi yP (zi yP (pv 1) zJ) (pv 2)) (yE ml (zA (pv 0) zC)) (zY _))))))),?_⟩
  refine⟨_,rfl,_,_,rfl,rfl,_,rfl,ra,_,rfl,.inl hR,rfl,_,rfl,?_⟩;rw[z9,show decide (V.int ((p:Int)+1)=V.int ((row.length:Nat):Int))=decide (p+1=row.length) by rw[deq,Wk];omega];refine zp (λhb=>?_) λhb=>?_
  .have e:=Wm hb;refine ZB k ?_;unfold zCc;rw[W3 (by omega)]
  .have e:=Wo hb;have hl:p+1<row.length:=by omega
   have ec:=yW hl;generalize row[p+1]=c at ec;refine⟨_,rfl,_,rfl,_,_,rfl,rfl,ra,_,_,_,rfl,rfl,hR,ZY (j:=p+1) (by omega) ec,?_⟩;have ek:zCc row p=(decide (c=0)||decide (row.length<p+2+c)):=by unfold zCc;rw[ec]
   rw[ek] at k
   try dsimp only[ZQ,Yh,Ze,YV,YO,YQ]
   show zJq _ _ _ _ _;refine zJN (c:=decide (c=0)) (d:=decide (row.length<p+2+c)) (λR h=>⟨_,rfl,rfl,?_⟩) (λ_ R h=>⟨_,rfl,_,_,rfl,rfl,_,rfl,_,_,rfl,rfl,_,rfl,ra,_,rfl,.inl hR,_,_,rfl,rfl,?_⟩) k
   .rw[deq,show decide ((c:Int)=0)=decide (c=0) by rw[Wk];omega];exact h
   .show R (.bl (decide ((((zu row).length:Nat):Int)<(p:Int)+2+(c:Int)))) _;rw[z9,show decide (((row.length:Nat):Int)<(p:Int)+2+(c:Int))=decide (row.length<p+2+c) by rw[Wk];omega];exact h
def zNg (K:Qf):Sp:=λvs H Q _=>∃ (ra ka:Addr) (row:List Nat) (p:Nat) (xs:List (Nat×Nat)) (hb:Nat),vs=[.ref ra,.int (p:Int),.ref ka,.int (hb:Int)]/\zM K H ra (zu row)/\p<row.length/\zo (RKd K) H ka xs/\Q (.int ((zBe row p xs hb:Nat):Int)) H
theorem zQY:zO ["row","place","kinds","heat_before"] ["row","place","kinds","heat_before"] (zI zAt):=yG (by decide +kernel)
theorem zQZ(D:zW K mg "wrong_at_head" zAt ["row","place","kinds","heat_before"])(OC:Ok P w K mg base 1 "is_cut_or_empty" ["row","place"] (zNf K))(ml:mg "len" = none):Ok P w K mg base 2 "wrong_at_head" ["row","place","kinds","heat_before"] (zNg K):=by
 refine D.ok zQY (λvs H Q E h=>?_) (λf cdv A outer s H vs Q E hr h=>?_)
 .obtain⟨ra,ka,row,p,xs,hb,rfl,_⟩:=h;rfl
 .obtain⟨ra,ka,row,p,xs,hb,rfl,hR,hp,⟨kvs,hk,ek⟩,k⟩:=h
  refine⟨_,zD (zm (yT (zT OC hr (zA (pv 0) (zA (pv 1) zC)))) (zE (zS zJ)) zZ)
   (zD (zm (zj zHG (zf za (pv 0) (pv 1) (λ_ _=>rfl)) (yE ml (zA (pv 2) zC)) (zY _)) (zE (zS zJ)) zZ)
   (zD (zm (zj Zx (zQ (zf za (pv 2) (zf za (pv 0) (pv 1) (λ_ _=>rfl)) (λ_ _=>rfl)) rfl) (pv 3) (zY _)) (zE (zS zJ)) zZ)
   (zE (zS zJ)))),?_⟩
  have ep:=yW hp;have eg:row.getD p 0=row[p]:=by rw[Wi,ep];rfl
  unfold zBe at k;rw[eg] at k;generalize row[p]=c at ep k;refine⟨_,rfl,_,rfl,ra,row,p,rfl,hR,hp,_,rfl,zp (λh1=>?_) λh1=>?_⟩
  .rw[Wb h1] at k;exact k
  rw[Wa (by rw[h1];decide)] at k;refine⟨_,rfl,_,rfl,ra,_,_,_,rfl,rfl,hR,ZY (j:=p) rfl ep,_,rfl,ka,_,rfl,.inl (zM.of hk),_,_,rfl,rfl,_,rfl,zp (λh2=>?_) λh2=>?_⟩
  .have h2':=Wm h2;rw[ek.1] at h2';rw[Wb (by omega)] at k;exact k
  have h2':=Wo h2;rw[ek.1] at h2';rw[Wa (by omega)] at k;obtain⟨v1,r1,b1,C1,d1,f1,rfl,a1,a2,a3,a4⟩:=zEw ek (show c<xs.length by omega);refine⟨_,rfl,_,rfl,_,rfl,ra,_,_,_,rfl,rfl,hR,ZY (j:=p) rfl ep,ka,_,_,_,rfl,rfl,zM.of hk,r1,b1,C1,d1,_,_,rfl,a1,a2,a3,a4,_,rfl,_,_,rfl,rfl,_,rfl,zp (λh3=>?_) λh3=>?_⟩
  .have h3':=Wm h3;rw[Wb (by omega)] at k;exact k
  .have h3':=Wo h3;rw[Wa (by omega)] at k;exact k
def zNh (K:Qf):Sp:=λvs H Q _=>∃ (qa:Addr) (i k:Nat) (fl:List Gla.Fired),vs=[.int (i:Int),.int (k:Int),.ref qa]/\YM K H qa fl/\Q (.bl (Y1 fl k i)) H
theorem zQa:zO ["number","kind","pieces"] ["number","kind","pieces"] (zI zDd):=yG (by decide +kernel)
theorem zQb(D:zW K mg "has_coat" zDd ["number","kind","pieces"])(ml:mg "len" = none):Ok P w K mg base 1 "has_coat" ["number","kind","pieces"] (zNh K):=by
 refine D.ok zQa (λvs H Q E h=>?_) (λf cdv A outer s H vs Q E hr h=>?_)
 .obtain⟨qa,i,kk,fl,rfl,_⟩:=h;rfl
 .obtain⟨qa,i,kk,fl,rfl,⟨qvs,hq,eq⟩,k⟩:=h;refine⟨_,zE (zS (Yr (yO Zf (pv 0) (yE ml (zA (pv 2) zC)) (zY _)) (Yq (yO zLB (pv 1) (zQ (zf za (pv 2) (pv 0) (λ_ _=>rfl)) rfl) rfl)))),?_⟩
  have ek:Y1 fl kk i=(decide (i<fl.length)&&Y1 fl kk i):=by
   by_cases h:i<fl.length
   .rw[WJ h,Xq]
   .unfold Y1;rw[W3 (by omega),WB h];rfl
  rw[ek] at k
  try dsimp only[ZQ,Yh,Ze,YV,YO,YQ]
  show zBS _ _ _ _ _;refine Z2 (c:=decide (i<fl.length)) (d:=Y1 fl kk i) (λR h=>⟨_,rfl,_,rfl,qa,_,rfl,.inl (zM.of hq),_,_,rfl,rfl,?_⟩) (λhc R h=>?_) k
  .show R (.bl (decide (((i:Nat):Int)<((qvs.length:Nat):Int)))) _;rw[eq.1,show decide (((i:Nat):Int)<((fl.length:Nat):Int))=decide (i<fl.length) by rw[Wk];omega];exact h
  .have hlt:=Wm hc;have e:=yW hlt;obtain⟨v,hv,b,C1,d1,f1,cb,rfl,c1,c2,c3,c4,c5,c6,c7,c8,c9⟩:=eq.get e;refine⟨_,rfl,_,rfl,_,rfl,qa,_,_,_,rfl,rfl,zM.of hq,y9 (j:=i) rfl hv,b,C1,d1,f1,_,rfl,c1,c2,c4,c6,cb,_,rfl,.inl (zM.of c9),rfl,zHA _,?_⟩;show R (.bl (inV (.int (kk:Int)) (zu _))) _;rw[zJo];unfold Y1 at h;rw[e] at h;exact h
theorem YM.sameX{fa q:Addr}{H H':Hp}{fl:List Gla.Fired}(h:YM K H q fl)(s:∀ b o,b≠fa->H b=some o->H' b=some o)(nd:∃ kvs,H fa=some (.dT kvs)):YM K H' q fl:=by
 obtain⟨vs,e,z⟩:=h;obtain⟨kvs,ef⟩:=nd;have ne:∀ {b:Addr}{o:HO},H b=some o->(∀ k,o≠.dT k)->b≠fa:=λeb hn e=>by rw[e,ef] at eb;cases eb;exact hn _ rfl
 refine⟨vs,s _ _ (ne e (λk z=>by cases z)) e,z.1,λj v x g1 g2=>?_⟩;obtain⟨a,C1,dx,fs,ca,e1,e2,e3,e4,e5,e6,e7,n1,n2,e8⟩:=z.2 j v x g1 g2;exact⟨a,C1,dx,fs,ca,e1,s _ _ (ne e2 (λk z=>by cases z)) e2,e3,e4,e5,e6,e7,n1,n2,s _ _ (ne e8 (λk z=>by cases z)) e8⟩
def zKw (fl:List Gla.Fired)(k:Nat)(D:List (Nat×Nat))(l:List Nat)(n:Nat):Prop:=n<=l.length/\(∀ (j m:Nat),j<n->l[j]?=some m->Y1 fl k m=true/\(k,m)∉D++(l.take j).map λi=>(k,i))/\(∀ m,l[n]?=some m->Y1 fl k m=false\/(k,m)∈D++(l.take n).map λi=>(k,i))
def zME (K:Qf):Sp:=λvs H Q _=>∃ (k:Nat) (na qa fa:Addr) (l:List Nat) (fl:List Gla.Fired) (D:List (Nat×Nat)),vs=[.int (k:Int),.ref na,.ref qa,.ref fa]/\H na=some (.lst (zu l))/\YM K H qa fl/\H fa=some (.dT (YC D))/\D.length+l.length<1000000/\
 ∀ (H':Hp) (n:Nat),(∀ b o,b≠fa->H b=some o->H' b=some o)->H' fa=some (.dT (YC (D++(l.take n).map λi=>(k,i))))->zKw fl k D l n->Q (.int (n:Int)) H'
theorem zGd:zO ["kind","numbers","pieces","fired","k","number"] ["kind","numbers","pieces","fired"] (zI zH1):=yG (by decide +kernel)
theorem zPG(D:zW K mg "fire" zH1 ["kind","numbers","pieces","fired"])(OH:Ok P w K mg base 1 "has_coat" ["number","kind","pieces"] (zNh K))(me:mg "enumerate" = none)(ml:mg "len" = none):Ok P w K mg base 2 "fire" ["kind","numbers","pieces","fired"] (zME K):=by
 refine D.ok zGd (λvs H Q E h=>?_) (λf cdv A outer s H vs Q E hr h=>?_)
 .obtain⟨k,na,qa,fa,l,fl,D,rfl,_⟩:=h;rfl
 .obtain⟨k,na,qa,fa,l,fl,D,rfl,hn,PC,hf,hsz,kk⟩:=h;have hu:=zHM hr
  refine⟨_,zD (yI Wz rfl (YW rfl me (zA (pv 1) zC)) (YG rfl (zw (zV (i:=4) zGd.nd rfl (Or.inl rfl)) (zw (zV (i:=5) zGd.nd rfl (Or.inl rfl)) Zl)))
    (zD (zm (PW.pt (zB0 (Zi (yT (zT OH hr (zA (pv 5) (zA (pv 0) (zA (pv 2) zC)))))) (zAo (zFS (zHe hu (Y9 (zA (pv 0) (zA (pv 5) zC))) (pv 3)) rfl)))) (zE (zS (pv 4))) zZ)
    (zE (zGC hu (pv 3) (Y9 (zA (pv 0) (zA (pv 5) zC))) yk rfl))))
   (zE (zS (yE ml (zA (pv 1) zC)))),?_⟩
  have nf:∀ {b:Addr}{o:HO},H b=some o->(∀ k,o≠.dT k)->b≠fa:=λeb hn e=>by rw[e,hf] at eb;cases eb;exact hn _ rfl
  have nna:na≠fa:=nf hn (λk z=>by cases z)
  refine⟨_,rfl,na,_,rfl,zM.of hn,Z3 (K:=K) (a:=na) (xs:=zu l) (λi σ H'=>∃ v4 v5:Option V,σ=[some (.int (k:Int)),some (.ref na),some (.ref qa),some (.ref fa),v4,v5]/\(∀ b o,b≠fa->H b=some o->H' b=some o)/\H' fa=some (.dT (YC (D++(l.take i).map λi=>(k,i))))/\∀ (j m:Nat),j<i->l[j]?=some m->Y1 fl k m=true/\(k,m)∉D++(l.take j).map λi=>(k,i))
   ⟨none,none,rfl,λb o _ e=>e,by simpa using hf,λj m hj=>absurd hj (W9 _)⟩ (λi σ H' _ hh=>hh.elim λ_ hh=>hh.elim λ_ hh=>zM.of (hh.2.1 _ _ nna hn)) ?_ ?_⟩
  .rintro i y σ H' T hi ⟨v4,v5,rfl,s1,hf1,hno⟩ hT;obtain⟨m,him,rfl⟩:=zDN hi;have sT:zH H' (upd H' T (.tup [.int (i:Nat),.int (m:Int)])):=zR (zH.refl H') hT;have hil:=(yQ him).1;refine⟨T,_,rfl,yH.of zF,rfl,_,_,rfl,_,_,rfl,rfl,?_⟩;generalize hG:upd H' T (.tup [.int (i:Nat),.int (m:Int)])=H2 at sT;have s2:∀ b o,b≠fa->H b=some o->H2 b=some o:=λb o nb e=>sT _ _ (s1 b o nb e)
   have hf2:=sT _ _ hf1;have PC2:YM K H2 qa fl:=PC.sameX s2 ⟨_,hf⟩
   have stop:(Y1 fl k m=false\/(k,m)∈D++(l.take i).map λi=>(k,i))->∀ H3,zH H2 H3->Q (.int (i:Int)) H3:=λhs H3 s3=>
    kk H3 i (λb o nb e=>s3 _ _ (s2 b o nb e)) (s3 _ _ hf2) ⟨Vz hil,hno,λm' hm'=>by rw[him] at hm';cases hm';exact hs⟩
   refine⟨_,rfl,_,rfl,_,rfl,qa,m,k,fl,rfl,PC2,_,rfl,?_⟩;refine zp (λhb=>?_) λhb=>?_
   .rw[Wq] at hb;exact zDW ⟨_,rfl,stop (.inl hb) _ (zH.refl _)⟩
   .rw[Wu] at hb;refine⟨_,rfl,_,rfl,(by show 2<=sizeLine;decide),λt nt=>?_⟩;have s3:zH H2 (upd H2 t (.tup [.int (k:Int),.int (m:Int)])):=zR (zH.refl H2) nt;refine⟨_,rfl,fa,_,rfl,zBq.t (k:=kPr (ZS (k,m))) (s3 _ _ hf2) zF,_,rfl,?_⟩;rw[zJd];refine zp (λhb2=>?_) λhb2=>?_
    .exact⟨_,rfl,stop (.inr (Wm hb2)) _ s3⟩
    .have hnin:=Wo hb2;refine⟨_,rfl,_,rfl,_,rfl,(by show 2<=sizeLine;decide),λt2 nt2=>?_⟩;have s4:zH H2 (upd (upd H2 t (.tup [.int (k:Int),.int (m:Int)])) t2 (.tup [.int (k:Int),.int (m:Int)])):=zR s3 nt2;refine⟨fa,_,rfl,zDV.t (k:=kPr (ZS (k,m))) (s4 _ _ hf2) zF ?_,?_⟩
     .unfold YC;rw[zc,Wr,zc,Wy];exact Yp (show D.length+min i l.length<=D.length+l.length by omega) (yU hsz (by decide))
     .refine⟨_,_,rfl,λb o nb e=>by rw[zG nb];exact s4 _ _ (s2 b o nb e),?_,λj m' hj hm'=>?_⟩
      .rw[zF,zJe];unfold zBR;rw[Wa hnin,yB him,Ww,Xj];rfl
      .by_cases e:j=i
       .subst e;rw[him] at hm';cases hm';exact⟨hb,hnin⟩
       .exact hno j m' (by omega) hm'
  .rintro σ H' ⟨v4,v5,rfl,s1,hf1,hno⟩;rw[z9] at hf1 hno;refine⟨_,rfl,na,_,rfl,.inl (zM.of (s1 _ _ nna hn)),?_⟩;rw[z9];exact kk H' l.length s1 hf1 ⟨Wd _,hno,λm hm=>by rw[W3 (Wd _)] at hm;cases hm⟩
def arN (fl:List Gla.Fired)(i:Nat):Nat:=((fl[i]?).map Gla.Fired.area).getD 0
theorem zGe:∀ (l:List Nat),(l.map Int.ofNat).sum=((l.foldr (λ(a b:Nat)=>a+b) 0:Nat):Int)
|[]=>rfl
|a::l=>by
  rw[Wj,Vg,zGe l];show (a:Int)+_=((a+_:Nat):Int)
  omega
def zNi (K:Qf):Sp:=λvs H Q _=>∃ (na qa:Addr) (l:List Nat) (fl:List Gla.Fired),vs=[.ref na,.ref qa]/\H na=some (.lst (zu l))/\YM K H qa fl/\(∀ i∈l,i<fl.length)/\l.length<1000000/\∀ H',zH H H'->Q (.int (((l.map (arN fl)).foldr (λ(a b:Nat)=>a+b) 0:Nat):Int)) H'
theorem zIZ:zO ["numbers","pieces","number"] ["numbers","pieces"] (zI zCj):=yG (by decide +kernel)
theorem zQc(D:zW K mg "area_of" zCj ["numbers","pieces"])(ms:mg "sum" = none):Ok P w K mg base 1 "area_of" ["numbers","pieces"] (zNi K):=by
 refine D.ok zIZ (λvs H Q E h=>?_) (λf cdv A outer s H vs Q E hr h=>?_)
 .obtain⟨na,qa,l,fl,rfl,_⟩:=h;rfl
 .obtain⟨na,qa,l,fl,rfl,hn,⟨qvs,hq,eq⟩,hlt,hl,k⟩:=h
  refine⟨_,zE (zS (ZU (zLD rfl) rfl ms PyProof.Rows.boot_sum (zA (zFa (own:=[("number",2)]) rfl zIZ.nd (ZF (pv 0)) (ZM (show zAL ["numbers","pieces","number"] (zI zCj) _ _=true by decide +kernel))
   (λ_ _ _ _ _=>zV (i:=2) zIZ.nd rfl (Or.inl rfl)) (λ_ _ _ _ _=>Zm) (λ_ _ _ _ _=>zBP K (zf (zDr K) (pv 1) (pv 2) (λ_ _=>rfl)))) zC))),?_⟩
  refine⟨_,rfl,na,rfl,⟨_,zM.of hn⟩,λL nL=>?_⟩;refine Yv (K:=K) (a:=na) (xs:=zu l) (λi H'=>zH H H'/\H' L=some (.lst (zu ((l.map (arN fl)).take i)))) ⟨zR (zH.refl H) nL,zF⟩ (λi H' _ hh=>zM.of (hh.1 _ _ hn)) ?_ ?_
  .rintro i y H' hi ⟨s1,e1⟩;obtain⟨m,him,rfl⟩:=zDN hi;have e:=yW (hlt m (ZZ him));have ea:arN fl m=(fl[m]'(hlt m (ZZ him))).area:=by unfold arN;rw[e];rfl
   obtain⟨v,hv,b,C1,d1,f1,cb,rfl,c1,c2,c3,c4,c5,c6,c7,c8,c9⟩:=eq.get e;refine⟨rfl,?_⟩;refine⟨_,rfl,_,rfl,qa,_,_,_,rfl,rfl,zM.of (s1 _ _ hq),y9 (j:=m) rfl hv,b,C1,d1,f1,_,rfl,s1 _ _ c1,c2,c3,c5,_,e1,?_,λb' o' eb=>?_,?_⟩
   .rw[z9,Wy];exact Yp (VN _ _) (yU (Vy (yQ him).1 hl) (by decide))
   .rw[zG (zN eb nL)];exact s1 _ _ eb
   .rw[zF,yB (map_some (f:=arN fl) him)];unfold zu;rw[Ww,ea];rfl
  .rintro H' ⟨s1,e1⟩;rw[Ws (by rw[zc,z9];exact Wd _)] at e1;refine⟨L,(l.map (arN fl)).map Int.ofNat,rfl,by rw[<-YR];exact zM.of e1,?_⟩;rw[zGe];exact k _ s1
def zNj (K:Qf):Sp:=λvs H Q _=>∃ (qa:Addr) (fl:List Gla.Fired),vs=[.ref qa]/\YM K H qa fl/\fl.length<1000000/\∀ H',zH H H'->Q (.int (((fl.map λx=>x.coats.length).foldr (λ(a b:Nat)=>a+b) 0:Nat):Int)) H'
theorem zIa:zO ["pieces","piece"] ["pieces"] (zI zBX):=yG (by decide +kernel)
theorem zQd(D:zW K mg "all_coats" zBX ["pieces"])(ms:mg "sum" = none)(ml:mg "len" = none):Ok P w K mg base 1 "all_coats" ["pieces"] (zNj K):=by
 refine D.ok zIa (λvs H Q E h=>?_) (λf cdv A outer s H vs Q E hr h=>?_)
 .obtain⟨qa,fl,rfl,_⟩:=h;rfl
 .obtain⟨qa,fl,rfl,⟨qvs,hq,eq⟩,hl,k⟩:=h
  refine⟨_,zE (zS (ZU (zLD rfl) rfl ms PyProof.Rows.boot_sum (zA (zFa (own:=[("piece",1)]) rfl zIa.nd (ZF (pv 0)) (ZM (show zAL ["pieces","piece"] (zI zBX) _ _=true by decide +kernel))
   (λ_ _ _ _ _=>zV (i:=1) zIa.nd rfl (Or.inl rfl)) (λ_ _ _ _ _=>Zm) (λ_ _ _ _ _=>zPF K ml (zA (zBP K (pv 1)) zC))) zC))),?_⟩
  refine⟨_,rfl,qa,rfl,⟨_,zM.of hq⟩,λL nL=>?_⟩;refine Yv (K:=K) (a:=qa) (xs:=qvs) (λi H'=>zH H H'/\H' L=some (.lst (zu ((fl.map λx=>x.coats.length).take i)))) ⟨zR (zH.refl H) nL,zF⟩ (λi H' _ hh=>zM.of (hh.1 _ _ hq)) ?_ ?_
  .rintro i y H' hi ⟨s1,e1⟩;obtain⟨x,hix,b,C1,d1,f1,cb,rfl,c1,c2,c3,c4,c5,c6,c7,c8,c9⟩:=eq.get' hi;refine⟨rfl,?_⟩;refine⟨_,rfl,b,C1,d1,f1,_,rfl,s1 _ _ c1,c2,c4,c6,cb,_,rfl,.inl (zM.of (s1 _ _ c9)),_,e1,?_,λb' o' eb=>?_,?_⟩
   .rw[z9,Wy];exact Yp (VN _ _) (yU (Vy (yQ hix).1 hl) (by decide))
   .rw[zG (zN eb nL)];exact s1 _ _ eb
   .rw[zF,yB (map_some (f:=λ(x:Gla.Fired)=>x.coats.length) hix),z9];unfold zu;rw[Ww];rfl
  .rintro H' ⟨s1,e1⟩;rw[Ws (by rw[zc,eq.1];exact Wd _)] at e1;refine⟨L,(fl.map λx=>x.coats.length).map Int.ofNat,rfl,by rw[<-YR];exact zM.of e1,?_⟩;rw[zGe];exact k _ s1
end
theorem zRI{xs:List (Nat×Nat)}{k:Nat}(h:k<xs.length):∃ y:Gla.Kind,(gk xs)[k]?=some y/\y.heat=yM xs k:=by
 have e:=yW h;refine⟨⟨xs[k].1,xs[k].2⟩,map_some (f:=λ(x:Nat×Nat)=>(⟨x.1,x.2⟩:Gla.Kind)) e,?_⟩;unfold yM;rw[Wi,e];rfl
theorem zQe{xs:List (Nat×Nat)}{shelf:Nat}{fl:List Gla.Fired}{row:List Nat}{fu p k:Nat}{last:Option Nat}{had:List (Nat×Nat)}(hp:row[p]?=some k)(hc:zCc row p=true):Gla.checkFrom (gk xs) shelf fl row (fu+1) p last had=some (1,p):=by
 unfold Gla.checkFrom;rw[hp];dsimp only;unfold zCc at hc;cases e:row[p+1]? with
|none=>rfl
|some c=>
  rw[e] at hc;dsimp only at hc ⊢;rw[Wb];rw[Va,ym,ym] at hc;rcases hc with h|h
  .exact .inl h
  .right
   rw[Wy,VS];have:=(yQ e).1;omega
def zNk (last:Option Nat)(h:Nat):Bool:=match last with
|some x=>decide (x<h)
|none=>false
theorem zRJ{xs:List (Nat×Nat)}{shelf:Nat}{fl:List Gla.Fired}{row:List Nat}{fu p k:Nat}{last:Option Nat}{had:List (Nat×Nat)}(hp:row[p]?=some k)(hc:zCc row p=false):∃ c,row[p+1]?=some c/\0<c/\p+2+c<=row.length/\((row.drop (p+2)).take c).length=c/\
  Gla.checkFrom (gk xs) shelf fl row (fu+1) p last had=(match (gk xs)[k]? with
  |none=>some (2,p)
  |some x=>if zNk last x.heat=true then some (3,p)
    else match Gla.badPane fl k had (p+2) ((row.drop (p+2)).take c) with
    |some j=>some (4,j)
    |none=>if shelf<((((row.drop (p+2)).take c).map (arN fl)).foldr (λ(a b:Nat)=>a+b) 0) then some (5,p)
      else Gla.checkFrom (gk xs) shelf fl row fu (p+2+c) (some x.heat) (((row.drop (p+2)).take c).map (λ(i:Nat)=>(k,i))++had)):=by
 unfold zCc at hc;cases e:row[p+1]? with
|none=>rw[e] at hc;cases hc
|some c=>
  rw[e] at hc;dsimp only at hc;rw[WX,Vu,Vu] at hc
  have hl:((row.drop (p+2)).take c).length=c:=by
   rw[Wy,VS];omega
  refine⟨c,rfl,by omega,by omega,hl,?_⟩
  conv=>lhs;unfold Gla.checkFrom
  rw[hp];dsimp only;rw[e];dsimp only;rw[Wa (by rintro (h|h) <;> omega)];rfl
theorem zMF{fl:List Gla.Fired}{k:Nat}:∀ {l:List Nat}{D had:List (Nat×Nat)}{n at_:Nat},zKw fl k D l n->(∀ x,x∈had↔x∈D)->Gla.badPane fl k had at_ l=if n<l.length then some (at_+n) else none
 |[],D,had,n,at_,h,_=>by rw[Wa (by simp)];rfl
 |i::r,D,had,n,at_,⟨h1,h2,h3⟩,hm=>by
    have step:Gla.badPane fl k had at_ (i::r)=if (Y1 fl k i=false\/(k,i)∈D) then some at_ else Gla.badPane fl k ((k,i)::had) (at_+1) r:=by
      show (match fl[i]? with
       |none=>some at_
       |some x=>if x.coats.contains k=false\/had.contains (k,i)=true then some at_ else Gla.badPane fl k ((k,i)::had) (at_+1) r)=_
      unfold Y1;cases e:fl[i]? with
     |none=>rw[Wb (.inl rfl)]
     |some x=>
        dsimp only;by_cases hc:x.coats.contains k=false\/(k,i)∈D
        · rw[Wb hc,Wb (hc.imp id λh=>by rw[WU];exact (hm _).mpr h)]
        · rw[Wa hc,Wa (λh=>hc (h.imp id λh=>by rw[WU] at h;exact (hm _).mp h))]
    rw[step];cases n with
   |zero=>
      have:=h3 i rfl;rw[List.take_zero,V6,VD] at this;rw[Wb this,Wb (by simp)];rfl
   |succ n=>
      have h0:=h2 0 i (Ur _) rfl;rw[List.take_zero,V6,VD] at h0
      rw[Wa (by rintro (h|h);· rw[h0.1] at h;cases h
                · exact h0.2 h)]
      have fr:zKw fl k (D++[(k,i)]) r n:=by
        refine⟨by simpa using h1,λj m hj hj'=>?_,λm hm'=>?_⟩
        · have:=h2 (j+1) m (by omega) (by simpa using hj')
          rw[List.take_succ_cons,Wj] at this;rw[Xj];exact this
        · have:=h3 m (by simpa using hm')
          rw[List.take_succ_cons,Wj] at this;rw[Xj];exact this
      rw[zMF fr (had:=(k,i)::had) (λx=>by rw[Wc,Wp,Wn,hm];exact Or.comm)];by_cases hn:n<r.length
      · rw[Wb hn,Wb (by simpa using hn)]
        congr 1
        omega
      · rw[Wa hn,Wa (by simpa using hn)]
def YN (i:Nat)(fl:List Gla.Fired):List (Nat×Nat):=(fl.zipIdx i).flatMap λx=>x.1.coats.map λk=>(k,x.2)
theorem zGf{i:Nat}{x:Gla.Fired}{fl:List Gla.Fired}:YN i (x::fl)=(x.coats.map λk=>(k,i))++YN (i+1) fl:=by
 unfold YN;rw[List.zipIdx_cons,List.flatMap_cons]
theorem zMG:∀ (fl:List Gla.Fired) (i:Nat),(YN i fl).length=(fl.map λx=>x.coats.length).foldr (λ(a b:Nat)=>a+b) 0
|[],_=>rfl
|x::fl,i=>by
  rw[zGf,Wr,zc,zMG fl (i+1)];rfl
theorem zNl:∀ (fl:List Gla.Fired) (i:Nat),∀ y∈YN i fl,i<=y.2
|[],_,y,hy=>by cases hy
|x::fl,i,y,hy=>by
  rw[zGf] at hy;rcases Wp.mp hy with h|h
  .obtain⟨k,_,rfl⟩:=Wg.mp h;exact Wd _
  .exact WT (Nat.le_succ _) (zNl fl (i+1) y h)
theorem zIb:∀ (fl:List Gla.Fired) (i:Nat),(∀ x∈fl,x.coats.Nodup)->(YN i fl).Nodup
|[],_,_=>Vl
|x::fl,i,h=>by
  rw[zGf,Xv];refine⟨?_,zIb fl (i+1) λy hy=>h y (We _ hy),λa ha b hb e=>?_⟩
  .show List.Pairwise (λa b=>a≠b) _;rw[US];exact Xx (λhne e=>hne (WV Prod.fst e)) (h x Wt)
  .obtain⟨k,_,rfl⟩:=Wg.mp ha;have:=zNl fl (i+1) b hb;rw[<-e] at this;exact absurd this (Nat.not_succ_le_self _)
theorem zQf{fl:List Gla.Fired}{k i:Nat}:(k,i)∈YN 0 fl↔Y1 fl k i=true:=by
 unfold YN Y1;rw[Xn];constructor
 .rintro⟨⟨x,j⟩,hx,h⟩;obtain⟨k',hk,e⟩:=Wg.mp h;cases e;rw[Vo.mp hx];exact WU.mpr hk
 .intro h;cases e:fl[i]? with
 |none=>rw[e] at h;cases h
 |some x=>
   rw[e] at h;exact⟨(x,i),Vo.mpr e,Wg.mpr ⟨k,WU.mp h,rfl⟩⟩
theorem zPH{fl:List Gla.Fired}{D had:List (Nat×Nat)}(hc:∀ x∈fl,x.coats.Nodup)(nd:D.Nodup)(hD:∀ x∈D,Y1 fl x.1 x.2=true)(hm:∀ x,x∈had↔x∈D) :
  decide (D.length<(fl.map λx=>x.coats.length).foldr (λ(a b:Nat)=>a+b) 0)=(fl.zipIdx.any λ(x:Gla.Fired×Nat)=>x.1.coats.any λ(k:Nat)=>!had.contains (k,x.2)):=by
 rw[<-zMG fl 0,Wx,ym,W4];have sub:∀ x∈D,x∈YN 0 fl:=λx hx=>zQf.mpr (hD x hx)
 constructor
 .intro hlt
  have:¬ ∀ y∈YN 0 fl,y∈D:=λh=>by
   have:=Kt.Yl (YN 0 fl) D (zIb fl 0 hc) h;omega
  apply WM;intro hno;refine this λy hy=>WM λhyD=>hno ?_
  unfold YN at hy;obtain⟨x,hx,h⟩:=Xn.mp hy;obtain⟨k,hk,rfl⟩:=Wg.mp h;refine⟨x,hx,W4.mpr ⟨k,hk,?_⟩⟩;rw[Wq];cases q:had.contains (k,x.2) with
 |false=>rfl
 |true=>exact absurd ((hm _).mp (WU.mp q)) hyD
 .rintro⟨x,hx,h⟩;obtain⟨k,hk,hb⟩:=W4.mp h;have hy:(k,x.2)∈YN 0 fl:=Xn.mpr ⟨x,hx,Wg.mpr ⟨k,hk,rfl⟩⟩
  have hn:(k,x.2)∉D:=λhd=>by
   rw[Wq] at hb;rw[WU.mpr ((hm _).mpr hd)] at hb;cases hb
  have hle:=Kt.Yl D ((YN 0 fl).erase (k,x.2)) nd λy hyD=>by
   have hne:y≠(k,x.2):=λe=>hn (e ▸ hyD)
   exact (List.mem_erase_of_ne hne).mpr (sub y hyD)
  rw[List.length_erase_of_mem hy] at hle;have:=List.length_pos_of_mem hy;omega
theorem zPI{last:Option Nat}{hb h:Nat}(hl:(last=none/\hb=1400)\/last=some hb)(hh:h<=1400):zNk last h=decide (hb<h):=by
 rcases hl with ⟨rfl,rfl⟩|rfl
 .rw[WB (by omega)];rfl
 .rfl
def wrR:Option (Nat×Nat)->List Int
|none=>[]
|some x=>[(x.1:Int),(x.2:Int)]
section
variable {P:Program}{w:World}{K:Qf}{mg:Qm}{base:Heap}{C:Addr}
structure FwI(xs:List (Nat×Nat))(shelf:Nat)(fl:List Gla.Fired)(row:List Nat)(p hb:Nat)(D:List (Nat×Nat)):Prop where
 le:p<=row.length
 nd:D.Nodup
 len:D.length<=p
 has:∀ x∈D,Y1 fl x.1 x.2=true
 spec:∃ (last:Option Nat) (had:List (Nat×Nat)) (fu:Nat),((last=none/\hb=1400)\/last=some hb)/\(∀ x,x∈had↔x∈D)/\row.length-p<fu/\Gla.checkFrom (gk xs) shelf fl row fu p last had=Gla.checkLoads (gk xs) shelf fl row
def zQg (K:Qf):Sp:=λvs H Q _=>∃ (ra ka qa:Addr) (row:List Nat) (xs:List (Nat×Nat)) (fl:List Gla.Fired) (shelf:Nat),vs=[.ref ra,.ref ka,.ref qa,.int (shelf:Int)]/\zM K H ra (zu row)/\zo (RKd K) H ka xs/\YM K H qa fl/\row.length<100000/\(∀ k,k<xs.length->yM xs k<=1400)/\(∀ x∈fl,x.coats.Nodup)/\fl.length<10000/\
 ∀ H' q,zH H H'->H' q=some (.lst ((wrR (Gla.checkLoads (gk xs) shelf fl row)).map V.int))->Q (.ref q) H'
theorem zA4:zO ["row","kinds","pieces","shelf","fired","heat_before","place","wrong","kind","behind","numbers","right"] ["row","kinds","pieces","shelf"] (zI zBs):=yG (by decide +kernel)
theorem zRK(D:zW K mg "first_wrong" zBs ["row","kinds","pieces","shelf"])(OW:Ok P w K mg base 2 "wrong_at_head" ["row","place","kinds","heat_before"] (zNg K))(OF:Ok P w K mg base 2 "fire" ["kind","numbers","pieces","fired"] (zME K))(OA:Ok P w K mg base 1 "area_of" ["numbers","pieces"] (zNi K))(OC:Ok P w K mg base 1 "all_coats" ["pieces"] (zNj K))
  (g1:yt mg "HOTTEST" 1400)(ml:mg "len" = none):Ok P w K mg base 3 "first_wrong" ["row","kinds","pieces","shelf"] (zQg K):=by
 refine D.ok zA4 (λvs H Q E h=>?_) (λf cdv A outer s H vs Q E hr h=>?_)
 .obtain⟨ra,ka,qa,row,xs,fl,shelf,rfl,_⟩:=h;rfl
 .obtain⟨ra,ka,qa,row,xs,fl,shelf,rfl,hR,LK,PC,hrl,hhot,hcn,hfl,k⟩:=h;have hr1:zt 1 _:=hr.mono (by decide);obtain⟨kvs,hk,ek⟩:=id LK
  refine⟨_,zD (zb (i:=4) zA4.nd rfl (Or.inl rfl) zHf) (zD (zb (i:=5) zA4.nd rfl (Or.inl rfl) (ZA g1)) (zD (zb (i:=6) zA4.nd rfl (Or.inl rfl) zJ)
   (zD (zCC Wz (zj Zf (pv 6) (yE ml (zA (pv 0) zC)) (zY _))
    (zD (zb (i:=7) zA4.nd rfl (Or.inl rfl) (zT OW hr (zA (pv 0) (zA (pv 6) (zA (pv 1) (zA (pv 5) zC))))))
    (zD (zm (zj Zx (pv 7) zJ (zY _)) (zE (zS (yd (zA (pv 7) (zA (pv 6) zC))))) zZ)
    (zD (zb (i:=8) zA4.nd rfl (Or.inl rfl) (zf za (pv 0) (pv 6) (λ_ _=>rfl)))
    (zD (zb (i:=9) zA4.nd rfl (Or.inl rfl) (zi yP (zi yP (pv 6) zJ) (zf za (pv 0) (zi yP (pv 6) zJ) (λ_ _=>rfl))))
    (zD (zb (i:=10) zA4.nd rfl (Or.inl rfl) (zDT zEY (pv 0) (zA7 (zi yP (pv 6) zJ)) (zA7 (pv 9))))
    (zD (zb (i:=11) zA4.nd rfl (Or.inl rfl) (zT OF hr (zA (pv 8) (zA (pv 10) (zA (pv 2) (zA (pv 4) zC))))))
    (zD (zm (zj Zf (pv 11) (yE ml (zA (pv 10) zC)) (zY _)) (zE (zS (yd (zA zJ (zA (zi yP (zi yP (pv 6) zJ) (pv 11)) zC))))) zZ)
    (zD (zm (zj Zx (zT OA hr1 (zA (pv 10) (zA (pv 2) zC))) (pv 3) (zY _)) (zE (zS (yd (zA zJ (zA (pv 6) zC))))) zZ)
    (zD (zb (i:=5) zA4.nd rfl (Or.inl rfl) (zQ (zf za (pv 1) (pv 8) (λ_ _=>rfl)) rfl))
    (zE (zb (i:=6) zA4.nd rfl (Or.inl rfl) (pv 9)))))))))))))
   (zD (zm (zj Zf (ZU Ky.zLc rfl ml PySem.boot_len (zA (pv 4) zC)) (zT OC hr1 (zA (pv 2) zC)) (zY _)) (zE (zS (yd (zA zJ (zA (yE ml (zA (pv 0) zC)) zC))))) zZ)
   (zE (zS (yd zC))))))),?_⟩
  intro fa nfa
  have told:∀ (o:Option (Nat×Nat)) (vs:List V),Gla.checkLoads (gk xs) shelf fl row=o->vs=(wrR o).map V.int->∀ {Hx:Hp},zH H Hx->∀ q,Hx q=none->Q (.ref q) (upd Hx q (.lst vs)):=λo vs e ev {Hx} sx q nq=>by
   refine k _ q (zR sx nq) ?_;rw[zF,e,ev]
  refine⟨λm σ H'=>∃ (p hb:Nat) (D:List (Nat×Nat)) (v7 v8 v9 v10 v11:Option V),m=row.length-p/\σ=[some (.ref ra),some (.ref ka),some (.ref qa),some (.int (shelf:Int)),some (.ref fa),some (.int (hb:Int)),some (.int (p:Int)),v7,v8,v9,v10,v11]/\zH H H'/\H' fa=some (.dT (YC D))/\FwI xs shelf fl row p hb D,
   ⟨row.length,0,1400,[],none,none,none,none,none,rfl,rfl,zR (zH.refl H) nfa,zF,WH _,Vl,Wd _,λx hx=>(by cases hx),none,[],row.length+1,.inl ⟨rfl,rfl⟩,λx=>Iff.rfl,Xm _,rfl⟩,?_⟩
  rintro m σ H' ⟨p,hb,D,v7,v8,v9,v10,v11,rfl,rfl,s1,hf,I⟩;refine⟨_,rfl,_,rfl,ra,_,rfl,.inl (s1.seq hR),_,_,rfl,rfl,_,rfl,?_⟩;rw[z9];obtain⟨last,had,fu,hlast,hm,hfu,hsp⟩:=I.spec;refine zp (λhlt=>?_) λhlt=>?_
  .have hp:p<row.length:=by have:=Wm hlt;omega
   have ep:=yW hp;have eg:row.getD p 0=row[p]:=by rw[Wi,ep];rfl
   generalize hkk:row[p]=kk at ep eg;refine⟨λσ' H''=>∃ m',m'<row.length-p/\∃ (p hb:Nat) (D:List (Nat×Nat)) (v7 v8 v9 v10 v11:Option V),m'=row.length-p/\σ'=[some (.ref ra),some (.ref ka),some (.ref qa),some (.int (shelf:Int)),some (.ref fa),some (.int (hb:Int)),some (.int (p:Int)),v7,v8,v9,v10,v11]/\zH H H''/\H'' fa=some (.dT (YC D))/\FwI xs shelf fl row p hb D,λ_ _ h=>h,?_⟩
   match fu,hfu,hsp with
  |fu+1,hfu,hsp=>
   refine⟨_,rfl,_,rfl,_,rfl,_,rfl,ra,ka,row,p,xs,hb,rfl,s1.seq hR,hp,LK.same zDu s1,?_⟩;refine⟨_,rfl,_,_,rfl,rfl,_,rfl,?_⟩;by_cases c1:zCc row p=true
   .have e1:zBe row p xs hb=1:=by unfold zBe;rw[Wb c1]
    rw[zQe ep c1] at hsp;rw[e1];refine zDW ⟨_,rfl,_,rfl,(by show 2<=sizeLine;decide),?_⟩;exact told (some (1,p)) _ hsp.symm rfl s1
   have c1':zCc row p=false:=by simpa using c1
   obtain⟨c,ec,hc0,hcl,hpl,eq⟩:=zRJ (xs:=xs) (shelf:=shelf) (fl:=fl) (fu:=fu) (last:=last) (had:=had) ep c1';rw[eq] at hsp;by_cases c2:xs.length<=kk
   .have e1:zBe row p xs hb=2:=by unfold zBe;rw[Wa c1,eg,Wb c2]
    have en:(gk xs)[kk]?=none:=W3 (by unfold gk;rw[zc];exact c2);rw[en] at hsp;rw[e1];refine zDW ⟨_,rfl,_,rfl,(by show 2<=sizeLine;decide),?_⟩;exact told (some (2,p)) _ hsp.symm rfl s1
   have hkx:kk<xs.length:=by omega
   obtain⟨y,ey,hy⟩:=zRI hkx;rw[ey] at hsp;dsimp only at hsp;rw[hy] at hsp;have hlb:=zPI hlast (hhot kk hkx);rw[hlb] at hsp;by_cases c3:hb<yM xs kk
   .have e1:zBe row p xs hb=3:=by unfold zBe;rw[Wa c1,eg,Wa c2,Wb c3]
    rw[Wb (WJ c3)] at hsp;rw[e1];refine zDW ⟨_,rfl,_,rfl,(by show 2<=sizeLine;decide),?_⟩;exact told (some (3,p)) _ hsp.symm rfl s1
   have e1:zBe row p xs hb=0:=by unfold zBe;rw[Wa c1,eg,Wa c2,Wa c3]
   rw[Wa (by rw[WB c3];decide)] at hsp;rw[e1];refine zJ3 ?_;refine⟨_,rfl,_,rfl,ra,_,_,_,rfl,rfl,s1.seq hR,ZY (j:=p) rfl ep,?_⟩;refine⟨_,rfl,_,_,rfl,rfl,_,rfl,_,rfl,_,_,rfl,rfl,ra,_,_,_,rfl,rfl,s1.seq hR,ZY (j:=p+1) (by omega) ec,_,_,rfl,rfl,?_⟩;refine⟨_,rfl,_,rfl,_,_,rfl,rfl,_,rfl,_,rfl,_,rfl,ra,_,rfl,s1.seq hR,λna nna=>?_⟩
   have ecut:zCE (zu row) (some ((p:Int)+2)) (some ((p:Int)+2+(c:Int)))=zu ((row.drop (p+2)).take c):=by
    have:=zIQ (l:=row) (p:=p+2) (n:=c) (by omega);rw[show (((p+2+c:Nat)):Int)=(p:Int)+2+(c:Int) by omega,show (((p+2:Nat)):Int)=(p:Int)+2 by omega] at this;exact this
   rw[ecut];generalize hpn:(row.drop (p+2)).take c=pn at hpl hsp;have s2:zH H' (upd H' na (.lst (zu pn))):=zR (zH.refl H') nna;have hn2:upd H' na (.lst (zu pn)) na=some (.lst (zu pn)):=zF;have hf2:=s2 _ _ hf;generalize upd H' na (.lst (zu pn))=H2 at s2 hn2 hf2;have s12:=s1.trans s2;have hDl:=I.len;refine⟨_,rfl,_,rfl,_,rfl,_,rfl,kk,na,qa,fa,pn,fl,D,rfl,hn2,(PC.same s1).same s2,hf2,by rw[hpl];omega,λH3 n s3 hf3 fr=>?_⟩;have s13:zH H H3:=λb o e=>s3 b o (zN e nfa) (s12 _ _ e)
   have nna3:na≠fa:=λe=>by rw[e,hf2] at hn2;cases hn2
   have hn3:=s3 _ _ nna3 hn2;refine⟨_,rfl,_,rfl,na,_,rfl,.inl (zM.of hn3),_,_,rfl,rfl,_,rfl,?_⟩;rw[z9,show decide (((n:Nat):Int)<((pn.length:Nat):Int))=decide (n<pn.length) by rw[Wk];omega];rw[zMF fr hm] at hsp;refine zp (λhb4=>?_) λhb4=>?_
   .rw[Wb (Wm hb4)] at hsp;refine⟨_,rfl,_,_,rfl,rfl,_,rfl,_,_,rfl,rfl,(by show 2<=sizeLine;decide),?_⟩;refine told (some (4,p+2+n)) _ hsp.symm ?_ s13;show [V.int 4,V.int ((p:Int)+2+(n:Int))]=[V.int 4,V.int ((p+2+n:Nat):Int)]
    rw[show ((p+2+n:Nat):Int)=(p:Int)+2+(n:Int) by omega]
   have hnn:n=pn.length:=by
    have:=Wo hb4;have:=fr.1;omega
   rw[Wa (Wo hb4)] at hsp;dsimp only at hsp;rw[hnn,WY] at hf3
   have hgood:∀ i∈pn,Y1 fl kk i=true:=λi hi=>by
    obtain⟨j,hj⟩:=Vv hi;exact (fr.2.1 j i (by rw[hnn];exact (yQ hj).1) hj).1
   have hlt':∀ i∈pn,i<fl.length:=λi hi=>by
    have:=hgood i hi;unfold Y1 at this;cases e:fl[i]? with
   |none=>rw[e] at this;cases this
   |some x=>exact (yQ e).1
   have PC3:YM K H3 qa fl:=YM.sameX ((PC.same s1).same s2) s3 ⟨_,hf2⟩;refine⟨_,rfl,_,rfl,na,qa,pn,fl,rfl,hn3,PC3,hlt',by rw[hpl];omega,λH4 s4=>?_⟩;have s14:=s13.trans s4;refine⟨_,rfl,_,_,rfl,rfl,_,rfl,?_⟩;rw[show decide (((shelf:Nat):Int)<(((pn.map (arN fl)).foldr (λ(a b:Nat)=>a+b) 0:Nat):Int))=decide (shelf<(pn.map (arN fl)).foldr (λ(a b:Nat)=>a+b) 0) by rw[Wk];omega];refine zp (λhb5=>?_) λhb5=>?_
   .rw[Wb (Wm hb5)] at hsp;refine⟨_,rfl,(by show 2<=sizeLine;decide),?_⟩;exact told (some (5,p)) _ hsp.symm rfl s14
   rw[Wa (Wo hb5)] at hsp;obtain⟨v1,r1,b1,C1,d1,f1,rfl,a1,a2,a3,a4⟩:=zEw ek hkx;refine⟨_,rfl,_,rfl,ka,_,_,_,rfl,rfl,zM.of (s14 _ _ hk),r1,b1,C1,d1,_,_,rfl,s14 _ _ a1,a2,a3,a4,?_⟩;refine⟨_,rfl,row.length-(p+2+c),by omega,p+2+c,yM xs kk,D++pn.map (λi=>(kk,i)),some (.int 0),some (.int (kk:Int)),some (.int (((p+2+c:Nat)):Int)),some (.ref na),some (.int (n:Int)),rfl,?_,s14,s4 _ _ hf3,?_⟩
   .rw[show ((p+2+c:Nat):Int)=(p:Int)+2+(c:Int) by omega];rfl
   .refine⟨hcl,?_,?_,?_,some (yM xs kk),pn.map (λi=>(kk,i))++had,fu,.inr rfl,λx=>?_,by omega,hsp⟩
    ·
     have key:∀ j,j<=pn.length->(D++(pn.take j).map λi=>(kk,i)).Nodup:=by
      intro j
      induction j with
     |zero=>intro _;simpa using I.nd
     |succ j ih=>
       intro hj;have hj':j<pn.length:=by omega
       have ej:=yW hj';have hnin:=(fr.2.1 j _ (by omega) ej).2;rw[yB ej,Ww,<-Xj,Xv];refine⟨ih (by omega),by simp,λa ha b hb' e=>?_⟩;have:b=(kk,pn[j]):=by simpa using hb'
       rw[this] at e;exact hnin (e ▸ ha)
     have:=key pn.length (Wd _);rw[WY] at this;exact this
    .rw[Wr,zc,hpl];omega
    .intro x hx;rcases Wp.mp hx with h|h
     .exact I.has x h
     .obtain⟨i,hi,rfl⟩:=Wg.mp h;exact hgood i hi
    .rw[Wp,Wp,hm];exact Or.comm
  .have hpe:p=row.length:=by
    have:=Wo hlt;have:=I.le;omega
   match fu,hfu,hsp with
  |fu+1,hfu,hsp=>
   have e6:Gla.checkFrom (gk xs) shelf fl row (fu+1) p last had=if (fl.zipIdx.any λ(x:Gla.Fired×Nat)=>x.1.coats.any λ(k:Nat)=>!had.contains (k,x.2))=true then some (6,row.length) else none:=by
    unfold Gla.checkFrom;rw[W3 (by omega)]
   rw[e6,<-zPH hcn I.nd I.has hm] at hsp;refine⟨_,rfl,fa,_,rfl,hf,_,rfl,qa,fl,rfl,PC.same s1,by omega,λH2 s2=>?_⟩;have s12:=s1.trans s2;refine⟨_,_,rfl,rfl,_,rfl,?_⟩;have hkl:(YC D).length=D.length:=zc ..;rw[hkl,show decide (((D.length:Nat):Int)<(((fl.map λx=>x.coats.length).foldr (λ(a b:Nat)=>a+b) 0:Nat):Int))=decide (D.length<(fl.map λx=>x.coats.length).foldr (λ(a b:Nat)=>a+b) 0) by rw[Wk];omega];refine zp (λhb6=>?_) λhb6=>?_
   .rw[Wb hb6] at hsp;refine⟨_,rfl,ra,_,rfl,.inl (s12.seq hR),(by show 2<=sizeLine;decide),?_⟩;rw[z9];exact told (some (6,row.length)) _ hsp.symm rfl s12
   .rw[Wa (by rw[hb6];decide)] at hsp;exact⟨WH _,told none _ hsp.symm rfl s12⟩
end
def zKx (shelf:Nat)(b:Gla.Bytes)(kr pr row:List Nat):List Int:=match zCb kr pr b with
|some l=>l
|none=>0::wrR (Gla.checkLoads (gk (Zo kr)) shelf (Z9 (Gla.parts b) ((ZE pr).map Prod.snd)) row)
theorem zKy(shelf:Nat)(b:Gla.Bytes)(kr pr row:List Nat)(hb:b.length<=100000)(hr:row.length<=30000):PyYqglga.check (Int.ofNat shelf) (bI b) (iL kr) (iL pr) (iL row)=zKx shelf b kr pr row:=by
 obtain⟨KK,e1,e2,e3,e4⟩:=zPD kr pr;show KilnNeutral.f [[5,Int.ofNat shelf],bI b,iL kr,iL pr,iL row]=_
 have ec:KilnNeutral.callOf [[5,Int.ofNat shelf],bI b,iL kr,iL pr,iL row]=some (.check b KK shelf row):=by
  show (do some (GlaKilns.Call.check (<-KilnNeutral.bytes (bI b)) (<-KilnNeutral.both (iL kr) (iL pr)) (<-KilnNeutral.nat (Int.ofNat shelf)) (<-(iL row).mapM KilnNeutral.nat)):Option GlaKilns.Call)=_;rw[zNB,e1,zEx,zFQ];rfl
 unfold KilnNeutral.f;rw[ec];show KilnNeutral.told (GlaKilns.answer (.check b KK shelf row))=_;unfold GlaKilns.answer;have ea:GlaKilns.asked (.check b KK shelf row)=(Zk kr&&ZX (Zo kr) (ZE pr)):=e2;rw[ea];unfold zKx zCb;by_cases h1:Zk kr=true
 .by_cases h2:ZX (Zo kr) (ZE pr)=true
  .rw[h1,h2,Wa (by decide),Wa (by decide),Wa (by decide)];dsimp only;unfold GlaKilns.ofPlan;rw[Wa (by unfold GlaKilns.BYTES GlaKilns.ROW;omega)];cases hp:zAd b with
  |some z=>
    unfold zAd at hp;cases e:Gla.judgePlan b with
   |ok S=>rw[e] at hp;cases hp
   |error x=>
     rw[e] at hp;cases hp;rfl
  |none=>
    rw[zNC hp];dsimp only;unfold GlaKilns.withCoats
    have hbp:Gla.badPainting KK.paintings (Gla.parts b)=zAK (ZE pr).length (Gla.parts b):=by
     unfold Gla.badPainting zAK;rw[e4,zc]
    rw[hbp];cases zAK (ZE pr).length (Gla.parts b) with
   |some i=>rfl
   |none=>
     dsimp only;rw[e3 h1,e4,zPE h2,<-zM8];cases Gla.checkLoads (gk (Zo kr)) shelf (Z9 (Gla.parts b) ((ZE pr).map Prod.snd)) row with
    |none=>rfl
    |some x=>rfl
  .have h2':ZX (Zo kr) (ZE pr)=false:=by simpa using h2
   rw[h1,h2',Wb (by rfl),Wa (by decide),Wb rfl];rfl
 .have h1':Zk kr=false:=by simpa using h1
  rw[h1',Wb (by rfl),Wb rfl];rfl
section
variable {P:Program}{w:World}{K:Qf}{mg:Qm}{base:Heap}{C:Addr}
def zJp (K:Qf):Sp:=λvs H Q _=>∃ (shelf:Nat) (ca ka pa ra:Addr) (b:Gla.Bytes) (kr pr row:List Nat),vs=[.int (shelf:Int),.ref ca,.ref ka,.ref pa,.ref ra]/\zM K H ca ((bI b).map V.int)/\zM K H ka (zu kr)/\zM K H pa (zu pr)/\zM K H ra (zu row)/\kr.length<10000/\pr.length<10000/\row.length<=30000/\
 ∀ (H':Hp) (q:Addr),H' q=some (.lst ((zKx shelf b kr pr row).map V.int))->Q (.ref q) H'
theorem zIc:zO ["shelf","cartoon","kinds","paintings","row","work"] ["shelf","cartoon","kinds","paintings","row"] (zI zGP):=yG (by decide +kernel)
theorem zPJ(o:Option (Nat×Nat)):(wrR o).length<=2:=by cases o <;> simp[wrR]
theorem zND{f0:Addr}{fd0:FuncData}(D:Def K mg "check" zGP ["shelf","cartoon","kinds","paintings","row"] f0 fd0)(OW:Ok P w K mg base 8 "work_of" ["cartoon","kinds","paintings"] (zNe K))(OF:Ok P w K mg base 3 "first_wrong" ["row","kinds","pieces","shelf"] (zQg K))(ml:mg "len" = none):Yy P w K mg base CX0 9 f0 fd0 ["shelf","cartoon","kinds","paintings","row"] (zJp K):=by
 refine D.fn.ok zIc (λvs H Q E h=>?_) (λcdv A outer s H vs Q E hr h=>?_)
 .obtain⟨shelf,ca,ka,pa,ra,b,kr,pr,row,rfl,_⟩:=h;rfl
 .obtain⟨shelf,ca,ka,pa,ra,b,kr,pr,row,rfl,hC,hK,hP,hR,lK,lP,lR,k⟩:=h;have hr3:zt 3 _:=hr.mono (by decide)
  refine⟨_,zD (zb (i:=5) zIc.nd rfl (Or.inl rfl) (zT OW hr (zA (pv 1) (zA (pv 2) (zA (pv 3) zC)))))
   (zD (zm (zj Zx (yE ml (zA (zQ (pv 5) rfl) zC)) zJ (zY _)) (zE (zS (zQ (pv 5) rfl))) zZ)
   (zE (zS (zi zPa (yd (zA zJ zC)) (zT OF hr3 (zA (pv 4) (zA (zQ (pv 5) rfl) (zA (zQ (pv 5) rfl) (zA (pv 0) zC))))))))),?_⟩
  refine⟨_,rfl,_,rfl,_,rfl,ca,ka,pa,b,kr,pr,rfl,hC,hK,hP,lK,lP,λH1 wk kq pq rq s1 W WR=>?_⟩;obtain⟨C1,d1,f1,a1,a2,a3,a4,a5,a6,a7,a8⟩:=W;unfold WkR at WR;unfold zKx at k;cases hw:zCb kr pr b with
 |some l=>
   rw[hw] at WR k
   have hl:0<l.length:=by
    unfold zCb at hw;split at hw
    .cases hw;decide
    .split at hw
     .cases hw;decide
     .split at hw
      .cases hw;exact Ur _
      .split at hw
       .cases hw;exact Ur _
       .cases hw
   refine⟨_,rfl,wk,C1,d1,f1,_,rfl,a1,a2,a5,a8,rq,_,rfl,.inl (zM.of WR),_,_,rfl,rfl,_,rfl,?_⟩;rw[zc,WJ (by omega)];exact zDW ⟨_,rfl,wk,C1,d1,f1,_,rfl,a1,a2,a5,a8,k _ _ WR⟩
 |none=>
   rw[hw] at WR k;obtain⟨w1,w2,w3,w4,w5,w6⟩:=WR;refine⟨_,rfl,wk,C1,d1,f1,_,rfl,a1,a2,a5,a8,rq,_,rfl,.inl (zM.of w1),_,_,rfl,rfl,_,rfl,zJ3 ?_⟩;refine⟨(by show 1<=sizeLine;decide),λz nz=>?_⟩;have s2:zH H1 (upd H1 z (.lst [.int 0])):=zR (zH.refl H1) nz;refine⟨_,rfl,_,rfl,wk,C1,d1,f1,_,rfl,s2 _ _ a1,a2,a3,a6,_,rfl,wk,C1,d1,f1,_,rfl,s2 _ _ a1,a2,a4,a7,_,rfl,ra,kq,pq,row,Zo kr,_,shelf,rfl,(s1.trans s2).seq hR,w2.same zDu s2,w3.same s2,by omega,zQW w4,zNA w5,zMC w6,λH3 q s3 hq=>?_⟩;refine⟨z,q,_,_,rfl,rfl,s3 _ _ zF,hq,?_,λp np=>k _ p ?_⟩
   .rw[zc];have:=zPJ (Gla.checkLoads (gk (Zo kr)) shelf (Z9 (Gla.parts b) ((ZE pr).map Prod.snd)) row);exact WT (UI this _) (by show 1+2<=sizeLine;decide)
   .rw[zF];rfl
end
theorem zEz{K:Qf}{h:Heap}{N:Addr}{m:Qm}{x:Str}{r:Option Value}(X:K.In h)(G:h.Ns N m)(e:PySem.W.nsIn K N x=some r):m x=r:=by
 obtain⟨o,es,ep,ho,hd,_,hf⟩:=G;unfold PySem.W.nsIn at e;split at e
 .rename_i c d es' n' sl q
  have:=X _ _ q;rw[ho] at this;cases this;cases hd;split at e
  .rename_i en he
   cases e;rw[<-hf];unfold nsFind findBy;rw[<-UL,he];rfl
  .rename_i he
   split at e
   .cases e
   .cases e;rw[<-hf];unfold nsFind findBy;rw[<-UL,he];rfl
 .cases e
def skB (es:Array DictEntry):Bool:=es.toList.all λe=>match e.key with
|.str _ _=>true
|_=>false
theorem zRL{es:Array DictEntry}(h:skB es=true):StrKeys es:=by
 intro e he;have:=WI.mp h e (Array.mem_toList_iff.mpr he);cases q:e.key with
|str n t=>exact⟨n,t,rfl⟩
|_=>rw[q] at this;cases this
theorem zRM{P:Program}{w:World}{base:Heap}{K:Qf}{h:Heap}{mg:Qm}{C N f:Addr}{nm q:Str}{bs:List Value}{sn:List Str}{sub:List Value}{ab:Bool}{col:Option Bool}{dd:Option Addr}{k0 k1 k2 k3 k5:Option Value}{nc:Value}{nd:Option Addr}{es:Array DictEntry}{n:Nat}{nsl:Array (Option Value)}
  {od an:Option Addr}{osl:Array (Option Value)}{kV doc pm cdv ct:Value}(X:K.In h) (G:h.Ns mainGlobals mg) (aC:PySem.W.nsIn K mainGlobals "NoCartoon" = some (some (.ref C))) (kc:PySem.W.keepIn K (.ref C)=true)
  (cl:K.lookup C=some (excClassObj nm q C N bs Kx.VE true sn sub ab col dd k0 k1 k2 k3 k5 "ValueError.__new__"))(ln:K.lookup N=some ⟨nc,nd,.dict es n,nsl⟩)(sk:StrKeys es)
  (n0:PySem.W.nsIn K N "__init__" = some (some (.ref f)))(n1:PySem.W.nsIn K N "__setattr__" = some none)(n2:PySem.W.nsIn K N "rule" = some none)(n3:PySem.W.nsIn K N "place" = some none)(n4:PySem.W.nsIn K N "__getattribute__" = some none)(n5:PySem.W.nsIn K N "__getattr__" = some none)
  (l:K.lookup f=some ⟨.type "function",od,.func (PySem.W.fnOf "__init__" "NoCartoon.__init__" (YF y6) (ZN y6) (zI y6) .none kV doc pm an cdv ct),osl⟩)
  (c:PySem.W.codeIn K cdv "NoCartoon.__init__" = true)(k:PySem.W.keepIn K (.ref f)=true)
  (b:∀ (kV doc pm:Value) (an:Option Addr) (cdv ct:Value) (us:List Value),us.length=(["self","rule","place"]:List Str).length->bindArgs (PySem.W.fnOf "__init__" "NoCartoon.__init__" (YF y6) (ZN y6) (zI y6) .none kV doc pm an cdv ct) ⟨us,[]⟩=pure ((["self","rule","place"]:List Str).zip us)):XR P w K mg base C:=by
 have NS:∀ h:Heap,K.In h->h.Ns N (nsFind es):=λh X=>⟨_,es,n,X _ _ ln,rfl,sk,λ_=>rfl⟩
 have T:Kx.zCK K mg C N f:=⟨Vb X G aC,kc,⟨_,_,_,_,_,_,_,_,_,_,_,_,_,cl⟩,nsFind es,NS,zEz X (NS h X) n0,zEz X (NS h X) n1,zEz X (NS h X) n2,zEz X (NS h X) n3,zEz X (NS h X) n4,zEz X (NS h X) n5⟩
 exact⟨N,f,_,T,⟨_,l,rfl⟩,zMs (zBi l c k) T,(zBi l c k).binds b⟩
theorem zFR{K:Qf}{a:Addr}{i1 i2 i3 i4:Int}{u1 u2 u3 u4:Tok}{d:Option Addr}{n:Nat}{sl:Array (Option Value)}(l:K.lookup a=some ⟨.type "tuple",d,.seq #[.int i1 u1,.int i2 u2,.int i3 u3,.int i4 u4] n,sl⟩):∀ H:Hp,yH K H a [.int i1,.int i2,.int i3,.int i4]:=λH=>.inr ⟨_,_,n,l,rfl,rfl,(by show 4<=sizeLine;decide),.cons ⟨_,rfl⟩ (.cons ⟨_,rfl⟩ (.cons ⟨_,rfl⟩ (.cons ⟨_,rfl⟩ .nil)))⟩
theorem zRN{K:Qf}{h:Heap}{mg:Qm}{x:Str}{a:Addr}{i1 i2 i3 i4:Int}{u1 u2 u3 u4:Tok}{d:Option Addr}{n:Nat}{sl:Array (Option Value)}(X:K.In h)(G:h.Ns mainGlobals mg)(e:PySem.W.nsIn K mainGlobals x=some (some (.ref a)))
  (l:K.lookup a=some ⟨.type "tuple",d,.seq #[.int i1 u1,.int i2 u2,.int i3 u3,.int i4 u4] n,sl⟩):zPy K mg x [.int i1,.int i2,.int i3,.int i4]:=⟨a,Vb X G e,zFR l⟩
theorem zQh{K:Qf}{h:Heap}{mg:Qm}{a t0 t1 t2 t3 t4 t5:Addr}{d d0 d1 d2 d3 d4 d5:Option Addr}{n m0 m1 m2 m3 m4 m5:Nat}{sl s0 s1 s2 s3 s4 s5:Array (Option Value)}{u00 u01 u02 u03 u10 u11 u12 u13 u20 u21 u22 u23 u30 u31 u32 u33 u40 u41 u42 u43 u50 u51 u52 u53:Tok}(X:K.In h)(G:h.Ns mainGlobals mg)(e:PySem.W.nsIn K mainGlobals "HEAD_NUMBERS" = some (some (.ref a)))
  (l:K.lookup a=some ⟨.type "tuple",d,.seq #[.ref t0,.ref t1,.ref t2,.ref t3,.ref t4,.ref t5] n,sl⟩)
  (l0:K.lookup t0=some ⟨.type "tuple",d0,.seq #[.int 4 u00,.int 4 u01,.int 16 u02,.int 1048575 u03] m0,s0⟩)(l1:K.lookup t1=some ⟨.type "tuple",d1,.seq #[.int 8 u10,.int 4 u11,.int 16 u12,.int 1048575 u13] m1,s1⟩)(l2:K.lookup t2=some ⟨.type "tuple",d2,.seq #[.int 12 u20,.int 2 u21,.int 4 u22,.int 4096 u23] m2,s2⟩)
  (l3:K.lookup t3=some ⟨.type "tuple",d3,.seq #[.int 14 u30,.int 2 u31,.int 4 u32,.int 8192 u33] m3,s3⟩)(l4:K.lookup t4=some ⟨.type "tuple",d4,.seq #[.int 16 u40,.int 2 u41,.int 1 u42,.int 2048 u43] m4,s4⟩)(l5:K.lookup t5=some ⟨.type "tuple",d5,.seq #[.int 18 u50,.int 2 u51,.int 0 u52,.int 0 u53] m5,s5⟩):GHN K mg:=by
 refine⟨a,[t0,t1,t2,t3,t4,t5],Vb X G e,λH=>.inr ⟨_,_,n,l,rfl,rfl,(by show 6<=sizeLine;decide),.cons rfl (.cons rfl (.cons rfl (.cons rfl (.cons rfl (.cons rfl .nil)))))⟩,rfl,λi t z h1 h2=>?_⟩
 match i,h1,h2 with
|0,h1,h2=>cases h1;cases h2;exact zFR l0
|1,h1,h2=>cases h1;cases h2;exact zFR l1
|2,h1,h2=>cases h1;cases h2;exact zFR l2
|3,h1,h2=>cases h1;cases h2;exact zFR l3
|4,h1,h2=>cases h1;cases h2;exact zFR l4
|5,h1,h2=>cases h1;cases h2;exact zFR l5
end Kn
open PySem PySem.W PyProof.Rows
set_option maxRecDepth 100000 in
set_option maxHeartbeats 0 in
theorem PySem.Challenge.cw_kilnloads_s05_check_holds : PySem.Challenge.rw_kilnloads_s05_check.Holds := by
 w_on;k_headS;(case hw=>exact⟨[.int 0,.list [],.list [],.list [],.list []],by decide +kernel,by decide +kernel⟩)
 k_fillS
 refine L2.zJ5 (r:=PySem.Challenge.rw_kilnloads_s05_check) (k:=9) (CX:=L2.CX0) (ps:=["shelf","cartoon","kinds","paintings","row"]) (sp:=Kn.zJp) (by decide +kernel) rfl rfl ⟨rfl,by decide,by decide⟩ (λw h Y=>PySem.W.kIn_of Y) ?F ?S (λ_ _ _ _ z=>z)
 case F=>
  intro w mg fa h Y KX G hmg;have D12:=Kn.zP (x:="is_within") (st:=Kn.zCv) (ps:=["number","least","greatest"]) KX G (by k_is) (by k_is) (by k_is) (by k_is) (λ_ _ _ _ _ _=>Kn.bn3 λ_ _ _=>rfl);have g65:Kn.yt mg "HOTTEST" (1400):=Kn.YX KX G (by k_is);have g60:Kn.yt mg "LONGEST_HOLD" (9999):=Kn.YX KX G (by k_is);obtain⟨C175,T140,I161⟩:∃ C,Kn.zKk _ mg C/\Kn.ZC _ C "Kind.__init__" Kn.zCw ["self","heat","hold"]:=⟨_,Kn.zO4 KX G (by k_is) (by k_is) (by k_is) (by k_is) (by k_is) (by k_is) (by k_is),Kn.YK KX (by k_is) (by k_is) (by k_is) (by k_is) (by k_is) (by k_is) (by k_is) (λ_ _ _ _ _ _=>Kn.bn3 λ_ _ _=>rfl)⟩
  have D139:=Kn.zP (x:="is_kind") (st:=Kn.zEE) (ps:=["heat","hold"]) KX G (by k_is) (by k_is) (by k_is) (by k_is) (λ_ _ _ _ _ _=>Kn.bn2 λ_ _=>rfl);have D22:=Kn.zP (x:="is_cut_or_empty") (st:=Kn.zAM) (ps:=["row","place"]) KX G (by k_is) (by k_is) (by k_is) (by k_is) (λ_ _ _ _ _ _=>Kn.bn2 λ_ _=>rfl);have D43:=Kn.zP (x:="wrong_at_head") (st:=Kn.zAt) (ps:=["row","place","kinds","heat_before"]) KX G (by k_is) (by k_is) (by k_is) (by k_is) (λ_ _ _ _ _ _=>Kn.bn4 λ_ _ _ _=>rfl);have D122:=Kn.zP (x:="has_coat") (st:=Kn.zDd) (ps:=["number","kind","pieces"]) KX G (by k_is) (by k_is) (by k_is) (by k_is) (λ_ _ _ _ _ _=>Kn.bn3 λ_ _ _=>rfl);have D164:=Kn.zP (x:="fire") (st:=Kn.zH1) (ps:=["kind","numbers","pieces","fired"]) KX G (by k_is) (by k_is) (by k_is) (by k_is) (λ_ _ _ _ _ _=>Kn.bn4 λ_ _ _ _=>rfl);have D142:=Kn.zP (x:="area_of") (st:=Kn.zCj) (ps:=["numbers","pieces"]) KX G (by k_is) (by k_is) (by k_is) (by k_is) (λ_ _ _ _ _ _=>Kn.bn2 λ_ _=>rfl);have D103:=Kn.zP (x:="all_coats") (st:=Kn.zBX) (ps:=["pieces"]) KX G (by k_is) (by k_is) (by k_is) (by k_is) (λ_ _ _ _ _ _=>Kn.YS λ_=>rfl);have D73:=Kn.zP (x:="first_wrong") (st:=Kn.zBs) (ps:=["row","kinds","pieces","shelf"]) KX G (by k_is) (by k_is) (by k_is) (by k_is) (λ_ _ _ _ _ _=>Kn.bn4 λ_ _ _ _=>rfl);have g64:Kn.yt mg "NO_PANE" (-1):=Kn.YX KX G (by k_is);obtain⟨C170,T113,I157⟩:∃ C,Kn.zKq _ mg C/\Kn.ZC _ C "Piece.__init__" Kn.zCL ["self","area","coats"]:=⟨_,Kn.zPB KX G (by k_is) (by k_is) (by k_is) (by k_is) (by k_is) (by k_is) (by k_is),Kn.YK KX (by k_is) (by k_is) (by k_is) (by k_is) (by k_is) (by k_is) (by k_is) (λ_ _ _ _ _ _=>Kn.bn3 λ_ _ _=>rfl)⟩
  have D8:=Kn.zP (x:="first_without_painting") (st:=Kn.Z5) (ps:=["panes","paintings"]) KX G (by k_is) (by k_is) (by k_is) (by k_is) (λ_ _ _ _ _ _=>Kn.bn2 λ_ _=>rfl);have D84:=Kn.zP (x:="blank_area") (st:=Kn.zAC) (ps:=["corners"]) KX G (by k_is) (by k_is) (by k_is) (by k_is) (λ_ _ _ _ _ _=>Kn.YS λ_=>rfl);have D129:=Kn.zP (x:="coats_of") (st:=Kn.zDe) (ps:=["pane","paintings"]) KX G (by k_is) (by k_is) (by k_is) (by k_is) (λ_ _ _ _ _ _=>Kn.bn2 λ_ _=>rfl);have D111:=Kn.zP (x:="pieces_of") (st:=Kn.zBY) (ps:=["panes","paintings"]) KX G (by k_is) (by k_is) (by k_is) (by k_is) (λ_ _ _ _ _ _=>Kn.bn2 λ_ _=>rfl);obtain⟨C171,T112,I159⟩:∃ C,Kn.zKM _ mg C/\Kn.ZC _ C "Point.__init__" Kn.zCM ["self","x","y"]:=⟨_,Kn.zOP KX G (by k_is) (by k_is) (by k_is) (by k_is) (by k_is) (by k_is) (by k_is),Kn.YK KX (by k_is) (by k_is) (by k_is) (by k_is) (by k_is) (by k_is) (by k_is) (λ_ _ _ _ _ _=>Kn.bn3 λ_ _ _=>rfl)⟩
  have D166:=Kn.zP (x:="turn") (st:=Kn.zH2) (ps:=["p","q","r"]) KX G (by k_is) (by k_is) (by k_is) (by k_is) (λ_ _ _ _ _ _=>Kn.bn3 λ_ _ _=>rfl);have D53:=Kn.zP (x:="is_on") (st:=Kn.zGO) (ps:=["r","p","q"]) KX G (by k_is) (by k_is) (by k_is) (by k_is) (λ_ _ _ _ _ _=>Kn.bn3 λ_ _ _=>rfl);have D148:=Kn.zP (x:="crosses") (st:=Kn.zEF) (ps:=["p","q","r","s"]) KX G (by k_is) (by k_is) (by k_is) (by k_is) (λ_ _ _ _ _ _=>Kn.bn4 λ_ _ _ _=>rfl);have D110:=Kn.zP (x:="is_behind") (st:=Kn.zCx) (ps:=["point","other"]) KX G (by k_is) (by k_is) (by k_is) (by k_is) (λ_ _ _ _ _ _=>Kn.bn2 λ_ _=>rfl);have g80:=Kn.zRN (x:="FIRST_BYTES") KX G (by k_is) (by k_is);have g6:Kn.yt mg "HEAD_SIZE" (20):=Kn.YX KX G (by k_is);have g10:Kn.yt mg "POINT_SIZE" (8):=Kn.YX KX G (by k_is);have g14:Kn.yt mg "LINE_SIZE" (4):=Kn.YX KX G (by k_is);have g13:Kn.yt mg "MARK_SIZE" (12):=Kn.YX KX G (by k_is);have g46:=Kn.zQh KX G (by k_is) (by k_is) (by k_is) (by k_is) (by k_is) (by k_is) (by k_is) (by k_is);obtain⟨CX,R_X⟩:∃ CX,∀ (P:PySem.Program) (w':PySem.World) (base:PySem.Heap),Kn.XR P w' _ mg base CX:=⟨_,λP w' base=>Kn.zRM KX G (by k_is) (by k_is) (by k_is) (by k_is) (Kn.zRL rfl) (by k_is) (by k_is) (by k_is) (by k_is) (by k_is) (by k_is) (by k_is) (by k_is) (by k_is) (λ_ _ _ _ _ _=>Kn.bn3 λ_ _ _=>rfl)⟩
  obtain⟨C174,T135,I165⟩:∃ C,Kn.zKN _ mg C/\Kn.ZC _ C "Mark.__init__" Kn.zCy ["self","x","y","painting"]:=⟨_,Kn.zOQ KX G (by k_is) (by k_is) (by k_is) (by k_is) (by k_is) (by k_is) (by k_is) (by k_is),Kn.YK KX (by k_is) (by k_is) (by k_is) (by k_is) (by k_is) (by k_is) (by k_is) (λ_ _ _ _ _ _=>Kn.bn4 λ_ _ _ _=>rfl)⟩
  obtain⟨C169,T66,I146⟩:∃ C,Kn.zKO _ mg C/\Kn.ZC _ C "Cartoon.__init__" Kn.zBB ["self","width","height","points","lines","marks"]:=⟨_,Kn.zOR KX G (by k_is) (by k_is) (by k_is) (by k_is) (by k_is) (by k_is) (by k_is) (by k_is) (by k_is) (by k_is),Kn.YK KX (by k_is) (by k_is) (by k_is) (by k_is) (by k_is) (by k_is) (by k_is) (λ_ _ _ _ _ _=>Kn.bn6 λ_ _ _ _ _ _=>rfl)⟩
  have D106:=Kn.zP (x:="number_at") (st:=Kn.zCz) (ps:=["data","place","size"]) KX G (by k_is) (by k_is) (by k_is) (by k_is) (λ_ _ _ _ _ _=>Kn.bn3 λ_ _ _=>rfl);have D75:=Kn.zP (x:="point_place") (st:=Kn.zBt) (ps:=["number"]) KX G (by k_is) (by k_is) (by k_is) (by k_is) (λ_ _ _ _ _ _=>Kn.YS λ_=>rfl);have D98:=Kn.zP (x:="line_place") (st:=Kn.zCN) (ps:=["cartoon","number"]) KX G (by k_is) (by k_is) (by k_is) (by k_is) (λ_ _ _ _ _ _=>Kn.bn2 λ_ _=>rfl);have D95:=Kn.zP (x:="mark_place") (st:=Kn.zCO) (ps:=["cartoon","number"]) KX G (by k_is) (by k_is) (by k_is) (by k_is) (λ_ _ _ _ _ _=>Kn.bn2 λ_ _=>rfl);have D91:=Kn.zP (x:="lines_from") (st:=Kn.zCP) (ps:=["data"]) KX G (by k_is) (by k_is) (by k_is) (by k_is) (λ_ _ _ _ _ _=>Kn.YS λ_=>rfl);have D92:=Kn.zP (x:="marks_from") (st:=Kn.zCQ) (ps:=["data"]) KX G (by k_is) (by k_is) (by k_is) (by k_is) (λ_ _ _ _ _ _=>Kn.YS λ_=>rfl);have D109:=Kn.zP (x:="marks_end") (st:=Kn.zC0) (ps:=["data"]) KX G (by k_is) (by k_is) (by k_is) (by k_is) (λ_ _ _ _ _ _=>Kn.YS λ_=>rfl);have D94:=Kn.zP (x:="judge_head") (st:=Kn.zCR) (ps:=["data"]) KX G (by k_is) (by k_is) (by k_is) (by k_is) (λ_ _ _ _ _ _=>Kn.YS λ_=>rfl);have D120:=Kn.zP (x:="point_at") (st:=Kn.zDf) (ps:=["data","place"]) KX G (by k_is) (by k_is) (by k_is) (by k_is) (λ_ _ _ _ _ _=>Kn.bn2 λ_ _=>rfl);have D145:=Kn.zP (x:="line_at") (st:=Kn.zEG) (ps:=["data","place"]) KX G (by k_is) (by k_is) (by k_is) (by k_is) (λ_ _ _ _ _ _=>Kn.bn2 λ_ _=>rfl);have D136:=Kn.zP (x:="mark_at") (st:=Kn.zEH) (ps:=["data","place"]) KX G (by k_is) (by k_is) (by k_is) (by k_is) (λ_ _ _ _ _ _=>Kn.bn2 λ_ _=>rfl);have D144:=Kn.zP (x:="told_by") (st:=Kn.zAl) (ps:=["data"]) KX G (by k_is) (by k_is) (by k_is) (by k_is) (λ_ _ _ _ _ _=>Kn.YS λ_=>rfl);have D59:=Kn.zP (x:="judge_points") (st:=Kn.zBC) (ps:=["cartoon"]) KX G (by k_is) (by k_is) (by k_is) (by k_is) (λ_ _ _ _ _ _=>Kn.YS λ_=>rfl);have D79:=Kn.zP (x:="judge_lines") (st:=Kn.zBu) (ps:=["cartoon"]) KX G (by k_is) (by k_is) (by k_is) (by k_is) (λ_ _ _ _ _ _=>Kn.YS λ_=>rfl);have g88:Kn.yt mg "MOST_KINDS" (16):=Kn.YX KX G (by k_is);have g32:Kn.yt mg "MOST_PAINTINGS" (256):=Kn.YX KX G (by k_is);have g85:Kn.yt mg "MOST_COATS" (4):=Kn.YX KX G (by k_is);obtain⟨C168,T41,I126⟩:∃ C,Kn.zKl _ mg C/\Kn.ZC _ C "Painting.__init__" Kn.zAu ["self","how_many","coats"]:=⟨_,Kn.zO5 KX G (by k_is) (by k_is) (by k_is) (by k_is) (by k_is) (by k_is) (by k_is),Kn.YK KX (by k_is) (by k_is) (by k_is) (by k_is) (by k_is) (by k_is) (by k_is) (λ_ _ _ _ _ _=>Kn.bn3 λ_ _ _=>rfl)⟩
  have D105:=Kn.zP (x:="are_kinds") (st:=Kn.zC1) (ps:=["row"]) KX G (by k_is) (by k_is) (by k_is) (by k_is) (λ_ _ _ _ _ _=>Kn.YS λ_=>rfl);have D118:=Kn.zP (x:="kinds_of") (st:=Kn.zB2) (ps:=["row"]) KX G (by k_is) (by k_is) (by k_is) (by k_is) (λ_ _ _ _ _ _=>Kn.YS λ_=>rfl);have D54:=Kn.zP (x:="paintings_of") (st:=Kn.zBD) (ps:=["row"]) KX G (by k_is) (by k_is) (by k_is) (by k_is) (λ_ _ _ _ _ _=>Kn.YS λ_=>rfl);have D99:=Kn.zP (x:="heats_fall") (st:=Kn.zCS) (ps:=["coats","kinds"]) KX G (by k_is) (by k_is) (by k_is) (by k_is) (λ_ _ _ _ _ _=>Kn.bn2 λ_ _=>rfl);have D81:=Kn.zP (x:="is_painting") (st:=Kn.zBv) (ps:=["painting","kinds"]) KX G (by k_is) (by k_is) (by k_is) (by k_is) (λ_ _ _ _ _ _=>Kn.bn2 λ_ _=>rfl);have D38:=Kn.zP (x:="are_paintings") (st:=Kn.zAv) (ps:=["paintings","kinds"]) KX G (by k_is) (by k_is) (by k_is) (by k_is) (λ_ _ _ _ _ _=>Kn.bn2 λ_ _=>rfl);have g42:Kn.yt mg "NO_POINT" (-1):=Kn.YX KX G (by k_is);have D70:=Kn.zP (x:="has_corners") (st:=Kn.zAa) (ps:=["cartoon"]) KX G (by k_is) (by k_is) (by k_is) (by k_is) (λ_ _ _ _ _ _=>Kn.YS λ_=>rfl);have D125:=Kn.zP (x:="edges_of") (st:=Kn.zDg) (ps:=["cartoon"]) KX G (by k_is) (by k_is) (by k_is) (by k_is) (λ_ _ _ _ _ _=>Kn.YS λ_=>rfl);have D108:=Kn.zP (x:="is_joined") (st:=Kn.zC2) (ps:=["edge","joined"]) KX G (by k_is) (by k_is) (by k_is) (by k_is) (λ_ _ _ _ _ _=>Kn.bn2 λ_ _=>rfl);have D78:=Kn.zP (x:="judge_frame") (st:=Kn.zAb) (ps:=["cartoon"]) KX G (by k_is) (by k_is) (by k_is) (by k_is) (λ_ _ _ _ _ _=>Kn.YS λ_=>rfl);have D16:=Kn.zP (x:="has_point_between") (st:=Kn.Yz) (ps:=["points","line"]) KX G (by k_is) (by k_is) (by k_is) (by k_is) (λ_ _ _ _ _ _=>Kn.bn2 λ_ _=>rfl);have D93:=Kn.zP (x:="is_crossed") (st:=Kn.zCT) (ps:=["points","line","others"]) KX G (by k_is) (by k_is) (by k_is) (by k_is) (λ_ _ _ _ _ _=>Kn.bn3 λ_ _ _=>rfl);have D24:=Kn.zP (x:="judge_crossings") (st:=Kn.zAN) (ps:=["cartoon"]) KX G (by k_is) (by k_is) (by k_is) (by k_is) (λ_ _ _ _ _ _=>Kn.YS λ_=>rfl);have D34:=Kn.zP (x:="neighbours_of") (st:=Kn.Y4) (ps:=["cartoon"]) KX G (by k_is) (by k_is) (by k_is) (by k_is) (λ_ _ _ _ _ _=>Kn.YS λ_=>rfl);have D58:=Kn.zP (x:="reached_from") (st:=Kn.zAJ) (ps:=["start","neighbours","left_out"]) KX G (by k_is) (by k_is) (by k_is) (by k_is) (λ_ _ _ _ _ _=>Kn.bn3 λ_ _ _=>rfl);have D83:=Kn.zP (x:="judge_ends") (st:=Kn.zCU) (ps:=["neighbours"]) KX G (by k_is) (by k_is) (by k_is) (by k_is) (λ_ _ _ _ _ _=>Kn.YS λ_=>rfl);have D97:=Kn.zP (x:="judge_ways") (st:=Kn.zCV) (ps:=["neighbours"]) KX G (by k_is) (by k_is) (by k_is) (by k_is) (λ_ _ _ _ _ _=>Kn.YS λ_=>rfl);have D56:=Kn.zP (x:="judge_joints") (st:=Kn.zBE) (ps:=["neighbours"]) KX G (by k_is) (by k_is) (by k_is) (by k_is) (λ_ _ _ _ _ _=>Kn.YS λ_=>rfl);have D33:=Kn.zP (x:="judge_drawing") (st:=Kn.zAw) (ps:=["cartoon"]) KX G (by k_is) (by k_is) (by k_is) (by k_is) (λ_ _ _ _ _ _=>Kn.YS λ_=>rfl);obtain⟨C172,T143,I163⟩:∃ C,Kn.zKc _ mg C/\Kn.ZC _ C "Pane.__init__" Kn.zC3 ["self","corners","painting"]:=⟨_,Kn.zOx KX G (by k_is) (by k_is) (by k_is) (by k_is) (by k_is) (by k_is) (by k_is),Kn.YK KX (by k_is) (by k_is) (by k_is) (by k_is) (by k_is) (by k_is) (by k_is) (λ_ _ _ _ _ _=>Kn.bn3 λ_ _ _=>rfl)⟩
  have D62:=Kn.zP (x:="is_more_left") (st:=Kn.zBF) (ps:=["before","here","point","other"]) KX G (by k_is) (by k_is) (by k_is) (by k_is) (λ_ _ _ _ _ _=>Kn.bn4 λ_ _ _ _=>rfl);have D128:=Kn.zP (x:="leftmost") (st:=Kn.zDh) (ps:=["points","joined","before","here"]) KX G (by k_is) (by k_is) (by k_is) (by k_is) (λ_ _ _ _ _ _=>Kn.bn4 λ_ _ _ _=>rfl);have D52:=Kn.zP (x:="outline_from") (st:=Kn.zBG) (ps:=["first","second","points","neighbours"]) KX G (by k_is) (by k_is) (by k_is) (by k_is) (λ_ _ _ _ _ _=>Kn.bn4 λ_ _ _ _=>rfl);have D26:=Kn.zP (x:="goes_round_left") (st:=Kn.zAO) (ps:=["corners"]) KX G (by k_is) (by k_is) (by k_is) (by k_is) (λ_ _ _ _ _ _=>Kn.YS λ_=>rfl);have D82:=Kn.zP (x:="outlines_of") (st:=Kn.zAc) (ps:=["cartoon"]) KX G (by k_is) (by k_is) (by k_is) (by k_is) (λ_ _ _ _ _ _=>Kn.YS λ_=>rfl);have D121:=Kn.zP (x:="is_round") (st:=Kn.zDi) (ps:=["corners","mark"]) KX G (by k_is) (by k_is) (by k_is) (by k_is) (λ_ _ _ _ _ _=>Kn.bn2 λ_ _=>rfl);have D44:=Kn.zP (x:="outline_round") (st:=Kn.zAx) (ps:=["outlines","mark"]) KX G (by k_is) (by k_is) (by k_is) (by k_is) (λ_ _ _ _ _ _=>Kn.bn2 λ_ _=>rfl);have D55:=Kn.zP (x:="is_on_a_line") (st:=Kn.zBH) (ps:=["cartoon","mark"]) KX G (by k_is) (by k_is) (by k_is) (by k_is) (λ_ _ _ _ _ _=>Kn.bn2 λ_ _=>rfl);have D29:=Kn.zP (x:="is_within_frame") (st:=Kn.zAP) (ps:=["cartoon","mark"]) KX G (by k_is) (by k_is) (by k_is) (by k_is) (λ_ _ _ _ _ _=>Kn.bn2 λ_ _=>rfl);have D67:=Kn.zP (x:="judge_marks") (st:=Kn.zBw) (ps:=["cartoon"]) KX G (by k_is) (by k_is) (by k_is) (by k_is) (λ_ _ _ _ _ _=>Kn.YS λ_=>rfl);have D48:=Kn.zP (x:="marked_panes") (st:=Kn.zBI) (ps:=["cartoon"]) KX G (by k_is) (by k_is) (by k_is) (by k_is) (λ_ _ _ _ _ _=>Kn.YS λ_=>rfl);have D114:=Kn.zP (x:="panes_of") (st:=Kn.zDj) (ps:=["data"]) KX G (by k_is) (by k_is) (by k_is) (by k_is) (λ_ _ _ _ _ _=>Kn.YS λ_=>rfl);obtain⟨C173,T37,I151⟩:∃ C,Kn.zIU _ mg C/\Kn.ZC _ C "Work.__init__" Kn.zC4 ["self","kinds","pieces","refusal"]:=⟨_,Kn.zPC KX G (by k_is) (by k_is) (by k_is) (by k_is) (by k_is) (by k_is) (by k_is) (by k_is),Kn.YK KX (by k_is) (by k_is) (by k_is) (by k_is) (by k_is) (by k_is) (by k_is) (λ_ _ _ _ _ _=>Kn.bn4 λ_ _ _ _=>rfl)⟩
  have D137:=Kn.zP (x:="refused") (st:=Kn.zEI) (ps:=["numbers"]) KX G (by k_is) (by k_is) (by k_is) (by k_is) (λ_ _ _ _ _ _=>Kn.YS λ_=>rfl);have D134:=Kn.zP (x:="work_of") (st:=Kn.zEJ) (ps:=["cartoon","kinds","paintings"]) KX G (by k_is) (by k_is) (by k_is) (by k_is) (λ_ _ _ _ _ _=>Kn.bn3 λ_ _ _=>rfl);obtain⟨fd,D156,hbind⟩:=Kn.zN4 (x:="check") (st:=Kn.zGP) (ps:=["shelf","cartoon","kinds","paintings","row"]) KX G hmg (by k_is) (by k_is) (by k_is) (by k_is) (λ_ _ _ _ _ _=>Kn.bn5 λ_ _ _ _ _=>rfl);have m160:=Vf (n:="ValueError") KX G (by k_is);have m162:=Vf (n:="dict") KX G (by k_is);have m1:=Vf (n:="enumerate") KX G (by k_is);have m0:=Vf (n:="len") KX G (by k_is);have m132:=Vf (n:="max") KX G (by k_is);have m154:=Vf (n:="min") KX G (by k_is);have m5:=Vf (n:="range") KX G (by k_is);have m130:=Vf (n:="reversed") KX G (by k_is);have m155:=Vf (n:="sum") KX G (by k_is);have m158:=Vf (n:="tuple") KX G (by k_is);refine⟨fd,hbind,λbase _ _=>?_⟩;have O3:=λP=>Kn.zLe (P:=P) (w:=w) (base:=base) D12
  have O45:=λP=>Kn.zOL (P:=P) (w:=w) (base:=base) D166
  have O21:=λP=>Kn.zRA (P:=P) (w:=w) (base:=base) D53 (O3 P) (O45 P) m154 m132
  have O133:=λP=>Kn.zMq (P:=P) (w:=w) (base:=base) D148 (O45 P)
  have O31:=λP=>Kn.zKJ (P:=P) (w:=w) (base:=base) D110
  have O2:=λP=>Kn.zPx (P:=P) (w:=w) (base:=base) D106 m130
  have O4:=λP=>Kn.zKL (P:=P) (w:=w) (base:=base) D75 g6 g10
  have O18:=λP=>Kn.zH5 (P:=P) (w:=w) (base:=base) D91 (O2 P) g6 g10
  have O20:=λP=>Kn.zH7 (P:=P) (w:=w) (base:=base) D92 (O18 P) (O2 P) g14
  have O30:=λP=>Kn.zIq (P:=P) (w:=w) (base:=base) D109 (O20 P) (O2 P) g13
  have O100:=λP=>Kn.zOO (P:=P) (w:=w) (base:=base) D94 (R_X P w base) (O2 P) (O3 P) (O30 P) g6 g80 g46 m0 m158
  have O119:=λP=>Kn.zOU (P:=P) (w:=w) (base:=base) D120 (O2 P) (Kn.zKQ I159 T112) T112
  have O150:=λP=>Kn.zOW (P:=P) (w:=w) (base:=base) D145 (O2 P)
  have O149:=λP=>Kn.zOY (P:=P) (w:=w) (base:=base) D136 (O2 P) (Kn.zKS I165 T135) T135
  have O152:=λP=>Kn.zOZ (P:=P) (w:=w) (base:=base) D144 (O2 P) (O119 P) (O150 P) (O149 P) (O18 P) (O20 P) (O30 P) (Kn.zKU I146 T66) T66 g6 g10 g14 g13 m5
  have O7:=λP=>Kn.zOc (P:=P) (w:=w) (base:=base) D98 (O4 P) g14 m0
  have O19:=λP=>Kn.zOe (P:=P) (w:=w) (base:=base) D95 (O7 P) g13 m0
  have O57:=λP=>Kn.zOf (P:=P) (w:=w) (base:=base) D59 (R_X P w base) (O31 P) (O4 P) m1
  have O74:=λP=>Kn.zOg (P:=P) (w:=w) (base:=base) D79 (R_X P w base) (O7 P) m1 m0
  have O69:=λP=>Kn.zOh (P:=P) (w:=w) (base:=base) D70
  have O117:=λP=>Kn.zPz (P:=P) (w:=w) (base:=base) D125 m1
  have O104:=λP=>Kn.zP0 (P:=P) (w:=w) (base:=base) D108 m5 m0
  have O68:=λP=>Kn.zOi (P:=P) (w:=w) (base:=base) D78 (R_X P w base) (O69 P) (O117 P) (O104 P) g6 m162
  have O17:=λP=>Kn.zP1 (P:=P) (w:=w) (base:=base) D16 (O21 P) m1
  have O86:=λP=>Kn.zP2 (P:=P) (w:=w) (base:=base) D93 (O133 P)
  have O25:=λP=>Kn.zOj (P:=P) (w:=w) (base:=base) D24 (R_X P w base) (O17 P) (O86 P) (O7 P) m1
  have O11:=λP=>Kn.zP3 (P:=P) (w:=w) (base:=base) D34
  have O15:=λP=>Kn.zP4 (P:=P) (w:=w) (base:=base) D58 m0
  have O89:=λP=>Kn.zOl (P:=P) (w:=w) (base:=base) D83 (R_X P w base) (O4 P) m1 m0
  have O90:=λP=>Kn.zOm (P:=P) (w:=w) (base:=base) D97 (R_X P w base) (O4 P) (O15 P) g42 m1
  have O51:=λP=>Kn.zOn (P:=P) (w:=w) (base:=base) D56 (R_X P w base) (O4 P) (O15 P) m5 m0
  have O39:=λP=>Kn.zOo (P:=P) (w:=w) (base:=base) D33 (O68 P) (O25 P) (O11 P) (O89 P) (O90 P) (O51 P)
  have O49:=λP=>Kn.zOq (P:=P) (w:=w) (base:=base) D62 (O45 P)
  have O116:=λP=>Kn.zRC (P:=P) (w:=w) (base:=base) D128 (O49 P) g42
  have O47:=λP=>Kn.zOr (P:=P) (w:=w) (base:=base) D52 (O116 P)
  have O28:=λP=>Kn.zP7 (P:=P) (w:=w) (base:=base) D26 m5 m0
  have O77:=λP=>Kn.zOv (P:=P) (w:=w) (base:=base) D82 (O11 P) (O47 P) (O28 P) m5 m0
  have O123:=λP=>Kn.zP8 (P:=P) (w:=w) (base:=base) D121 (O45 P) m5 m0
  have O36:=λP=>Kn.zRD (P:=P) (w:=w) (base:=base) D44 (O123 P)
  have O63:=λP=>Kn.zQA (P:=P) (w:=w) (base:=base) D55 (O21 P)
  have O27:=λP=>Kn.zQC (P:=P) (w:=w) (base:=base) D29
  have O76:=λP=>Kn.zOw (P:=P) (w:=w) (base:=base) D67 (R_X P w base) (O27 P) (O63 P) (O31 P) (O19 P) m1
  have O61:=λP=>Kn.zQE (P:=P) (w:=w) (base:=base) D48 (R_X P w base) (O77 P) (O36 P) (O19 P) (Kn.zKf I163 T143) T143 m1 m0
  have O131:=λP=>Kn.zQG (P:=P) (w:=w) (base:=base) D114 (O100 P) (O152 P) (O57 P) (O74 P) (O39 P) (O76 P) (O61 P)
  have O153:=λP=>Kn.zO8 (P:=P) (w:=w) (base:=base) D139 (O3 P) g65 g60
  have O107:=λP=>Kn.zQH (P:=P) (w:=w) (base:=base) D105 (O3 P) (O153 P) g88 m0 m5
  have O115:=λP=>Kn.zQI (P:=P) (w:=w) (base:=base) D118 (Kn.zKn I161 T140) T140 m0 m5
  have O50:=λP=>Kn.zO9 (P:=P) (w:=w) (base:=base) D54 (Kn.zKp I126 T41) T41 m0
  have O87:=λP=>Kn.zPA (P:=P) (w:=w) (base:=base) D99 m0 m5
  have O71:=λP=>Kn.zQL (P:=P) (w:=w) (base:=base) D81 (O3 P) (O87 P) g85 m0 m132
  have O35:=λP=>Kn.zQM (P:=P) (w:=w) (base:=base) D38 (O71 P) g32 m0
  have O9:=λP=>Kn.zQN (P:=P) (w:=w) (base:=base) D8 g64 m1 m0
  have O96:=λP=>Kn.zQO (P:=P) (w:=w) (base:=base) D84 m132 m154
  have O124:=λP=>Kn.zQQ (P:=P) (w:=w) (base:=base) D129
  have O102:=λP=>Kn.zQR (P:=P) (w:=w) (base:=base) D111 (O96 P) (O124 P) (Kn.zKt I157 T113) T113
  have O141:=λP=>Kn.zQU (P:=P) (w:=w) (base:=base) D137 (Kn.zF6 I151 T37) T37
  have O138:=λP=>Kn.zQV (P:=P) (w:=w) (base:=base) D134 (R_X P w base) (O107 P) (O115 P) (O50 P) (O35 P) (O131 P) (O9 P) (O102 P) (O141 P) (Kn.zF6 I151 T37) T37 g64
  have O23:=λP=>Kn.zQX (P:=P) (w:=w) (base:=base) D22 m0
  have O40:=λP=>Kn.zQZ (P:=P) (w:=w) (base:=base) D43 (O23 P) m0
  have O127:=λP=>Kn.zQb (P:=P) (w:=w) (base:=base) D122 m0
  have O167:=λP=>Kn.zPG (P:=P) (w:=w) (base:=base) D164 (O127 P) m1 m0
  have O147:=λP=>Kn.zQc (P:=P) (w:=w) (base:=base) D142 m155
  have O101:=λP=>Kn.zQd (P:=P) (w:=w) (base:=base) D103 m155 m0
  have O72:=λP=>Kn.zRK (P:=P) (w:=w) (base:=base) D73 (O40 P) (O167 P) (O147 P) (O101 P) g65 m0
  exact Kn.zND D156 (O138 _) (O72 _) m0
 case S=>
  intro K H xs a hO hwi hask hx;obtain⟨n,c,k,p,r,u⟩:=a;have q:(Codec.inInt 0 18446744073709551615 n&&((Codec.inLen 0 100000 c&&c.all (Codec.inInt 0 255))&&((Codec.inLen 0 60 k&&k.all (Codec.inInt 0 18446744073709551615))&&((Codec.inLen 0 1500 p&&p.all (Codec.inInt 0 18446744073709551615))&&((Codec.inLen 0 30000 r&&r.all (Codec.inInt 0 4294967295))&&true)))))=true:=hwi;rw[yZ,yZ,yZ,yZ,yZ,yZ,yZ,yZ,yZ] at q;obtain⟨q1,⟨q2,q3⟩,⟨q4,q5⟩,⟨q6,q7⟩,⟨q8,q9⟩,_⟩:=q;cases hx with |cons h1 hx=>
  cases hx with |cons h2 hx=>
  cases hx with |cons h3 hx=>
  cases hx with |cons h4 hx=>
  cases hx with |cons h5 hx=>
  cases hx;cases h1;cases h2 with |lst s2 a2=>
  cases h3 with |lst s3 a3=>
  cases h4 with |lst s4 a4=>
  cases h5 with |lst s5 a5=>
  have e2:=L2.zC9 c _ a2;have e3:=L2.zC9 k _ a3;have e4:=L2.zC9 p _ a4;have e5:=L2.zC9 r _ a5;subst e2 e3 e4 e5;obtain⟨n,rfl⟩:=Uo (Codec.inInt_iff.mp q1).1;obtain⟨b,rfl⟩:=Kn.zIY c λx hx=>Codec.inInt_iff.mp (WI.mp q3 x hx)
  obtain⟨k,rfl⟩:=Kn.zEy k λx hx=>(Codec.inInt_iff.mp (WI.mp q5 x hx)).1
  obtain⟨p,rfl⟩:=Kn.zEy p λx hx=>(Codec.inInt_iff.mp (WI.mp q7 x hx)).1
  obtain⟨r,rfl⟩:=Kn.zEy r λx hx=>(Codec.inInt_iff.mp (WI.mp q9 x hx)).1
  have l2:=(Codec.inNat_iff.mp q2).2;have l4:=(Codec.inNat_iff.mp q4).2;have l6:=(Codec.inNat_iff.mp q6).2;have l8:=(Codec.inNat_iff.mp q8).2;rw[show (Kn.iL k).length=k.length from zc ..] at l4;rw[show (Kn.iL p).length=p.length from zc ..] at l6;rw[show (Kn.iL r).length=r.length from zc ..] at l8;rw[show (Kn.bI b).length=b.length from zc ..] at l2;refine⟨n,_,_,_,_,b,k,p,r,rfl,s2,by rw[Kn.YR];exact s3,by rw[Kn.YR];exact s4,by rw[Kn.YR];exact s5,by omega,by omega,l8,λH' q hq=>?_⟩;rw[<-Kn.zKy n b k p r l2 l8] at hq;exact .lst (L2.zM.of hq) (L2.zI4 _)
#print axioms PySem.Challenge.cw_kilnloads_s05_check_holds
