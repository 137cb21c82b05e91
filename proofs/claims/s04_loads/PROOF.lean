import PyProof.Rows.All
import Wide.All
import OpenK.AllK
import Wide.FinOn
import PyProof.EqAt
import PyProof.EqKinds
import PyProof.TupleCall
import KE.BitLaws
import Open.SpecLaws
import KE.OsHead
import KE.OsGo
import KE.KSortTupG
import KE.KSortKeyAny
import KE.KLam
import PyProof.ListRange
import PySem.Challenge.RW_kilnloads_s04_loads
namespace PySem.W.Fast
def tw1727064254842326013:=0
def tw1554346246467177470:=0
def tw4246271558446271832:=0
def tw16248253820780388546:=0
def tw15302501233110911038:=0
def tw16436617100930916444:=0
def tw8758193035872360567:=0
def tw3697865295175017530:=0
def tw2258736109372779699:=0
def tw5635742706156563444:=0
def tw3164573782721438460:=0
def tw17015881182115665555:=0
def tw3509248521612524596:=0
def tw10755372189128424052:=0
def tw2667476261702037725:=0
def tw16048680879606151636:=0
def tw1754381139967135390:=0
def tw16261920337330970449:=0
def tw7924305916398734363:=0
def tw13433489528814263717:=0
def tw4475281769694614326:=0
def tw6566465175947195084:=0
def tw5393976682767330720:=0
def tw12488181407255519332:=0
def tw11603274954514302618:=0
def tw8398776788249824999:=0
def tw4878025822833056126:=0
def tw1502285783664972325:=0
def tw855671055862126424:=0
def tw12365106581277938307:=0
def tw6262691938850921291:=0
def tw14288670462563535821:=0
def tw6594015028723712778:=0
def tw9524869347357910781:=0
def tw15798929207043053259:=0
def tw8530366319320770491:=0
def tw5724125151335738577:=0
def tw838100892566159189:=0
def tw1095427116121623661:=0
def tw9754635733736767842:=0
def tw5994667600764223702:=0
def tw14559260282897940159:=0
def tw8194801654801293070:=0
def tw5655364650574246809:=0
def tw15774276263360809992:=0
def tw15549931313085799777:=0
def tw1062273734051066074:=0
def tw9079633950300781118:=0
def tw7698604132323077494:=0
def tw15040267841437488820:=0
def tw2799772724653336399:=0
def tw17737461580120671763:=0
def tw15736576203752439040:=0
def tw765219092490011285:=0
def tw8329927367915988669:=0
def tw7010356913921388918:=0
def tw5671624237611693099:=0
def tw1257911553323831183:=0
def tw9846886574449755745:=0
def tw6781713379198653378:=0
def tw12713415296870260505:=0
def tw6655753431254292931:=0
def tw18046405516723197180:=0
def tw10763552989955054433:=0
def tw3999396965152755833:=0
def tw4372742775583330813:=0
def tw9631044396981532235:=0
def tw17699367447184689637:=0
def tw6593791019031074323:=0
def tw5360357800814851050:=0
def tw4462716658848748108:=0
def tw8487563012989996161:=0
def tw17721700191919541847:=0
def tw16315348680603621588:=0
def tw15572783285324831042:=0
def tw12887894506583027576:=0
def tw17331192869331171241:=0
def tw18176383547717007828:=0
def tw6219553546060256280:=0
def tw13612335638811134760:=0
def tw1764089896857739199:=0
def tw8674562916138615048:=0
def tw3644436293846002400:=0
def tw11850266925309205675:=0
def tw17987798330485171033:=0
def tw11582505520000696410:=0
def tw15877277848150992005:=0
def tw2649435182157963948:=0
def tw6355826097220641295:=0
def tw13524444185717791176:=0
def tw7300804701699806523:=0
def tw15357031379635881278:=0
def tw16402695425961057910:=0
def tw13229991224098828215:=0
def tw365594747811329647:=0
def tw3237333472780561068:=0
def tw17944672100505071746:=0
def tw10634786608662952541:=0
def tw2092877122463303016:=0
def tw5323584222888435564:=0
def tw2774211587569429351:=0
def tw8013061508669661070:=0
def tw1146321910693948321:=0
def tw7182409752387478852:=0
def tw5169021903873784389:=0
def tw13962269843927207178:=0
def tw2529436003232584268:=0
def tw17723872050338157568:=0
def tw14579543583374804136:=0
def tw2803808814192060926:=0
def tw12705026090899781971:=0
def tw1300735345196250415:=0
def tw978617097731445113:=0
def tw4871804960236714403:=0
def tw11564601548606391034:=0
def tw12125328179817023242:=0
def tw3215982609810833785:=0
def tw14044245029343855485:=0
def tw10393858399196027046:=0
def tw5896323744302312155:=0
def tw758093701335634298:=0
def tw9819553230220941725:=0
def tw1462789515454391343:=0
def tw969971990011938837:=0
def tw4563019502073657034:=0
def tw8598736767142632508:=0
def tw1683994190779013269:=0
def tw8012725828986341126:=0
def tw6507160216266617275:=0
def tw17429503205428497452:=0
def tw5996948495300585900:=0
def tw1672633556945938894:=0
def tw13279371693189074452:=0
def tw11541456290163395457:=0
def tw5012021987407910495:=0
def tw18371437592803608862:=0
def tw16301195715427857696:=0
def tw2543615910519717332:=0
def tw17294239141268515736:=0
def tw17663566563218903501:=0
def tw3710784297249207828:=0
def tw837108258932197047:=0
def tw14063535614839554272:=0
def tw10414317558983078469:=0
def tw4930270108346319466:=0
def tw630662042513095801:=0
def tw2240027171615893628:=0
def tw12686363251444059514:=0
def tw2026469168052873660:=0
def tw16364027988916041754:=0
def tw5206023435323421991:=0
def tw14395616666646219586:=0
def tw3203179831344409677:=0
def tw7901001113428961967:=0
def tw183536349562863544:=0
def tw15524906427021246553:=0
def tw5761814945164208754:=0
def tw8061118372218228662:=0
def tw17392908373220828053:=0
def tw6700785005535979637:=0
def tw10954690256177323156:=0
def tw4264022931390431022:=0
def tw18304682270786131728:=0
def tw14131568415390193639:=0
def tw1962915826114552329:=0
def tw7970537945978335186:=0
def tw8404797069332668796:=0
def tw12382761545184151325:=0
def tw16486881420412795517:=0
def tw17797318778166941699:=0
def tw14116619777082156674:=0
def tw16932745340022112593:=0
def tw6629356307482606725:=0
def tw4575303490126961288:=0
def tw16831040995929186150:=0
def tw8273833842980798637:=0
def tw953608027324630816:=0
def tw2715299840950936844:=0
def tw11546056489117455884:=0
def tw3119401498768810868:=0
def tw11756528967280989080:=0
def tw15655422383711978618:=0
def tw12700787717496407065:=0
def tw16114924571072533940:=0
def tw15032146220174492687:=0
def tw5167077548635905531:=0
def tw3379644131448368:=0
def tw18203231833751816803:=0
def tw18403468902418785613:=0
def tw17047442815656951093:=0
def tw2696206216848184676:=0
def tw2173406494999291578:=0
def tw9722925720189384456:=0
def tw4769901441702611999:=0
def tw11481175704602568643:=0
def tw810549898243699397:=0
def tw9569938172901674394:=0
def tw4498665944435729590:=0
def tw6222287111685892767:=0
def tw9105719282096716099:=0
def tw2173514257816127108:=0
def tw11869900868424574874:=0
def tw1765289234350214890:=0
def tw762596709630375085:=0
def tw10643345912627532566:=0
def tw15501997244878398359:=0
def tw13033092353771159689:=0
def tw15981409384187219876:=0
def tw5293173054039488010:=0
def tw17066134130377918227:=0
def tw375320062227577079:=0
def tw12157209167075657973:=0
def tw11512882877673176623:=0
def tw15930630394394267953:=0
def tw5530799342457688323:=0
def tw12098635817575780659:=0
def tw799263437903490040:=0
def tw14656217444749472193:=0
def tw10123744469690889965:=0
def tw12881122313923216560:=0
def tw16365035127032088957:=0
def tw18222435529067181005:=0
def tw3829055562784919917:=0
def tw16442485691269754647:=0
def tw2558983981546800799:=0
def tw16205202305140659462:=0
def tw10956737139291337245:=0
def tw697832123645840408:=0
def tw5697194850183678697:=0
def tw1488131069298666350:=0
def tw11442112275884776958:=0
def tw10225072079527561518:=0
def tw9391489415891811028:=0
def tw9568787884589020676:=0
def tw15937245319470783664:=0
def tw282433100144810772:=0
def tw10756139925755252709:=0
def tw2494983225191708089:=0
def tw16333216326261868859:=0
def tw1005079589208523207:=0
def tw6719128845931398832:=0
def tw17334669892242795385:=0
def tw14300600833234034769:=0
def tw1667672241588392809:=0
def tw15426947258828020047:=0
def tw9982301130701249599:=0
def tw8444048758961817468:=0
def tw13971830028881979011:=0
def tw14320516987608001472:=0
def tw17915115568098695594:=0
def tw15613025568863476368:=0
def tw17407241674260810187:=0
def tw4012678853606625620:=0
def tw15564334518028034841:=0
def tw359112877510318024:=0
def tw10217838684067447867:=0
def tw16679737178451901745:=0
def tw8813966684441093842:=0
def tw10319914925343391299:=0
def tw2330319385857876864:=0
def tw12536335700139087319:=0
def tw10105132527872779339:=0
def tw11084143509351387861:=0
def tw13736191626022892050:=0
def tw11253271346735743803:=0
def tw11952618099463840550:=0
def tw5617384297396891589:=0
def tw11658440502676962799:=0
def tw9678725432845837710:=0
def tw12454820668398842088:=0
def tw18273775094631828271:=0
def tw2520818093902806167:=0
def tw16481537707174770592:=0
def tw1873124555180234098:=0
def tw7274732811125119419:=0
def tw3928354166820740012:=0
def tw11760797992726295937:=0
def tw878340293648228003:=0
def tw16610188019151848756:=0
def tw3939654875967319333:=0
def tw15758698698232730847:=0
def tw1411676674938357970:=0
def tw930022005533685691:=0
def tw16851407597142015490:=0
def tw17568003550007064691:=0
def tw12050810927047198223:=0
def tw9016731215852380926:=0
def tw9332950949196485932:=0
def tw3607062933177250633:=0
def tw1961396251331449193:=0
def tw18178753366344854721:=0
def tw15868285257570502392:=0
def tw16196522355735064578:=0
def tw4862200648028209228:=0
def tw3169778166246241148:=0
def tw1260179389408004352:=0
def tw2439373015472357119:=0
def tw5090627761113537739:=0
def tw13292828615896125284:=0
def tw10701843473336215286:=0
def tw14997707035278107589:=0
def tw6290944735460443448:=0
def tw13844906902461709969:=0
def tw11630711748997527901:=0
def tw13310439158319754205:=0
def tw1000112849963683720:=0
def tw1183723516763872942:=0
def tw17380958669357779830:=0
def tw5948647767985191195:=0
def tw15472536653945080678:=0
def tw13935685992929497566:=0
def tw18082083200505598478:=0
def tw5739385426717296716:=0
def tw8476038768122975737:=0
def tw16218231568542592947:=0
def tw17845047453640674327:=0
def tw14139282201156266272:=0
def tw273479493264708182:=0
def tw2285584131408628777:=0
def tw13896153713604227816:=0
def tw12612859405758276728:=0
def tw729809545080192291:=0
def tw6578144105000139977:=0
def tw15003168303046025083:=0
def tw1743038514025140840:=0
def tw14626811805832515252:=0
def tw18348658660748745649:=0
def tw17008965764008094262:=0
def tw2194005248859766432:=0
def tw871881143104851605:=0
def tw18221927158238326384:=0
def tw8660248823605174532:=0
def tw13531128334496880474:=0
def tw15956435395092498339:=0
def tw11622768842704017877:=0
def tw12498720181188068140:=0
def tw15088044087699482603:=0
def tw12872199427598257595:=0
def tw14814118172772965131:=0
def tw16836876680965691079:=0
def tw7167757374052961751:=0
def tw1953702240266741010:=0
def tw18083749918085662836:=0
def tw1322805988417674617:=0
def tw4119020814458950417:=0
def tw12213597343446097963:=0
def tw12040065699365851952:=0
def tw7412592153897226652:=0
def tw9724782463754777585:=0
def tw6896821660320241017:=0
def tw7178090717685461062:=0
def tw4864479284664281023:=0
def tw344426970830704576:=0
def tw7848458258346778763:=0
def tw11272859921022275670:=0
def tw2637582947317977354:=0
def tw17417240563193896508:=0
def tw9892213153384693855:=0
def tw12118335030393391632:=0
def tw16682425993762432797:=0
def tw9070307588332237717:=0
def tw14666228814954693831:=0
def tw15316491407663723793:=0
def tw13080685140618101548:=0
def tw5228683296938923435:=0
def tw16246396545744654551:=0
def tw6992355703478087386:=0
def tw9451791595989020383:=0
def tw14573519210022099833:=0
def tw7594483907727693624:=0
def tw9699676759165749684:=0
def tw13386399703701974048:=0
def tw9849521134209602099:=0
def tw7378918369734015843:=0
def tw5849467286119255406:=0
def tw6955399515741798836:=0
def tw15890437149888024724:=0
def tw2899271110544361124:=0
def tw242230204380378778:=0
def tw5687376432355144709:=0
def tw7739428626873045942:=0
def tw9464196151676761610:=0
def tw5935003814473524067:=0
def tw1141830377524723881:=0
def tw11214153638238470151:=0
def tw7572979589942147221:=0
def tw15356974536921346330:=0
def tw5411333665986546736:=0
def tw13481668964037869190:=0
def tw1922115391530914464:=0
def tw7580633160953476573:=0
def tw9438032302252006471:=0
def tw5608045974857352899:=0
def tw10305230296149108759:=0
def tw9748121908241798730:=0
def tw7933614785157066212:=0
def tw5081317753016788485:=0
def tw17003308306269659796:=0
def tw7666328442398300468:=0
def tw13900470214679797602:=0
def tw1094295568894370530:=0
def tw9052317437602417199:=0
def tw2325792759549854414:=0
def tw7725968600257857932:=0
def tw13966517763197917763:=0
def tw16867567624757607278:=0
def tw10595522836639246425:=0
def tw10741781133407680713:=0
def tw7285128274806834990:=0
def tw11973692208261724258:=0
def tw9441254994338342971:=0
def tw4882090239273498140:=0
def tw238506148276914922:=0
def tw641852848698871189:=0
def tw11967808867609463141:=0
def tw12407202555480609161:=0
def tw16252935938333530316:=0
def tw4767648286305451802:=0
def tw641562735243651660:=0
def tw10144833103103385937:=0
def tw2249946694728075146:=0
def tw15811182277283141878:=0
def tw14586998960767624661:=0
def tw17600883243248059132:=0
def tw7981007857547938730:=0
def tw13810415064580947677:=0
def tw13411370247900067507:=0
def tw15689436162331334891:=0
def tw1388756124810692266:=0
def tw16308066901788209638:=0
def tw13741305865745322665:=0
end PySem.W.Fast
section
set_option Elab.async false
set_option linter.all false
set_option maxRecDepth 100000
abbrev Qf:=PySem.W.Frag
abbrev Qm:=PySem.Str->Option PySem.Value
abbrev Qp:=List (PySem.Addr×PySem.Obj)
abbrev Qs:=PySem.Value->PySem.Shared->Prop
theorem yQ{α:Type _}{l:List α}{i:Nat}(h:i<l.length):l[i]?=some l[i]:=List.getElem?_eq_getElem h
theorem yG{α:Type _}{l:List α}{i:Nat}{a:α}(h:l[i]?=some a):∃ h:i<l.length,l[i]=a:=List.getElem?_eq_some_iff.mp h
theorem ZM{α:Type _}{l:List α}{i:Nat}{a:α}(e:l[i]?=some a):a∈l:=List.mem_of_getElem? e
theorem zX{α β:Type _}{l:List α}(f:α->β):(l.map f).length=l.length:=List.length_map f
theorem yR{a b c:Nat}(h:a<b)(g:b<=c):a<c:=Nat.lt_of_lt_of_le h g
theorem Yv{a b c:Nat}(h:a<=b)(g:b<c):a<c:=Nat.lt_of_le_of_lt h g
theorem y9(a b:Bool):((a&&b)=true)=(a=true/\b=true):=Bool.and_eq_true a b
theorem yr{p:Prop}[Decidable p]:(decide p=true)=p:=decide_eq_true_eq
section
open PySem PySem.Spec PyProof.Rows
def Wa:=@Classical.byContradiction
def Wb:=@if_neg
def Wc:=@if_pos
def Wd:=@List.mem_cons
def We:=@Nat.le_refl
def Wf:=@Heap.get?_push_of_some
def Wg:=@List.mem_cons_of_mem
def Wh:=@wpAny_bind
def Wi:=@List.length_append
def Wj:=@Heap.lt_size
def Wk:=@List.size_toArray
def Wl:=@List.mem_singleton
def Wm:=@List.mem_cons_self
def Wn:=@List.length_cons
def Wo:=@List.map_cons
def Wp:=@List.mem_map
def Wq:=@List.map_append
def Wr:=@Bool.false_ne_true
def Ws:=@decide_eq_decide
def Wt:=@PassesOwn.never
def Wu:=@Option.some.inj
def Wv:=@List.mem_append
def Ww:=@Nat.zero_le
def Wx:=@Nat.ne_of_lt
def Wy:=@PySem.F.plainAttrs_list
def Wz:=@Heap.get?_push_size
def WA:=@Nat.zero_add
def WB:=@Bool.eq_iff_iff
def WC:=@List.getD_eq_getElem?_getD
def WD:=@Bool.not_eq_false'
def WE:=@Bool.not_eq_true'
def WF:=@List.length_take
def WG:=@of_decide_eq_true
def WH:=@decide_eq_false
def WI:=@wpAny_pure
def WJ:=@of_decide_eq_false
def WK:=@List.take_of_length_le
def WL:=@PySem.F.type_list_append
def WM:=@PySem.F.slot_list_append
def WN:=@List.mem_append_right
def WO:=@decide_eq_true
def WP:=@List.getElem?_append_left
def WQ:=@List.getElem?_map
def WS:=@Int.toNat_natCast
def WT:=@Nat.le_trans
def WU:=@PySem.mem_of_lookup
def WV:=@List.take_length
def WW:=@List.all_eq_true
def WX:=@Array.getD_eq_getD_getElem?
def WY:=@List.getElem?_of_mem
def WZ:=@Bool.or_eq_false_iff
def W0:=@Option.map_eq_none_iff
def W1:=@congrArg
def W3:=@Int.sub_pos_of_lt
def W4:=@Int.lt_trichotomy
def W5:=@List.getElem?_append_right
def W6:=@List.length_singleton
def W7:=@Bool.beq_eq_decide_eq
def W8:=@beq_eq_false_iff_ne
def W9:=@wpAny_mono
def Va:=@PySem.W.mg_of
def Vb:=@Nat.not_lt_zero
def Vc:=@Bool.or_eq_true
def Vd:=@Int.mul_le_mul_of_nonneg_right
def Ve:=@List.getElem?_set_ne
def Vf:=@List.map_map
def Vg:=@Array.size_setIfInBounds
def Vh:=@PyProof.Rows.callWith_type1
def Vi:=@Nat.le_of_lt
def Vj:=@beq_iff_eq
def Vk:=@PySem.W.mg_none_of
def Vl:=@Option.map_some
def Vm:=@List.foldl_cons
def Vn:=@List.any_eq_true
def Vo:=@Array.length_toList
def Vp:=@PassesOwn.leaving
def Vq:=@List.getElem?_eq_none
def Vr:=@List.sum_cons
def Vs:=@Int.mul_nonneg
def Vt:=@Heap.size_push
def Vu:=@List.nodup_cons
def Vv:=@Int.neg_mul_neg
def Vw:=@Int.mul_zero
def Vx:=@wpAny_Call_Name_kw
def Vy:=@List.pairwise_cons
def Vz:=@Int.not_lt
def VA:=@decide_eq_false_iff_not
def VB:=@Nat.lt_irrefl
def VC:=@numAt_eq
def VD:=@List.mem_range
def VF:=@List.getElem?_set_self
def VG:=@Int.mul_comm
def VH:=@List.length_replicate
def VI:=@List.mem_filterMap
def VJ:=@List.lookup_cons
def VL:=@Int.zero_add
def VM:=@Int.mul_le_mul_of_nonneg_left
def VN:=@wpAny_loadPart_at
def VO:=@Nat.lt_trichotomy
def VP:=@List.length_range
def VQ:=@List.mem_zipIdx_iff_getElem?
def VR:=@List.length_set
def VS:=@List.length_nil
def VT:=@List.find?_cons
def VU:=@List.append_nil
def VV:=@Heap.get?_update_ne
def VW:=@Nat.lt_trans
def VX:=@Int.lt_trans
def VY:=@List.nodup_nil
def VZ:=@List.mem_iff_getElem?
def V0:=@List.contains_iff_mem
def V1:=@List.mem_filter
def V2:=@PySem.W.hideAll_none
def V3:=@Int.mul_pos
def V4:=@Int.le_refl
def V5:=@Int.add_comm
def V6:=@List.filterMap_cons
def V7:=@Nat.min_le_right
def V8:=@List.getElem?_replicate
def V9:=@Bool.false_and
def Xa:=@Nat.sub_self
def Xb:=@Int.zero_mul
def Xc:=@Int.natCast_nonneg
def Xd:=@Int.lt_asymm
def Xe:=@wpAny_passesOwn
def Xf:=@Nat.min_le_left
def Xg:=@Int.natCast_mul
def Xh:=@List.map_take
def Xi:=@List.any_cons
def Xj:=@Bool.false_or
def Xk:=@PyProof.Rows.boot_max
def Xl:=@Bool.and_eq_false_iff
def Xm:=@wpAny_truthy_bool
def Xn:=@wpAny_typeLookup_exc
def Xo:=@Bool.and_false
def Xp:=@Array.toList_setIfInBounds
def Xq:=@codeAny_mono
def Xr:=@List.map_nil
def Xs:=@List.length_drop
def Xt:=@List.pairwise_iff_getElem
def Xu:=@List.getElem?_zip_eq_some
def Xv:=@PySem.W.hideAll_get
def Xw:=@wpAny_holding
def Xx:=@List.all_cons
def Xy:=@Bool.and_true
def XA:=@Nat.min_eq_left
def XB:=@PySem.W.callWith_K
def XC:=@List.filter_append
def XD:=@List.pairwise_lt_range
def XE:=@List.nodup_append
def XF:=@List.foldl_append
def XG:=@Int.ofNat_le
def XH:=@plainObj_wpAny_Assign_Attribute
def XI:=@PyProof.Rows.boot_min
def XJ:=@List.length_filter_le
def XL:=@Nat.min_eq_right
def XN:=@Nat.lt_succ_self
def XQ:=@List.getElem_mem
def XS:=@List.countP_cons
def XT:=@wpAny_standAt
def XU:=@Bool.true_and
def XV:=@sizeLine_eq
def XW:=@List.mem_of_mem_take
def XZ:=@List.mem_append_left
def X5:=@List.count_eq_zero_of_not_mem
def X6:=@Around.under_plainId
def X7:=@wpAny_execs_nil
def X8:=@List.of_mem_zip
def X9:=@List.map_congr_left
def Ua:=@Int.add_zero
def Ub:=@PySem.W.of_hideAll
def Uc:=@List.zip_cons_cons
def Ud:=@List.nodup_iff_pairwise_ne
def Ue:=@List.find?_eq_none
def Uf:=@Int.lt_or_lt_of_ne
def Ug:=@List.drop_eq_getElem_cons
def Uh:=@Nat.le_of_succ_le
def Ui:=@List.pairwise_map
def Uj:=@List.ext_getElem?
def Uk:=@List.append_assoc
def Ul:=@List.Pairwise.imp
def Um:=@PySem.F.store_ValueError
def Uo:=@List.map_drop
def Up:=@List.getElem?_take_of_lt
def Uq:=@if_false
def Ur:=@Nat.le_of_not_lt
def Us:=@Nat.le_add_right
def Ut:=@List.filter_cons_of_pos
def Uv:=@List.filter_cons_of_neg
def Uw:=@Int.eq_ofNat_of_zero_le
def Ux:=@wpAny_call
def Uy:=@PySem.W.funFrames_hide
def Uz:=@PySem.W.cellsFrom_some
def UA:=@Nat.le_of_eq
def UB:=@Nat.add_zero
def UC:=@Int.ne_of_lt
def UD:=@Int.ne_of_gt
def UE:=@Heap.get?_update_other
def UF:=@Array.getElem?_eq_none
def UG:=@pushCells_keeps
def UH:=@get?_update_seq
def UI:=@codeAny_builtin
def UJ:=@List.count_cons
def UK:=@Heap.get?_update_self
def UL:=@List.Pairwise.filter
def UM:=@Int.one_mul
def UN:=@Int.mul_neg
def UO:=@if_true
def UP:=@List.flatMap_append
def UQ:=@plainId_quiet
def UR:=@listUpdate_at
def US:=@Paired.length
def UT:=@tupleKind_room_in1
def UU:=@Bool.false_eq_true
def UV:=@Array.find?_toList
def UW:=@Array.setIfInBounds_eq_of_size_le
def UX:=@ite_self
def UY:=@Option.isSome_map
def UZ:=@Nat.succ_pos
def U0:=@Nat.ne_of_gt
def U1:=@Nat.lt_succ_of_lt
def U2:=@List.reverse_cons
def U3:=@List.flatMap_cons
def U4:=@List.any_map
def U5:=@Int.self_le_toNat
def U6:=@Bool.true_or
def U7:=@Bool.or_true
def U8:=@List.not_mem_nil
def U9:=@List.mem_flatMap
def Ja:=@List.filter_cons
def Jb:=@List.cons_ne_nil
def Jc:=@Nat.le_succ
def Jd:=@wpAny_loadPart'
def Je:=@beq_false_of_ne
def Jf:=@PySem.W.length_le_weightAllW
def Jg:=@List.sum_append
def Jh:=@List.length_zip
def Ji:=@List.filter_nil
def Jj:=@Int.natCast_add
def Jk:=@wpAny_newFunctionEnv_cells
def Jl:=@call_meets
def Jm:=@boot_range
def Jn:=@Prod.ext
def Jo:=@List.Perm.refl
def Jp:=@Int.not_le
def Jq:=@Calls.Name_function_global
def Jr:=@List.mem_take_iff_getElem
def Js:=@Int.mul_pos_of_neg_of_neg
def Jt:=@Int.mul_neg_of_pos_of_neg
end
namespace L2
open PySem PySem.Spec PyProof.Rows
abbrev yD:=Sum Int Str
def zEt:yD->Value->Bool
|.inl k,v=>Value.isInt k v
|.inr x,v=>Value.isStrOf x v
def zSc (w:World):yD->Int
|.inl k=>hashInt k
|.inr x=>hashStr w x
theorem Zb:∀ {k:yD}{v:Value},zEt k v=true->(∃ i t,k=Sum.inl i/\v=Value.int i t)\/(∃ x t,k=Sum.inr x/\v=Value.str x t)
|.inl i,v,h=>by
  obtain⟨t,e⟩:=Value.isInt_shape (k:=i) (v:=v) h;exact .inl ⟨i,t,rfl,e⟩
|.inr x,v,h=>by
  obtain⟨t,e⟩:=Value.isStrOf_shape (x:=x) (v:=v) h;exact .inr ⟨x,t,rfl,e⟩
theorem zLj(i:Int)(t:Tok):zEt (.inl i) (.int i t)=true:=by simp[zEt,Value.isInt]
theorem zLk(x:Str)(t:Tok):zEt (.inr x) (.str x t)=true:=by simp[zEt,Value.isStrOf]
theorem zQQ(a b:Int):decide ((Sum.inl a:yD)=Sum.inl b)=(a==b):=by
 by_cases e:a=b
 .subst e;simp
 .have h:¬ (Sum.inl a:yD)=Sum.inl b:=λq=>e (Sum.inl.inj q)
  rw[WH h];exact (W8.mpr e).symm
theorem zQR(a b:Str):decide ((Sum.inr a:yD)=Sum.inr b)=decide (a=b):=by
 by_cases e:a=b
 .subst e;simp
 .have h:¬ (Sum.inr a:yD)=Sum.inr b:=λq=>e (Sum.inr.inj q)
  rw[WH h,WH e]
theorem zQS(a:Int)(b:Str):decide ((Sum.inl a:yD)=Sum.inr b)=false:=WH (λq=>nomatch q)
theorem zQT(a:Str)(b:Int):decide ((Sum.inr a:yD)=Sum.inl b)=false:=WH (λq=>nomatch q)
def yP (prog:Program)(w:World):PySem.KeyKind prog w yD where
 is:=zEt
 hash:=zSc w
 inj:=λv a b ha hb=>by
  rcases Zb ha with ⟨i,t,rfl,rfl⟩|⟨x,t,rfl,rfl⟩
  .rcases Zb hb with ⟨j,u,rfl,e⟩|⟨y,u,rfl,e⟩
   .injection e with e1 _;rw[e1]
   .exact nomatch e
  .rcases Zb hb with ⟨j,u,rfl,e⟩|⟨y,u,rfl,e⟩
   .exact nomatch e
   .injection e with e1 _;rw[e1]
 byValue:=λk v h=>by
  rcases Zb h with ⟨i,t,rfl,rfl⟩|⟨x,t,rfl,rfl⟩ <;> rfl
 pyHash:=λhv h=>by
  rcases Zb hv with ⟨i,t,rfl,rfl⟩|⟨x,t,rfl,rfl⟩
  .exact wpAny_pyHash_int h
  .exact wpAny_pyHash_str h
 eqBool:=λhu hv h=>by
  rcases Zb hu with ⟨i,t,rfl,rfl⟩|⟨x,t,rfl,rfl⟩
  .rcases Zb hv with ⟨j,u,rfl,rfl⟩|⟨y,u,rfl,rfl⟩
   .rw[zQQ] at h;exact wpAny_eqBool_int h
   .rw[zQS] at h;exact SeqAt.EqAt.int_str i t y u _ _ _ _ h
  .rcases Zb hv with ⟨j,u,rfl,rfl⟩|⟨y,u,rfl,rfl⟩
   .rw[zQT] at h;exact SeqAt.EqAt.str_int x t j u _ _ _ _ h
   .rw[zQR] at h;exact wpAny_eqBool_str h
 «strs»:=λk x t v h=>by
  rcases Zb h with ⟨i,u,rfl,e⟩|⟨y,u,rfl,e⟩
  .exact nomatch e
  .injection e with e1 _
   subst e1;cases v <;> rfl
theorem zJD(prog:Program)(w:World)(i:Int)(t:Tok):(yP prog w).is (.inl i) (.int i t)=true:=zLj i t
theorem zJE(prog:Program)(w:World)(x:Str)(t:Tok):(yP prog w).is (.inr x) (.str x t)=true:=zLk x t
inductive V where
|non|bl (b:Bool)|int (i:Int)|str (x:Str)|byt (b:Array UInt8)|flt (b:UInt64)|ref (a:Addr)|ty (n:String)
 deriving DecidableEq
def zp:V->Value->Prop
|.non,u=>u=Value.none
|.bl b,u=>u=Value.bool b
|.int i,u=>∃ t,u=Value.int i t
|.str x,u=>∃ t,u=Value.str x t
|.byt b,u=>∃ t,u=Value.bytes b t
|.flt b,u=>∃ t,u=Value.float b t
|.ref a,u=>u=Value.ref a
|.ty n,u=>u=Value.type n
abbrev zY:List V->List Value->Prop:=Paired zp
theorem zY.length{xs:List V}{us:List Value}(r:zY xs us):xs.length=us.length:=US r
theorem zY.get:∀ {xs:List V}{us:List Value}{i:Nat}{x:V},zY xs us->xs[i]?=some x->∃ u,us[i]?=some u/\zp x u
|_,_,_,_,.nil,e=>by simp at e
|_,_,0,_,.cons r _,e=>by simp at e;subst e;exact⟨_,rfl,r⟩
|_,_,i+1,x,.cons _ t,e=>by
  obtain⟨u,h1,h2⟩:=zY.get (i:=i) (x:=x) t (by simpa using e);exact⟨u,by simpa using h1,h2⟩
theorem zY.set{x:V}{u:Value}(r:zp x u):∀ {xs:List V}{us:List Value}(i:Nat),zY xs us->zY (xs.set i x) (us.set i u)
|_,_,_,.nil=>.nil
|_,_,0,.cons _ t=>.cons r t
|_,_,i+1,.cons q t=>.cons q (zY.set r i t)
theorem zY.append:∀ {xs ys:List V}{us ws:List Value},zY xs us->zY ys ws->zY (xs++ys) (us++ws)
|_,_,_,_,.nil,s=>s
|_,_,_,_,.cons r t,s=>.cons r (zY.append t s)
theorem zY.take:∀ {xs:List V}{us:List Value}(n:Nat),zY xs us->zY (xs.take n) (us.take n)
|_,_,0,_=>.nil
|_,_,_+1,.nil=>.nil
|_,_,n+1,.cons r t=>.cons r (zY.take n t)
theorem zY.drop:∀ {xs:List V}{us:List Value}(n:Nat),zY xs us->zY (xs.drop n) (us.drop n)
|_,_,0,r=>r
|_,_,_+1,.nil=>.nil
|_,_,n+1,.cons _ t=>zY.drop n t
def Yn:Option V->Option Value->Prop
|some v,some u=>zp v u
|none,none=>True
|_,_=>False
def KV {κ:Type}:List (κ×V)->List (κ×Value)->Prop:=Paired λ(p:κ×V) (q:κ×Value)=>p.1=q.1/\zp p.2 q.2
def kV:yD->V
|.inl i=>.int i
|.inr x=>.str x
inductive HO where
 |lst (xs:List V)
 |tup (xs:List V)
 |dK (kvs:List (yD×V))|dT (kvs:List (List yD×V))
 |set (S:Int->Bool) (n:Nat)
 |ins (C dx:Addr) (fs:List (Str×V))
 |own (x:Addr)
 |xd (fs:List (Str×V))
 |met (f x:Addr)
 |rng (lo hi:Int)
 |frz (o:Obj) (u:HO)
 |tbl (ps:Array Value)
 |ext (φ:Heap->Prop)
abbrev Hp:=Addr->Option HO
def upd (H:Hp)(a:Addr)(o:HO):Hp:=λb=>if b=a then some o else H b
theorem zE{H:Hp}{a:Addr}{o:HO}:upd H a o a=some o:=by unfold upd;rw[Wc rfl]
theorem zD{H:Hp}{a b:Addr}{o:HO}(h:b≠a):upd H a o b=H b:=by unfold upd;rw[Wb h]
theorem zRv{H:Hp}{a b:Addr}{o u:HO}(h:H a=some o)(h':H b=some u)(d:o≠u):a≠b:=by
 intro e;subst e;rw[h] at h';exact d (Wu h')
theorem zJ{H:Hp}{a b:Addr}{o:HO}(h:H a=some o)(h':H b=none):a≠b:=by
 intro e;subst e;rw[h] at h';cases h'
section
variable (P:Program) (w:World)
def yT (H:Hp)(h:Heap)(a:Addr):HO->Prop
|.lst xs=>xs.length<=sizeLine/\∃ (its:List Value) (n:Nat),zY xs its/\h.get? a=some {cls:=.type "list",data:=.seq its.toArray n}
|.tup xs=>xs.length<=sizeLine/\∃ its:List Value,zY xs its/\IsTup h a its.toArray
|.dK kvs=>kvs.length<=sizeLine/\(a==sysModules)=false/\∃ vs,KV kvs vs/\h.DictOf (yP P w) a vs
|.dT kvs=>kvs.length<=sizeLine/\(a==sysModules)=false/\∃ xs:List (List yD×Addr×Value),
   Paired (λ(p:List yD×V) (q:List yD×Addr×Value)=>p.1=q.1/\H q.2.1=some (.tup (p.1.map kV))/\zp p.2 q.2.2) kvs xs/\
   ∃ o es ep,h.get? a=some o/\o.ExactDict/\o.data=.dict es ep/\es.toList=xs.map (entryOfKey (tupleKind (yP P w)))/\(xs.map (·.1)).Nodup
|.set S n=>h.SetOf (intKind P w) a S n
|.ins C dx fs=>H dx=some (.own a)/\fs.length<=1000/\dx≠a/\h.get? a=some (PySem.W.instObj C dx)/\
   ∃ mA,h.Ns1 dx mA/\(∀ f,Yn (fs.lookup f) (mA f))/\PySem.Within mA (fs.map (·.1))
|.own _=>∃ o,h.get? a=some o
|.xd fs=>∃ mA,h.Ns1 a mA/\∀ f,Yn (fs.lookup f) (mA f)
|.rng lo hi=>∃ t u v,h.get? a=some {cls:=.type "range",data:=.fields #[.int lo t,.int hi u,.int 1 v]}
|.frz o u=>h.get? a=some o/\yT H h a u
|.tbl ps=>h.get? a=some {cls:=.none,data:=.fields ps}
|.met f x=>h.get? a=some (PySem.W.methodObj (.ref f) (.ref x))
|.ext φ=>φ h/\(∃ o,h.get? a=some o)/\∀ h1 h2:Heap,φ h1->(∀ o,h1.get? a=some o->h2.get? a=some o)->φ h2
def ZO (H:Hp)(h:Heap):Prop:=∀ a o,H a=some o->yT P w H h a o
end
section
variable {P:Program}{w:World}{H H':Hp}{h h':Heap}{a:Addr}{o:HO}
theorem yT.lt(x:yT P w H h a o):a<h.objs.size:=by
 cases o with
|lst xs=>obtain⟨_,_,_,_,e⟩:=x;exact Wj e
|tup xs=>obtain⟨_,_,_,p⟩:=x;exact p.lt
|dK kvs=>obtain⟨_,_,_,_,o,_,_,e,_⟩:=x;exact Wj e
|dT kvs=>obtain⟨_,_,_,_,o,_,_,e,_⟩:=x;exact Wj e
|set S n=>obtain⟨o,_,_,_,e,_⟩:=x;exact Wj e
|ins C dx fs=>obtain⟨_,_,_,e,_⟩:=x;exact Wj e
|own y=>obtain⟨_,e⟩:=x;exact Wj e
|xd fs=>obtain⟨_,⟨_,_,_,e,_⟩,_⟩:=x;exact Wj e
|rng lo hi=>obtain⟨_,_,_,e⟩:=x;exact Wj e
|frz ob u=>obtain⟨e,_⟩:=x;exact Wj e
|tbl ps=>exact Wj (show h.get? a=some _ from x)
|met f y=>exact Wj (show h.get? a=some _ from x)
|ext φ=>obtain⟨_,⟨_,e⟩,_⟩:=x;exact Wj e
theorem Paired.mapP{α β:Type}{F G:α->β->Prop}:∀ {l₁:List α}{l₂:List β},Paired F l₁ l₂->(∀ a b,F a b->G a b)->Paired G l₁ l₂
|_,_,.nil,_=>.nil
|_,_,.cons r t,f=>.cons (f _ _ r) (Paired.mapP t f)
theorem yT.stay(x:yT P w H h a o)(k:∀ b u,(b=a\/H b=some (.own a))->h.get? b=some u->h'.get? b=some u)
  (ho:∀ b,H b=some (.own a)->H' b=some (.own a))(ht:∀ b xs,H b=some (.tup xs)->H' b=some (.tup xs)):yT P w H' h' a o:=by
 induction o with
|lst xs=>obtain⟨z,its,n,r,e⟩:=x;exact⟨z,its,n,r,k _ _ (.inl rfl) e⟩
|tup xs=>obtain⟨z,its,r,ob,e,c⟩:=x;exact⟨z,its,r,ob,k _ _ (.inl rfl) e,c⟩
|dK kvs=>obtain⟨z,y,vs,r,ob,es,ep,e,c⟩:=x;exact⟨z,y,vs,r,ob,es,ep,k _ _ (.inl rfl) e,c⟩
|dT kvs=>
  obtain⟨z,y,xs,r,ob,es,ep,e,c⟩:=x;exact⟨z,y,xs,Paired.mapP r λp q z=>⟨z.1,ht _ _ z.2.1,z.2.2⟩,ob,es,ep,k _ _ (.inl rfl) e,c⟩
|set S n=>obtain⟨ob,es,ep,t,e,c⟩:=x;exact⟨ob,es,ep,t,k _ _ (.inl rfl) e,c⟩
|ins C dx fs=>
  obtain⟨d,z,ne,e,mA,⟨od,es,ep,e2,c⟩,r⟩:=x;exact⟨ho _ d,z,ne,k _ _ (.inl rfl) e,mA,⟨od,es,ep,k _ _ (.inr d) e2,c⟩,r⟩
|own y=>obtain⟨ob,e⟩:=x;exact⟨ob,k _ _ (.inl rfl) e⟩
|xd fs=>obtain⟨mA,⟨od,es,ep,e,c⟩,r⟩:=x;exact⟨mA,⟨od,es,ep,k _ _ (.inl rfl) e,c⟩,r⟩
|rng lo hi=>obtain⟨t,u,v,e⟩:=x;exact⟨t,u,v,k _ _ (.inl rfl) e⟩
|frz ob u ih=>obtain⟨e,q⟩:=x;exact⟨k _ _ (.inl rfl) e,ih q⟩
|tbl ps=>
  have e:h.get? a=some {cls:=.none,data:=.fields ps}:=x;show h'.get? a=some {cls:=.none,data:=.fields ps};exact k a _ (.inl rfl) e
|met f y=>
  have e:h.get? a=some (PySem.W.methodObj (.ref f) (.ref y)):=x;show h'.get? a=some (PySem.W.methodObj (.ref f) (.ref y));exact k a _ (.inl rfl) e
|ext φ=>obtain⟨p,⟨o,e⟩,st⟩:=x;exact⟨st _ _ p λo q=>k _ _ (.inl rfl) q,⟨o,k _ _ (.inl rfl) e⟩,st⟩
theorem ZO.lt(x:ZO P w H h)(e:H a=some o):a<h.objs.size:=(x a o e).lt
theorem ZO.fresh(x:ZO P w H h)(e:h.objs.size<=a):H a=none:=by
 cases q:H a with
|none=>rfl
|some u=>exact absurd (yR (x.lt q) e) (VB _)
theorem ZO.kept(x:ZO P w H h)(k:∀ b u,h.get? b=some u->h'.get? b=some u):ZO P w H h':=λa o e=>
 (x a o e).stay (λb u _ q=>k b u q) (λ_ q=>q) λ_ _ q=>q
theorem ZO.laid(x:ZO P w H h)(k:∀ b u,h.get? b=some u->h'.get? b=some u)(hp:h.objs.size<=a)(new:yT P w (upd H a o) h' a o):ZO P w (upd H a o) h':=λb u e=>by
 have hn:=x.fresh hp;by_cases hb:b=a
 .subst hb;rw[zE] at e;cases e;exact new
 .rw[zD hb] at e;exact (x b u e).stay (λc v _ q=>k c v q) (λc q=>by rw[zD (zJ q hn)];exact q) λc xs q=>by rw[zD (zJ q hn)];exact q
end
def Rd (H:Hp)(a:Addr)(u:HO):Prop:=H a=some u\/∃ o,H a=some (.frz o u)
theorem Rd.ok{P:Program}{w:World}{H:Hp}{h:Heap}{a:Addr}{u:HO}(r:Rd H a u)(x:ZO P w H h):yT P w H h a u:=by
 rcases r with r|⟨o,r⟩
 .exact x a u r
 .obtain⟨_,q⟩:=x a _ r;exact q
def Mut:Option HO->Prop
|some (.lst _)=>True
|some (.dK _)=>True
|some (.dT _)=>True
|some (.set _ _)=>True
|some (.ins _ _ _)=>True
|some (.ext _)=>True
|_=>False
section
variable {P:Program}{w:World}{H:Hp}{h h':Heap}{x e:Addr}{o':HO}
theorem ZO.write(ok:ZO P w H h)(mu:Mut (H x))(he:e=x\/H e=some (.own x))(k:∀ b u,b≠e->h.get? b=some u->h'.get? b=some u)(heo:∃ u,h'.get? e=some u)
  (new:yT P w (upd H x o') h' x o'):ZO P w (upd H x o') h':=λb u q=>by
 have nown:∀ c y,H c=some (.own y)->c≠x:=λc y r z=>by subst z;rw[r] at mu;exact mu
 have ntup:∀ c xs,H c=some (.tup xs)->c≠x:=λc xs r z=>by subst z;rw[r] at mu;exact mu
 by_cases hb:b=x
 .subst hb;rw[zE] at q;cases q;exact new
 .rw[zD hb] at q;by_cases hbe:b=e
  .have q':H b=some (.own x):=by
    rcases he with z|z
    .exact absurd (hbe.trans z) hb
    .rw[hbe];exact z
   rw[q] at q';cases q';obtain⟨v,hv⟩:=heo;exact⟨v,by rw[hbe];exact hv⟩
  .refine (ok b u q).stay (λc v hc r=>k c v ?_ r) (λc r=>by rw[zD (nown c b r)];exact r) λc xs r=>by rw[zD (ntup c xs r)];exact r
   rcases hc with rfl|hc
   .exact hbe
   .rintro rfl;rcases he with z|z
    .exact nown c b hc z
    .rw[hc] at z;cases z;exact hb rfl
end
structure Un(fs ex:List Addr)(H H':Hp)(h h':Heap):Prop where
 keep:∀ b o,h.get? b=some o->H b=none->b∉fs->b∉ex->h'.get? b=some o
 slot:∀ b o,h.get? b=some o->H b=none->b∈fs->b∉ex->∃ sl,h'.get? b=some {o with slots:=sl}
 free:∀ b o,h.get? b=some o->H b=none->b∉ex->H' b=none
 there:∀ b o,h.get? b=some o->b∉ex->∃ o',h'.get? b=some o'
 tups:∀ b xs,H b=some (.tup xs)->H' b=some (.tup xs)
 frzs:∀ b o u,H b=some (.frz o u)->H' b=some (.frz o u)
 tbls:∀ b ps,H b=some (.tbl ps)->∃ more,H' b=some (.tbl (ps++more))
section
variable {fs fs' ex ex':List Addr}{H H1 H2:Hp}{h h1 h2 h':Heap}{a x e:Addr}{o:HO}
theorem Un.any(u:Un fs ex H H1 h h1){b:Addr}{ob:Obj}(q:h.get? b=some ob)(n:H b=none)(hx:b∉ex):∃ sl,h1.get? b=some {ob with slots:=sl}:=by
 by_cases hb:b∈fs
 .exact u.slot b ob q n hb hx
 .exact⟨ob.slots,u.keep b ob q n hb hx⟩
theorem Un.kept(k:∀ b u,h.get? b=some u->h'.get? b=some u):Un fs ex H H h h':=
 ⟨λb ob q _ _ _=>k b ob q,λb ob q _ _ _=>⟨ob.slots,k b ob q⟩,λ_ _ _ n _=>n,λb ob q _=>⟨ob,k b ob q⟩,λ_ _ q=>q,λ_ _ _ q=>q,λ_ ps q=>⟨#[],by rw[q];simp⟩⟩
theorem Un.refl:Un fs ex H H h h:=Un.kept λ_ _ q=>q
theorem Un.laid(k:∀ b u,h.get? b=some u->h'.get? b=some u)(hp:h.objs.size<=a)(hn:H a=none):Un fs ex H (upd H a o) h h' where
 keep:=λb u q _ _ _=>k b u q
 slot:=λb u q _ _ _=>⟨u.slots,k b u q⟩
 free:=λb u q n _=>by rw[zD (Wx (yR (Wj q) hp))];exact n
 there:=λb u q _=>⟨u,k b u q⟩
 tups:=λb xs q=>by rw[zD (zJ q hn)];exact q
 frzs:=λb u xs q=>by rw[zD (zJ q hn)];exact q
 tbls:=λb ps q=>⟨#[],by rw[zD (zJ q hn),q];simp⟩
theorem Un.write(mu:Mut (H x))(he:e=x\/H e=some (.own x))(k:∀ b u,b≠e->h.get? b=some u->h'.get? b=some u)(heo:∃ u,h'.get? e=some u):Un fs ex H (upd H x o) h h':=by
 have hx:∀ b,H b=none->b≠x:=λb n z=>by subst z;rw[n] at mu;exact mu
 have hb:∀ b,H b=none->b≠e:=λb n z=>by
  subst z;rcases he with r|r
  .exact hx b n r
  .rw[n] at r;cases r
 have hm:∀ b u,H b=some u->¬ Mut (some u)->b≠x:=λb u q nm z=>by subst z;rw[q] at mu;exact nm mu
 refine⟨λb u q n _ _=>k b u (hb b n) q,λb u q n _ _=>⟨u.slots,k b u (hb b n) q⟩,λb u q n _=>by rw[zD (hx b n)];exact n,λb u q _=>?_,
  λb xs q=>by rw[zD (hm b _ q λz=>z)];exact q,λb u xs q=>by rw[zD (hm b _ q λz=>z)];exact q,λb ps q=>⟨#[],by rw[zD (hm b _ q λz=>z),q];simp⟩⟩
 by_cases hbe:b=e
 .subst hbe;exact heo
 .exact⟨u,k b u hbe q⟩
end
def trk (h:Heap)(H:Hp):List Addr:=(List.range h.objs.size).filter λa=>(H a).isSome
def zCx (h:Heap)(H:Hp):Heap:=PySem.W.hideAll h (trk h H)
theorem zLl(h:Heap)(H:Hp):(zCx h H).objs.size=h.objs.size:=PySem.W.hideAll_size _ _
theorem zM5{h:Heap}{H:Hp}{b:Addr}{o:Obj}(e:h.get? b=some o)(n:H b=none):(zCx h H).get? b=some o:=
 Xv _ e λhm=>by
  have q:(H b).isSome=true:=(V1.mp hm).2;rw[n] at q;simp at q
theorem zOg{h:Heap}{H:Hp}{b:Addr}{o:Obj}(e:(zCx h H).get? b=some o):h.get? b=some o/\H b=none:=by
 have e':h.get? b=some o:=Ub (trk h H) e;refine⟨e',?_⟩;cases q:H b with
|none=>rfl
|some x=>
  have hm:b∈trk h H:=V1.mpr ⟨VD.mpr (Wj e'),by simp[q]⟩;have z:(zCx h H).get? b=none:=V2 (trk h H) hm;rw[z] at e;cases e
def zOh (g h:Heap)(L:Addr):Qp:=(List.range h.objs.size).filterMap λa=>if a=L\/(g.get? a).isSome=true then none else (h.get? a).map λo=>(a,o)
def Zt (g h:Heap)(L d:Addr):Qp:=(zOh g h L).filter λp=>decide (p.1≠d)
structure Mod(K:Qf)(mg:Qm)(base:Heap):Prop where
 kin:K.In base
 glob:base.Ns mainGlobals mg
 blt:∃ mb,base.Ns builtinsNs mb/\∀ x:Str,x≠"__name__"->mb x=bootBuiltins x
 nolimit:base.NoLimit
structure Cx where
 prog:Program
 w:World
 K:Qf
 mg:Qm
 base:Heap
 A:Around
 N:List Str
 s_0:Shared
 H_0:Hp
 env:Env
 outer:List Env
 stack:List Env
 ex:List Addr
 fn:Str->Bool
 calm:Bool
 pn:Qp
 xe:Qs
def ym (l:List Env):List Addr:=l.filterMap (·.frame)
abbrev Cx.fs(X:Cx):List Addr:=ym X.outer
def Vis (sc:Scope)(x:Str):Prop:=sc.names.lookup x=some .local\/sc.names.lookup x=some .cell\/sc.names.lookup x=some .free
def Loc (sc:Scope)(x:Str):Prop:=sc.names.lookup x=some .local\/sc.names.lookup x=some .cell
def zSd (env:Env)(h:Heap)(m:Qm)(x:Str)(u:Value):Prop:=
 (env.kindOf x=some .local/\m x=some u)\/((env.kindOf x=some .cell\/env.kindOf x=some .free)/\∃ c,env.cells.lookup x=some c/\h.IsCell c (some u))
structure Cx.Ok(X:Cx):Prop where
 mod:Mod X.K X.mg X.base
 kind:X.env.scope.kind=.function
 glob:X.env.globals=mainGlobals
 blt:X.env.builtins=builtinsNs
 above:X.s_0.heap.objs.size<=X.env.locals
 inj:∀ x y c,X.env.cells.lookup x=some c->X.env.cells.lookup y=some c->x=y
 has:∀ x,(X.env.kindOf x=some .cell\/X.env.kindOf x=some .free)->∃ c,X.env.cells.lookup x=some c
 cab:∀ x c,X.fn x=true->X.env.cells.lookup x=some c->X.s_0.heap.objs.size<=c
 hd:X.calm=true->X.A.handled=none
 frames:X.A.frames=some X.stack
 stk:X.stack=X.outer\/(X.stack=X.env::X.outer/\X.env.frame=some X.env.locals)
 exf:∀ b∈X.ex,b≠X.env.locals/\∀ x c,X.env.cells.lookup x=some c->c≠b
 bs:∀ b o,X.base.get? b=some o->X.s_0.heap.get? b=some o/\X.H_0 b=none
 bsz:X.base.objs.size<=X.s_0.heap.objs.size
 noex:∀ b o,X.base.get? b=some o->b∉X.ex
 exfs:∀ b∈X.ex,b∉X.fs
 funs:X.s_0.heap.FunFrames X.base X.outer
 frf:∀ b∈X.fs,X.H_0 b=none
structure zK(X:Cx)(pins:Qp)(σ:List (Option V))(H:Hp)(s:Shared):Prop where
 ok:X.Ok
 os:s.os=X.s_0.os
 bare:AllBare s.gens
 base:Un X.fs X.ex X.H_0 H X.s_0.heap s.heap
 loc:∃ m,s.heap.Ns X.env.locals m/\∀ (i:Nat) (x:Str) (v:V),X.N[i]?=some x->σ[i]?=some (some v)->Vis X.env.scope x->∃ u,zp v u/\zSd X.env s.heap m x u
 cell:∀ x c,X.env.cells.lookup x=some c->∃ v,s.heap.IsCell c v
 free:H X.env.locals=none
 freeC:∀ x c,X.env.cells.lookup x=some c->H c=none
 pin:∀ p∈X.pn++pins,s.heap.get? p.1=some p.2/\H p.1=none/\p.1≠X.env.locals/\p.1∉X.fs/\∀ v,p.2.data≠.cell v
 hok:ZO X.prog X.w H s.heap
 len:σ.length=X.N.length
section
variable {X:Cx}{pins:Qp}{σ:List (Option V)}{H H':Hp}{s:Shared}{h':Heap}
theorem Cx.Ok.nofr(ok:X.Ok){b:Addr}{o:Obj}(e:X.base.get? b=some o):b∉X.fs:=λhb=>by
 have:=(ok.funs.mem hb).1;rw[e] at this;cases this
theorem zK.bs(I:zK X pins σ H s):∀ b o,X.base.get? b=some o->s.heap.get? b=some o/\H b=none:=λb o e=>
 ⟨I.base.keep b o (I.ok.bs b o e).1 (I.ok.bs b o e).2 (I.ok.nofr e) (I.ok.noex b o e),I.base.free b o (I.ok.bs b o e).1 (I.ok.bs b o e).2 (I.ok.noex b o e)⟩
theorem zK.bk(I:zK X pins σ H s):∀ b o,X.base.get? b=some o->s.heap.get? b=some o:=λb o e=>(I.bs b o e).1
theorem zK.mod(I:zK X pins σ H s):Mod X.K X.mg X.base:=I.ok.mod
theorem zK.kIn(I:zK X pins σ H s):X.K.In s.heap:=I.ok.mod.kin.keeps I.bk
theorem zK.nolimit(I:zK X pins σ H s):s.heap.NoLimit:=I.ok.mod.nolimit.keeps I.bk
theorem zK.lt(I:zK X pins σ H s):X.env.locals<s.heap.objs.size:=let ⟨_,hn,_⟩:=I.loc;hn.lt
theorem zK.sz(I:zK X pins σ H s):X.s_0.heap.objs.size<=s.heap.objs.size:=WT I.ok.above (Vi I.lt)
theorem zK.nofs(I:zK X pins σ H s){a:Addr}(h:s.heap.objs.size<=a):a∉X.fs:=λhb=>by
 obtain⟨_,o,ho,_⟩:=I.ok.funs.mem hb;exact absurd (yR (Wj ho) (WT I.sz h)) (VB _)
theorem zK.cne(I:zK X pins σ H s):∀ x c,X.env.cells.lookup x=some c->c≠X.env.locals:=λx c e z=>by
 obtain⟨v,o,ho,hd⟩:=I.cell x c e;obtain⟨m,⟨o',es,ep,ho',hd',_⟩,_⟩:=I.loc;rw[z,ho'] at ho;cases ho;rw[hd'] at hd;cases hd
theorem zK.funs(I:zK X pins σ H s):s.heap.FunFrames X.base X.outer:=by
 have all:∀ (l:List Env),(∀ b∈ym l,b∈X.fs)->X.s_0.heap.FunFrames X.base l->s.heap.FunFrames X.base l:=by
  intro l
  induction l with
 |nil=>intro _ _;trivial
 |cons env r ih=>
   intro hs hl;obtain⟨hk,⟨L,o,hf,hn,ho,hd⟩,hr⟩:=hl;have hL:L∈X.fs:=hs L (by unfold ym;rw[V6,hf];exact Wm);obtain⟨sl,e⟩:=I.base.slot L o ho (I.ok.frf L hL) hL λz=>I.ok.exfs L z hL
   exact⟨hk,⟨L,_,hf,hn,e,hd⟩,ih (λb hb=>hs b (by unfold ym;rw[V6,hf];exact Wg _ hb)) hr⟩
 exact all X.outer (λ_ hb=>hb) I.ok.funs
theorem zK.stack(I:zK X pins σ H s):s.heap.FunFrames X.base X.stack:=by
 rcases I.ok.stk with e|⟨e,hf⟩
 .rw[e];exact I.funs
 .rw[e];obtain⟨m,hn,_⟩:=I.loc;refine .cons (by rw[I.ok.kind];decide) hf hn ?_ I.funs;exact Heap.get?_none_of_le (WT I.ok.bsz I.ok.above)
theorem zK.stkSub(I:zK X pins σ H s):∀ b∈ym X.stack,b∈X.env.locals::X.fs:=λb hb=>by
 rcases I.ok.stk with e|⟨e,hf⟩
 .rw[e] at hb;exact Wg _ hb
 .rw[e] at hb;unfold ym at hb;rw[V6,hf] at hb;exact hb
theorem zK.stkFree(I:zK X pins σ H s):∀ b∈ym X.stack,H b=none:=λb hb=>by
 rcases Wd.mp (I.stkSub b hb) with e|hb
 .rw[e];exact I.free
 .obtain⟨_,o,ho,_⟩:=I.ok.funs.mem hb;exact I.base.free b o ho (I.ok.frf b hb) λz=>I.ok.exfs b z hb
theorem zK.step{g':Array GenState}{t':Nat}{d':Drawn}{ch:List Addr}(I:zK X pins σ H s)
  (hch:∀ b∈ch,(b∈X.ex\/X.s_0.heap.objs.size<=b)/\b≠X.env.locals/\(∀ x c,X.env.cells.lookup x=some c->c≠b)/\∀ p∈X.pn++pins,p.1≠b)
  (keep:∀ b o,b≠X.env.locals->b∉X.fs->b∉ch->s.heap.get? b=some o->H b=none->h'.get? b=some o)
  (slot:∀ b o,b≠X.env.locals->b∈X.fs->b∉ch->s.heap.get? b=some o->H b=none->∃ sl,h'.get? b=some {o with slots:=sl})(free:∀ b o,b∉ch->s.heap.get? b=some o->H b=none->H' b=none)
  (there:∀ b o,b∉ch->s.heap.get? b=some o->∃ o',h'.get? b=some o')
  (tups:∀ b xs,H b=some (.tup xs)->H' b=some (.tup xs))(frzs:∀ b o u,H b=some (.frz o u)->H' b=some (.frz o u))(tbls:∀ b ps,H b=some (.tbl ps)->∃ more,H' b=some (.tbl (ps++more)))
  (ns:∀ m,s.heap.Ns X.env.locals m->h'.Ns X.env.locals m)(hok:ZO X.prog X.w H' h')(hg:AllBare g') :
  zK X pins σ H' {s with heap:=h',gens:=g',drawn:=d',toks:=t'}:=by
 have neL:∀ b o,X.s_0.heap.get? b=some o->b≠X.env.locals:=λb o e=>Wx (yR (Wj e) I.ok.above)
 have neC:∀ b o,X.s_0.heap.get? b=some o->b∉X.ex->b∉ch:=λb o e hx hb=>by
  rcases (hch b hb).1 with z|z
  .exact hx z
  .exact absurd (yR (Wj e) z) (VB _)
 have cellK:∀ x c,X.env.cells.lookup x=some c->∀ v,s.heap.IsCell c v->h'.IsCell c v:=λx c e v ⟨o,ho,hd⟩=>by
  have nch:c∉ch:=λz=>(hch c z).2.2.1 x c e rfl
  by_cases hc:c∈X.fs
  .obtain⟨sl,q⟩:=slot c o (I.cne x c e) hc nch ho (I.freeC x c e);exact⟨_,q,hd⟩
  .exact⟨o,keep c o (I.cne x c e) hc nch ho (I.freeC x c e),hd⟩
 refine⟨I.ok,I.os,hg,⟨λb o e n hb hx=>?_,λb o e n hb hx=>?_,λb o e n hx=>?_,λb o e hx=>?_,λb xs e=>tups b xs (I.base.tups b xs e),λb o xs e=>frzs b o xs (I.base.frzs b o xs e),λb ps e=>?_⟩,?_,λx c e=>?_,?_,λx c e=>?_,λp hp=>?_,hok,I.len⟩
 .exact keep b o (neL b o e) hb (neC b o e hx) (I.base.keep b o e n hb hx) (I.base.free b o e n hx)
 .obtain⟨sl,e1⟩:=I.base.slot b o e n hb hx;obtain⟨sl',e2⟩:=slot b _ (neL b o e) hb (neC b o e hx) e1 (I.base.free b o e n hx);exact⟨sl',e2⟩
 .obtain⟨o',e1⟩:=I.base.there b o e hx;exact free b o' (neC b o e hx) e1 (I.base.free b o e n hx)
 .obtain⟨o',e1⟩:=I.base.there b o e hx;exact there b o' (neC b o e hx) e1
 .obtain⟨m1,e1⟩:=I.base.tbls b ps e;obtain⟨m2,e2⟩:=tbls b _ e1;exact⟨m1++m2,by rw[e2,Array.append_assoc]⟩
 .obtain⟨m,hn,hl⟩:=I.loc;refine⟨m,ns m hn,λi x v e1 e2 e3=>?_⟩;obtain⟨u,r,l⟩:=hl i x v e1 e2 e3;refine⟨u,r,?_⟩;rcases l with l|⟨k,c,e,z⟩
  .exact .inl l
  .exact .inr ⟨k,c,e,cellK x c e _ z⟩
 .obtain⟨v,z⟩:=I.cell x c e;exact⟨v,cellK x c e v z⟩
 .obtain⟨m,⟨o,_,_,ho,_⟩,_⟩:=I.loc;exact free _ o (λz=>(hch _ z).2.1 rfl) ho I.free
 .obtain⟨v,o,ho,hd⟩:=I.cell x c e;exact free c o (λz=>(hch c z).2.2.1 x c e rfl) ho (I.freeC x c e)
 .obtain⟨e,n,ne,nf,d⟩:=I.pin p hp;have nch:p.1∉ch:=λz=>(hch p.1 z).2.2.2 p hp rfl
  exact⟨keep p.1 p.2 ne nf nch e n,free p.1 p.2 nch e n,ne,nf,d⟩
theorem zK.un{t':Nat}(I:zK X pins σ H s)(u:Un X.fs [] H H' s.heap h')(hok:ZO X.prog X.w H' h'):zK X pins σ H' {s with heap:=h',toks:=t'}:=by
 obtain⟨m,⟨o,es,ep,ho,r⟩,_⟩:=id I.loc;obtain⟨sl,hL⟩:=u.any ho I.free (by simp)
 exact I.step (g':=s.gens) (d':=s.drawn) (ch:=[]) (λ_ z=>nomatch z) (λb o _ hb _ e n=>u.keep b o e n hb (by simp)) (λb o _ hb _ e n=>u.slot b o e n hb (by simp)) (λb o _ e n=>u.free b o e n (by simp)) (λb o _ e=>u.there b o e (by simp)) u.tups u.frzs u.tbls (λm' hm=>by
  obtain⟨o',es',ep',ho',r'⟩:=hm;rw[ho] at ho';cases ho';exact⟨_,es',ep',hL,r'⟩) hok I.bare
theorem zK.call{g':Array GenState}{t':Nat}{d':Drawn}{ch:List Addr}(I:zK X pins σ H s)(u:Un (ym X.stack) ch H H' s.heap h')(hok:ZO X.prog X.w H' h')(hg:AllBare g')
  (hch:∀ b∈ch,(b∈X.ex\/X.s_0.heap.objs.size<=b)/\b≠X.env.locals/\(∀ x c,X.env.cells.lookup x=some c->c≠b)/\∀ p∈X.pn++pins,p.1≠b) :
  zK X pins σ H' {s with heap:=h',gens:=g',drawn:=d',toks:=t'}:=by
 obtain⟨m,⟨o,es,ep,ho,r⟩,_⟩:=id I.loc;obtain⟨sl,hL⟩:=u.any ho I.free λz=>(hch _ z).2.1 rfl
 exact I.step (ch:=ch) hch (λb o hL hb hc e n=>u.keep b o e n (λz=>(Wd.mp (I.stkSub b z)).elim hL hb) hc) (λb o _ _ hc e n=>u.any e n hc) (λb o hc e n=>u.free b o e n hc) (λb o hc e=>u.there b o e hc) u.tups u.frzs u.tbls (λm' hm=>by
  obtain⟨o',es',ep',ho',r'⟩:=hm;rw[ho] at ho';cases ho';exact⟨_,es',ep',hL,r'⟩) hok hg
theorem zK.turned{t':Nat}{it:Addr}(I:zK X pins σ H s)(k:∀ b o,b≠it->s.heap.get? b=some o->h'.get? b=some o)(hn:H it=none)(hL:it≠X.env.locals)
  (h1:it∈X.ex\/X.s_0.heap.objs.size<=it)(h2:∀ x c,X.env.cells.lookup x=some c->c≠it)(h3:∀ p∈X.pn++pins,p.1≠it):zK X pins σ H {s with heap:=h',toks:=t'}:=by
 have nit:∀ b u,H b=some u->b≠it:=λb u e z=>by rw[z,hn] at e;cases e
 refine I.step (g':=s.gens) (d':=s.drawn) (ch:=[it]) (λb hb=>?_) (λb o _ _ hc e _=>k b o (λz=>hc (by simp[z])) e) (λb o _ _ hc e _=>⟨o.slots,k b o (λz=>hc (by simp[z])) e⟩) (λ_ _ _ _ n=>n)
  (λb o hc e=>⟨o,k b o (λz=>hc (by simp[z])) e⟩) (λ_ _ e=>e) (λ_ _ _ e=>e) (λb ps e=>⟨#[],by rw[e];simp⟩) (λm hm=>?_) (λb u e=>?_) I.bare
 .have e:b=it:=by simpa using hb
  subst e;exact⟨h1,hL,h2,h3⟩
 .obtain⟨o,es,ep,ho,r⟩:=hm;exact⟨o,es,ep,k _ o (Ne.symm hL) ho,r⟩
 .refine (I.hok b u e).stay (λc v hc q=>k c v ?_ q) (λ_ q=>q) λ_ _ q=>q
  rcases hc with z|z
  .rw[z];exact nit b u e
  .exact nit c _ z
theorem zK.tok(I:zK X pins σ H s)(t:Nat):zK X pins σ H {s with toks:=t}:=I.un (h':=s.heap) (t':=t) Un.refl I.hok
theorem zK.kept{t':Nat}(I:zK X pins σ H s)(k:∀ b u,s.heap.get? b=some u->h'.get? b=some u):zK X pins σ H {s with heap:=h',toks:=t'}:=I.un (Un.kept k) (I.hok.kept k)
theorem zK.laid{a:Addr}{o:HO}{t':Nat}(I:zK X pins σ H s)(k:∀ b u,s.heap.get? b=some u->h'.get? b=some u)(hp:s.heap.objs.size<=a)(new:yT X.prog X.w (upd H a o) h' a o) :
  zK X pins σ (upd H a o) {s with heap:=h',toks:=t'}:=I.un (Un.laid k hp (I.hok.fresh hp)) (I.hok.laid k hp new)
theorem zK.write{x e:Addr}{o:HO}{t':Nat}(I:zK X pins σ H s)(mu:Mut (H x))(he:e=x\/H e=some (.own x))(k:∀ b u,b≠e->s.heap.get? b=some u->h'.get? b=some u)(heo:∃ u,h'.get? e=some u)
  (new:yT X.prog X.w (upd H x o) h' x o):zK X pins σ (upd H x o) {s with heap:=h',toks:=t'}:=I.un (Un.write mu he k heo) (I.hok.write mu he k heo new)
theorem zK.weak{σ':List (Option V)}(I:zK X pins σ H s)(hl:σ'.length=σ.length)(w:∀ (i:Nat) v,σ'[i]?=some (some v)->σ[i]?=some (some v)):zK X pins σ' H s:=
 ⟨I.ok,I.os,I.bare,I.base,let ⟨m,hn,hl'⟩:=I.loc;⟨m,hn,λi x v e1 e2 e3=>hl' i x v e1 (w i v e2) e3⟩,I.cell,I.free,I.freeC,I.pin,I.hok,hl.trans I.len⟩
theorem zK.pins_of{pins':Qp}(I:zK X pins σ H s)(h:∀ p∈pins',s.heap.get? p.1=some p.2/\H p.1=none/\p.1≠X.env.locals/\p.1∉X.fs/\∀ v,p.2.data≠.cell v):zK X pins' σ H s:=
 ⟨I.ok,I.os,I.bare,I.base,I.loc,I.cell,I.free,I.freeC,λp hp=>(Wv.mp hp).elim (λz=>I.pin p (XZ _ z)) (h p),I.hok,I.len⟩
theorem zFU{N:List Str}(hN:N.Nodup){i j:Nat}{x:Str}(a:N[i]?=some x)(b:N[j]?=some x):i=j:=by
 obtain⟨h1,e1⟩:=yG a;obtain⟨h2,e2⟩:=yG b;exact (List.getElem_inj hN).mp (e1.trans e2.symm)
theorem zEE{M:Model}{A:Around}{E:Qs}{i:Nat}{x:Str}{v:V}{u:Value}{Q:Unit->Shared->Prop}(I:zK X pins σ H s)(hN:X.N.Nodup)(hi:X.N[i]?=some x)(hx:Loc X.env.scope x)(r:zp v u)
  (h:∀ s',zK X pins (σ.set i (some v)) H s'->(∃ a,Heap.SameBut a s.heap s'.heap/\(a=X.env.locals\/X.env.cells.lookup x=some a))->Q () s')(hf:X.fn x=true\/X.env.scope.names.lookup x=some .local:=by first|exact .inl rfl|exact .inr rfl|assumption):wpAny M A (storeName X.env x u) Q E s:=by
 obtain⟨m,hn,hl⟩:=id I.loc;have hcls:(X.env.scope.kind==.class||(X.env.scope.kind==.module&&X.env.locals != X.env.globals))=false:=by rw[I.ok.kind];rfl
 have hiσ:i<σ.length:=by rw[I.len];exact (yG hi).1
 have cne:=I.cne
 have tracked:∀ {a:Addr}{h':Heap},(∃ o,s.heap.get? a=some o/\H a=none)->Heap.SameBut a s.heap h'->ZO X.prog X.w H h':=λ{a h'} ha hs b ob e=>by
  obtain⟨_,_,hfree⟩:=ha;refine (I.hok b ob e).stay (λc w' hc q=>(hs.2 c ?_).trans q) (λ_ q=>q) λ_ _ q=>q
  rintro rfl;rcases hc with rfl|hc
  .rw[hfree] at e;cases e
  .rw[hfree] at hc;cases hc
 rcases hx with hk|hk
 .refine wpAny_storeName_local hk hn (λh' hn' hs=>?_) hcls;obtain⟨oL,_,_,hoL,_⟩:=id hn;refine h _ ⟨I.ok,I.os,I.bare,⟨λb o e n hb hx=>?_,λb o e n hb hx=>?_,I.base.free,λb o e hx=>?_,I.base.tups,I.base.frzs,I.base.tbls⟩,⟨_,hn',λj y v' e1 e2 e3=>?_⟩,λy c e=>?_,I.free,I.freeC,λp hp=>?_,tracked ⟨oL,hoL,I.free⟩ hs,by simpa using I.len⟩ ⟨_,hs,.inl rfl⟩
  .exact (hs.2 b (Wx (yR (Wj e) I.ok.above))).trans (I.base.keep b o e n hb hx)
  .obtain⟨sl,e1⟩:=I.base.slot b o e n hb hx;exact⟨sl,(hs.2 b (Wx (yR (Wj e) I.ok.above))).trans e1⟩
  .obtain⟨o',e1⟩:=I.base.there b o e hx;exact⟨o',(hs.2 b (Wx (yR (Wj e) I.ok.above))).trans e1⟩
  .by_cases hj:j=i
   .subst hj;rw[hi] at e1;cases e1;rw[VF hiσ] at e2;cases e2;exact⟨u,r,.inl ⟨hk,by simp⟩⟩
   .rw[Ve (Ne.symm hj)] at e2;obtain⟨u',r',q⟩:=hl j y v' e1 e2 e3;refine⟨u',r',?_⟩;rcases q with ⟨k,e⟩|⟨k,c,e,z⟩
    .refine .inl ⟨k,?_⟩;have:y≠x:=λe=>hj (zFU hN e1 (e ▸ hi))
     simp[this,e]
    .exact .inr ⟨k,c,e,z.sameBut hs (cne y c e)⟩
  .obtain⟨w',z⟩:=I.cell y c e;exact⟨w',z.sameBut hs (cne y c e)⟩
  .obtain⟨e,n,ne,nf,d⟩:=I.pin p hp;exact⟨(hs.2 p.1 ne).trans e,n,ne,nf,d⟩
 .have hfn:X.fn x=true:=by
   rcases hf with z|z
   .exact z
   .rw[z] at hk;cases hk
  obtain⟨c,hc⟩:=I.ok.has x (.inl hk);obtain⟨w',z⟩:=I.cell x c hc;refine wpAny_storeName_cell I.ok.kind hk hc z (λh' hc' hs=>?_);obtain⟨oc,hoc,hocd⟩:=id z;refine h {s with heap:=h'} ⟨I.ok,I.os,I.bare,⟨λb o e n hb hx=>?_,λb o e n hb hx=>?_,I.base.free,λb o e hx=>?_,I.base.tups,I.base.frzs,I.base.tbls⟩,⟨m,hn.sameBut hs (Ne.symm (cne x c hc)),λj y v' e1 e2 e3=>?_⟩,λy c' e=>?_,I.free,I.freeC,λp hp=>?_,tracked ⟨oc,hoc,I.freeC x c hc⟩ hs,by simpa using I.len⟩ ⟨c,hs,.inr hc⟩
  .exact (hs.2 b (Wx (yR (Wj e) (I.ok.cab x c hfn hc)))).trans (I.base.keep b o e n hb hx)
  .obtain⟨sl,e1⟩:=I.base.slot b o e n hb hx;exact⟨sl,(hs.2 b (Wx (yR (Wj e) (I.ok.cab x c hfn hc)))).trans e1⟩
  .obtain⟨o',e1⟩:=I.base.there b o e hx;exact⟨o',(hs.2 b (Wx (yR (Wj e) (I.ok.cab x c hfn hc)))).trans e1⟩
  .by_cases hj:j=i
   .subst hj;rw[hi] at e1;cases e1;rw[VF hiσ] at e2;cases e2;exact⟨u,r,.inr ⟨.inl hk,c,hc,hc'⟩⟩
   .rw[Ve (Ne.symm hj)] at e2;obtain⟨u',r',q⟩:=hl j y v' e1 e2 e3;refine⟨u',r',?_⟩;rcases q with q|⟨k,c',e,z'⟩
    .exact .inl q
    .refine .inr ⟨k,c',e,z'.sameBut hs ?_⟩;rintro rfl;exact hj (zFU hN e1 (I.ok.inj _ _ _ e hc ▸ hi))
  .by_cases hcc:c'=c
   .subst hcc;exact⟨_,hc'⟩
   .obtain⟨w2,z2⟩:=I.cell y c' e;exact⟨w2,z2.sameBut hs hcc⟩
  .obtain⟨e,n,ne,nf,d⟩:=I.pin p hp;refine⟨(hs.2 p.1 ?_).trans e,n,ne,nf,d⟩;intro q;rw[q,hoc] at e;have q':oc=p.2:=Wu e;exact d w' (by rw[<-q'];exact hocd)
theorem zHz{M:Model}{A:Around}{E:Qs}{i:Nat}{x:Str}{v:V}{u:Value}{Q:Unit->Shared->Prop}(I:zK X pins σ H s)(hN:X.N.Nodup)(hi:X.N[i]?=some x)(hx:Loc X.env.scope x)(r:zp v u)
  (h:∀ s',zK X pins (σ.set i (some v)) H s'->Q () s')(hf:X.fn x=true\/X.env.scope.names.lookup x=some .local:=by first|exact .inl rfl|exact .inr rfl|assumption):wpAny M A (storeName X.env x u) Q E s:=
 zEE I hN hi hx r (λs' I' _=>h s' I') hf
theorem zK.call'{s':Shared}{ch:List Addr}(I:zK X pins σ H s)(ho:s'.os=s.os)(u:Un (ym X.stack) ch H H' s.heap s'.heap)(hok:ZO X.prog X.w H' s'.heap)(hg:AllBare s'.gens)
  (hch:∀ b∈ch,(b∈X.ex\/X.s_0.heap.objs.size<=b)/\b≠X.env.locals/\(∀ x c,X.env.cells.lookup x=some c->c≠b)/\∀ p∈X.pn++pins,p.1≠b):zK X pins σ H' s':=by
 obtain⟨h',g',d',t',o'⟩:=s';have e:o'=s.os:=ho;subst e;exact I.call (g':=g') (t':=t') (d':=d') u hok hg hch
end
abbrev XK:=Value->Option Addr->Hp->Prop
abbrev St:=List (Option V)
abbrev VK:=V->Hp->Prop
abbrev TE:=St->Hp->VK->Prop
abbrev TT:=St->Hp->(Bool->Hp->Prop)->Prop
abbrev TA:=St->Hp->(List V->Hp->Prop)->Prop
structure Y0 where
 nx:St->Hp->Prop
 rt:VK
 bk:St->Hp->Prop:=λ_ _=>False
 ct:St->Hp->Prop:=λ_ _=>False
abbrev TS:=Y0->St->Hp->Prop
def EP (X:Cx)(pins:Qp)(σ:St)(Q:VK)(u:Value)(s':Shared):Prop:=∃ v H',zK X pins σ H' s'/\zp v u/\Q v H'
def TP (X:Cx)(pins:Qp)(σ:St)(Q:Bool->Hp->Prop)(b:Bool)(s':Shared):Prop:=∃ H',zK X pins σ H' s'/\Q b H'
def AP (X:Cx)(pins:Qp)(σ:St)(Q:List V->Hp->Prop)(us:List Value)(s':Shared):Prop:=∃ vs H',zK X pins σ H' s'/\zY vs us/\Q vs H'
def SP (X:Cx)(pins:Qp)(D:Y0)(f:Flow)(s':Shared):Prop:=
 match f with
|.next=>∃ σ' H',zK X pins σ' H' s'/\D.nx σ' H'
|.brk=>∃ σ' H',zK X pins σ' H' s'/\D.bk σ' H'
|.cont=>∃ σ' H',zK X pins σ' H' s'/\D.ct σ' H'
|.ret u=>∃ v σ' H',zK X pins σ' H' s'/\zp v u/\D.rt v H'
def PE (X:Cx)(e:Expr)(t:TE):Prop:=
 ∀ (pins:Qp) (s:Shared) (σ:St) (H:Hp) (Q:VK),zK X pins σ H s->t σ H Q->wpAny (model X.prog X.w) X.A (eval e X.env) (EP X pins σ Q) X.xe s
def PT (X:Cx)(e:Expr)(t:TT):Prop:=
 ∀ (pins:Qp) (s:Shared) (σ:St) (H:Hp) (Q:Bool->Hp->Prop),zK X pins σ H s->t σ H Q->wpAny (model X.prog X.w) X.A (isTrue e X.env (eval e X.env)) (TP X pins σ Q) X.xe s
def PW (X:Cx)(e:Expr)(t:TT):Prop:=
 ∀ (whole:Sem Value) (pins:Qp) (s:Shared) (σ:St) (H:Hp) (Q:Bool->Hp->Prop),zK X pins σ H s->t σ H Q->wpAny (model X.prog X.w) X.A (isTrue e X.env whole) (TP X pins σ Q) X.xe s
theorem PW.pt{X:Cx}{e:Expr}{t:TT}(h:PW X e t):PT X e t:=h _
def PA (X:Cx)(es:List Expr)(t:TA):Prop:=
 ∀ (pos:Pos) (pins:Qp) (s:Shared) (σ:St) (H:Hp) (Q:List V->Hp->Prop),zK X pins σ H s->t σ H Q->wpAny (model X.prog X.w) X.A (spliced (backTo pos (starEach es X.env))) (AP X pins σ Q) X.xe s
def PS (X:Cx)(st:Stmt)(t:TS):Prop:=
 ∀ (pins:Qp) (s:Shared) (σ:St) (H:Hp) (D:Y0),zK X pins σ H s->t D σ H->wpAny (model X.prog X.w) X.A (exec st X.env) (SP X pins D) X.xe s
def PSs (X:Cx)(st:List Stmt)(t:TS):Prop:=
 ∀ (pins:Qp) (s:Shared) (σ:St) (H:Hp) (D:Y0),zK X pins σ H s->t D σ H->wpAny (model X.prog X.w) X.A (execs st X.env) (SP X pins D) X.xe s
theorem zr{α:Type}{t:Sem α}{Q Q':α->Shared->Prop}{M:Model}{A:Around}{E:Qs}{s:Shared}(h:wpAny M A t Q E s)(hQ:∀ a s,Q a s->Q' a s):wpAny M A t Q' E s:=W9 h hQ λ_ _ x=>x
section
variable {X:Cx}
def zM6 (i:Nat):TE:=λσ H Q=>∃ v,σ[i]?=some (some v)/\Q v H
def tC (v:V):TE:=λ_ H Q=>Q v H
theorem zLm{i:Nat}{x:Str}{pos:Pos}(hN:X.N[i]?=some x)(hv:Vis X.env.scope x)(hd:(x==("__debug__" : Str))=false:=by decide)(hcd:(x==("__classdict__" : Str))=false:=by decide):PE X (.Name x pos) (zM6 i):=by
 intro pins s σ H Q I h;obtain⟨v,e,h⟩:=h;obtain⟨m,hn,hl⟩:=I.loc;obtain⟨u,r,l⟩:=hl i x v hN e hv;have fin:EP X pins σ Q u s:=⟨v,H,I,r,h⟩
 rcases l with ⟨hk,hm⟩|⟨hk,c,hc,hcell⟩
 .exact wpAny_Name (wpAny_loadName_local I.ok.kind hk hn hm fin) hd
 .rcases hk with hk|hk
  .exact wpAny_Name (wpAny_loadName_cell I.ok.kind hk hc hcell fin) hd
  .exact wpAny_Name (wpAny_loadName_free I.ok.kind hk hc hcell fin hcd) hd
theorem zL{i j pos}:PE X (.Constant (.int i) j pos) (tC (.int i)):=λ_ _ _ H _ I h=>wpAny_Constant_int ⟨.int i,H,I.tok _,⟨_,rfl⟩,h⟩
theorem yz{b j pos}:PE X (.Constant (.bool b) j pos) (tC (.bl b)):=λ_ _ _ H _ I h=>Constant_bool ⟨.bl b,H,I,rfl,h⟩
def Gl (X:Cx)(x:Str):Prop:=X.env.kindOf x=some .globalImplicit
theorem zAn{E:Qs}{pins:Qp}{s:Shared}{σ:St}{H:Hp}{x:Str}{u:Value}{pos:Pos}{Q:Qs}(I:zK X pins σ H s)(hg:Gl X x)(hm:X.mg x=some u)(h:Q u s)
  (hd:(x==("__debug__" : Str))=false:=by decide):wpAny (model X.prog X.w) X.A (eval (.Name x pos) X.env) Q E s:=
 Jq I.ok.kind hg (Calls.loadGlobal_global (by rw[I.ok.glob];exact I.mod.glob.keeps I.bk) hm h) hd
theorem zAy{E:Qs}{pins:Qp}{s:Shared}{σ:St}{H:Hp}{x:Str}{u:Value}{pos:Pos}{Q:Qs}(I:zK X pins σ H s)(hg:Gl X x)(hm:X.mg x=none)(hv:bootBuiltins x=some u)(h:Q u s)
  (hn:x≠"__name__":=by decide)(hd:(x==("__debug__" : Str))=false:=by decide):wpAny (model X.prog X.w) X.A (eval (.Name x pos) X.env) Q E s:=by
 obtain⟨mb,h1,h2⟩:=I.mod.blt;exact Jq I.ok.kind hg (Calls.loadGlobal_builtin (by rw[I.ok.glob];exact I.mod.glob.keeps I.bk) hm (by rw[I.ok.blt];exact h1.keeps I.bk) ((h2 x hn).trans hv) h) hd
theorem zJS{x:Str}{v:V}{u:Value}{pos:Pos}(hg:Gl X x)(hm:X.mg x=some u)(r:zp v u)(hd:(x==("__debug__" : Str))=false:=by decide):PE X (.Name x pos) (tC v):=
 λ_ _ _ H _ I h=>zAn I hg hm ⟨v,H,I,r,h⟩ hd
variable {a b:Expr}{ta tb:TE}{pos:Pos}
def PC (X:Cx)(op:CmpOp)(a b:Expr)(t:TE):Prop:=
 ∀ (pins:Qp) (s:Shared) (σ:St) (H:Hp) (Q:VK),zK X pins σ H s->t σ H Q->
  wpAny (model X.prog X.w) X.A (eval a X.env) (λv s₁=>wpAny (model X.prog X.w) X.A (eval b X.env) (λu s₂=>wpAny (model X.prog X.w) X.A (compareOp op v u) (EP X pins σ Q) X.xe s₂) X.xe s₁) X.xe s
theorem zM7(b:Expr){op:CmpOp}(h:op≠.In)(h2:op≠.NotIn):behindInMarks op b=false:=by
 have e1:(op==CmpOp.In)=false:=by cases op <;> first|rfl|exact absurd rfl h
 have e2:(op==CmpOp.NotIn)=false:=by cases op <;> first|rfl|exact absurd rfl h2
 cases b <;> simp[behindInMarks,e1,e2]
def tB (t:TE):TT:=λσ H Q=>t σ H λx H1=>∃ c,x=.bl c/\Q c H1
theorem zH0{op:CmpOp}{t:TE}(h:PC X op a b t)(h1:behindInMarks op b=false:=by first|exact zM7 _ (by decide) (by decide)|rfl):PT X (.Compare a [op] [b] pos) (tB t):=by
 intro pins s σ H Q I hw;refine wpAny_isTrue_Compare1 (zr (h pins s σ H _ I hw) λv s1 h1=>zr h1 λu s2 h2=>zr h2 λc s3 ⟨x,H1,I1,r1,q1⟩=>?_) h1;obtain⟨d,rfl,q⟩:=q1;cases r1;exact Xm ⟨H1,I1,q⟩
theorem yY{e:Expr}{t:TE}(h:PE X e t)(he:∀ whole,isTrue e X.env whole=(do let v <-whole;standAt e.pos;holding [v] (truthy v)):=by intro _;rfl):PT X e (tB t):=by
 intro pins s σ H Q I hw;refine isTrue_plain (zr (h pins s σ H _ I hw) λv s1 ⟨x,H1,I1,r1,q1⟩=>?_) (he _);obtain⟨d,rfl,q⟩:=q1;cases r1;exact Xm ⟨H1,I1,q⟩
variable {tA tB':TT}{Zt:List Expr}
def zEF (t u:TT):TT:=λσ H Q=>t σ H λc H1=>if c=true then u σ H1 Q else Q false H1
def tOr (t u:TT):TT:=λσ H Q=>t σ H λc H1=>if c=true then Q true H1 else u σ H1 Q
def zSe (t:TT):TT:=λσ H Q=>t σ H λc H1=>Q (!c) H1
theorem zAo(ha:PT X a tA):PW X (.BoolOp .And [a] pos) tA:=by
 intro wh pins s σ H Q I h;refine isTrue_and (zr (ha pins s σ H Q I h) λc s1 e=>?_);cases c with
|true=>exact isTrue_and_nil e
|false=>exact e
theorem zBj(ha:PT X a tA):PW X (.BoolOp .Or [a] pos) tA:=by
 intro wh pins s σ H Q I h;refine isTrue_or (zr (ha pins s σ H Q I h) λc s1 e=>?_);cases c with
|false=>exact isTrue_or_nil e
|true=>exact e
theorem zBk(ha:PT X a tA)(hb:PW X (.BoolOp .And (b::Zt) pos) tB'):PW X (.BoolOp .And (a::b::Zt) pos) (zEF tA tB'):=by
 intro wh pins s σ H Q I h;refine isTrue_and (zr (ha pins s σ H _ I h) λc s1 ⟨H1,I1,q1⟩=>?_);cases c with
|true=>exact hb wh pins s1 σ H1 Q I1 q1
|false=>exact⟨H1,I1,q1⟩
theorem zCm(ha:PT X a tA)(hb:PW X (.BoolOp .Or (b::Zt) pos) tB'):PW X (.BoolOp .Or (a::b::Zt) pos) (tOr tA tB'):=by
 intro wh pins s σ H Q I h;refine isTrue_or (zr (ha pins s σ H _ I h) λc s1 ⟨H1,I1,q1⟩=>?_);cases c with
|true=>exact⟨H1,I1,q1⟩
|false=>exact hb wh pins s1 σ H1 Q I1 q1
theorem Zq(ha:PT X a tA):PT X (.UnaryOp .Not a pos) (zSe tA):=by
 intro pins s σ H Q I h;exact isTrue_not (ha pins s σ H (λc H1=>Q (!c) H1) I h)
def zB7 (ta tb:TE):TE:=λσ H Q=>ta σ H λx H1=>∃ c,x=.bl c/\if c=true then tb σ H1 Q else Q (.bl false) H1
def zM8 (ta tb:TE):TE:=λσ H Q=>ta σ H λx H1=>∃ c,x=.bl c/\if c=true then Q (.bl true) H1 else tb σ H1 Q
def zRw (ta:TE):TE:=λσ H Q=>ta σ H λx H1=>∃ c,x=.bl c/\Q (.bl (!c)) H1
theorem zAT{op}{t:TE}(h:PE X a t):PE X (.BoolOp op [a] pos) t:=λpins s σ H Q I hw=>BoolOp_one (h pins s σ H Q I hw)
theorem zAA(ha:PE X a ta)(hb:PE X (.BoolOp .And (b::Zt) pos) tb):PE X (.BoolOp .And (a::b::Zt) pos) (zB7 ta tb):=by
 intro pins s σ H Q I h;refine BoolOp_and (zr (ha pins s σ H _ I h) λv s1 ⟨x,H1,I1,r1,q1⟩=>?_);obtain⟨c,rfl,q1⟩:=q1;cases r1;refine Xm ?_;cases c with
|true=>exact hb pins s1 σ H1 Q I1 q1
|false=>exact⟨.bl false,H1,I1,rfl,q1⟩
theorem zRx(ha:PE X a ta)(hb:PE X (.BoolOp .Or (b::Zt) pos) tb):PE X (.BoolOp .Or (a::b::Zt) pos) (zM8 ta tb):=by
 intro pins s σ H Q I h;refine BoolOp_or (zr (ha pins s σ H _ I h) λv s1 ⟨x,H1,I1,r1,q1⟩=>?_);obtain⟨c,rfl,q1⟩:=q1;cases r1;refine Xm ?_;cases c with
|false=>exact hb pins s1 σ H1 Q I1 q1
|true=>exact⟨.bl true,H1,I1,rfl,q1⟩
theorem zQU(ha:PE X a ta):PE X (.UnaryOp .Not a pos) (zRw ta):=by
 intro pins s σ H Q I h;refine UnaryOp_ (zr (ha pins s σ H _ I h) λv s1 ⟨x,H1,I1,r1,q1⟩=>?_);obtain⟨c,rfl,q1⟩:=q1;cases r1;exact not_of (Xm ⟨.bl (!c),H1,I1,rfl,q1⟩)
def tIf (t:TT)(ta tb:TE):TE:=λσ H Q=>t σ H λc H1=>if c=true then ta σ H1 Q else tb σ H1 Q
theorem zM9{c:Expr}(hc:PT X c tA)(ha:PE X a ta)(hb:PE X b tb):PE X (.IfExp c a b pos) (tIf tA ta tb):=by
 intro pins s σ H Q I h;refine wpAny_IfExp (zr (hc pins s σ H _ I h) λd s1 ⟨H1,I1,q1⟩=>?_);cases d with
|true=>exact ha pins s1 σ H1 Q I1 q1
|false=>exact hb pins s1 σ H1 Q I1 q1
end
def zN (K:Qf)(H:Hp)(a:Addr)(xs:List V):Prop:=
 Rd H a (.lst xs)\/
  ∃ (o:Obj) (its:Array Value) (n:Nat),K.lookup a=some o/\o.cls=.type "list"/\o.dict=none/\o.data=.seq its n/\its.size<=sizeLine/\zY xs its.toList
def yJ (K:Qf)(H:Hp)(a:Addr)(xs:List V):Prop:=
 Rd H a (.tup xs)\/
  ∃ (o:Obj) (its:Array Value) (n:Nat),K.lookup a=some o/\o.cls=.type "tuple"/\o.data=.seq its n/\its.size<=sizeLine/\zY xs its.toList
def zSf:Value->Option V
|.none=>some .non
|.bool b=>some (.bl b)
|.int i _=>some (.int i)
|.str x _=>some (.str x)
|.bytes b _=>some (.byt b)
|.float b _=>some (.flt b)
|.ref a=>some (.ref a)
|.type n=>some (.ty n)
|_=>none
theorem zp.abs{x:V}{u:Value}(r:zp x u):zSf u=some x:=by
 cases x with
|non=>cases r;rfl
|bl _=>cases r;rfl
|int _=>obtain⟨t,rfl⟩:=r;rfl
|str _=>obtain⟨t,rfl⟩:=r;rfl
|byt _=>obtain⟨t,rfl⟩:=r;rfl
|flt _=>obtain⟨t,rfl⟩:=r;rfl
|ref _=>cases r;rfl
|ty _=>cases r;rfl
theorem zp.inj{x y:V}{u:Value}(r:zp x u)(q:zp y u):x=y:=Wu (r.abs.symm.trans q.abs)
theorem zY.inj:∀ {xs ys:List V}{us:List Value},zY xs us->zY ys us->xs=ys
|_,_,_,.nil,.nil=>rfl
|_,_,_,.cons r t,.cons r' t'=>by rw[r.inj r',zY.inj t t']
section
variable {X:Cx}{pins:Qp}{σ:St}{H:Hp}{s:Shared}{a:Addr}{xs ys:List V}
theorem zN.of{K:Qf}(h:H a=some (.lst xs)):zN K H a xs:=.inl (.inl h)
theorem yJ.of{K:Qf}(h:H a=some (.tup xs)):yJ K H a xs:=.inl (.inl h)
theorem zK.list(I:zK X pins σ H s)(h:zN X.K H a xs):∃ its:List Value,zY xs its/\PlainL s.heap a its.toArray/\xs.length<=sizeLine:=by
 rcases h with h|⟨o,its,n,hk,hc,hd,hs,hz,r⟩
 .obtain⟨z,its,n,r,e⟩:=h.ok I.hok;exact⟨its,r,⟨_,n,e,rfl,rfl,rfl⟩,z⟩
 .refine⟨its.toList,r,⟨o,n,I.kIn a o hk,hc,hd,by simpa using hs⟩,?_⟩;have e:=r.length;simp only[Vo] at e
  lia
theorem zK.tuple(I:zK X pins σ H s)(h:yJ X.K H a xs):∃ its:List Value,zY xs its/\IsTup s.heap a its.toArray/\xs.length<=sizeLine:=by
 rcases h with h|⟨o,its,n,hk,hc,hs,hz,r⟩
 .obtain⟨z,its,r,p⟩:=h.ok I.hok;exact⟨its,r,p,z⟩
 .refine⟨its.toList,r,⟨o,I.kIn a o hk,hc,n,by simpa using hs⟩,?_⟩;have e:=r.length;simp only[Vo] at e
  lia
theorem zK.list_inj(I:zK X pins σ H s)(h:zN X.K H a xs)(h':zN X.K H a ys):xs=ys:=by
 obtain⟨its,r,⟨o,n,e,_,_,d⟩,_⟩:=I.list h;obtain⟨its',r',⟨o',n',e',_,_,d'⟩,_⟩:=I.list h';rw[e] at e';cases e';rw[d] at d';injection d' with d1 _
 have:its=its':=by simpa using W1 Array.toList d1
 subst this;exact r.inj r'
theorem zK.tuple_inj(I:zK X pins σ H s)(h:yJ X.K H a xs)(h':yJ X.K H a ys):xs=ys:=by
 obtain⟨its,r,⟨o,e,_,n,d⟩,_⟩:=I.tuple h;obtain⟨its',r',⟨o',e',_,n',d'⟩,_⟩:=I.tuple h';rw[e] at e';cases e';rw[d] at d';injection d' with d1 _
 have:its=its':=by simpa using W1 Array.toList d1
 subst this;exact r.inj r'
end
abbrev Cx.wish(X:Cx)(E:Qs):Cx:={X with xe:=E}
abbrev Cx.nox(X:Cx):Cx:=X.wish λ_ _=>False
theorem Cx.Ok.wish{X:Cx}(ok:X.Ok)(E:Qs):(X.wish E).Ok:=
 ⟨ok.mod,ok.kind,ok.glob,ok.blt,ok.above,ok.inj,ok.has,ok.cab,ok.hd,ok.frames,ok.stk,ok.exf,ok.bs,ok.bsz,ok.noex,ok.exfs,ok.funs,ok.frf⟩
theorem Cx.Ok.unwish{X:Cx}{E:Qs}(ok:(X.wish E).Ok):X.Ok:=
 ⟨ok.mod,ok.kind,ok.glob,ok.blt,ok.above,ok.inj,ok.has,ok.cab,ok.hd,ok.frames,ok.stk,ok.exf,ok.bs,ok.bsz,ok.noex,ok.exfs,ok.funs,ok.frf⟩
section
variable {X:Cx}{pins:Qp}{σ:St}{H:Hp}{s:Shared}{E:Qs}
theorem zK.wish(I:zK X pins σ H s)(E:Qs):zK (X.wish E) pins σ H s:=⟨I.ok.wish E,I.os,I.bare,I.base,I.loc,I.cell,I.free,I.freeC,I.pin,I.hok,I.len⟩
theorem zK.unwish(I:zK (X.wish E) pins σ H s):zK X pins σ H s:=⟨I.ok.unwish,I.os,I.bare,I.base,I.loc,I.cell,I.free,I.freeC,I.pin,I.hok,I.len⟩
theorem SP.unwish{D:Y0}{f:Flow}{s':Shared}(h:SP (X.wish E) pins D f s'):SP X pins D f s':=by
 cases f with
|next=>obtain⟨σ',H',I,q⟩:=h;exact⟨σ',H',I.unwish,q⟩
|brk=>obtain⟨σ',H',I,q⟩:=h;exact⟨σ',H',I.unwish,q⟩
|cont=>obtain⟨σ',H',I,q⟩:=h;exact⟨σ',H',I.unwish,q⟩
|ret u=>obtain⟨v,σ',H',I,r,q⟩:=h;exact⟨v,σ',H',I.unwish,r,q⟩
theorem PSs.nox{st:List Stmt}{t:TS}(h:PSs X.nox st t):PSs X st t:=λpins s σ H D I hw=>
 W9 (h pins s σ H D (I.wish _) hw) (λ_ _ q=>q.unwish) λ_ _ z=>False.elim z
end
section
variable {X:Cx}{st:Stmt}{Zt:List Stmt}{t u:TS}{e:Expr}{te:TE}{pos:Pos}
def Zj:TS:=λD σ H=>D.nx σ H
def Yo (t u:TS):TS:=λD σ H=>t {D with nx:=u D} σ H
theorem zc:PSs X [] Zj:=λ_ _ σ H _ I h=>X7 ⟨σ,H,I,h⟩
theorem zF(h1:PS X st t)(h2:PSs X Zt u):PSs X (st::Zt) (Yo t u):=by
 intro pins s σ H D I h;refine wpAny_execs_cons (zr (h1 pins s σ H {D with nx:=u D} I h) λf s1 q=>?_);cases f with
|next=>
  obtain⟨σ',H',I',q⟩:=q;exact h2 pins s1 σ' H' D I' q
|ret v=>exact q
|brk=>exact q
|cont=>exact q
theorem zG(h1:PS X st t):PSs X [st] t:=by
 intro pins s σ H D I h;refine wpAny_execs_cons (zr (h1 pins s σ H D I h) λf s1 q=>?_);cases f with
|next=>exact X7 q
|ret v=>exact q
|brk=>exact q
|cont=>exact q
def zRy:TS:=λD σ H=>D.ct σ H
theorem zFN:PS X (.Continue pos) zRy:=λ_ _ σ H _ I h=>wpAny_Continue ⟨σ,H,I,h⟩
theorem zK.quiet{pins:Qp}{σ:St}{H:Hp}{s:Shared}(I:zK X pins σ H s):interactive X.env=false:=by simp[interactive,I.ok.kind]
def zRz (te:TE):TS:=λD σ H=>te σ H λ_ H1=>D.nx σ H1
theorem yK(he:PE X e te)(hs:swapsWith e none pos.line X.env=pure false:=by rfl):PS X (.Expr e pos) (zRz te):=by
 intro pins s σ H D I h;exact wpAny_Expr_any (zr (he pins s σ H _ I h) λv s1 ⟨x,H1,I1,r1,q1⟩=>⟨σ,H1,I1,q1⟩) I.quiet hs
def Y1 (te:TE):TS:=λD σ H=>te σ H D.rt
theorem zS(he:PE X e te):PS X (.Return (some e) pos) (Y1 te):=by
 intro pins s σ H D I h;exact wpAny_Return_some (zr (he pins s σ H _ I h) λv s1 ⟨x,H1,I1,r1,q1⟩=>⟨x,σ,H1,I1,r1,q1⟩)
def YZ (c:TT)(t u:TS):TS:=λD σ H=>c σ H λb H1=>if b=true then t D σ H1 else u D σ H1
theorem zu{c:Expr}{a b:List Stmt}{tc:TT}(hc:PT X c tc)(ha:PSs X a t)(hb:PSs X b u):PS X (.If c a b pos) (YZ tc t u):=by
 intro pins s σ H D I h;refine wpAny_If (zr (hc pins s σ H _ I h) λd s1 ⟨H1,I1,q1⟩=>?_);cases d with
|true=>exact ha pins s1 σ H1 D I1 q1
|false=>exact hb pins s1 σ H1 D I1 q1
end
abbrev TG:=V->St->Hp->(St->Hp->Prop)->Prop
abbrev TGs:=List V->St->Hp->(St->Hp->Prop)->Prop
def PG (X:Cx)(target:Expr)(t:TG):Prop:=
 ∀ (pins:Qp) (s:Shared) (σ:St) (H:Hp) (v:V) (u:Value) (Q:St->Hp->Prop),zK X pins σ H s->zp v u->t v σ H Q->
  wpAny (model X.prog X.w) X.A (assign target X.env u) (λ_ s'=>∃ σ' H',zK X pins σ' H' s'/\Q σ' H') X.xe s
def PGs (X:Cx)(ts:List Expr)(t:TGs):Prop:=
 ∀ (pins:Qp) (s:Shared) (σ:St) (H:Hp) (vs:List V) (us:List Value) (Q:St->Hp->Prop),zK X pins σ H s->zY vs us->t vs σ H Q->
  wpAny (model X.prog X.w) X.A (assignInOrder ((assignEach ts X.env).map (·.2)) us) (λ_ s'=>∃ σ' H',zK X pins σ' H' s'/\Q σ' H') X.xe s
abbrev zNA:=V->V->V->Hp->(Hp->Prop)->Prop
def zQV (X:Cx)(t:zNA):Prop:=
 ∀ (pins:Qp) (s:Shared) (σ:St) (H:Hp) (o i v:V) (ov iv u:Value) (Q:Hp->Prop),zK X pins σ H s->zp o ov->zp i iv->zp v u->t o i v H Q->
  wpAny (model X.prog X.w) X.A (setItem ov iv u) (λ_ s'=>∃ H',zK X pins σ H' s'/\Q H') X.xe s
section
variable {X:Cx}{pos:Pos}
def Zc (i:Nat):TG:=λv σ H Q=>Q (σ.set i (some v)) H
theorem zT{i:Nat}{x:Str}(hN:X.N.Nodup)(hi:X.N[i]?=some x)(hx:Loc X.env.scope x)(hf:X.fn x=true\/X.env.scope.names.lookup x=some .local:=by first|exact .inl rfl|exact .inr rfl|assumption):PG X (.Name x pos) (Zc i):=by
 intro pins s σ H v u Q I r h;exact wpAny_assign_Name (zHz I hN hi hx r (λs' I'=>⟨_,H,I',h⟩) hf)
def zSg:TGs:=λvs σ H Q=>vs=[]/\Q σ H
def zR0 (t:TG)(u:TGs):TGs:=λvs σ H Q=>∃ v r,vs=v::r/\t v σ H λσ' H'=>u r σ' H' Q
theorem ZV:PGs X [] zSg:=by
 intro pins s σ H vs us Q I r h;obtain⟨e,h⟩:=h;subst e;cases r;exact assignInOrder_nil ⟨σ,H,I,h⟩
theorem zt{e:Expr}{es:List Expr}{t:TG}{u:TGs}(h1:PG X e t)(h2:PGs X es u)
  (hs:(assignEach (e::es) X.env).map (·.2)=assign e X.env::(assignEach es X.env).map (·.2):=by rfl):PGs X (e::es) (zR0 t u):=by
 intro pins s σ H vs us Q I r h;obtain⟨v,vr,e1,h⟩:=h;subst e1;cases r with
|cons r rr=>
  rw[hs];refine assignInOrder_cons (zr (h1 pins s σ H _ _ _ I r h) λ_ s1 ⟨σ1,H1,I1,q1⟩=>?_);exact h2 pins s1 σ1 H1 _ _ Q I1 rr q1
def zQW (K:Qf)(n:Nat)(t:TGs):TG:=λv σ H Q=>∃ a xs,v=.ref a/\yJ K H a xs/\xs.length=n/\t xs σ H Q
theorem Z1{es:List Expr}{k:Nat}{t:TGs}{n:Nat}(hc:X.calm=true)(h:PGs X es t)
  (hn:(assignEach es X.env).length=n:=by rfl)(hst:(assignEach es X.env).findIdx? (·.1)=none:=by rfl):PG X (.Tuple es k pos) (zQW X.K n t):=by
 intro pins s σ H v u Q I r hw;obtain⟨a,xs,e1,hq,hl,hw⟩:=hw;subst e1;cases r;obtain⟨its,rv,ht,hz⟩:=I.tuple hq;refine assign_Tuple_tuple (I.ok.hd hc) ht (by simp[hn,<-hl,rv.length]) hst λh' hx=>?_
 have I1:zK X pins σ H {s with heap:=h'}:=I.kept (t':=s.toks) λb o e=>hx b o (Wx (Wj e)) e
 exact h pins _ σ H xs _ Q I1 (by simpa using rv) hw
def zSh (to ti:TE)(t:zNA):TG:=λv σ H Q=>to σ H λo H1=>ti σ H1 λi H2=>t o i v H2 λH3=>Q σ H3
theorem zLn{o i:Expr}{to ti:TE}{t:zNA}(ho:PE X o to)(hi:PE X i ti)(hs:zQV X t)
  (ha:∀ v,assign (.Subscript o i pos) X.env v=(do
   let ov <-holding [v] (eval o X.env)
   let iv <-holding [v,ov] (eval i X.env)
   standAt pos
   holding [v,ov,iv] (setItem ov iv v)
   release [v,ov,iv] []):=by intro _;rfl):PG X (.Subscript o i pos) (zSh to ti t):=by
 intro pins s σ H v u Q I r h;rw[ha];refine Wh (Xw (zr (ho pins s σ H _ I h) λov s1 ⟨x,H1,I1,r1,q1⟩=>?_));refine Wh (Xw (zr (hi pins s1 σ H1 _ I1 q1) λiv s2 ⟨y,H2,I2,r2,q2⟩=>?_));refine Wh (XT (Wh (Xw (zr (hs pins s2 σ H2 x y v ov iv u _ I2 r1 r2 r q2) λ_ s3 ⟨H3,I3,q3⟩=>?_))));exact wpAny_release ⟨σ,H3,I3,q3⟩
def Ya (te:TE)(g:TG):TS:=λD σ H=>te σ H λx H1=>g x σ H1 D.nx
theorem zLo{tg e:Expr}{te:TE}{g:TG}(he:PE X e te)(hg:PG X tg g)(hs:swapsWithSole [tg] e pos.line X.env=pure false:=by rfl)(hw:swappedStores [tg] e X.env=pure none:=by rfl)
  (h1:(assignEach [tg] X.env).map (·.2)=[assign tg X.env]:=by rfl):PS X (.Assign [tg] e pos) (Ya te g):=by
 intro pins s σ H D I h;refine wpAny_Assign_stores (zr (he pins s σ H _ I h) λv s1 ⟨x,H1,I1,r1,q1⟩=>?_) hs hw;rw[h1];exact zr (hg pins s1 σ H1 x v _ I1 r1 q1) λ_ s2 q=>q
theorem za{i:Nat}{x:Str}{e:Expr}{te:TE}{pos':Pos}(hN:X.N.Nodup)(hi:X.N[i]?=some x)(hx:Loc X.env.scope x)(he:PE X e te)(hs:swapsWith e (some (.Name x pos')) pos.line X.env=pure false:=by rfl)(hf:X.fn x=true\/X.env.scope.names.lookup x=some .local:=by first|exact .inl rfl|exact .inr rfl|assumption) :
  PS X (.Assign [.Name x pos'] e pos) (Ya te (Zc i)):=by
 intro pins s σ H D I h;refine wpAny_Assign_Name (zr (he pins s σ H _ I h) λv s1 ⟨y,H1,I1,r1,q1⟩=>?_) hs;exact zHz I1 hN hi hx r1 (λs2 I2=>⟨_,H1,I2,q1⟩) hf
def zQX (c:TT)(tb:TS):TS:=λD σ H=>∃ W:Nat->St->Hp->Prop,(∃ m,W m σ H)/\∀ m σ H,W m σ H->
 c σ H λb H1=>if b=true then ∃ N:St->Hp->Prop,(∀ σ' H',N σ' H'->∃ m',m'<m/\W m' σ' H')/\tb {D with nx:=N,ct:=N,bk:=D.nx} σ H1 else D.nx σ H1
theorem zDh{c:Expr}{body:List Stmt}{tc:TT}{tb:TS}(hp:PassesOwn (model X.prog X.w) X.A X.env X.xe)(hc:PT X c tc)(hb:PSs X body tb):PS X (.While c body [] pos) (zQX tc tb):=by
 intro pins s σ H D I h;obtain⟨W,⟨m0,w0⟩,turn⟩:=h;refine wpAny_While (codeAny_whileLoop (λn s'=>∃ σ' H',zK X pins σ' H' s'/\W n σ' H') ?_ m0 ⟨σ,H,I,w0⟩);rintro n s1 ⟨σ1,H1,I1,w1⟩;refine Xe hp (zr (hc pins s1 σ1 H1 _ I1 (turn n σ1 H1 w1)) λb s2 ⟨H2,I2,q2⟩=>?_);cases b with
|true=>
  obtain⟨N,hN,q2⟩:=q2;rw[Wc rfl];refine Xe hp (zr (hb pins s2 σ1 H2 _ I2 q2) λf s3 q3=>?_);cases f with
 |next=>
   obtain⟨σ3,H3,I3,n3⟩:=q3;obtain⟨m',hm,w3⟩:=hN σ3 H3 n3;exact⟨m',hm,σ3,H3,I3,w3⟩
 |cont=>
   obtain⟨σ3,H3,I3,n3⟩:=q3;obtain⟨m',hm,w3⟩:=hN σ3 H3 n3;exact⟨m',hm,σ3,H3,I3,w3⟩
 |brk=>exact q3
 |ret v=>exact q3
|false=>
  rw[Wb Wr];exact X7 ⟨σ1,H2,I2,q2⟩
end
structure It where
 go:Nat->Hp->Prop
 yld:Nat->Hp->V->Hp->Prop
 stop:Nat->Hp->Prop
def zAN (X:Cx)(pins:Qp)(H:Hp)(b:Addr):Prop:=
 H b=none/\b≠X.env.locals/\b∉X.fs/\(b∈X.ex\/X.s_0.heap.objs.size<=b)/\(∀ x c,X.env.cells.lookup x=some c->c≠b)/\∀ p∈X.pn++pins,p.1≠b
theorem zK.fpOk{X:Cx}{pins:Qp}{σ:St}{H H':Hp}{s:Shared}{b:Addr}(I:zK X pins σ H s)(hb:s.heap.objs.size<=b)(hn:H' b=none):zAN X pins H' b:=by
 refine⟨hn,U0 (yR I.lt hb),I.nofs hb,.inr (WT I.sz hb),λx c e z=>?_,λp hp z=>?_⟩
 .obtain⟨v,q⟩:=I.cell x c e;exact absurd (yR q.lt (by rw[z];exact hb)) (VB _)
 .exact absurd (yR (Wj (I.pin p hp).1) (by rw[z];exact hb)) (VB _)
structure zEG(P:Program)(w:World)(K:Qf)(tg:Expr)(J:It)(fp:List Addr)(it:Addr)(tn:Nat->Heap->Prop):Prop where
 mem:it∈fp
 obj:∀ i h,tn i h->∀ b∈fp,∃ o,h.get? b=some o/\∀ v,o.data≠.cell v
 keep:∀ i h h',tn i h->(∀ b∈fp,∀ o,h.get? b=some o->h'.get? b=some o)->tn i h'
 item:∀ (X:Cx),X.prog=P->X.w=w->X.K=K->X.calm=true->∀ (i:Nat) (pins:Qp) (s:Shared) (σ:St) (H:Hp) (E:Qs),zK X pins σ H s->(∀ b∈fp,zAN X pins H b)->tn i s.heap->J.go i H->
  wpAny (model P w) X.A (pyNext (.ref it)) (λr s1=>∃ u,r=some u/\
   wpAny (model P w) X.A (letOwnedTupleGo tg (.ref it) u) (λ_ s2=>∃ x H',zK X pins σ H' s2/\zp x u/\J.yld i H x H'/\tn (i+1) s2.heap/\∀ b∈fp,H' b=none) E s1) E s
 done:∀ (X:Cx),X.prog=P->X.w=w->X.K=K->X.calm=true->∀ (i:Nat) (pins:Qp) (s:Shared) (σ:St) (H:Hp) (E:Qs),zK X pins σ H s->(∀ b∈fp,zAN X pins H b)->tn i s.heap->J.stop i H->
  wpAny (model P w) X.A (pyNext (.ref it)) (λr s1=>r=none/\zK X pins σ H s1) E s
 self:∀ (A:Around) (i:Nat) (s:Shared) (Q:Qs) (E:Qs),tn i s.heap->Q (.ref it) s->wpAny (model P w) A (pyIter (.ref it)) Q E s
abbrev TI:=St->Hp->(It->Hp->Prop)->Prop
def PIE (X:Cx)(pins:Qp)(σ:St)(tg:Expr)(R:It->Hp->Prop)(itv:Value)(s2:Shared):Prop:=
 ∃ (it:Addr) (fp:List Addr) (tn:Nat->Heap->Prop) (J:It) (H':Hp),itv=.ref it/\zK X pins σ H' s2/\zEG X.prog X.w X.K tg J fp it tn/\tn 0 s2.heap/\(∀ b∈fp,zAN X pins H' b)/\R J H'
def PI (X:Cx)(tg iter:Expr)(wi:TI):Prop:=
 ∀ (pins:Qp) (s:Shared) (σ:St) (H:Hp) (R:It->Hp->Prop),zK X pins σ H s->wi σ H R->
  wpAny (model X.prog X.w) X.A (eval iter X.env) (λv s1=>wpAny (model X.prog X.w) X.A (pyIter v) (PIE X pins σ tg R) X.xe s1) X.xe s
theorem zFv{M:Model}{A:Around}{E:Qs}{s:Shared}{tg:Expr}{it:Addr}{u:Value}{o:Obj}{n:String}{vs:Array Value}{Q:Unit->Shared->Prop}(ho:s.heap.get? it=some o)(hc:o.cls=.type n)(hd:o.data=.fields vs)
    (hn:["enumerate","zip","dict_itemiterator","dict_reverseitemiterator","odict_iterator","itertools.zip_longest","itertools.pairwise"].contains n=false)(hQ:Q () s):wpAny M A (letOwnedTupleGo tg (.ref it) u) Q E s:=by
  unfold letOwnedTupleGo
  cases tg <;> first
   |exact WI hQ
   |(cases u <;> first
     |exact WI hQ
     |(refine Wh (wpAny_load ho ?_)
       rw[hc,hd];show wpAny M A (if (["enumerate","zip","dict_itemiterator","dict_reverseitemiterator","odict_iterator","itertools.zip_longest","itertools.pairwise"].contains n&&vs[0]?==some (rawInt _))=true then _ else _) Q E s;rw[Wb (by intro h;rw[hn,V9] at h;cases h)];exact WI hQ))
def Itl (K:Qf)(a:Addr):It:=
 ⟨λi H=>∃ xs x,zN K H a xs/\xs[i]?=some x,λi H x H'=>H'=H/\∀ xs,zN K H a xs->xs[i]?=some x,λi H=>∃ xs,zN K H a xs/\xs.length<=i⟩
def Itt (K:Qf)(a:Addr):It:=
 ⟨λi H=>∃ xs x,yJ K H a xs/\xs[i]?=some x,λi H x H'=>H'=H/\∀ xs,yJ K H a xs->xs[i]?=some x,λi H=>∃ xs,yJ K H a xs/\xs.length<=i⟩
def Itr (lo:Int)(n:Nat):It:=⟨λi _=>i<n,λi H x H'=>H'=H/\x=.int (lo+i),λi _=>n<=i⟩
theorem zLp{P:Program}{w:World}{K:Qf}{tg:Expr}(a it:Addr):zEG P w K tg (Itl K a) [it] it (λi h=>h.IsListIter it a i) where
 mem:=by simp
 obj:=λi h st b hb=>by
  have e:b=it:=by simpa using hb
  subst e;obtain⟨o,e,c,d⟩:=st;exact⟨o,e,λv z=>by rw[d] at z;cases z⟩
 keep:=λi h h' st k=>st.at λo e=>k it (by simp) o e
 item:=by
  intro X hP hw hK hc i pins s σ H E I hf st hg;subst hP hw hK;obtain⟨xs,x,hq,hx⟩:=hg;obtain⟨its,rv,p,hz⟩:=I.list hq;obtain⟨u,hu,ru⟩:=rv.get hx;obtain⟨f0,f1,f2,f3,f4,f5⟩:=hf it (by simp);refine wpAny_pyNext_list_item st p.isList (x:=u) (by simpa using hu) λh' st' sb=>?_
  have I1:zK X pins σ H {s with heap:=h'}:=I.turned (t':=s.toks) (λb o hb e=>(sb.2 b hb).trans e) f0 f1 f3 f4 f5;obtain⟨o,e,c,d⟩:=id st';exact⟨u,rfl,zFv (s:={s with heap:=h'}) e c d (by decide) ⟨x,H,I1,ru,⟨rfl,λys hy=>by rw[I.list_inj hy hq];exact hx⟩,st',λb hb=>(hf b hb).1⟩⟩
 done:=by
  intro X hP hw hK hc i pins s σ H E I hf st hg;subst hP hw hK;obtain⟨xs,hq,hx⟩:=hg;obtain⟨its,rv,p,hz⟩:=I.list hq;obtain⟨f0,f1,f2,f3,f4,f5⟩:=hf it (by simp);have hl:=rv.length;exact wpAny_pyNext_list_end (I.ok.hd hc) st p.isList (by simp;lia) λh' eb=>⟨rfl,I.turned (t':=s.toks) (λb o hb e=>eb b o hb e) f0 f1 f3 f4 f5⟩
 self:=λ_ _ _ _ _ st h=>wpAny_pyIter_listiter st h
theorem zKT{P:Program}{w:World}{K:Qf}{tg:Expr}(a it:Addr):zEG P w K tg (Itt K a) [it] it (λi h=>h.IsTupleIter it a i) where
 mem:=by simp
 obj:=λi h st b hb=>by
  have e:b=it:=by simpa using hb
  subst e;obtain⟨o,e,c,d⟩:=st;exact⟨o,e,λv z=>by rw[d] at z;cases z⟩
 keep:=λi h h' st k=>st.at λo e=>k it (by simp) o e
 item:=by
  intro X hP hw hK hc i pins s σ H E I hf st hg;subst hP hw hK;obtain⟨xs,x,hq,hx⟩:=hg;obtain⟨its,rv,p,hz⟩:=I.tuple hq;obtain⟨u,hu,ru⟩:=rv.get hx;obtain⟨f0,f1,f2,f3,f4,f5⟩:=hf it (by simp);refine wpAny_pyNext_tuple_item st (show s.heap.IsTuple a its.toArray from p) (x:=u) (by simpa using hu) λh' st' sb=>?_
  have I1:zK X pins σ H {s with heap:=h'}:=I.turned (t':=s.toks) (λb o hb e=>(sb.2 b hb).trans e) f0 f1 f3 f4 f5;obtain⟨o,e,c,d⟩:=id st';exact⟨u,rfl,zFv (s:={s with heap:=h'}) e c d (by decide) ⟨x,H,I1,ru,⟨rfl,λys hy=>by rw[I.tuple_inj hy hq];exact hx⟩,st',λb hb=>(hf b hb).1⟩⟩
 done:=by
  intro X hP hw hK hc i pins s σ H E I hf st hg;subst hP hw hK;obtain⟨xs,hq,hx⟩:=hg;obtain⟨its,rv,p,hz⟩:=I.tuple hq;obtain⟨f0,f1,f2,f3,f4,f5⟩:=hf it (by simp);have hl:=rv.length;exact wpAny_pyNext_tuple_end (I.ok.hd hc) st (show s.heap.IsTuple a its.toArray from p) (by simp;lia) λh' eb=>⟨rfl,I.turned (t':=s.toks) (λb o hb e=>eb b o hb e) f0 f1 f3 f4 f5⟩
 self:=λ_ _ _ _ _ st h=>wpAny_pyIter_tupleiter st h
theorem zKU{P:Program}{w:World}{K:Qf}{tg:Expr}(it:Addr)(lo:Int)(n:Nat):zEG P w K tg (Itr lo n) [it] it (λi h=>IsRangeIter h it (lo+(i:Nat)*1) ((n:Int)-(i:Nat)) 1) where
 mem:=by simp
 obj:=λi h st b hb=>by
  have e:b=it:=by simpa using hb
  subst e
  exact⟨_,st,λv z=>by
   have z':Data.fields _=Data.cell v:=z;cases z'⟩
 keep:=λi h h' st k=>k it (by simp) _ st
 item:=by
  intro X hP hw hK hc i pins s σ H E I hf st hg;subst hP hw hK;obtain⟨f0,f1,f2,f3,f4,f5⟩:=hf it (by simp);have W:=Walks.range (prog:=X.prog) (w:=X.w) (I.ok.hd hc) it lo 1 n;refine W.item i s _ _ hg st λv h' tk hv st' kk=>?_
  obtain⟨t,rfl⟩:=hv;have I1:zK X pins σ H {s with heap:=h',toks:=tk}:=I.turned (λb o hb e=>kk b o (by simpa using hb) e) f0 f1 f3 f4 f5;refine⟨_,rfl,zFv (s:={s with heap:=h',toks:=tk}) (n:="range_iterator") st' rfl rfl (by decide) ⟨.int (lo+i),H,I1,⟨t,?_⟩,⟨rfl,rfl⟩,st',λb hb=>(hf b hb).1⟩⟩;rw[Int.mul_one]
 done:=by
  intro X hP hw hK hc i pins s σ H E I hf st hg;subst hP hw hK;obtain⟨f0,f1,f2,f3,f4,f5⟩:=hf it (by simp);exact wpAny_pyNext_range_end (I.ok.hd hc) st (by have:n<=i:=hg;lia) λh' eb=>⟨rfl,I.turned (t':=s.toks) (λb o hb e=>eb b o hb e) f0 f1 f3 f4 f5⟩
 self:=λ_ _ _ _ _ st h=>wpAny_pyIter_rangeiter st h
section
variable {X:Cx}{tg:Expr}
def zR1 (K:Qf)(tl:TE):TI:=λσ H R=>tl σ H λx H1=>∃ a,x=.ref a/\(∃ xs,zN K H1 a xs)/\R (Itl K a) H1
def zSi (K:Qf)(tl:TE):TI:=λσ H R=>tl σ H λx H1=>∃ a,x=.ref a/\(∃ xs,yJ K H1 a xs)/\R (Itt K a) H1
theorem yt{l:Expr}{tl:TE}(hl:PE X l tl):PI X tg l (zR1 X.K tl):=by
 intro pins s σ H R I h;refine zr (hl pins s σ H _ I h) λv s1 ⟨x,H1,I1,r1,q1⟩=>?_
 obtain⟨a,e,⟨xs,hq⟩,q⟩:=q1;subst e;cases r1;obtain⟨its,rv,p,hz⟩:=I1.list hq;refine wpAny_pyIter_list p.isList ?_;refine⟨s1.heap.objs.size,[s1.heap.objs.size],_,_,H1,rfl,I1.kept (t':=s1.toks) λb o e=>Wf _ e,zLp a _,⟨_,Wz _ rfl,rfl,rfl⟩,λb hb=>?_,q⟩;have e:b=s1.heap.objs.size:=by simpa using hb
 subst e;exact I1.fpOk (We _) (I1.hok.fresh (We _))
theorem zH1{l:Expr}{tl:TE}(hl:PE X l tl):PI X tg l (zSi X.K tl):=by
 intro pins s σ H R I h;refine zr (hl pins s σ H _ I h) λv s1 ⟨x,H1,I1,r1,q1⟩=>?_
 obtain⟨a,e,⟨xs,hq⟩,q⟩:=q1;subst e;cases r1;obtain⟨its,rv,p,hz⟩:=I1.tuple hq;refine wpAny_pyIter_tuple (show s1.heap.IsTuple a its.toArray from p) ?_;refine⟨s1.heap.objs.size,[s1.heap.objs.size],_,_,H1,rfl,I1.kept (t':=s1.toks) λb o e=>Wf _ e,zKT a _,⟨_,Wz _ rfl,rfl,rfl⟩,λb hb=>?_,q⟩;have e:b=s1.heap.objs.size:=by simpa using hb
 subst e;exact I1.fpOk (We _) (I1.hok.fresh (We _))
theorem zH2{pins:Qp}{σ:St}{H:Hp}{s:Shared}{R:It->Hp->Prop}{E:Qs}{lo hi:Int}{t u v:Tok}{tk:Nat}(I:zK X pins σ H s)(h1 : -(2^62)<=lo)(h2:lo<2^62)(h3 : -(2^62)<=hi)(h4:hi<2^62)
  (q:R (Itr lo (hi-lo).toNat) H):wpAny (model X.prog X.w) X.A (pyIter (.ref s.heap.objs.size)) (PIE X pins σ tg R) E {s with heap:=s.heap.push {cls:=.type "range",data:=.fields #[.int lo t,.int hi u,.int 1 v]},toks:=tk}:=by
 refine wpAny_pyIter_range (IsRange.new ..) (small_one h1 h2 h3 h4) ?_;have I1:zK X pins σ H {s with heap:=s.heap.push {cls:=.type "range",data:=.fields #[.int lo t,.int hi u,.int 1 v]},toks:=tk}:=I.kept λb o e=>Wf _ e
 refine⟨(s.heap.push {cls:=.type "range",data:=.fields #[.int lo t,.int hi u,.int 1 v]}).objs.size,[(s.heap.push {cls:=.type "range",data:=.fields #[.int lo t,.int hi u,.int 1 v]}).objs.size],_,_,H,rfl,
  I1.kept (t':=tk) λb o e=>Wf _ e,zKU _ lo (hi-lo).toNat,?_,λb hb=>?_,q⟩
 .have e1:lo+((0:Nat):Int)*1=lo:=by simp
  have e2:(((hi-lo).toNat:Nat):Int)-((0:Nat):Int)=Builtin.Range.rangeSize lo hi 1:=by rw[rangeSize_one];split <;> lia
  show IsRangeIter _ _ (lo+((0:Nat):Int)*1) ((((hi-lo).toNat:Nat):Int)-((0:Nat):Int)) 1;rw[e1,e2];exact Wz _ rfl
 .have e:b=(s.heap.push {cls:=.type "range",data:=.fields #[.int lo t,.int hi u,.int 1 v]}).objs.size:=by simpa using hb
  subst e;exact I1.fpOk (We _) (I1.hok.fresh (We _))
def zR2 (ta:TA):TI:=λσ H R=>ta σ H λvs H1=>∃ j:Int,vs=[.int j]/\-(2^62)<=j/\j<2^62/\R (Itr 0 j.toNat) H1
def zR3 (ta:TA):TI:=λσ H R=>ta σ H λvs H1=>∃ i j:Int,vs=[.int i,.int j]/\(-(2^62)<=i/\i<2^62/\-(2^62)<=j/\j<2^62)/\R (Itr i (j-i).toNat) H1
theorem zBl{a:Expr}{ta:TA}{p pos:Pos}(hg:Gl X "range")(hm:X.mg "range" = none)(ha:PA X [a] ta)(hs:starEach [a] X.env=[(false,eval a X.env)]:=by rfl):PI X tg (.Call (.Name "range" p) [a] [] pos) (zR2 ta):=by
 intro pins s σ H R I h;refine Call_ (zAy I hg hm Jm (Vh (zr (ha pos pins s σ H _ I h) λus s1 ⟨vs,H1,I1,r1,q1⟩=>?_) hs rfl));obtain⟨j,e,q1,q2,q⟩:=q1;subst e;cases r1 with
|cons r rr=>
  cases rr;obtain⟨t,rfl⟩:=r;exact call_range_1 (zH2 I1 (by lia) (by lia) q1 q2 (by simpa using q))
theorem zHB{a b:Expr}{ta:TA}{p pos:Pos}(hg:Gl X "range")(hm:X.mg "range" = none)(ha:PA X [a,b] ta)(hs:starEach [a,b] X.env=[(false,eval a X.env),(false,eval b X.env)]:=by rfl)(hs2:starEach [b] X.env=[(false,eval b X.env)]:=by rfl) :
  PI X tg (.Call (.Name "range" p) [a,b] [] pos) (zR3 ta):=by
 intro pins s σ H R I h;refine Call_ (zAy I hg hm Jm (Vh (zr (ha pos pins s σ H _ I h) λus s1 ⟨vs,H1,I1,r1,q1⟩=>?_) (by rw[hs,hs2]) (by rw[hs2];rfl)));obtain⟨i,j,e,⟨q1,q2,q3,q4⟩,q⟩:=q1;subst e;cases r1 with
|cons r rr=>
  cases rr with
 |cons r' rr=>
   cases rr;obtain⟨t,rfl⟩:=r;obtain⟨t',rfl⟩:=r';exact call_range_2 (zH2 I1 q1 q2 q3 q4 q)
def zSj (wi:TI)(g:TG)(tb:TS):TS:=λD σ H=>wi σ H λJ H1=>∃ W:Nat->Nat->St->Hp->Prop,(∃ m,W 0 m σ H1)/\∀ i m σ H,W i m σ H->
 (J.stop i H/\D.nx σ H)\/(J.go i H/\∃ N:St->Hp->Prop,(∀ σ' H',N σ' H'->∃ m',m'<m/\W (i+1) m' σ' H')/\∀ x H',J.yld i H x H'->g x σ H' λσ2 H2=>tb {D with nx:=N,ct:=N,bk:=D.nx} σ2 H2)
def zEH (fp:List Addr)(h:Heap):Qp:=fp.filterMap λb=>(h.get? b).map λo=>(b,o)
theorem zDi{fp:List Addr}{h:Heap}{b:Addr}{o:Obj}(hb:b∈fp)(e:h.get? b=some o):(b,o)∈zEH fp h:=VI.mpr ⟨b,hb,by rw[e];rfl⟩
theorem zLq{fp:List Addr}{h:Heap}{p:Addr×Obj}(hp:p∈zEH fp h):p.1∈fp/\h.get? p.1=some p.2:=by
 obtain⟨b,hb,e⟩:=VI.mp hp;cases q:h.get? b with
|none=>rw[q] at e;cases e
|some o=>
  rw[q] at e;have e':(b,o)=p:=Wu e;subst e';exact⟨hb,q⟩
theorem zK.pinned{pins:Qp}{σ:St}{H:Hp}{s:Shared}{fp:List Addr}(I:zK X pins σ H s)(hf:∀ b∈fp,zAN X pins H b)(ho:∀ b∈fp,∃ o,s.heap.get? b=some o/\∀ v,o.data≠.cell v):zK X (pins++zEH fp s.heap) σ H s:=
 I.pins_of λp hp=>(Wv.mp hp).elim (λz=>I.pin p (WN _ z)) λz=>by
  obtain⟨hb,e⟩:=zLq z;obtain⟨f0,f1,f2,_⟩:=hf p.1 hb;obtain⟨o,e',d⟩:=ho p.1 hb;rw[e] at e';cases e';exact⟨e,f0,f1,f2,d⟩
theorem zK.unpinned{pins pl:Qp}{σ:St}{H:Hp}{s:Shared}(I:zK X (pins++pl) σ H s):zK X pins σ H s:=I.pins_of λp hp=>I.pin p (WN _ (XZ _ hp))
theorem yF{iter:Expr}{body:List Stmt}{wi:TI}{g:TG}{tb:TS}{pos:Pos}(hp:PassesOwn (model X.prog X.w) X.A X.env X.xe)(hc:X.calm=true)(hi:PI X tg iter wi)(hg:PG X tg g)(hb:PSs X body tb)
  (hs:∀ x,foldedSetIterable iter X.env x=pure x:=by intro _;rfl):PS X (.For tg iter body [] pos) (zSj wi g tb):=by
 intro pins s σ H D I h;refine wpAny_For (zr (hi pins s σ H _ I h) λv s1 h1=>zr h1 λitv s2 h2=>?_) hs;obtain⟨it,fp,tn,J,H2,e,I2,T,st2,f2,W,⟨m0,w0⟩,turn⟩:=h2;subst e;have stat:∀ {H':Hp},(∀ b∈fp,H' b=none)->∀ b∈fp,zAN X pins H' b:=λhn b hb=>⟨hn b hb,(f2 b hb).2⟩
 refine codeAny_forLoop_any (λn s'=>∃ i σ' H',zK X pins σ' H' s'/\tn i s'.heap/\(∀ b∈fp,H' b=none)/\W i n σ' H') ?_ m0 ⟨0,σ,H2,I2,st2,λb hb=>(f2 b hb).1,w0⟩;rintro n s3 ⟨i,σ3,H3,I3,st3,fr3,w3⟩;rcases turn i n σ3 H3 w3 with ⟨stop,qn⟩|⟨go,N,hN,step⟩
 .refine Xe hp (zr (T.done X rfl rfl rfl hc i pins s3 σ3 H3 X.xe I3 (stat fr3) st3 stop) λr s4 ⟨hr,I4⟩=>?_);subst hr;exact X7 ⟨σ3,H3,I4,qn⟩
 .refine Xe hp (zr (T.item X rfl rfl rfl hc i pins s3 σ3 H3 X.xe I3 (stat fr3) st3 go) λr s4 ⟨u,hr,h4⟩=>?_);subst hr;refine Xe hp (zr h4 λ_ s5 ⟨x,H5,I5,r5,y5,st5,fr5⟩=>?_);have I5':=I5.pinned (stat fr5) (T.obj _ _ st5);refine Xe hp (zr (hg _ s5 σ3 H5 x u _ I5' r5 (step x H5 y5)) λ_ s6 ⟨σ6,H6,I6,q6⟩=>?_);refine Xe hp (zr (hb _ s6 σ6 H6 _ I6 q6) λf s7 q7=>?_)
  have again:∀ {σ7:St}{H7:Hp},zK X (pins++zEH fp s5.heap) σ7 H7 s7->N σ7 H7->∃ m,m<n/\∃ i σ' H',zK X pins σ' H' s7/\tn i s7.heap/\(∀ b∈fp,H' b=none)/\W i m σ' H':=λ{σ7 H7} I7 n7=>by
   obtain⟨m',hm,w7⟩:=hN σ7 H7 n7;refine⟨m',hm,i+1,σ7,H7,I7.unpinned,T.keep _ _ _ st5 λb hb o e=>(I7.pin (b,o) (WN _ (WN _ (zDi hb e)))).1,λb hb=>?_,w7⟩;obtain⟨o,e,d⟩:=T.obj _ _ st5 b hb;exact (I7.pin (b,o) (WN _ (WN _ (zDi hb e)))).2.1
  cases f with
 |next=>obtain⟨σ7,H7,I7,n7⟩:=q7;exact again I7 n7
 |cont=>obtain⟨σ7,H7,I7,n7⟩:=q7;exact again I7 n7
 |brk=>obtain⟨σ7,H7,I7,q7⟩:=q7;exact⟨σ7,H7,I7.unpinned,q7⟩
 |ret v=>obtain⟨x7,σ7,H7,I7,r7,q7⟩:=q7;exact⟨x7,σ7,H7,I7.unpinned,r7,q7⟩
end
theorem Zl{K:Qf}{a:Addr}{xs:List V}{g:TG}{tb:TS}{D:Y0}{σ:St}{H:Hp}(Pv:Nat->St->Hp->Prop)(h0:Pv 0 σ H)(hl:∀ i σ H,i<=xs.length->Pv i σ H->zN K H a xs)
  (hs:∀ i x σ H,xs[i]?=some x->Pv i σ H->g x σ H λσ2 H2=>tb {D with nx:=Pv (i+1),ct:=Pv (i+1),bk:=D.nx} σ2 H2)(hd:∀ σ H,Pv xs.length σ H->D.nx σ H) :
  ∃ W:Nat->Nat->St->Hp->Prop,(∃ m,W 0 m σ H)/\∀ i m σ H,W i m σ H->
   ((Itl K a).stop i H/\D.nx σ H)\/((Itl K a).go i H/\∃ N:St->Hp->Prop,(∀ σ' H',N σ' H'->∃ m',m'<m/\W (i+1) m' σ' H')/\∀ x H',(Itl K a).yld i H x H'->g x σ H' λσ2 H2=>tb {D with nx:=N,ct:=N,bk:=D.nx} σ2 H2):=by
 refine⟨λi m σ H=>m=xs.length-i/\i<=xs.length/\Pv i σ H,⟨xs.length,by simp,Ww _,h0⟩,?_⟩;rintro i m σ H ⟨rfl,hi,p⟩;have q:=hl i σ H hi p;by_cases hlt:i<xs.length
 .refine .inr ⟨⟨xs,xs[i],q,by simp[hlt]⟩,Pv (i+1),λσ' H' p'=>⟨xs.length-(i+1),by lia,rfl,hlt,p'⟩,λx H' y=>?_⟩;obtain⟨e,y⟩:=y;subst e;exact hs i x σ _ (y xs q) p
 .have e:i=xs.length:=by lia
  subst e;exact .inl ⟨⟨xs,q,We _⟩,hd σ H p⟩
theorem zGe{K:Qf}{a:Addr}{xs:List V}{g:TG}{tb:TS}{D:Y0}{σ:St}{H:Hp}(Pv:Nat->St->Hp->Prop)(h0:Pv 0 σ H)(hl:∀ i σ H,i<=xs.length->Pv i σ H->yJ K H a xs)
  (hs:∀ i x σ H,xs[i]?=some x->Pv i σ H->g x σ H λσ2 H2=>tb {D with nx:=Pv (i+1),ct:=Pv (i+1),bk:=D.nx} σ2 H2)(hd:∀ σ H,Pv xs.length σ H->D.nx σ H) :
  ∃ W:Nat->Nat->St->Hp->Prop,(∃ m,W 0 m σ H)/\∀ i m σ H,W i m σ H->
   ((Itt K a).stop i H/\D.nx σ H)\/((Itt K a).go i H/\∃ N:St->Hp->Prop,(∀ σ' H',N σ' H'->∃ m',m'<m/\W (i+1) m' σ' H')/\∀ x H',(Itt K a).yld i H x H'->g x σ H' λσ2 H2=>tb {D with nx:=N,ct:=N,bk:=D.nx} σ2 H2):=by
 refine⟨λi m σ H=>m=xs.length-i/\i<=xs.length/\Pv i σ H,⟨xs.length,by simp,Ww _,h0⟩,?_⟩;rintro i m σ H ⟨rfl,hi,p⟩;have q:=hl i σ H hi p;by_cases hlt:i<xs.length
 .refine .inr ⟨⟨xs,xs[i],q,by simp[hlt]⟩,Pv (i+1),λσ' H' p'=>⟨xs.length-(i+1),by lia,rfl,hlt,p'⟩,λx H' y=>?_⟩;obtain⟨e,y⟩:=y;subst e;exact hs i x σ _ (y xs q) p
 .have e:i=xs.length:=by lia
  subst e;exact .inl ⟨⟨xs,q,We _⟩,hd σ H p⟩
theorem zAB{lo:Int}{n:Nat}{g:TG}{tb:TS}{D:Y0}{σ:St}{H:Hp}(Pv:Nat->St->Hp->Prop)(h0:Pv 0 σ H)
  (hs:∀ i σ H,i<n->Pv i σ H->g (.int (lo+i)) σ H λσ2 H2=>tb {D with nx:=Pv (i+1),ct:=Pv (i+1),bk:=D.nx} σ2 H2)(hd:∀ σ H,Pv n σ H->D.nx σ H) :
  ∃ W:Nat->Nat->St->Hp->Prop,(∃ m,W 0 m σ H)/\∀ i m σ H,W i m σ H->
   ((Itr lo n).stop i H/\D.nx σ H)\/((Itr lo n).go i H/\∃ N:St->Hp->Prop,(∀ σ' H',N σ' H'->∃ m',m'<m/\W (i+1) m' σ' H')/\∀ x H',(Itr lo n).yld i H x H'->g x σ H' λσ2 H2=>tb {D with nx:=N,ct:=N,bk:=D.nx} σ2 H2):=by
 refine⟨λi m σ H=>m=n-i/\i<=n/\Pv i σ H,⟨n,by simp,Ww _,h0⟩,?_⟩;rintro i m σ H ⟨rfl,hi,p⟩;by_cases hlt:i<n
 .refine .inr ⟨hlt,Pv (i+1),λσ' H' p'=>⟨n-(i+1),by lia,rfl,hlt,p'⟩,λx H' y=>?_⟩;obtain⟨e,y⟩:=y;subst e y;exact hs i σ _ hlt p
 .have e:i=n:=by lia
  subst e;exact .inl ⟨We _,hd σ H p⟩
abbrev R2:=V->V->Hp->VK->Prop
def Y5 (X:Cx)(f:Value->Value->Sem Value)(r:R2):Prop:=
 ∀ (pins:Qp) (s:Shared) (σ:St) (H:Hp) (x y:V) (v u:Value) (Q:VK),zK X pins σ H s->zp x v->zp y u->r x y H Q->
  wpAny (model X.prog X.w) X.A (f v u) (EP X pins σ Q) X.xe s
def UnR (X:Cx)(f:Value->Sem Value)(r:V->Hp->VK->Prop):Prop:=
 ∀ (pins:Qp) (s:Shared) (σ:St) (H:Hp) (x:V) (v:Value) (Q:VK),zK X pins σ H s->zp x v->r x H Q->
  wpAny (model X.prog X.w) X.A (f v) (EP X pins σ Q) X.xe s
def zB8 (X:Cx)(f:Value)(r:List V->Hp->VK->Prop):Prop:=
 ∀ (pins:Qp) (s:Shared) (σ:St) (H:Hp) (xs:List V) (us:List Value) (Q:VK),zK X pins σ H s->zY xs us->r xs H Q->
  wpAny (model X.prog X.w) X.A (call f us) (EP X pins σ Q) X.xe s
def tOp (r:R2)(ta tb:TE):TE:=λσ H Q=>ta σ H λx H1=>tb σ H1 λy H2=>r x y H2 Q
def tUn (r:V->Hp->VK->Prop)(ta:TE):TE:=λσ H Q=>ta σ H λx H1=>r x H1 Q
def rI (C:Int->Int->Prop)(g:Int->Int->V):R2:=λx y H Q=>∃ i j,x=.int i/\y=.int j/\C i j/\Q (g i j) H
def rI0 (g:Int->Int->V):R2:=λx y H Q=>∃ i j,x=.int i/\y=.int j/\Q (g i j) H
def rU (g:Int->V):V->Hp->VK->Prop:=λx H Q=>∃ i,x=.int i/\Q (g i) H
section
variable {X:Cx}{a b c:Expr}{ta tb tc:TE}{pos:Pos}
theorem zNB(ha:PE X a ta)(hb:PE X b tb){pins:Qp}{s:Shared}{σ:St}{H:Hp}{R:V->V->Hp->Prop}(I:zK X pins σ H s)
  (h:ta σ H λx H1=>tb σ H1 λy H2=>R x y H2){Q:Qs}{f:Value->Value->Sem Value}
  (hf:∀ v u s2 x y H2,zK X pins σ H2 s2->zp x v->zp y u->R x y H2->wpAny (model X.prog X.w) X.A (f v u) Q X.xe s2) :
  wpAny (model X.prog X.w) X.A (eval a X.env) (λv s₁=>wpAny (model X.prog X.w) X.A (eval b X.env) (λu s₂=>wpAny (model X.prog X.w) X.A (f v u) Q X.xe s₂) X.xe s₁) X.xe s:=by
 refine zr (ha pins s σ H _ I h) λv s1 ⟨x,H1,I1,r1,q1⟩=>?_
 refine zr (hb pins s1 σ H1 _ I1 q1) λu s2 ⟨y,H2,I2,r2,q2⟩=>?_
 exact hf v u s2 x y H2 I2 r1 r2 q2
theorem zk{op:Operator}{r:R2}(ho:Y5 X (binaryOp op) r)(ha:PE X a ta)(hb:PE X b tb):PE X (.BinOp a op b pos) (tOp r ta tb):=by
 intro pins s σ H Q I h;exact wpAny_BinOp (zNB ha hb I h λv u s2 x y H2 I2 rx ry q=>ho pins s2 σ H2 x y v u Q I2 rx ry q)
theorem zDj{op:UnaryOp}{r:V->Hp->VK->Prop}(ho:UnR X (unaryOp op) r)(ha:PE X a ta):PE X (.UnaryOp op a pos) (tUn r ta):=by
 intro pins s σ H Q I h;exact UnaryOp_ (zr (ha pins s σ H _ I h) λv s1 ⟨x,H1,I1,r1,q1⟩=>ho pins s1 σ H1 x v Q I1 r1 q1)
theorem opI{f:Value->Value->Sem Value}{C:Int->Int->Prop}{g:Int->Int->Int}
  (rule:∀ (i j:Int) (t u:Tok) (s:Shared) (Q:Qs) (E:Qs),C i j->Q (.int (g i j) s.toks) {s with toks:=s.toks+1}->wpAny (model X.prog X.w) X.A (f (.int i t) (.int j u)) Q E s) :
  Y5 X f (rI C λi j=>.int (g i j)):=by
 intro pins s σ H x y v u Q I rx ry h;obtain⟨i,j,rfl,rfl,hc,q⟩:=h;obtain⟨t,rfl⟩:=rx;obtain⟨t',rfl⟩:=ry;exact rule i j t t' s _ _ hc ⟨.int (g i j),H,I.tok _,⟨_,rfl⟩,q⟩
theorem zQY{f:Value->Value->Sem Value}{g:Int->Int->Int}
  (rule:∀ (i j:Int) (t u:Tok) (s:Shared) (Q:Qs) (E:Qs),Q (.int (g i j) s.toks) {s with toks:=s.toks+1}->wpAny (model X.prog X.w) X.A (f (.int i t) (.int j u)) Q E s) :
  Y5 X f (rI0 λi j=>.int (g i j)):=by
 intro pins s σ H x y v u Q I rx ry h;obtain⟨i,j,rfl,rfl,q⟩:=h;obtain⟨t,rfl⟩:=rx;obtain⟨t',rfl⟩:=ry;exact rule i j t t' s _ _ ⟨.int (g i j),H,I.tok _,⟨_,rfl⟩,q⟩
theorem zKV{f:Value->Value->Sem Value}{g:Int->Int->Bool}
  (rule:∀ (i j:Int) (t u:Tok) (s:Shared) (Q:Qs) (E:Qs),Q (.bool (g i j)) s->wpAny (model X.prog X.w) X.A (f (.int i t) (.int j u)) Q E s) :
  Y5 X f (rI0 λi j=>.bl (g i j)):=by
 intro pins s σ H x y v u Q I rx ry h;obtain⟨i,j,rfl,rfl,q⟩:=h;obtain⟨t,rfl⟩:=rx;obtain⟨t',rfl⟩:=ry;exact rule i j t t' s _ _ ⟨.bl (g i j),H,I,rfl,q⟩
def zSk (i j:Int):Prop:=0<j/\j<1073741824
def zNC (i j:Int):Prop:=(-(2^64)<i/\i<2^64)\/(-(2^64)<j/\j<2^64)
theorem zNC.ok{i j:Int}(h:zNC i j):IntMulOk i j:=by
 rcases h with ⟨h1,h2⟩|⟨h1,h2⟩
 .exact .of_left (intBits_le_64 h1 h2)
 .exact .of_right (intBits_le_64 h1 h2)
theorem ZH:Y5 X (binaryOp .Add) (rI0 λi j=>.int (i+j)):=zQY λ_ _ _ _ _ _ _ q=>add_int q
theorem ZP:Y5 X (binaryOp .Sub) (rI0 λi j=>.int (i-j)):=zQY λ_ _ _ _ _ _ _ q=>sub_int q
theorem YH:Y5 X (binaryOp .Mult) (rI zNC λi j=>.int (i*j)):=opI λ_ _ _ _ _ _ _ hc q=>mul_int q hc.ok
theorem zOi:Y5 X (binaryOp .FloorDiv) (rI zSk λi j=>.int (i/j)):=opI λi j _ _ _ _ _ hc q=>by
 have h1:(0:Int)<j:=hc.1;have h2:j<1073741824:=hc.2;exact floordiv_int (by lia) (by rw[Int.fdiv_eq_ediv_of_nonneg i (by lia)];exact q) (.inl (PyProof.noPylong_small (by lia)))
theorem zQZ:Y5 X (binaryOp .Mod) (rI (λ_ j=>0<j) λi j=>.int (i%j)):=opI λi j _ _ _ _ _ hc q=>by
 have h1:(0:Int)<j:=hc;exact mod_int' (by lia) (by rw[Int.fmod_eq_emod_of_nonneg i (by lia)];exact q)
theorem unI{f:Value->Sem Value}{g:Int->Int}
  (rule:∀ (i:Int) (t:Tok) (s:Shared) (Q:Qs) (E:Qs),Q (.int (g i) s.toks) {s with toks:=s.toks+1}->wpAny (model X.prog X.w) X.A (f (.int i t)) Q E s) :
  UnR X f (rU λi=>.int (g i)):=by
 intro pins s σ H x v Q I rx h;obtain⟨i,rfl,q⟩:=h;obtain⟨t,rfl⟩:=rx;exact rule i t s _ _ ⟨.int (g i),H,I.tok _,⟨_,rfl⟩,q⟩
theorem zCJ:UnR X (unaryOp .USub) (rU λi=>.int (-i)):=unI λ_ _ _ _ _ q=>neg_int q
end
def zQa:V->V->Bool
|.non,.non=>true|.non,.int _=>true|.int _,.non=>true|.non,.bl _=>true|.bl _,.non=>true|.non,.str _=>true|.str _,.non=>true
|.int _,.int _=>true|.bl _,.bl _=>true|.str _,.str _=>true|.byt _,.byt _=>true
|.int _,.str _=>true|.str _,.int _=>true|.bl _,.str _=>true|.str _,.bl _=>true
|_,_=>false
def rEq:R2:=λx y H Q=>zQa x y=true/\Q (.bl (decide (x=y))) H
def rNe:R2:=λx y H Q=>zQa x y=true/\Q (.bl (!decide (x=y))) H
theorem zJT{i j:Int}:decide (V.int i=V.int j)=(i==j):=by
 rw[WB];simp
theorem zLr{i j:Bool}:decide (V.bl i=V.bl j)=(i==j):=by
 rw[WB];simp
theorem zJU{i j:Str}:decide (V.str i=V.str j)=(i==j):=by
 rw[WB];simp
theorem zJV{i j:Array UInt8}:decide (V.byt i=V.byt j)=(i.toList==j.toList):=by
 rw[WB];cases i;cases j;simp
section
variable {X:Cx}{a b c:Expr}{ta tb tc:TE}{pos:Pos}
theorem yM{pins:Qp}{σ:St}{H:Hp}{s:Shared}{Q:VK}{k k':Bool}(I:zK X pins σ H s)(q:Q (.bl k) H)(e:k=k'):EP X pins σ Q (.bool k') s:=by
 subst e;exact⟨.bl k,H,I,rfl,q⟩
theorem zBX:Y5 X (compareOp .Eq) rEq:=by
 intro pins s σ H x y v u Q I rx ry h;obtain⟨hs,q⟩:=h;cases x with
|non=>
  cases rx;cases y with
 |non=>cases ry;exact PySem.EqNone.eq_none_none (yM I q (by simp))
 |bl j=>cases ry;exact PySem.EqNone.eq_none_bool (yM I q (by simp))
 |int j=>obtain⟨t',rfl⟩:=ry;exact PySem.EqNone.eq_none_int (yM I q (by simp))
 |str j=>obtain⟨t',rfl⟩:=ry;exact PySem.EqNone.eq_none_str (yM I q (by simp))
 |_=>exact absurd (show false=true from hs) Wr
|bl i=>
  cases rx;cases y with
 |non=>cases ry;exact PySem.EqNone.eq_bool_none (yM I q (by simp))
 |bl j=>cases ry;exact eq_bool (yM I q zLr)
 |str j=>obtain⟨t',rfl⟩:=ry;exact PySem.EqMixed.eq_bool_str (yM I q (by simp))
 |_=>exact absurd (show false=true from hs) Wr
|int i=>
  obtain⟨t,rfl⟩:=rx;cases y with
 |non=>cases ry;exact PySem.EqNone.eq_int_none (yM I q (by simp))
 |int j=>obtain⟨t',rfl⟩:=ry;exact eq_int (yM I q zJT)
 |str j=>obtain⟨t',rfl⟩:=ry;exact PySem.EqMixed.eq_int_str (yM I q (by simp))
 |_=>exact absurd (show false=true from hs) Wr
|str i=>
  obtain⟨t,rfl⟩:=rx;cases y with
 |non=>cases ry;exact PySem.EqNone.eq_str_none (yM I q (by simp))
 |bl j=>cases ry;exact PySem.EqMixed.eq_str_bool (yM I q (by simp))
 |int j=>obtain⟨t',rfl⟩:=ry;exact PySem.EqMixed.eq_str_int (yM I q (by simp))
 |str j=>obtain⟨t',rfl⟩:=ry;exact eq_str (yM I q zJU)
 |_=>exact absurd (show false=true from hs) Wr
|byt i=>
  obtain⟨t,rfl⟩:=rx;cases y with
 |byt j=>obtain⟨t',rfl⟩:=ry;exact PySem.W.eq_bytes (yM I q zJV)
 |_=>exact absurd (show false=true from hs) Wr
|_=>cases y <;> exact absurd (show false=true from hs) Wr
theorem zDk:Y5 X (compareOp .NotEq) rNe:=by
 intro pins s σ H x y v u Q I rx ry h;obtain⟨hs,q⟩:=h;cases x with
|non=>
  cases rx;cases y with
 |non=>cases ry;exact PySem.EqNone.ne_none_none (yM I q (by simp))
 |bl j=>cases ry;exact PySem.EqNone.ne_none_bool (yM I q (by simp))
 |int j=>obtain⟨t',rfl⟩:=ry;exact PySem.EqNone.ne_none_int (yM I q (by simp))
 |str j=>obtain⟨t',rfl⟩:=ry;exact PySem.EqNone.ne_none_str (yM I q (by simp))
 |_=>exact absurd (show false=true from hs) Wr
|bl i=>
  cases rx;cases y with
 |non=>cases ry;exact PySem.EqNone.ne_bool_none (yM I q (by simp))
 |bl j=>cases ry;exact ne_bool (yM I q (W1 not zLr))
 |str j=>obtain⟨t',rfl⟩:=ry;exact PySem.EqMixed.ne_bool_str (yM I q (by simp))
 |_=>exact absurd (show false=true from hs) Wr
|int i=>
  obtain⟨t,rfl⟩:=rx;cases y with
 |non=>cases ry;exact PySem.EqNone.ne_int_none (yM I q (by simp))
 |int j=>obtain⟨t',rfl⟩:=ry;exact ne_int (yM I q (W1 not zJT))
 |str j=>obtain⟨t',rfl⟩:=ry;exact PySem.EqMixed.ne_int_str (yM I q (by simp))
 |_=>exact absurd (show false=true from hs) Wr
|str i=>
  obtain⟨t,rfl⟩:=rx;cases y with
 |non=>cases ry;exact PySem.EqNone.ne_str_none (yM I q (by simp))
 |bl j=>cases ry;exact PySem.EqMixed.ne_str_bool (yM I q (by simp))
 |int j=>obtain⟨t',rfl⟩:=ry;exact PySem.EqMixed.ne_str_int (yM I q (by simp))
 |str j=>obtain⟨t',rfl⟩:=ry;exact ne_str (yM I q (W1 not zJU))
 |_=>exact absurd (show false=true from hs) Wr
|byt i=>
  obtain⟨t,rfl⟩:=rx;cases y with
 |byt j=>obtain⟨t',rfl⟩:=ry;exact PySem.W.ne_bytes (yM I q (W1 not zJV))
 |_=>exact absurd (show false=true from hs) Wr
|_=>cases y <;> exact absurd (show false=true from hs) Wr
theorem YI:Y5 X (compareOp .Lt) (rI0 λi j=>.bl (decide (i<j))):=zKV λ_ _ _ _ _ _ _ q=>lt_int q
theorem zFw:Y5 X (compareOp .LtE) (rI0 λi j=>.bl (decide (i<=j))):=zKV λ_ _ _ _ _ _ _ q=>le_int q
theorem YJ:Y5 X (compareOp .Gt) (rI0 λi j=>.bl (decide (j<i))):=zKV λ_ _ _ _ _ _ _ q=>gt_int q
theorem zKW:Y5 X (compareOp .GtE) (rI0 λi j=>.bl (decide (j<=i))):=zKV λ_ _ _ _ _ _ _ q=>ge_int q
theorem zZ(b:Expr){op:CmpOp}(h:op≠.In:=by decide)(h2:op≠.NotIn:=by decide):behindInMarks op b=false:=by
 have e1:(op==CmpOp.In)=false:=by cases op <;> first|rfl|exact absurd rfl h
 have e2:(op==CmpOp.NotIn)=false:=by cases op <;> first|rfl|exact absurd rfl h2
 cases b <;> simp[behindInMarks,e1,e2]
theorem yg{op:CmpOp}{r:R2}(ho:Y5 X (compareOp op) r)(ha:PE X a ta)(hb:PE X b tb)(hm:behindInMarks op b=false):PE X (.Compare a [op] [b] pos) (tOp r ta tb):=by
 intro pins s σ H Q I h;exact wpAny_Compare1 (zNB ha hb I h λv u s2 x y H2 I2 rx ry q=>ho pins s2 σ H2 x y v u Q I2 rx ry q) hm
def zR4 (t:TE):TT:=λσ H Q=>t σ H λx H'=>∃ k,x=.bl k/\Q k H'
theorem zj{op:CmpOp}{r:R2}(ho:Y5 X (compareOp op) r)(ha:PE X a ta)(hb:PE X b tb)(hm:behindInMarks op b=false):PT X (.Compare a [op] [b] pos) (zR4 (tOp r ta tb)):=by
 intro pins s σ H Q I h
 refine wpAny_isTrue_Compare1 (zr (ha pins s σ H _ I h) λv s1 ⟨x,H1,I1,r1,q1⟩=>zr (hb pins s1 σ H1 _ I1 q1) λu s2 ⟨y,H2,I2,r2,q2⟩=>
  zr (ho pins s2 σ H2 x y v u _ I2 r1 r2 q2) λc s3 ⟨z,H3,I3,r3,k,e,q3⟩=>?_) hm
 subst e;cases r3;exact Xm ⟨H3,I3,q3⟩
theorem zFx:(sizeLine:Nat)<2^63:=by rw[XV];decide
theorem zKX{x:V}{us:List Value}(r:zY [x] us):∃ u,us=[u]/\zp x u:=by
 cases r with
|cons r1 r2=>cases r2;exact⟨_,rfl,r1⟩
theorem zKY{x y:V}{us:List Value}(r:zY [x,y] us):∃ u w',us=[u,w']/\zp x u/\zp y w':=by
 cases r with
|cons r1 r2=>
  cases r2 with
 |cons r3 r4=>cases r4;exact⟨_,_,rfl,r1,r3⟩
theorem zHC(hc:X.calm=true):zB8 X (.builtin "max") (λxs H Q=>∃ i j,xs=[.int i,.int j]/\Q (.int (if j>i then j else i)) H):=by
 intro pins s σ H xs us Q I r h;obtain⟨i,j,rfl,q⟩:=h;obtain⟨u,w',rfl,⟨t,rfl⟩,⟨t',rfl⟩⟩:=zKY r;refine max_two_ints (I.ok.hd hc) λh' tk k=>⟨_,H,I.kept k,?_,q⟩
 by_cases hj:j>i
 .rw[Wc hj,Wc hj];exact⟨_,rfl⟩
 .rw[Wb hj,Wb hj];exact⟨_,rfl⟩
theorem zHD(hc:X.calm=true):zB8 X (.builtin "min") (λxs H Q=>∃ i j,xs=[.int i,.int j]/\Q (.int (if j<i then j else i)) H):=by
 intro pins s σ H xs us Q I r h;obtain⟨i,j,rfl,q⟩:=h;obtain⟨u,w',rfl,⟨t,rfl⟩,⟨t',rfl⟩⟩:=zKY r;refine min_two_ints (I.ok.hd hc) λh' tk k=>⟨_,H,I.kept k,?_,q⟩
 by_cases hj:j<i
 .rw[Wc hj,Wc hj];exact⟨_,rfl⟩
 .rw[Wb hj,Wb hj];exact⟨_,rfl⟩
end
structure zGf(h:Heap)(x dx C:Addr)(mA:Qm):Prop where
 obj:h.get? x=some (PySem.W.instObj C dx)
 ns:h.Ns1 dx mA
 ne:dx≠x
theorem zLs{h:Heap}{dx:Addr}{mA:Qm}(n:h.Ns1 dx mA):∃ od,h.get? dx=some od/\∀ name,PySem.W.lookIn name od=some (mA name):=by
 obtain⟨o,es,ep,ho,hd,hk,_,hm⟩:=n;refine⟨o,ho,λname=>?_⟩;have e:=hm name;unfold nsFind findBy at e;rw[<-UV] at e;unfold PySem.W.lookIn;rw[hd];dsimp only;split
 .rename_i y q
  rw[q] at e;exact W1 some e
 .rename_i q
  rw[q] at e
  have a:es.toList.any (·.refKey)=false:=by
   rw[List.any_eq_false];intro y hy;obtain⟨z,t,hkey⟩:=hk y (Array.mem_toList_iff.mp hy);simp[DictEntry.refKey,hkey]
  have a':¬ es.toList.any (·.refKey)=true:=by rw[a];exact Wr
  rw[Wb a'];exact W1 some e
theorem zGf.look{h:Heap}{x dx C:Addr}{mA:Qm}(I:zGf h x dx C mA):∃ od,PySem.W.InstAt h x (PySem.W.instObj C dx) C (some od)/\∀ name,PySem.W.lookIn name od=some (mA name):=
 let ⟨od,ho,hl⟩:=zLs I.ns
 ⟨od,⟨I.obj,rfl,rfl,ho⟩,hl⟩
section
variable {prog:Program}{w:World}{A:Around}{E:Qs}{s:Shared}{K:Qf}{x dx C f:Addr}{mA:Qm}{name:Str}{v:Value}
theorem zOj{expr:Bool}{Q:Qs}(X:K.In s.heap)(I:zGf s.heap x dx C mA)(hg:PySem.W.plainGet K C name=true)(hh:PySem.W.hasDictIn K C=true)
  (ha:PySem.W.findIn K (.ref C) name=some none)(hv:mA name=some v)(hv':PySem.W.handedIn v=true)(h:Q v {s with toks:=s.toks+1}) :
  wpAny (model prog w) A (getAttr (.ref x) name expr) Q E s:=by
 obtain⟨od,J,hl⟩:=I.look;exact PySem.W.get_value X J (PySem.W.plainGet_of hg).1 (PySem.W.findObj_own hh ha rfl (by rw[hl,hv])) hv' h
theorem zOk{ns:List Str}{Q:Unit->Shared->Prop}(X:K.In s.heap)(I:zGf s.heap x dx C mA)
  (hs:PySem.W.findIn K (.ref C) "__setattr__" = some (some (.builtin "object.__setattr__")))(hp:PySem.W.plainOver K C=true)(ht:PySem.W.takerIn K C name=some none)(hh:PySem.W.hasDictIn K C=true)
  (hw:PySem.Within mA ns)(hsz:ns.length<=sizeLine)
  (h:∀ h',zGf h' x dx C (λy=>if y=name then some v else mA y)->Heap.SameBut dx s.heap h'->Q () {s with heap:=h',toks:=s.toks+2}) :
  wpAny (model prog w) A (setAttr (.ref x) name v) Q E s:=by
 obtain⟨od,J,hl⟩:=I.look;refine PySem.W.set_plain X J hs (PySem.W.osa_open (s:={s with toks:=s.toks+1}) (r:=none) X J hp ht λb=>?_);obtain⟨cd,hc,hd'⟩:=PySem.W.any_some hh;have hx:s.heap.get? x=some ⟨.ref C,some dx,.plain,#[]⟩:=I.obj;refine Wh (WI (Wh (Wh (wpAny_loadPart hx (Wh (PySem.W.Looks.here (s:={s with toks:=s.toks+1}) (PySem.W.looks_clsIn X hc) ?_))))));rw[hd'];refine WI (a:=some dx) (Wh (WI (Wh ?_)));refine wpAny_nsSet1 (s:={s with toks:=s.toks+1}) I.ns λh' hn2 hs2=>?_
 obtain⟨oD,esD,epD,hoD,hdD,hcD⟩:=hn2.count (PySem.Within.cons name v hw);refine Wh (wpAny_lookBehind hoD (by rw[hdD];exact pastItsLine_dict (WT hcD (by rw[Wn];lia))) ?_);exact WI (h _ ⟨(hs2.2 _ (Ne.symm I.ne)).trans I.obj,hn2,I.ne⟩ hs2)
theorem zH3{R:Result->Shared->Prop}{vs:List Value}{kw:List (Str×Value)}(X:K.In s.heap)(hm:PySem.W.makesIn K C=true)
  (hi:PySem.W.findIn K (.ref C) "__init__" = some (some (.ref f)))(hf:PySem.W.typeIn K (.ref f)=some (.type "function"))
  (h:codeAny (model prog w) (A.under (.builtin "type.__call__" ⟨.ref C::vs,kw⟩)) (.call (.ref f) ⟨.ref (s.heap.objs.size+1)::vs,kw⟩) (PySem.W.InitBack (s.heap.objs.size+1) R)
   {s with heap:=(s.heap.push PySem.W.emptyDict).push (PySem.W.instObj C s.heap.objs.size)}) :
  codeAny (model prog w) A (.call (.ref C) ⟨vs,kw⟩) R s:=by
 obtain⟨hh,g,d,t,os⟩:=s;exact PySem.W.make_core (PySem.W.makes_of X hm) (PySem.W.looks_findIn X hi) (λself=>PySem.W.bind_fn X self hf) (.inl rfl) h
end
def yk (f:Str)(v:V):List (Str×V)->List (Str×V)
|[]=>[(f,v)]
|(g,x)::r=>if g=f then (g,v)::r else (g,x)::yk f v r
theorem yS(f g:Str)(v:V):∀ fs:List (Str×V),(yk f v fs).lookup g=if g=f then some v else fs.lookup g
|[]=>by
  show List.lookup g [(f,v)]=_;by_cases h:g=f
  .have hb:(g==f)=true:=Vj.mpr h;simp only[List.lookup,hb,Wc h]
  .have hb:(g==f)=false:=W8.mpr h;simp only[List.lookup,hb,Wb h]
|(k,x)::r=>by
  have ih:=yS f g v r;rw[show yk f v ((k,x)::r)=(if k=f then (k,v)::r else (k,x)::yk f v r) from rfl];by_cases hk:k=f
  .rw[Wc hk];by_cases h:g=k
   .have hb:(g==k)=true:=Vj.mpr h;simp only[List.lookup,hb,Wc (h.trans hk)]
   .have hb:(g==k)=false:=W8.mpr h;simp only[List.lookup,hb,Wb (λe:g=f=>h (e.trans hk.symm))]
  .rw[Wb hk];by_cases h:g=k
   .have hb:(g==k)=true:=Vj.mpr h;simp only[List.lookup,hb,Wb (λe:g=f=>hk (h.symm.trans e))]
   .have hb:(g==k)=false:=W8.mpr h;simp only[List.lookup,hb];exact ih
theorem zEI(f:Str)(v:V):∀ fs:List (Str×V),f∈(yk f v fs).map (·.1)/\∀ g,g∈fs.map (·.1)->g∈(yk f v fs).map (·.1)
|[]=>⟨by simp[yk],λg h=>by simp at h⟩
|(k,x)::r=>by
  obtain⟨i1,i2⟩:=zEI f v r;rw[show yk f v ((k,x)::r)=(if k=f then (k,v)::r else (k,x)::yk f v r) from rfl];by_cases hk:k=f
  .rw[Wc hk];subst hk;exact⟨by simp,λg h=>by simpa using h⟩
  .rw[Wb hk];refine⟨?_,λg h=>?_⟩
   .rw[Wo];exact Wg _ i1
   .rw[Wo] at h ⊢;rcases Wd.mp h with e|e
    .exact Wd.mpr (.inl e)
    .exact Wg _ (i2 g e)
theorem zCy(f:Str)(v:V):∀ fs:List (Str×V),(yk f v fs).length<=fs.length+1
|[]=>by simp[yk]
|(k,x)::r=>by
  have ih:=zCy f v r;rw[show yk f v ((k,x)::r)=(if k=f then (k,v)::r else (k,x)::yk f v r) from rfl];by_cases hk:k=f
  .rw[Wc hk,Wn,Wn];lia
  .rw[Wb hk,Wn,Wn];lia
theorem Yn.some_of{v:V}{o:Option Value}(r:Yn (some v) o):∃ u,o=some u/\zp v u:=by
 cases o with
|none=>exact (show False from r).elim
|some u=>exact⟨u,rfl,r⟩
theorem Yn.none_of{o:Option Value}(r:Yn none o):o=none:=by
 cases o with
|none=>rfl
|some u=>exact (show False from r).elim
theorem zLt{v:V}{u:Value}(r:zp v u):PySem.W.handedIn u=true:=by
 cases v with
|non=>cases (show u=Value.none from r);rfl
|bl b=>cases (show u=Value.bool b from r);rfl
|int i=>obtain⟨t,e⟩:=(show ∃ t,u=Value.int i t from r);cases e;rfl
|str x=>obtain⟨t,e⟩:=(show ∃ t,u=Value.str x t from r);cases e;rfl
|byt b=>obtain⟨t,e⟩:=(show ∃ t,u=Value.bytes b t from r);cases e;rfl
|flt b=>obtain⟨t,e⟩:=(show ∃ t,u=Value.float b t from r);cases e;rfl
|ref a=>cases (show u=Value.ref a from r);rfl
|ty n=>cases (show u=Value.type n from r);rfl
section
variable {P:Program}{w:World}{H H':Hp}{h h':Heap}{a C dx:Addr}{fs fs':List (Str×V)}
theorem zJW(hok:ZO P w H h)(e:H a=some (.ins C dx fs)):∃ mA,zGf h a dx C mA/\(∀ f,Yn (fs.lookup f) (mA f))/\PySem.Within mA (fs.map (·.1))/\fs.length<=1000/\H dx=some (.own a):=by
 obtain⟨d,z,ne,ob,mA,n,r,q⟩:=(show yT P w H h a (.ins C dx fs) from hok a _ e)
 exact⟨mA,⟨ob,n,ne⟩,r,q,z,d⟩
end
structure Yl(K:Qf)(C:Addr):Prop where
 pg:PySem.W.plainGet K C Str.empty=true
 hd:PySem.W.hasDictIn K C=true
 po:PySem.W.plainOver K C=true
 sa:PySem.W.findIn K (.ref C) "__setattr__" = some (some (.builtin "object.__setattr__"))
theorem Yl.get{K:Qf}{C:Addr}(c:Yl K C)(f:Str):PySem.W.plainGet K C f=true:=c.pg
def zg (K:Qf)(C:Addr)(f:Str):Prop:=PySem.W.findIn K (.ref C) f=some none
theorem zg.taker{K:Qf}{C:Addr}{f:Str}(n:zg K C f):PySem.W.takerIn K C f=some none:=by
 unfold PySem.W.takerIn;rw[show PySem.W.findIn K (.ref C) f=some none from n];rfl
section
variable {X:Cx}{pins:Qp}{σ:St}{H:Hp}{s:Shared}{a C dx:Addr}{fs:List (Str×V)}{f:Str}{v:V}{A:Around}{E:Qs}
theorem zKZ{b:Bool}{Q:Qs}(I:zK X pins σ H s)(e:H a=some (.ins C dx fs))(c:Yl X.K C)(n:zg X.K C f)(l:fs.lookup f=some v)
  (h:∀ u s',zK X pins σ H s'->zp v u->Q u s'):wpAny (model X.prog X.w) A (getAttr (.ref a) f b) Q E s:=by
 obtain⟨mA,O,r,_,_,_⟩:=zJW I.hok e;obtain⟨u,hu,ru⟩:=Yn.some_of (v:=v) (o:=mA f) (by rw[<-l];exact r f);exact zOj I.kIn O (c.get f) c.hd n hu (zLt ru) (h u _ (I.tok _) ru)
theorem zKa{y:V}{u:Value}{Q:Unit->Shared->Prop}(I:zK X pins σ H s)(e:H a=some (.ins C dx fs))(c:Yl X.K C)(n:zg X.K C f)(hl:fs.length<1000)(ry:zp y u)
  (h:∀ s',zK X pins σ (upd H a (.ins C dx (yk f y fs))) s'->Q () s'):wpAny (model X.prog X.w) A (setAttr (.ref a) f u) Q E s:=by
 obtain⟨mA,O,r,wi,_,ho⟩:=zJW I.hok e;have hz:(fs.map (·.1)).length<=sizeLine:=by rw[zX,XV];lia
 refine zOk I.kIn O c.sa c.po n.taker c.hd wi hz λh' O' sb=>h _ ?_
 have hd:∃ o,h'.get? dx=some o:=let ⟨o,_,_,e',_⟩:=O'.ns;⟨o,e'⟩;refine I.write (x:=a) (e:=dx) (by rw[e];exact True.intro) (.inr ho) (λb q hb z=>(sb.2 b hb).trans z) hd ?_;refine⟨by rw[zD O.ne];exact ho,?_,O.ne,O'.obj,_,O'.ns,λg=>?_,λg hg=>?_⟩
 .have:=zCy f y fs;lia
 .show Yn ((yk f y fs).lookup g) (if g=f then some u else mA g);rw[yS];by_cases q:g=f
  .rw[Wc q,Wc q];exact ry
  .rw[Wb q,Wb q];exact r g
 .by_cases q:g=f
  .rw[q];exact (zEI f y fs).1
  .refine (zEI f y fs).2 g (wi g λz=>hg ?_);show (if g=f then some u else mA g)=none;rw[Wb q];exact z
theorem zK.made(I:zK X pins σ H s):zK X pins σ (upd (upd H s.heap.objs.size (.own (s.heap.objs.size+1))) (s.heap.objs.size+1) (.ins C s.heap.objs.size []))
  {s with heap:=(s.heap.push PySem.W.emptyDict).push (PySem.W.instObj C s.heap.objs.size)}:=by
 have e1:(s.heap.push PySem.W.emptyDict).get? s.heap.objs.size=some PySem.W.emptyDict:=Wz s.heap rfl
 have e2:((s.heap.push PySem.W.emptyDict).push (PySem.W.instObj C s.heap.objs.size)).get? (s.heap.objs.size+1)=some (PySem.W.instObj C s.heap.objs.size):=by
  have:=Wz (s.heap.push PySem.W.emptyDict) (o:=PySem.W.instObj C s.heap.objs.size) rfl
  rwa [Vt] at this
 have e3:(s.heap.push PySem.W.emptyDict).Ns s.heap.objs.size (λ_=>none):=⟨PySem.W.emptyDict,#[],_,e1,rfl,(λe he=>absurd he (by simp)),λ_=>rfl⟩
 have I1:=I.laid (a:=s.heap.objs.size) (o:=.own (s.heap.objs.size+1)) (h':=s.heap.push PySem.W.emptyDict) (t':=s.toks) (λb u q=>Wf _ q) (We _) ⟨_,e1⟩;refine I1.laid (a:=s.heap.objs.size+1) (o:=.ins C s.heap.objs.size []) (t':=s.toks) (λb u q=>Wf _ q) (UA (Vt _ _)) ?_;have ne:s.heap.objs.size≠s.heap.objs.size+1:=Wx (XN _);refine⟨by rw[zD ne,zE],Ww _,ne,e2,λ_=>none,(Heap.Ns1.of_empty e3).at λo q=>Wf _ q,λ_=>True.intro,λy hy=>absurd rfl hy⟩
theorem zJX{prog:Program}{w:World}{env:Env}{e:Expr}{f:Str}{pos:Pos}{s:Shared}{Q:Qs}(hb:attributeBase e f env (eval e env)=eval e env)
  (h:wpAny (model prog w) A (eval e env) (λo s₁=>wpAny (model prog w) A (getAttr o f true) Q E s₁) E s):wpAny (model prog w) A (eval (.Attribute e f pos) env) Q E s:=
 Attribute_any_ h (by rw[arm_eval_Attribute,hb])
end
def zQb (K:Qf)(ta:TE)(f:Str):TE:=λσ H Q=>ta σ H λx H1=>∃ a C dx fs v,x=.ref a/\H1 a=some (.ins C dx fs)/\Yl K C/\zg K C f/\fs.lookup f=some v/\Q v H1
def zSl (K:Qf)(ta tv:TE)(f:Str):TS:=λD σ H=>tv σ H λy H1=>ta σ H1 λx H2=>∃ a C dx fs,x=.ref a/\H2 a=some (.ins C dx fs)/\Yl K C/\zg K C f/\fs.length<1000/\
 D.nx σ (upd H2 a (.ins C dx (yk f y fs)))
section
variable {X:Cx}{o e value:Expr}{f:Str}{pos pos' tpos:Pos}{ta tv:TE}
theorem zP(he:PE X e ta)(hb:attributeBase e f X.env (eval e X.env)=eval e X.env):PE X (.Attribute e f pos) (zQb X.K ta f):=by
 intro pins s σ H Q I h;refine zJX hb (zr (he pins s σ H _ I h) λu s1 ⟨x,H1,I1,rx,a,C,dx,fs,v,ex,ea,c,n,l,q⟩=>?_);subst ex;obtain rfl:u=Value.ref a:=rx;exact zKZ I1 ea c n l λu' s2 I2 ru=>⟨v,H1,I2,ru,q⟩
theorem yo(ha:PE X o ta)(hv:PE X value tv)(hs:swapsWith value (some (.Attribute o f pos')) pos.line X.env=pure false):PS X (.Assign [.Attribute o f pos'] value pos) (zSl X.K ta tv f):=by
 intro pins s σ H D I h;refine XH (zr (hv pins s σ H _ I h) λu s1 ⟨y,H1,I1,ry,q⟩=>zr (ha pins s1 σ H1 _ I1 q) λov s2 ⟨x,H2,I2,rx,a,C,dx,fs,ex,ea,c,n,l,q2⟩=>?_) hs;subst ex;obtain rfl:ov=Value.ref a:=rx;exact zKa I2 ea c n l ry λs3 I3=>⟨σ,_,I3,q2⟩
end
structure zn(k:Nat)(A:Around):Prop where
 hd:A.handled=none
 dp:A.depth+3*k+5<recursionLimit
 un:A.units+16*k+200<cLine
theorem zn.mono{j k:Nat}{A:Around}(r:zn k A)(h:j<=k):zn j A:=⟨r.hd,by have:=r.dp;lia,by have:=r.un;lia⟩
theorem zn.deeper{k:Nat}{A:Around}(r:zn (k+1) A)(env:Env):zn k (A.deeper env):=
 ⟨r.hd,by have:=r.dp;show A.depth+1+3*k+5<_;lia,by have:=r.un;show A.units+3+16*k+200<_;lia⟩
theorem zFy{A:Around}{C:Addr}{us:List Value}{kw:List (Str×Value)}:(A.under (.builtin "type.__call__" ⟨.ref C::us,kw⟩)).depth=A.depth+1:=by
 first|rfl|simp[Around.under,Code.weight,Code.isCreation,Code.isGuard,Code.isCaller,Code.frames,Code.isFrame,guardIds]
theorem zFz{A:Around}{C:Addr}{us:List Value}{kw:List (Str×Value)}:(A.under (.builtin "type.__call__" ⟨.ref C::us,kw⟩)).units=A.units+1:=by
 first|rfl|simp[Around.under,Code.cUnits,Code.frames,Code.isFrame]
theorem zn.make{k:Nat}{A:Around}(r:zn (k+1) A)(C:Addr)(us:List Value)(kw:List (Str×Value)):zn k (A.under (.builtin "type.__call__" ⟨.ref C::us,kw⟩)):=
 ⟨r.hd,by have:=r.dp;rw[zFy];lia,by have:=r.un;rw[zFz];lia⟩
theorem zn.depth{k:Nat}{A:Around}(r:zn k A):A.depth<recursionLimit:=by have:=r.dp;lia
theorem zn.units{k:Nat}{A:Around}(r:zn k A):A.units+64<cLine:=by have:=r.un;lia
def zQc:TA:=λ_ H Q=>Q [] H
def zR5 (ta:TE)(tr:TA):TA:=λσ H Q=>ta σ H λx H1=>tr σ H1 λxs H2=>Q (x::xs) H2
section
variable {X:Cx}{e:Expr}{es:List Expr}{te:TE}{t:TA}{pos:Pos}
theorem zC:PA X [] zQc:=λ_ _ _ _ H Q I h=>Calls.spliced_nil ⟨[],H,I,.nil,h⟩
theorem zA(ha:PE X e te)(hr:PA X es t)(hs:starEach (e::es) X.env=(false,eval e X.env)::starEach es X.env:=by rfl):PA X (e::es) (zR5 te t):=by
 intro pos pins s σ H Q I h;rw[hs];show wpAny _ _ (spliced ((false,eval e X.env)::backTo pos (starEach es X.env))) _ _ s;refine Calls.spliced_cons (zr (ha pins s σ H _ I h) λu s1 ⟨x,H1,I1,r1,q1⟩=>?_);exact zr (hr pos pins s1 σ H1 _ I1 q1) λus s2 ⟨xs,H2,I2,r2,q2⟩=>⟨x::xs,H2,I2,.cons r1 r2,q2⟩
def zSm (t:TA):TE:=λσ H Q=>t σ H λxs H1=>xs.length<=sizeLine/\∀ p,H1 p=none->Q (.ref p) (upd H1 p (.tup xs))
def zSn (t:TA):TE:=λσ H Q=>t σ H λxs H1=>xs.length<=sizeLine/\∀ p,H1 p=none->Q (.ref p) (upd H1 p (.lst xs))
theorem zAC{x1}(h:PA X es t):PE X (.Tuple es x1 pos) (zSm t):=by
 intro pins s σ H Q I hq;refine wpAny_Tuple_spliced (zr (h pos pins s σ H _ I hq) λus s1 ⟨xs,H1,I1,r,z,q⟩=>⟨by rw[<-r.length];exact z,?_⟩);have hf:H1 s1.heap.objs.size=none:=I1.hok.fresh (We _);refine⟨.ref s1.heap.objs.size,upd H1 s1.heap.objs.size (.tup xs),I1.laid (t':=s1.toks) (λb u e=>Wf _ e) (We _) ?_,rfl,q _ hf⟩;exact⟨z,us,r,⟨_,Wz _ rfl,rfl,_,rfl⟩⟩
theorem yZ(h:PA X es t):PE X (.List es pos) (zSn t):=by
 intro pins s σ H Q I hq;refine wpAny_List_spliced (zr (h pos pins s σ H _ I hq) λus s1 ⟨xs,H1,I1,r,z,q⟩=>⟨by rw[<-r.length];exact z,?_⟩);have hf:H1 s1.heap.objs.size=none:=I1.hok.fresh (We _);refine⟨.ref s1.heap.objs.size,upd H1 s1.heap.objs.size (.lst xs),I1.laid (t':=s1.toks) (λb u e=>Wf _ e) (We _) ?_,rfl,q _ hf⟩;exact⟨z,us,0,r,Wz _ rfl⟩
end
abbrev Sp:=List V->Hp->VK->XK->Prop
abbrev CXT:=List Env->Hp->Shared->XK->Qs
structure zCz(P:Program)(w:World)(K:Qf)(mg:Qm)(base:Heap)(A:Around)(outer:List Env)(s:Shared)(H:Hp):Prop where
 frames:A.frames=some outer
 mod:Mod K mg base
 bs:∀ b o,base.get? b=some o->s.heap.get? b=some o/\H b=none
 bsz:base.objs.size<=s.heap.objs.size
 funs:s.heap.FunFrames base outer
 frf:∀ b∈ym outer,H b=none
 hok:ZO P w H s.heap
 bare:AllBare s.gens
def CE (outer:List Env)(P:Program)(w:World)(H:Hp)(s:Shared)(Q:VK)(u:Value)(s':Shared):Prop:=
 ∃ v H',s'.os=s.os/\AllBare s'.gens/\Un (ym outer) [] H H' s.heap s'.heap/\ZO P w H' s'.heap/\zp v u/\Q v H'
def CR (CX:CXT)(outer:List Env)(P:Program)(w:World)(H:Hp)(s:Shared)(Q:VK)(E:XK)(r:Result)(s':Shared):Prop:=
 match r with
|.ok (.ret u)=>CE outer P w H s Q u s'
|.ok _=>False
|.error e=>CX outer H s E e s'
structure Y2(P:Program)(w:World)(K:Qf)(mg:Qm)(base:Heap)(CX:CXT)(k:Nat)(f:Addr)(fd:FuncData)(ps:List Str)(sp:Sp):Prop where
 len:∀ vs H Q E,sp vs H Q E->vs.length=ps.length
 run:∀ (A:Around) (outer:List Env) (s:Shared) (H:Hp) (args:Args) (us:List Value) (vs:List V) (Q:VK) (E:XK),zn k A->zCz P w K mg base A outer s H->BindsTo s fd args (ps.zip us)->zY vs us->sp vs H Q E->
  codeAny (model P w) A (.call (.ref f) args) (CR CX outer P w H s Q E) s
theorem zCz.make{P:Program}{w:World}{K:Qf}{mg:Qm}{base:Heap}{A:Around}{outer:List Env}{s:Shared}{H:Hp}(e:zCz P w K mg base A outer s H)(C:Addr)(us:List Value)(kw:List (Str×Value)) :
  zCz P w K mg base (A.under (.builtin "type.__call__" ⟨.ref C::us,kw⟩)) outer s H:=⟨by first|exact e.frames|(simpa[Around.under,Code.envs,Code.isFrame,pushEnvs] using e.frames),e.mod,e.bs,e.bsz,e.funs,e.frf,e.hok,e.bare⟩
section
variable {X:Cx}{pins:Qp}{σ:St}{H:Hp}{s s':Shared}
theorem zK.env0(I:zK X pins σ H s):zCz X.prog X.w X.K X.mg X.base X.A X.stack s H:=
 ⟨I.ok.frames,I.ok.mod,I.bs,WT I.ok.bsz I.sz,I.stack,I.stkFree,I.hok,I.bare⟩
theorem zK.after{Q:VK}{u:Value}(I:zK X pins σ H s)(h:CE X.stack X.prog X.w H s Q u s'):EP X pins σ Q u s':=by
 obtain⟨v,H',os,bare,un,hok,r,q⟩:=h;obtain⟨hh,g,d,t,os'⟩:=s';obtain rfl:os'=s.os:=os;exact⟨v,H',I.call (h':=hh) (g':=g) (d':=d) (t':=t) (ch:=[]) un hok bare (λb z=>absurd z (by simp)),r,q⟩
end
def zHp (sp:Sp)(dvs:List V)(E:XK)(t:TA):TE:=λσ H Q=>t σ H λvs H1=>sp (vs++dvs) H1 Q E
def zHq (C:Addr)(sp:Sp)(dvs:List V)(E:XK)(t:TA):TE:=λσ H Q=>t σ H λvs H1=>∀ x dx,H1 x=none->H1 dx=none->dx≠x->
 sp (.ref x::(vs++dvs)) (upd (upd H1 dx (.own x)) x (.ins C dx [])) (λv H2=>v=.non/\Q (.ref x) H2) E
def ZK (K:Qf)(fd:FuncData)(ps:List Str)(ds:List Value):Prop:=
 ∀ (s:Shared) (us:List Value),K.In s.heap->(us++ds).length=ps.length->BindsTo s fd ⟨us,[]⟩ (ps.zip (us++ds))
theorem ZK.all{K:Qf}{fd:FuncData}{ps:List Str}(h:∀ us:List Value,us.length=ps.length->bindArgs fd ⟨us,[]⟩=pure (ps.zip us)):ZK K fd ps []:=λs us _ hl=>by
 rw[VU] at hl ⊢;exact .of_eq (h us hl)
def Yb (CX:CXT)(X:Cx)(E:XK):Prop:=∀ (pins:Qp) (σ:St) (H:Hp) (s:Shared) (e:Value) (s':Shared),zK X pins σ H s->CX X.stack H s E e s'->X.xe e s'
section
variable {X:Cx}{CX:CXT}{k:Nat}{f C:Addr}{fd:FuncData}{ps:List Str}{sp:Sp}{dvs:List V}{ds:List Value}{E:XK}{x m:Str}{p pos apos:Pos}{e o:Expr}{es:List Expr}{ta:TE}{t:TA}
theorem zQd{pins:Qp}{σ:St}{H:Hp}{s:Shared}{Q:VK}{us:List Value}{vs:List V}(F:Y2 X.prog X.w X.K X.mg X.base CX k f fd ps sp)(hr:zn k X.A)(hb:ZK X.K fd ps ds)(hd:zY dvs ds)(hx:Yb CX X E)
  (I:zK X pins σ H s)(r:zY vs us)(h:sp (vs++dvs) H Q E):wpAny (model X.prog X.w) X.A (call (.ref f) us) (EP X pins σ Q) X.xe s:=by
 have r2:zY (vs++dvs) (us++ds):=r.append hd;have hl:(us++ds).length=ps.length:=by rw[<-r2.length];exact F.len _ _ _ _ h
 refine Ux (Xq (F.run X.A X.stack s H ⟨us,[]⟩ (us++ds) (vs++dvs) Q E hr I.env0 (hb s us I.kIn hl) r2 h) λr s' hq=>?_);cases r with
|error e=>exact hx pins σ H s e s' I hq
|ok fl=>
  cases fl with
 |ret u=>exact I.after hq
 |next=>exact False.elim hq
 |brk=>exact False.elim hq
 |cont=>exact False.elim hq
theorem zGg(F:Y2 X.prog X.w X.K X.mg X.base CX k f fd ps sp)(hr:zn k X.A)(hg:Gl X x)(hm:X.mg x=some (.ref f))(hk:PySem.W.keepIn X.K (.ref f)=true)(hb:ZK X.K fd ps ds)(hd:zY dvs ds)(hx:Yb CX X E)
  (ha:PA X (e::es) t)(hdb:(x==("__debug__" : Str))=false:=by decide)(he:starEach (e::es) X.env=(false,eval e X.env)::starEach es X.env:=by rfl)(hpl:(backTo pos (starEach es X.env)).any (·.1)=false:=by rfl) :
  PE X (.Call (.Name x p) (e::es) [] pos) (zHp sp dvs E t):=by
 intro pins s σ H Q I h;refine Vx (zAn I hg hm ?_ hdb);refine XB (h₀:=X.base) I.ok.mod.kin hk (zr (ha pos pins s σ H _ I h) λus s1 ⟨vs,H1,I1,r,q⟩=>⟨I1.kIn,?_⟩) he hpl;exact zQd F hr hb hd hx I1 r q
structure Mk(K:Qf)(C f:Addr):Prop where
 makes:PySem.W.makesIn K C=true
 init:PySem.W.findIn K (.ref C) "__init__" = some (some (.ref f))
 fn:PySem.W.isFn K (.ref f)=true
 kp:PySem.W.keepIn K (.ref C)=true
theorem zH4{pins:Qp}{σ:St}{H:Hp}{s:Shared}{Q:VK}{us:List Value}{vs:List V}(M:Mk X.K C f)(F:Y2 X.prog X.w X.K X.mg X.base CX k f fd ps sp)(hr:zn (k+1) X.A)(hb:ZK X.K fd ps ds)(hd:zY dvs ds)
  (hx:Yb CX X E)(I:zK X pins σ H s)(r:zY vs us)
  (h:∀ x dx,H x=none->H dx=none->dx≠x->sp (.ref x::(vs++dvs)) (upd (upd H dx (.own x)) x (.ins C dx [])) (λv H2=>v=.non/\Q (.ref x) H2) E) :
  wpAny (model X.prog X.w) X.A (call (.ref C) us) (EP X pins σ Q) X.xe s:=by
 have hq:=h (s.heap.objs.size+1) s.heap.objs.size (I.hok.fresh (Jc _)) (I.hok.fresh (We _)) (Wx (XN _));have I2:=zK.made (C:=C) I;have r2:zY (V.ref (s.heap.objs.size+1)::(vs++dvs)) (Value.ref (s.heap.objs.size+1)::(us++ds)):=.cons rfl (r.append hd)
 have hl:(Value.ref (s.heap.objs.size+1)::us++ds).length=ps.length:=by
  have e:=r2.length;rw[F.len _ _ _ _ hq] at e;exact e.symm
 refine Ux (zH3 (f:=f) I.kIn M.makes M.init (Vj.mp M.fn) (Xq (F.run _ X.stack _ _ ⟨Value.ref (s.heap.objs.size+1)::us,[]⟩ (Value.ref (s.heap.objs.size+1)::(us++ds)) _ _ E (hr.make C us [])
  (I2.env0.make C us []) (hb _ (Value.ref (s.heap.objs.size+1)::us) I2.kIn hl) r2 hq) λr s' hq'=>?_))
 cases r with
|error e=>exact hx pins σ _ _ e s' I2 hq'
|ok fl=>
  cases fl with
 |ret u=>
   obtain⟨v,H',I3,rv,ev,q3⟩:=I2.after hq';subst ev;exact⟨rv,⟨V.ref (s.heap.objs.size+1),H',I3,rfl,q3⟩⟩
 |next=>exact False.elim hq'
 |brk=>exact False.elim hq'
 |cont=>exact False.elim hq'
theorem zOl(M:Mk X.K C f)(F:Y2 X.prog X.w X.K X.mg X.base CX k f fd ps sp)(hr:zn (k+1) X.A)(hg:Gl X x)(hm:X.mg x=some (.ref C))(hb:ZK X.K fd ps ds)(hd:zY dvs ds)(hx:Yb CX X E)
  (ha:PA X (e::es) t)(hdb:(x==("__debug__" : Str))=false:=by decide)(he:starEach (e::es) X.env=(false,eval e X.env)::starEach es X.env:=by rfl)(hpl:(backTo pos (starEach es X.env)).any (·.1)=false:=by rfl) :
  PE X (.Call (.Name x p) (e::es) [] pos) (zHq C sp dvs E t):=by
 intro pins s σ H Q I h;refine Vx (zAn I hg hm ?_ hdb);refine XB (h₀:=X.base) I.ok.mod.kin M.kp (zr (ha pos pins s σ H _ I h) λus s1 ⟨vs,H1,I1,r,q⟩=>⟨I1.kIn,?_⟩) he hpl;exact zH4 M F hr hb hd hx I1 r q
theorem zND(M:Mk X.K C f)(F:Y2 X.prog X.w X.K X.mg X.base CX k f fd ps sp)(hr:zn (k+1) X.A)(hg:Gl X x)(hm:X.mg x=some (.ref C))(hb:ZK X.K fd ps ds)(hd:zY dvs ds)(hx:Yb CX X E)
  (hdb:(x==("__debug__" : Str))=false:=by decide):PE X (.Call (.Name x p) [] [] pos) (zHq C sp dvs E zQc):=by
 intro pins s σ H Q I h;refine Vx (zAn I hg hm ?_ hdb);exact PySem.W.callWith_K0 I.kIn M.kp (zH4 (us:=[]) M F hr hb hd hx I .nil h)
end
structure zO(N P:List Str)(sc:Scope):Prop where
 kind:sc.kind=.function
 co:sc.isCoroutine=false
 gen:sc.isGenerator=false
 nd:N.Nodup
 pre:N.take P.length=P
 par:∀ x∈P,sc.names.lookup x=some .local\/sc.names.lookup x=some .cell
 nofree:∀ y∈sc.names,y.2≠.free
theorem yE{N P:List Str}{sc:Scope}(h:sc.kind=.function/\sc.isCoroutine=false/\sc.isGenerator=false/\N.Nodup/\N.take P.length=P/\(∀ x∈P,sc.names.lookup x=some .local\/sc.names.lookup x=some .cell)/\∀ y∈sc.names,y.2≠.free:=by decide +kernel):zO N P sc:=⟨h.1,h.2.1,h.2.2.1,h.2.2.2.1,h.2.2.2.2.1,h.2.2.2.2.2.1,h.2.2.2.2.2.2⟩
theorem zHE{kindOf:Str->Option NameKind}{x:Str}:∀ {binds:List (Str×Value)}{m:Qm},(∀ v,(x,v)∉binds)->bindL kindOf binds m x=m x
|[],_,_=>rfl
|(n,v)::r,m,h=>by
  unfold bindL;rw[zHE λw hw=>h w (Wg _ hw)];split
  .have:x≠n:=by rintro rfl;exact h v Wm
   simp[this]
  .rfl
theorem zHF{kindOf:Str->Option NameKind}{x:Str}:∀ {binds:List (Str×Value)}{m:Qm},(∀ v,(x,v)∉binds)->bindC kindOf binds m x=m x
|[],_,_=>rfl
|(n,v)::r,m,h=>by
  unfold bindC;rw[zHF λw hw=>h w (Wg _ hw)];split
  .rfl
  .have:x≠n:=by rintro rfl;exact h v Wm
   simp[this]
theorem zHG{kindOf:Str->Option NameKind}{x:Str}{v:Value}:∀ {P:List Str}{vs:List Value}{i:Nat}{m:Qm},P.Nodup->P[i]?=some x->vs[i]?=some v->kindOf x=some .local->
  bindL kindOf (P.zip vs) m x=some v
|[],_,_,_,_,h,_,_=>by simp at h
|_::_,[],_,_,_,_,h,_=>by simp at h
|p::P,w::vs,0,m,nd,h1,h2,hk=>by
  simp at h1 h2;subst h1;subst h2;show bindL kindOf ((p,w)::P.zip vs) m p=_;unfold bindL;rw[zHE λv hv=>(Vu.mp nd).1 (X8 hv).1,Wc hk];simp
|p::P,w::vs,i+1,m,nd,h1,h2,hk=>by
  show bindL kindOf ((p,w)::P.zip vs) m x=_;unfold bindL;exact zHG (i:=i) (Vu.mp nd).2 (by simpa using h1) (by simpa using h2) hk
theorem zHH{kindOf:Str->Option NameKind}{x:Str}{v:Value}:∀ {P:List Str}{vs:List Value}{i:Nat}{m:Qm},P.Nodup->P[i]?=some x->vs[i]?=some v->kindOf x≠some .local->
  bindC kindOf (P.zip vs) m x=some v
|[],_,_,_,_,h,_,_=>by simp at h
|_::_,[],_,_,_,_,h,_=>by simp at h
|p::P,w::vs,0,m,nd,h1,h2,hk=>by
  simp at h1 h2;subst h1;subst h2;show bindC kindOf ((p,w)::P.zip vs) m p=_;unfold bindC;rw[zHF λv hv=>(Vu.mp nd).1 (X8 hv).1,Wb hk];simp
|p::P,w::vs,i+1,m,nd,h1,h2,hk=>by
  show bindC kindOf ((p,w)::P.zip vs) m x=_;unfold bindC;exact zHH (i:=i) (Vu.mp nd).2 (by simpa using h1) (by simpa using h2) hk
def YW (N:List Str)(vs:List V):St:=vs.map some++List.replicate (N.length-vs.length) none
def ZR (CX:CXT)(P:Program)(w:World)(K:Qf)(mg:Qm)(base:Heap)(N:List Str)(qual:Str)(scope:Scope)(f:Addr)(cd:Value)(A:Around)(outer:List Env)(s:Shared)(H:Hp)(E:XK):Cx where
 prog:=P
 w:=w
 K:=K
 mg:=mg
 base:=base
 A:=A.deeper (envOfC qual scope s.heap.objs.size f cd)
 N:=N
 s_0:=s
 H_0:=H
 env:=envOfC qual scope s.heap.objs.size f cd
 outer:=outer
 stack:=envOfC qual scope s.heap.objs.size f cd::outer
 ex:=[]
 calm:=true
 fn:=λ_=>true
 pn:=[]
 xe:=λe s'=>wpAny (model P w) (A.deeper (envOfC qual scope s.heap.objs.size f cd)) (leaving (envOfC qual scope s.heap.objs.size f cd) e) (λ_ s''=>CX outer H s E e s'') (λe' s''=>CX outer H s E e' s'') s'
theorem zH5{sc:Scope}{n:Nat}{x:Str}(h:sc.names.lookup x=some .cell):∃ c,(cellsFrom n sc.names []).lookup x=some c:=by
 have q:=Uz sc.names n [] (.inl h);exact Option.isSome_iff_exists.mp q
theorem zHI{CX:CXT}{P:Program}{w:World}{K:Qf}{mg:Qm}{base:Heap}{N ps:List Str}{qual:Str}{scope:Scope}{f:Addr}{cd:Value}{A:Around}{outer:List Env}{s s1:Shared}{H:Hp}{E:XK}{us:List Value}{vs:List V}
  (S:zO N ps scope)(hd:A.handled=none)(e0:zCz P w K mg base A outer s H)(hl:vs.length=ps.length)(r:zY vs us)
  (x:InCallC s s.heap.objs.size (bindL (envOfC qual scope s.heap.objs.size f cd).kindOf (ps.zip us) λ_=>none) (cellsFrom (s.heap.objs.size+1) scope.names []) (bindC (envOfC qual scope s.heap.objs.size f cd).kindOf (ps.zip us) λ_=>none) s1) :
  zK (ZR CX P w K mg base N qual scope f cd A outer s H E) [] (YW N vs) H s1:=by
 have hpl:ps.length<=N.length:=by have:=W1 List.length S.pre;rw[WF] at this;lia
 obtain⟨h1,tk,rfl,hk⟩:=x.done;have noA:∀ b:Addr,b∉(ZR CX P w K mg base N qual scope f cd A outer s H E).ex:=λb z=>absurd (show b∈([]:List Addr) from z) (by simp)
 refine⟨⟨e0.mod,S.kind,rfl,rfl,We _,λy z c h1 h2=>?_,λy hy=>?_,λy c _ h=>?_,λ_=>hd,Around.frames_deeper e0.frames,.inr ⟨rfl,rfl⟩,λb z=>absurd z (noA b),e0.bs,e0.bsz,λb _ _=>noA b,λb z=>absurd z (noA b),e0.funs,e0.frf⟩,
  rfl,e0.bare,Un.kept hk,⟨_,x.toInCall.ns,λi y v h1 h2 h3=>?_⟩,λy c h=>⟨_,x.cell y c h⟩,e0.hok.fresh (We _),λy c h=>?_,λp hp=>absurd (show p∈([]:Qp) from hp) (by simp),e0.hok.kept hk,?_⟩
 .exact name_of_addr x.apart (WU h1) (WU h2)
 .have hy:scope.names.lookup y=some .cell\/scope.names.lookup y=some .free:=hy;rcases hy with hy|hy
  .exact zH5 hy
  .exact absurd rfl (S.nofree _ (WU hy))
 .exact Vi (x.above y c (WU h))
 .have hi:i<vs.length:=by
   unfold YW at h2;by_cases hi:i<vs.length
   .exact hi
   .rw[W5 (by simpa using hi)] at h2;rw[V8] at h2;split at h2 <;> cases h2
  have ha:vs[i]?=some v:=by
   unfold YW at h2;rw[WP (by simpa using hi),WQ] at h2;cases e:vs[i]? with
  |none=>rw[e] at h2;cases h2
  |some a=>rw[e] at h2;cases h2;rfl
  obtain⟨u,hu,rv⟩:=r.get ha
  have hp:ps[i]?=some y:=by
   rw[<-S.pre,Up (by lia)];exact h1
  have ndP:ps.Nodup:=by rw[<-S.pre];exact S.nd.sublist (List.take_sublist _ _)
  refine⟨u,rv,?_⟩;rcases S.par y (ZM hp) with k|k
  .exact .inl ⟨k,zHG ndP hp hu k⟩
  .obtain⟨c,e⟩:=zH5 (n:=s.heap.objs.size+1) k;refine .inr ⟨.inl k,c,e,?_⟩;have q:=x.cell y c e;rw[zHH ndP hp hu (by show scope.names.lookup y≠_;rw[k];decide)] at q;exact q
 .exact e0.hok.fresh (Vi (x.above y c (WU h)))
 .unfold YW;show _=N.length;rw[Wi,zX,VH]
  lia
theorem zKb{CX:CXT}{P:Program}{w:World}{K:Qf}{mg:Qm}{base:Heap}{k:Nat}{f:Addr}{name qual:Str}{params:Arguments}{body:List Stmt}{scope:Scope}{dV kV doc pm cdv ct oc:Value}{an od:Option Addr}
  {osl:Array (Option Value)}{N ps:List Str}{sp:Sp}(lk:K.lookup f=some ⟨oc,od,.func (PySem.W.fnOf name qual params body scope dV kV doc pm an cdv ct),osl⟩) (hcd:PySem.W.codeIn K cdv qual=true) (S:zO N ps scope)
  (len:∀ vs H Q E,sp vs H Q E->vs.length=ps.length)
  (hbody:∀ (A:Around) (outer:List Env) (s:Shared) (H:Hp) (vs:List V) (Q:VK) (E:XK),zn k (A.deeper (envOfC qual scope s.heap.objs.size f cdv))->sp vs H Q E->
   ∃ t,PSs (ZR CX P w K mg base N qual scope f cdv A outer s H E) body t/\t {nx:=λ_ H'=>Q .non H',rt:=Q} (YW N vs) H) :
  Y2 P w K mg base CX (k+1) f (PySem.W.fnOf name qual params body scope dV kV doc pm an cdv ct) ps sp:=by
 refine⟨len,λA outer s H args us vs Q E hr e0 hb r hsp=>?_⟩;have hl:=len _ _ _ _ hsp;have KX:K.In s.heap:=e0.mod.kin.keeps λb o e=>(e0.bs b o e).1
 have lim:s.heap.NoLimit:=e0.mod.nolimit.keeps λb o e=>(e0.bs b o e).1
 have hkind:∀ y∈ps.zip us,scope.names.lookup y.1=some .local\/(scope.names.lookup y.1=some .cell/\((cellsFrom (s.heap.objs.size+1) scope.names []).lookup y.1).isSome=true):=λ⟨n,v⟩ hy=>by
  rcases S.par n (X8 hy).1 with q|q
  .exact .inl q
  .exact .inr ⟨q,Uz _ _ _ (.inl q)⟩
 refine codeAny_call_function hr.depth (KX _ _ lk) rfl S.co S.gen rfl (PySem.W.codeRec_of KX hcd) (hb _ _ _ _ ?_);refine Jk S.kind hkind λenv he s1 x=>?_
 subst he;refine⟨lim.keeps x.toInCall.keep,codeAny_func ?_⟩;obtain⟨t,ht,hq⟩:=hbody A outer s H vs Q E (hr.deeper _) hsp;have I:zK (ZR CX P w K mg base N qual scope f cdv A outer s H E) [] (YW N vs) H s1:=zHI S hr.hd e0 hl r x;refine W9 (ht [] s1 (YW N vs) H _ I hq) (λfl s' hs=>?_) λe s' hs=>hs
 have fin:∀ {σ':St}{H':Hp}{v:V}{u:Value},zK (ZR CX P w K mg base N qual scope f cdv A outer s H E) [] σ' H' s'->zp v u->Q v H'->CE outer P w H s Q u s':=
  λ{σ' H' v u} J rv q=>⟨v,H',J.os,J.bare,J.base,J.hok,rv,q⟩
 cases fl with
|ret u=>
  obtain⟨v,σ',H',J,rv,q⟩:=hs;exact fin J rv q
|next=>
  obtain⟨σ',H',J,q⟩:=hs;exact fin (v:=V.non) (u:=Value.none) J rfl q
|brk=>
  obtain⟨_,_,_,q⟩:=hs;exact False.elim q
|cont=>
  obtain⟨_,_,_,q⟩:=hs;exact False.elim q
section
variable {X:Cx}{x:Str}{p pos:Pos}{e:Expr}{es:List Expr}{t:TA}{id T:String}{r:List V->Hp->VK->Prop}
def tCB (r:List V->Hp->VK->Prop)(t:TA):TE:=λσ H Q=>t σ H λvs H1=>r vs H1 Q
theorem YS(hc:zB8 X (.builtin id) r)(hg:Gl X x)(hm:X.mg x=none)(hv:bootBuiltins x=some (.builtin id))(ha:PA X (e::es) t)(hn:x≠"__name__":=by decide)(hdb:(x==("__debug__" : Str))=false:=by decide)
  (he:starEach (e::es) X.env=(false,eval e X.env)::starEach es X.env:=by rfl)(hpl:(backTo pos (starEach es X.env)).any (·.1)=false:=by rfl):PE X (.Call (.Name x p) (e::es) [] pos) (tCB r t):=by
 intro pins s σ H Q I h;refine Vx (zAy I hg hm hv ?_ hn hdb);exact PyProof.Rows.callWith_builtin1 (zr (ha pos pins s σ H _ I h) λus s1 ⟨vs,H1,I1,r1,q1⟩=>hc pins s1 σ H1 vs us Q I1 r1 q1) he hpl
theorem zHJ(hc:zB8 X (.type T) r)(hg:Gl X x)(hm:X.mg x=none)(hv:bootBuiltins x=some (.type T))(ha:PA X (e::es) t)(hn:x≠"__name__":=by decide)(hdb:(x==("__debug__" : Str))=false:=by decide)
  (he:starEach (e::es) X.env=(false,eval e X.env)::starEach es X.env:=by rfl)(hpl:(backTo pos (starEach es X.env)).any (·.1)=false:=by rfl):PE X (.Call (.Name x p) (e::es) [] pos) (tCB r t):=by
 intro pins s σ H Q I h;refine Vx (zAy I hg hm hv ?_ hn hdb);exact Vh (zr (ha pos pins s σ H _ I h) λus s1 ⟨vs,H1,I1,r1,q1⟩=>hc pins s1 σ H1 vs us Q I1 r1 q1) he hpl
end
end L2
namespace HT
open PySem PyProof.Rows
theorem eqAt_int(A:Around)(s:Shared)(a:Int)(t:Tok)(c:Int)(u:Tok):∃ e,SeqAt.EqAt A s (.int a t) (.int c u) e/\(e=true↔a=c):=
 ⟨(a==c),SeqAt.EqAt.int_int a t c u,by simp⟩
section
variable {prog:Program}{w:World}{A:Around}{E:Qs}{s:Shared}
def sIx (n d:Nat):Option Int->Nat
|none=>d
|some v=>if v<0 then (v+(n:Int)).toNat else min v.toNat n
theorem sIx_none(n d:Nat):sIx n d none=d:=rfl
theorem sIx_nat(n d k:Nat):sIx n d (some (k:Int))=min k n:=by
 show (if (k:Int)<0 then ((k:Int)+(n:Int)).toNat else min (k:Int).toNat n)=min k n;rw[Wb (by lia),WS]
end
end HT
namespace L2
open PySem PySem.Spec PyProof.Rows
abbrev TO:=St->Hp->(Option Int->Hp->Prop)->Prop
def PO (X:Cx)(e:Option Expr)(t:TO):Prop:=
 ∀ (pins:Qp) (s:Shared) (σ:St) (H:Hp) (Q:Option Int->Hp->Prop),zK X pins σ H s->t σ H Q->
  wpAny (model X.prog X.w) X.A (evalPart e X.env) (λu s'=>∃ o H',zK X pins σ H' s'/\IsPart u o/\Q o H') X.xe s
def zOm:TO:=λ_ H Q=>Q none H
def zR6 (t:TE):TO:=λσ H Q=>t σ H λx H1=>∃ i,x=.int i/\Q (some i) H1
theorem zF0{ns:List Int}:∀ {us:List Value},zY (ns.map V.int) us->IntsAre us ns:=by
 induction ns with
|nil=>intro us r;rw[Xr] at r;cases r;exact .nil
|cons n ns ih=>
  intro us r;rw[Wo] at r;cases r with
 |cons r1 r2=>
   obtain⟨t,e⟩:=r1;subst e;exact .cons n t (ih r2)
section
variable {X:Cx}{e:Expr}{te:TE}{lo hi:Option Expr}{tl th:TO}{pos p2:Pos}
theorem zOn:PO X none zOm:=by
 intro pins s σ H Q I h;rw[evalPart_none];exact WI ⟨none,H,I,.none,h⟩
theorem zDM(h:PE X e te):PO X (some e) (zR6 te):=by
 intro pins s σ H Q I hw;rw[evalPart_some];refine zr (h pins s σ H _ I hw) λu s1 ⟨x,H1,I1,r1,q1⟩=>?_
 obtain⟨i,rfl,q⟩:=q1;obtain⟨t,rfl⟩:=r1;exact⟨some i,H1,I1,.int i t,q⟩
def SlR (X:Cx)(r:V->Option Int->Option Int->Hp->VK->Prop):Prop:=
 ∀ (pins:Qp) (s:Shared) (σ:St) (H:Hp) (x:V) (v vl vu:Value) (lo hi:Option Int) (sl:Addr) (Q:VK),zK X pins σ H s->zp x v->s.heap.IsSliceOf sl vl vu .none->IsPart vl lo->IsPart vu hi->r x lo hi H Q->
  ∃ T id,typeLookup (.type T) "__getitem__" = pure (some (.builtin id))/\s.TypeIs v T/\wpAny (model X.prog X.w) X.A (getItem v (.ref sl)) (EP X pins σ Q) X.xe s
def tSl (r:V->Option Int->Option Int->Hp->VK->Prop)(te:TE)(tl th:TO):TE:=λσ H Q=>te σ H λx H1=>tl σ H1 λl H2=>th σ H2 λu H3=>r x l u H3 Q
theorem zFV{r:V->Option Int->Option Int->Hp->VK->Prop}(hr:SlR X r)(he:PE X e te)(hl:PO X lo tl)(hu:PO X hi th):PE X (.Subscript e (.Slice lo hi none p2) pos) (tSl r te tl th):=by
 intro pins s σ H Q I h;refine Subscript_ (zr (he pins s σ H _ I h) λv s1 ⟨x,H1,I1,r1,q1⟩=>?_);refine wpAny_Slice (zr (hl pins s1 σ H1 _ I1 q1) λvl s2 ⟨l,H2,I2,pl,q2⟩=>zr (hu pins s2 σ H2 _ I2 q2) λvu s3 ⟨u,H3,I3,pu,q3⟩=>?_);rw[evalPart_none];refine WI ?_;have I4:zK X pins σ H3 {s3 with heap:=s3.heap.push {cls:=.type "slice",data:=.fields #[vl,vu,.none]}}:=I3.kept (t':=s3.toks) λb ob q=>Wf _ q
 obtain⟨T,id,hT,ht,hg⟩:=hr pins {s3 with heap:=s3.heap.push {cls:=.type "slice",data:=.fields #[vl,vu,.none]}} σ H3 x v vl vu l u s3.heap.objs.size Q I4 r1 (Heap.IsSliceOf.new ..) pl pu q3;show wpAny (model X.prog X.w) X.A (subscriptTail e (.Slice lo hi none p2) v (.ref s3.heap.objs.size)) (EP X pins σ Q) X.xe {s3 with heap:=s3.heap.push {cls:=.type "slice",data:=.fields #[vl,vu,.none]}};exact tail_any (ops:=[.ref s3.heap.objs.size,v]) ht hT hg (by with_unfolding_all rfl)
def zC0 (xs:List V)(lo hi:Option Int):List V:=(xs.drop (HT.sIx xs.length 0 lo)).take (HT.sIx xs.length xs.length hi-HT.sIx xs.length 0 lo)
theorem zJF(xs:List V)(lo hi:Option Int):(zC0 xs lo hi).length<=xs.length:=by
 unfold zC0;rw[WF,Xs]
 lia
end
def ixN (n:Nat)(i:Int):Option Nat:=if 0<=i then (if i<n then some i.toNat else none) else if -(n:Int)<=i then some (i+n).toNat else none
def atI {α:Type}(xs:List α)(i:Int):Option α:=(ixN xs.length i).bind λj=>xs[j]?
theorem zJY{n:Nat}{i:Int}{j:Nat}(h:ixN n i=some j):seqIndex? i n=some j/\j<n/\-(n:Int)<=i/\i<n:=by
 unfold ixN at h;by_cases h0:0<=i
 .rw[Wc h0] at h;by_cases h1:i<n
  .rw[Wc h1] at h;have e:i.toNat=j:=Wu h;exact⟨by rw[seqIndex_of h0 h1,e],by lia,by lia,h1⟩
  .rw[Wb h1] at h;cases h
 .rw[Wb h0] at h;by_cases h1 : -(n:Int)<=i
  .rw[Wc h1] at h;have e:(i+n).toNat=j:=Wu h;exact⟨by rw[seqIndex_neg (by lia) h1,e],by lia,h1,by lia⟩
  .rw[Wb h1] at h;cases h
theorem zJZ{α:Type}{xs:List α}{i:Int}{v:α}(h:atI xs i=some v):∃ j,seqIndex? i xs.length=some j/\xs[j]?=some v/\j<xs.length/\-(xs.length:Int)<=i/\i<xs.length:=by
 unfold atI at h;cases e:ixN xs.length i with
|none=>rw[e] at h;cases h
|some j=>
  rw[e] at h;obtain⟨h1,h2,h3,h4⟩:=zJY e;exact⟨j,h1,h,h2,h3,h4⟩
theorem zOo{α:Type}{xs:List α}{j:Nat}{v:α}(h:xs[j]?=some v):atI xs (j:Int)=some v:=by
 have hj:j<xs.length:=(yG h).1
 have e:ixN xs.length (j:Int)=some j:=by
  unfold ixN;rw[Wc (by lia),Wc (by lia)];simp
 unfold atI;rw[e];exact h
def zOp (b:Expr):Prop:=∀ o i,subscripted b false o i=operate [o,i] (getItem o i)
def IxR (X:Cx)(r:R2):Prop:=
 ∀ (value slice:Expr) (pins:Qp) (s:Shared) (σ:St) (H:Hp) (x y:V) (v u:Value) (Q:VK),zK X pins σ H s->zp x v->zp y u->r x y H Q->
  subscripted slice false v u=operate [v,u] (getItem v u)->wpAny (model X.prog X.w) X.A (subscriptTail value slice v u) (EP X pins σ Q) X.xe s
def MtR (X:Cx)(id:String)(r:V->List V->Hp->VK->Prop):Prop:=
 ∀ (pins:Qp) (s:Shared) (σ:St) (H:Hp) (x:V) (xs:List V) (v:Value) (us:List Value) (Q:VK),zK X pins σ H s->zp x v->zY xs us->r x xs H Q->
  wpAny (model X.prog X.w) X.A (call (.builtin id) (v::us)) (EP X pins σ Q) X.xe s
section
variable {X:Cx}{a b:Expr}{ta tb:TE}{pos:Pos}
theorem zh{r:R2}(hr:IxR X r)(ha:PE X a ta)(hb:PE X b tb)(hs:zOp b):PE X (.Subscript a b pos) (tOp r ta tb):=by
 intro pins s σ H Q I h;exact Subscript_ (zNB ha hb I h λv u s2 x y H2 I2 rx ry q=>hr a b pins s2 σ H2 x y v u Q I2 rx ry q (hs _ _))
def zQe (K:Qf):R2:=λx y H Q=>∃ p xs i v,x=.ref p/\y=.int i/\zN K H p xs/\atI xs i=some v/\Q v H
def zSo (K:Qf):R2:=λx y H Q=>∃ p xs i v,x=.ref p/\y=.int i/\yJ K H p xs/\atI xs i=some v/\Q v H
theorem zd:IxR X (zQe X.K):=by
 intro value slice pins s σ H x y v u Q I rx ry h hs;obtain⟨p,xs,i,z,rfl,rfl,hq,he,q⟩:=h;cases rx;obtain⟨t,rfl⟩:=ry;obtain⟨its,r,pl,hz⟩:=I.list hq;obtain⟨j,h1,h2,h3,h4,h5⟩:=zJZ he;obtain⟨w,ew,rw'⟩:=r.get h2;have hl:=r.length;have hn:=zFx;have fin:EP X pins σ Q w s:=⟨z,H,I,rw',q⟩
 by_cases h0:0<=i
 .have hj:i.toNat=j:=by
   rw[seqIndex_of h0 h5] at h1;exact Wu h1
  exact item_listR pl.isList h0 (by lia) (by rw[hj];simpa using ew) fin hs
 .have hj:(i+(its.toArray.size:Int)).toNat=j:=by
   rw[seqIndex_neg (by lia) h4] at h1;rw[Wk,<-hl];exact Wu h1
  exact subscriptTail_builtinR (x:=w) pl.isList.typeIs slot_list_getitem.lookup
   (wpAny_getItem_list_neg (Q:=λr s'=>r=w/\EP X pins σ Q r s') pl.isList (by lia) (by rw[Wk] <;> lia) (by lia) (by rw[hj];simpa using ew) ⟨rfl,fin⟩) hs
theorem zAz:IxR X (zSo X.K):=by
 intro value slice pins s σ H x y v u Q I rx ry h hs;obtain⟨p,xs,i,z,rfl,rfl,hq,he,q⟩:=h;cases rx;obtain⟨t,rfl⟩:=ry;obtain⟨its,r,pl,hz⟩:=I.tuple hq;obtain⟨j,h1,h2,h3,h4,h5⟩:=zJZ he;obtain⟨w,ew,rw'⟩:=r.get h2;have hl:=r.length;have hn:=zFx;have fin:EP X pins σ Q w s:=⟨z,H,I,rw',q⟩
 exact subscriptTail_builtinR (x:=w) pl.typeIs slot_tuple_getitem.lookup
  (getItem_tuple (j:=j) (Q:=λr s'=>r=w/\EP X pins σ Q r s') pl (by lia) (by lia) (by rw[Wk,<-hl];exact h1) (by simpa using ew) ⟨rfl,fin⟩) hs
theorem zKc(its:List Value)(n j:Nat)(u:Value):Obj.mapSeq (·.setIfInBounds j u) {cls:=.type "list",data:=.seq its.toArray n}={cls:=.type "list",data:=.seq (its.set j u).toArray n}:=by
 simp[Obj.mapSeq]
theorem zK.lst{pins:Qp}{σ:St}{H:Hp}{s:Shared}{p:Addr}{xs:List V}(I:zK X pins σ H s)(h:H p=some (.lst xs)) :
  ∃ (its:List Value) (n:Nat),zY xs its/\s.heap.get? p=some {cls:=.type "list",data:=.seq its.toArray n}/\xs.length<=sizeLine:=by
 obtain⟨z,its,n,r,e⟩:=I.hok p _ h;exact⟨its,n,r,e,z⟩
theorem zK.lstUpd{pins:Qp}{σ:St}{H:Hp}{s:Shared}{p:Addr}{xs ys:List V}{its its':List Value}{n n':Nat}{f:Obj->Obj}(I:zK X pins σ H s)(h:H p=some (.lst xs))
  (ho:s.heap.get? p=some {cls:=.type "list",data:=.seq its.toArray n})(hf:f {cls:=.type "list",data:=.seq its.toArray n}={cls:=.type "list",data:=.seq its'.toArray n'})(r:zY ys its')(hz:ys.length<=sizeLine)(t:Nat) :
  zK X pins σ (upd H p (.lst ys)) {s with heap:=s.heap.update p f,toks:=t}:=by
 have e:(s.heap.update p f).get? p=some {cls:=.type "list",data:=.seq its'.toArray n'}:=by
  rw[UK f ho (by rw[hf] <;> rfl),hf]
 refine I.write (x:=p) (e:=p) (by rw[h];trivial) (.inl rfl) (λb u hb q=>(UE _ _ (Ne.symm hb)).trans q) ⟨_,e⟩ ?_;exact⟨hz,its',n',r,e⟩
def zR7:V->V->V->Hp->(Hp->Prop)->Prop:=λo i v H Q=>∃ p xs k j,o=.ref p/\i=.int k/\H p=some (.lst xs)/\ixN xs.length k=some j/\Q (upd H p (.lst (xs.set j v)))
theorem zH6:zQV X zR7:=by
 intro pins s σ H o i v ov iv u Q I ro ri rv h;obtain⟨p,xs,k,j,rfl,rfl,hp,hj,q⟩:=h;cases ro;obtain⟨t,rfl⟩:=ri;obtain⟨its,n,r,ho,hz⟩:=I.lst hp;obtain⟨h1,h2,h3,h4⟩:=zJY hj;have hl:=r.length;have hn:=zFx
 have I':zK X pins σ (upd H p (.lst (xs.set j v))) {s with heap:=s.heap.update p (Obj.mapSeq (·.setIfInBounds j u))}:=
  I.lstUpd hp ho (zKc its n j u) (r.set rv j) (by rw[VR];exact hz) s.toks
 by_cases h0:0<=k
 .have hk:k.toNat=j:=by
   rw[seqIndex_of h0 h4] at h1;exact Wu h1
  exact PySem.W.ki_setAt ho h0 (by lia) (by rw[Wk,<-hl];exact h4) (by rw[hk];exact⟨_,I',q⟩)
 .have hk:(k+(its.toArray.size:Int)).toNat=j:=by
   rw[seqIndex_neg (by lia) h3] at h1;rw[Wk,<-hl];exact Wu h1
  exact PySem.W.ki_setBack ho (by lia) (by rw[Wk,<-hl];exact h3) (by lia) (by rw[hk];exact⟨_,I',q⟩)
theorem zH7(lo hi:Option Int)(n:Nat):(sliceBounds lo hi none n).1=((HT.sIx n 0 lo:Nat):Int)/\(sliceBounds lo hi none n).2.1=((HT.sIx n n hi:Nat):Int)/\(sliceBounds lo hi none n).2.2=1:=by
 refine⟨?_,?_,rfl⟩
 .cases lo with
 |none=>simp[sliceBounds,HT.sIx]
 |some i=>
   simp only[sliceBounds,HT.sIx,Option.getD_none,show (1:Int)>0 by decide,UO];by_cases h:i<0
   .simp only[h,UO] <;> lia
   .simp only[h,Uq] <;> lia
 .cases hi with
 |none=>simp[sliceBounds,HT.sIx]
 |some i=>
   simp only[sliceBounds,HT.sIx,Option.getD_none,show (1:Int)>0 by decide,UO];by_cases h:i<0
   .simp only[h,UO] <;> lia
   .simp only[h,Uq] <;> lia
theorem zHm(its:List Value)(lo hi:Option Int):slicePick its.toArray lo hi none=((its.drop (HT.sIx its.length 0 lo)).take (HT.sIx its.length its.length hi-HT.sIx its.length 0 lo)).toArray:=by
 obtain⟨h1,h2,h3⟩:=zH7 lo hi its.toArray.size;unfold slicePick;rw[h1,h2,h3];simp only[sliceRange_one,pick_run,Wk] <;> rfl
def zSp (K:Qf):V->Option Int->Option Int->Hp->VK->Prop:=λx lo hi H Q=>∃ a xs,x=.ref a/\zN K H a xs/\∀ p,H p=none->Q (.ref p) (upd H p (.lst (zC0 xs lo hi)))
theorem zGh:SlR X (zSp X.K):=by
 intro pins s σ H x v vl vu lo hi sl Q I rx hs pl pu h;obtain⟨a,xs,rfl,hx,q⟩:=h;cases rx;obtain⟨its,r,ht,hz⟩:=I.list hx;have hlen:=r.length;refine⟨"list",_,slot_list_getitem.lookup,ht.isList.typeIs,?_⟩;refine wpAny_getItem_list_slice ht.isList hs pl pu .none (by simp) ?_ (by rw[Wk] <;> lia);rw[zHm,<-hlen];refine⟨.ref s.heap.objs.size,_,I.laid (t':=s.toks) (o:=.lst (zC0 xs lo hi)) (λb ob q=>Wf _ q) (We _) ?_,rfl,q _ (I.hok.fresh (We _))⟩;exact⟨WT (zJF xs lo hi) hz,_,0,(r.drop (HT.sIx xs.length 0 lo)).take (HT.sIx xs.length xs.length hi-HT.sIx xs.length 0 lo),Wz _ rfl⟩
def zBY:V->Bool
|.non=>true
|.bl _=>true
|.int _=>true
|.str _=>true
|_=>false
def eqV:V->V->Bool
|.non,.non=>true
|.bl a,.bl b=>a==b
|.bl a,.int b=>(if a then 1 else 0)==b
|.int a,.bl b=>a==(if b then 1 else 0)
|.int a,.int b=>a==b
|.str a,.str b=>a==b
|_,_=>false
theorem zQf{A:Around}{s:Shared}{y x:V}{u v:Value}(ry:zp y u)(rx:zp x v)(fy:zBY y=true)(fx:zBY x=true):SeqAt.EqAt A s u v (eqV y x):=by
 cases y with
|non=>
  cases ry;cases x with
 |non=>cases rx;exact SeqAt.EqAt.same _
 |bl b=>cases rx;exact SeqAt.EqAt.none_bool b
 |int b=>obtain⟨t,rfl⟩:=rx;exact SeqAt.EqAt.none_int b t
 |str b=>obtain⟨t,rfl⟩:=rx;exact SeqAt.EqAt.none_str b t
 |_=>exact absurd (show false=true from fx) Wr
|bl a=>
  cases ry;cases x with
 |non=>cases rx;exact SeqAt.EqAt.bool_none a
 |bl b=>cases rx;exact SeqAt.EqAt.bool_bool a b
 |int b=>obtain⟨t,rfl⟩:=rx;exact SeqAt.EqAt.bool_int a b t
 |str b=>obtain⟨t,rfl⟩:=rx;exact SeqAt.EqAt.bool_str a b t
 |_=>exact absurd (show false=true from fx) Wr
|int a=>
  obtain⟨t',rfl⟩:=ry;cases x with
 |non=>cases rx;exact SeqAt.EqAt.int_none a t'
 |bl b=>cases rx;exact SeqAt.EqAt.int_bool a t' b
 |int b=>obtain⟨t,rfl⟩:=rx;exact SeqAt.EqAt.int_int a t' b t
 |str b=>obtain⟨t,rfl⟩:=rx;exact SeqAt.EqAt.int_str a t' b t
 |_=>exact absurd (show false=true from fx) Wr
|str a=>
  obtain⟨t',rfl⟩:=ry;cases x with
 |non=>cases rx;exact SeqAt.EqAt.str_none a t'
 |bl b=>cases rx;exact SeqAt.EqAt.str_bool a t' b
 |int b=>obtain⟨t,rfl⟩:=rx;exact SeqAt.EqAt.str_int a t' b t
 |str b=>obtain⟨t,rfl⟩:=rx;exact SeqAt.EqAt.str_str a t' b t
 |_=>exact absurd (show false=true from fx) Wr
|_=>exact absurd (show false=true from fy) Wr
def eqU (x:V)(u:Value):Bool:=match u with
|.none=>eqV .non x
|.bool b=>eqV (.bl b) x
|.int i _=>eqV (.int i) x
|.str z _=>eqV (.str z) x
|_=>false
theorem zLu{x y:V}{u:Value}(r:zp y u)(f:zBY y=true):eqU x u=eqV y x:=by
 cases y with
|non=>cases r;rfl
|bl b=>cases r;rfl
|int i=>obtain⟨t,rfl⟩:=r;rfl
|str z=>obtain⟨t,rfl⟩:=r;rfl
|_=>exact absurd (show false=true from f) Wr
theorem zDN{x:V}:∀ {xs:List V}{us:List Value},zY xs us->xs.all zBY=true->us.any (eqU x)=xs.any λy=>eqV y x
|_,_,.nil,_=>rfl
|y::xs,u::us,.cons r t,f=>by
  rw[Xx,y9] at f;rw[Xi,Xi,zLu r f.1,zDN t f.2]
theorem zCK{A:Around}{s:Shared}{x:V}{v:Value}(rx:zp x v)(fx:zBY x=true):∀ {xs:List V}{us:List Value},zY xs us->xs.all zBY=true->∀ u∈us,SeqAt.EqAt A s u v (eqU x u)
|_,_,.nil,_=>λu hu=>by cases hu
|y::xs,u::us,.cons r t,f=>λu' hu=>by
  rw[Xx,y9] at f;rcases Wd.mp hu with rfl|hu
  .rw[zLu r f.1];exact zQf r rx f.1 fx
  .exact zCK rx fx t f.2 u' hu
def inV (x:V)(xs:List V):Bool:=xs.any λy=>eqV y x
def rIn (K:Qf)(neg:Bool):R2:=λx y H Q=>∃ p xs,y=.ref p/\(zN K H p xs\/yJ K H p xs)/\zBY x=true/\xs.all zBY=true/\Q (.bl (if neg then !inV x xs else inV x xs)) H
theorem zLv:Y5 X (compareOp .In) (rIn X.K false):=by
 intro pins s σ H x y v u Q I rx ry h;obtain⟨p,xs,rfl,hq,fx,fs,q⟩:=h;cases ry;rcases hq with hq|hq
 .obtain⟨its,r,pl,hz⟩:=I.list hq;refine SeqAt.in_listAt (eqU x) pl.isList (λw hw=>zCK rx fx r fs w (by simpa using hw)) ⟨.bl _,H,I,rfl,?_⟩;rw[show its.toArray.any (eqU x)=its.any (eqU x) by simp,zDN r fs];exact q
 .obtain⟨its,r,pl,hz⟩:=I.tuple hq;refine SeqAt.in_tupleAt (eqU x) pl (λw hw=>zCK rx fx r fs w (by simpa using hw)) ⟨.bl _,H,I,rfl,?_⟩;rw[show its.toArray.any (eqU x)=its.any (eqU x) by simp,zDN r fs];exact q
theorem zH8:Y5 X (compareOp .NotIn) (rIn X.K true):=by
 intro pins s σ H x y v u Q I rx ry h;obtain⟨p,xs,rfl,hq,fx,fs,q⟩:=h;cases ry;rcases hq with hq|hq
 .obtain⟨its,r,pl,hz⟩:=I.list hq;refine SeqAt.notIn_listAt (eqU x) pl.isList (λw hw=>zCK rx fx r fs w (by simpa using hw)) ⟨.bl _,H,I,rfl,?_⟩;rw[show its.toArray.any (eqU x)=its.any (eqU x) by simp,zDN r fs];exact q
 .obtain⟨its,r,pl,hz⟩:=I.tuple hq;refine SeqAt.notIn_tupleAt (eqU x) pl (λw hw=>zCK rx fx r fs w (by simpa using hw)) ⟨.bl _,H,I,rfl,?_⟩;rw[show its.toArray.any (eqU x)=its.any (eqU x) by simp,zDN r fs];exact q
theorem zH9:zB8 X (.builtin "len") (λxs H Q=>∃ p ys,xs=[.ref p]/\(zN X.K H p ys\/yJ X.K H p ys)/\Q (.int ys.length) H):=by
 intro pins s σ H xs us Q I r h;obtain⟨p,ys,rfl,hq,q⟩:=h;obtain⟨u,rfl,rx⟩:=zKX r;cases rx;have hn:=zFx;rcases hq with hq|hq
 .obtain⟨its,r',pl,hz⟩:=I.list hq;have hlen:=r'.length;exact Calls.call_len_list pl.isList (by simp only[Wk] <;> lia) ⟨.int ys.length,H,I.tok _,⟨s.toks+1,by rw[Wk,hlen]⟩,q⟩
 .obtain⟨its,r',pl,hz⟩:=I.tuple hq;have hlen:=r'.length;exact len_tuple pl (by simp only[Wk] <;> lia) ⟨.int ys.length,H,I.tok _,⟨s.toks+1,by rw[Wk,hlen]⟩,q⟩
theorem zHn:zB8 X (.type "tuple") (λxs H Q=>∃ p ys,xs=[.ref p]/\((zN X.K H p ys/\∀ l,H l=none->Q (.ref l) (upd H l (.tup ys)))\/(yJ X.K H p ys/\Q (.ref p) H))):=by
 intro pins s σ H xs us Q I r h;obtain⟨p,ys,rfl,h⟩:=h;obtain⟨u,rfl,rx⟩:=zKX r;cases rx;rcases h with ⟨hq,q⟩|⟨hq,q⟩
 .obtain⟨its,r',pl,hz⟩:=I.list hq;have hlen:=r'.length;refine call_tuple_list pl.isList (λh' kp=>?_) (by simp only[Wk] <;> lia);have I1:zK X pins σ H {s with heap:=h'}:=I.kept (t':=s.toks) kp
  have I2:zK X pins σ (upd H h'.objs.size (.tup ys)) {s with heap:=h'.push {cls:=.type "tuple",data:=.seq its.toArray}}:=
   I1.laid (t':=s.toks) (λb o e=>Wf _ e) (We _) (show yT X.prog X.w _ _ _ (.tup ys) from ⟨hz,its,r',IsTup.new _ _⟩)
  exact⟨.ref h'.objs.size,_,I2,rfl,q _ (I1.hok.fresh (We _))⟩
 .obtain⟨its,r',pl,hz⟩:=I.tuple hq;exact call_tuple_same pl ⟨.ref p,H,I,rfl,q⟩
def tyV (K:Qf)(T:String)(x:V)(H:Hp):Prop:=match x with
|.str _=>T = "str"
|.int _=>T = "int"
|.ref p=>(T = "list"/\∃ xs,zN K H p xs)\/(T = "tuple"/\∃ o,K.lookup p=some o/\o.cls=.type "tuple"/\o.dict=none)\/
   (T = "dict"/\((∃ kvs,H p=some (.dK kvs))\/∃ kvs,H p=some (.dT kvs)))\/(T = "set"/\∃ S n,H p=some (.set S n))
|_=>False
theorem zLw{pins:Qp}{σ:St}{H:Hp}{s:Shared}{T:String}{x:V}{v:Value}(I:zK X pins σ H s)(r:zp x v)(ty:tyV X.K T x H) :
  s.TypeIs v T/\∀ a,v=.ref a->∃ ob,s.heap.get? a=some ob/\ob.dict=none:=by
 cases x with
|str z=>
  obtain⟨t,rfl⟩:=r;cases (show T = "str" from ty);exact⟨typeIs_str s z t,λ_ e=>nomatch e⟩
|int i=>
  obtain⟨t,rfl⟩:=r;cases (show T = "int" from ty);exact⟨typeIs_int s i t,λ_ e=>nomatch e⟩
|ref p=>
  cases r;rcases ty with ⟨rfl,xs,hq⟩|⟨rfl,o,hk,hc,hd⟩|⟨rfl,hk⟩|⟨rfl,S,n,hk⟩
  .obtain⟨its,_,pl,_⟩:=I.list hq;refine⟨pl.isList.typeIs,λa e=>?_⟩;cases e;obtain⟨o,n,e,c,hd,_⟩:=pl;exact⟨o,e,hd⟩
  .refine⟨⟨o,I.kIn p o hk,hc⟩,λa e=>?_⟩;cases e;exact⟨o,I.kIn _ o hk,hd⟩
  .have z:∃ o,s.heap.get? p=some o/\o.ExactDict:=by
    rcases hk with ⟨kvs,hk⟩|⟨kvs,hk⟩
    .obtain⟨_,_,_,_,o,_,_,e,ex,_⟩:=I.hok p _ hk;exact⟨o,e,ex⟩
    .obtain⟨_,_,_,_,o,_,_,e,ex,_⟩:=I.hok p _ hk;exact⟨o,e,ex⟩
   obtain⟨o,e,ex⟩:=z;refine⟨⟨o,e,ex.1⟩,λa e2=>?_⟩;cases e2;exact⟨o,e,ex.2.1⟩
  .obtain⟨o,_,_,_,e,ex,_⟩:=I.hok p _ hk;refine⟨⟨o,e,ex.1⟩,λa e2=>?_⟩;cases e2;exact⟨o,e,ex.2.1⟩
|_=>exact False.elim ty
def zSq (K:Qf)(T:String)(r:V->List V->Hp->VK->Prop)(to:TE):TE:=λσ H Q=>to σ H λx H1=>tyV K T x H1/\r x [] H1 Q
def tBM (K:Qf)(T:String)(r:V->List V->Hp->VK->Prop)(to:TE)(t:TA):TE:=λσ H Q=>to σ H λx H1=>tyV K T x H1/\t σ H1 λxs H2=>r x xs H2 Q
variable {o e:Expr}{es:List Expr}{to:TE}{t:TA}{name:Str}{apos cpos:Pos}{T id:String}{r:V->List V->Hp->VK->Prop}
theorem zQg(pa:PlainAttrs T)(slot:Slot T name id)(hty:typeOf (.builtin id)=pure (.type "method_descriptor"))(hm:MtR X id r)(ho:PE X o to)
  (hbase:attributeBase o name X.env (eval o X.env)=eval o X.env:=by rfl)(hline:(apos.endLine==cpos.line)=true:=by rfl):PE X (.Call (.Attribute o name apos) [] [] cpos) (zSq X.K T r to):=by
 intro pins s σ H Q I h;refine wpAny_Call_method0_late hbase hline (zr (ho pins s σ H _ I h) λv s1 ⟨x,H1,I1,r1,ty,q1⟩=>?_);obtain⟨h1,h2⟩:=zLw I1 r1 ty;exact⟨T,id,pa,slot,hty,h1,h2,Calls.callWith_builtin rfl (PySem.evalArgs_none (hm pins s1 σ H1 x [] v [] Q I1 r1 .nil q1))⟩
theorem YK(pa:PlainAttrs T)(slot:Slot T name id)(hty:typeOf (.builtin id)=pure (.type "method_descriptor"))(hm:MtR X id r)(ho:PE X o to)(ha:PA X (e::es) t)
  (hbase:attributeBase o name X.env (eval o X.env)=eval o X.env:=by rfl)
  (hfew:((backTo cpos (starEach (e::es) X.env)).all (λx=>!x.1)&&(backToKw cpos (keywordEach [] X.env)).all (λx=>x.1.isSome)
   && decide ((e::es).length+([]:List Keyword).length+(if ([]:List Keyword).isEmpty then 0 else 1)<30))=true:=by rfl)
  (hline:(apos.endLine==cpos.line)=true:=by rfl)(hs:starEach (e::es) X.env=(false,eval e X.env)::starEach es X.env:=by rfl)(hplain:(backTo cpos (starEach es X.env)).any (·.1)=false:=by rfl) :
  PE X (.Call (.Attribute o name apos) (e::es) [] cpos) (tBM X.K T r to t):=by
 intro pins s σ H Q I h;refine wpAny_Call_method_late hbase hfew hline rfl (zr (ho pins s σ H _ I h) λv s1 ⟨x,H1,I1,r1,ty,q1⟩=>?_);obtain⟨h1,h2⟩:=zLw I1 r1 ty;refine⟨T,id,pa,slot,hty,h1,h2,?_⟩;have hA:=ha cpos pins s1 σ H1 _ I1 q1;rw[hs] at hA ⊢;refine Calls.callWith_builtin (by show (false||(backTo cpos (starEach es X.env)).any (·.1))=false;rw[hplain] <;> rfl) (Calls.evalArgs_plain ?_);exact zr hA λus s2 ⟨vs,H2,I2,r2,q2⟩=>hm pins s2 σ H2 x vs v us Q I2 r1 r2 q2
end
def MtM (X:Cx)(id:String)(r:V->List V->Hp->VK->Prop):Prop:=
 ∀ (pins:Qp) (s:Shared) (σ:St) (H:Hp) (x:V) (xs:List V) (v:Value) (us:List Value) (Q:VK),zK X pins σ H s->zp x v->zY xs us->r x xs H Q->
  wpAny (model X.prog X.w) X.A (call (.builtin id) (v::us)) (EP X pins σ Q) X.xe s
theorem zY.one:∀ {x:V}{us:List Value},zY [x] us->∃ u,us=[u]/\zp x u
|_,_,.cons r .nil=>⟨_,rfl,r⟩
theorem zY.zero:∀ {us:List Value},zY [] us->us=[]
|_,.nil=>rfl
theorem zY.dropLast{xs:List V}{us:List Value}(h:zY xs us):zY xs.dropLast us.dropLast:=by
 induction h with
|nil=>exact .nil
|cons r t ih=>
  cases t with
 |nil=>exact .nil
 |cons q t'=>exact .cons r ih
theorem zKd{α:Type}(l:List α):l.eraseIdx (l.length-1)=l.dropLast:=by
 induction l with
|nil=>rfl
|cons a r ih=>
  cases r with
 |nil=>rfl
 |cons b r=>
   have e:(a::b::r).length-1=((b::r).length-1)+1:=by
    have h1:(a::b::r).length=r.length+2:=rfl;have h2:(b::r).length=r.length+1:=rfl
    lia
   rw[e,List.eraseIdx_cons_succ,ih]
   all_goals rfl
section
variable {X:Cx}{pins:Qp}{σ:St}{H:Hp}{s:Shared}{l b:Addr}{xs ys zs:List V}
theorem zK.lset{its its':List Value}{n:Nat}{f:Array Value->Array Value}{t':Nat}(I:zK X pins σ H s)(hH:H l=some (.lst xs))
  (e:s.heap.get? l=some {cls:=.type "list",data:=.seq its.toArray n})(hf:f its.toArray=its'.toArray)(hv:zY ys its')(hz:ys.length<=sizeLine) :
  zK X pins σ (upd H l (.lst ys)) {s with heap:=s.heap.update l (Obj.mapSeq f),toks:=t'}:=by
 have q:=PySem.IsL.update e f;rw[hf] at q;refine I.write (x:=l) (e:=l) (by rw[hH];exact trivial) (.inl rfl) (λb' u hb hu=>(UE s.heap (Obj.mapSeq f) (Ne.symm hb)).trans hu) ⟨_,q⟩ ?_;exact⟨hz,its',_,hv,q⟩
theorem zK.lnew{its:List Value}{t':Nat}(I:zK X pins σ H s)(hv:zY ys its)(hz:ys.length<=sizeLine) :
  zK X pins σ (upd H s.heap.objs.size (.lst ys)) {s with heap:=s.heap.push {cls:=.type "list",data:=.seq its.toArray},toks:=t'}:=
 I.laid (λ_ _ q=>Wf _ q) (We _) ⟨hz,its,0,hv,Wz _ rfl⟩
theorem zK.fresh(I:zK X pins σ H s):H s.heap.objs.size=none:=I.hok.fresh (We _)
theorem zK.lstM(I:zK X pins σ H s)(hH:H l=some (.lst xs)):xs.length<=sizeLine/\∃ (its:List Value) (n:Nat),zY xs its/\xs.length=its.length/\s.heap.get? l=some {cls:=.type "list",data:=.seq its.toArray n}:=by
 obtain⟨z,its,n,r,e⟩:=I.hok l _ hH;exact⟨z,its,n,r,r.length,e⟩
theorem zNE{n:Nat}(h:n<=sizeLine):Builtin.List.listTooLong n=false:=by
 unfold Builtin.List.listTooLong;exact WH (by lia)
end
section
variable {X:Cx}
def zOq:V->List V->Hp->VK->Prop:=λx vs H Q=>∃ l xs y,x=.ref l/\vs=[y]/\H l=some (.lst xs)/\xs.length<sizeLine/\Q .non (upd H l (.lst (xs++[y])))
theorem ZE:MtM X "list.append" zOq:=by
 intro pins s σ H x vs v us Q I rx rv h;obtain⟨l,xs,y,rfl,rfl,hH,hz,q⟩:=h;cases rx;obtain⟨u,rfl,ru⟩:=rv.one;obtain⟨z,its,n,r,hl,e⟩:=I.lstM hH;refine Jl F.slot_list_append ⟨_,e,rfl⟩ F.entry_list_append (F.args_list_append_2 _ _) (PySem.list_append l its.toArray n u (by rw[Wk];lia)) ⟨e,?_⟩;refine⟨.non,_,I.lset (its':=its++[u]) hH e (by simp) (r.append (.cons ru .nil)) ?_,rfl,q⟩;rw[Wi,W6]
 lia
def zOr:V->List V->Hp->VK->Prop:=λx vs H Q=>∃ l b xs zs,x=.ref l/\vs=[.ref b]/\H l=some (.lst xs)/\H b=some (.lst zs)/\xs.length+zs.length<=sizeLine/\Q .non (upd H l (.lst (xs++zs)))
theorem zHK:MtM X "list.extend" zOr:=by
 intro pins s σ H x vs v us Q I rx rv h;obtain⟨l,b,xs,zs,rfl,rfl,hH,hB,hz,q⟩:=h;cases rx;obtain⟨u,rfl,ru⟩:=rv.one;cases ru;obtain⟨z,its,n,r,hl,e⟩:=I.lstM hH;obtain⟨z2,its2,n2,r2,hl2,e2⟩:=I.lstM hB;have hsz:its.toArray.size+its2.toArray.size<=sizeLine:=by rw[Wk,Wk];lia
 have hlong:¬ (!its.toArray.isEmpty&&Builtin.List.listTooLong (its.toArray.size+its2.toArray.size))=true:=by
  rw[zNE hsz,Xo];exact Wr
 refine Jl F.slot_list_extend ⟨_,e,rfl⟩ F.entry_list_extend (F.args_list_extend_2 _ _)
  (AutoSeq1.list_extend_list_list_0 l its.toArray n b its2.toArray n2 hlong (by rw[Wk];lia) (by lia)) ⟨e,e2,?_⟩
 refine⟨.non,_,I.lset (its':=its++its2) hH e (by simp) (r.append r2) ?_,rfl,q⟩;rw[Wi]
 lia
def zSr:V->List V->Hp->VK->Prop:=λx vs H Q=>∃ l xs y,x=.ref l/\vs=[]/\H l=some (.lst xs)/\xs[xs.length-1]?=some y/\Q y (upd H l (.lst xs.dropLast))
theorem zQh:MtM X "list.pop" zSr:=by
 intro pins s σ H x vs v us Q I rx rv h;obtain⟨l,xs,y,rfl,rfl,hH,hy,q⟩:=h;cases rx;have hus:=rv.zero;subst hus;obtain⟨z,its,n,r,hl,e⟩:=I.lstM hH;obtain⟨u,hu,ru⟩:=r.get hy
 have hy':its.toArray[its.toArray.size-1]?=some u:=by
  show its.toArray[its.length-1]?=some u;rw[<-Array.getElem?_toList,<-hl];exact hu
 refine Jl F.slot_list_pop ⟨_,e,rfl⟩ F.entry_list_pop (F.args_list_pop_1 _) (MeetsSeq.list_pop_last l its.toArray n u hy' (by rw[Wk];lia)) ⟨e,?_⟩;refine⟨y,_,I.lset (its':=its.dropLast) hH e ?_ r.dropLast ?_,ru,q⟩
 .show its.toArray.eraseIdxIfInBounds (its.toArray.size-1)=its.dropLast.toArray;rw[Wk,List.eraseIdxIfInBounds_toArray,zKd]
 .rw[List.length_dropLast]
  lia
def zSs:R2:=λx y H Q=>∃ l b xs zs,x=.ref l/\y=.ref b/\H l=some (.lst xs)/\H b=some (.lst zs)/\xs.length+zs.length<=sizeLine/\∀ p,H p=none->Q (.ref p) (upd H p (.lst (xs++zs)))
theorem zQi:Y5 X (binaryOp .Add) zSs:=by
 intro pins s σ H x y v u Q I rx ry h;obtain⟨l,b,xs,zs,rfl,rfl,hH,hB,hz,q⟩:=h;cases rx;cases ry;obtain⟨z,its,n,r,hl,e⟩:=I.lstM hH;obtain⟨z2,its2,n2,r2,hl2,e2⟩:=I.lstM hB;refine PySem.P.add_list e e2 ?_ (by rw[Wk,Wk];lia);have ea:its.toArray++its2.toArray=(its++its2).toArray:=by simp
 rw[ea];exact⟨.ref _,_,I.lnew (t':=s.toks) (r.append r2) (by rw[Wi];lia),rfl,q _ I.fresh⟩
end
theorem zY.ints:∀ {ns:List Int}{us:List Value},zY (ns.map V.int) us->IntsAre us ns
|[],us,h=>by
  rw[Xr] at h;cases h;exact IntsAre.nil
|n::ns,us,h=>by
  rw[Wo] at h;cases h with
 |cons r t=>
   obtain⟨k,rfl⟩:=r;exact IntsAre.cons n k (zY.ints t)
theorem zY.ref1{a:Addr}{us:List Value}(r:zY [V.ref a] us):us=[Value.ref a]:=by
 cases r with
|cons r t=>
  cases t;cases r;rfl
section
variable {prog:Program}{w:World}{A:Around}{E:Qs}{s:Shared}{l:Addr}{its:List Value}{ns:List Int}{Q:Qs}
theorem zOs(hh:A.handled=none)(hl:s.heap.IsList l its.toArray)(hi:IntsAre its ns)(hne:0<ns.length)
  (h:∀ h' tk M t',(∀ b o,s.heap.get? b=some o->h'.get? b=some o)->M∈ns->(∀ a,a∈ns->a<=M)->Q (.int M t') {s with heap:=h',toks:=tk}):wpAny (model prog w) A (call (.builtin "max") [.ref l]) Q E s:=by
 obtain⟨xs,e⟩:=hi.allInts.items;have hn:numsOf (intItems xs).toList=ns:=by rw[<-e];exact hi.numsOf
 rw[nums_intItems] at hn;subst hn;rw[e] at hl;have hsz:0<xs.size:=by simpa using hne
 refine PySem.max_intList hh hl hsz λv h' tk hv hk=>?_
 obtain⟨t,rfl⟩:=intItems_at hv;obtain⟨h1,h2⟩:=argBest_gt (numAt xs) (xs.size-1);refine h h' tk _ t hk ?_ λa ha=>?_
 .rw[VC];exact PySem.getD_mem (by rw[zX,Vo];lia)
 .obtain⟨j,hj,rfl⟩:=mem_getD ha;rw[zX,Vo] at hj;rw[<-VC];exact h2 j (by lia)
theorem zOt(hh:A.handled=none)(hl:s.heap.IsList l its.toArray)(hi:IntsAre its ns)(hne:0<ns.length)
  (h:∀ h' tk M t',(∀ b o,s.heap.get? b=some o->h'.get? b=some o)->M∈ns->(∀ a,a∈ns->M<=a)->Q (.int M t') {s with heap:=h',toks:=tk}):wpAny (model prog w) A (call (.builtin "min") [.ref l]) Q E s:=by
 obtain⟨xs,e⟩:=hi.allInts.items;have hn:numsOf (intItems xs).toList=ns:=by rw[<-e];exact hi.numsOf
 rw[nums_intItems] at hn;subst hn;rw[e] at hl;have hsz:0<xs.size:=by simpa using hne
 refine PySem.min_intList hh hl hsz λv h' tk hv hk=>?_
 obtain⟨t,rfl⟩:=intItems_at hv;obtain⟨h1,h2⟩:=argBest_lt (numAt xs) (xs.size-1);refine h h' tk _ t hk ?_ λa ha=>?_
 .rw[VC];exact PySem.getD_mem (by rw[zX,Vo];lia)
 .obtain⟨j,hj,rfl⟩:=mem_getD ha;rw[zX,Vo] at hj;rw[<-VC];exact h2 j (by lia)
end
section
variable {X:Cx}
def zSt (K:Qf):List V->Hp->VK->Prop:=λvs H Q=>∃ (a:Addr) (ns:List Int),vs=[V.ref a]/\zN K H a (ns.map V.int)/\0<ns.length/\∀ m,m∈ns->(∀ y,y∈ns->y<=m)->Q (.int m) H
def zSu (K:Qf):List V->Hp->VK->Prop:=λvs H Q=>∃ (a:Addr) (ns:List Int),vs=[V.ref a]/\zN K H a (ns.map V.int)/\0<ns.length/\∀ m,m∈ns->(∀ y,y∈ns->m<=y)->Q (.int m) H
theorem zIA(hc:X.calm=true):zB8 X (.builtin "max") (zSt X.K):=by
 intro pins s σ H vs us Q I r h;obtain⟨a,ns,rfl,hs,hne,q⟩:=h;obtain⟨its,rv,hl,_⟩:=I.list hs;rw[zY.ref1 r];exact zOs (I.ok.hd hc) hl.isList rv.ints hne λh' tk m t' hk h1 h2=>⟨.int _,H,I.kept hk,⟨_,rfl⟩,q m h1 h2⟩
theorem zLx(hc:X.calm=true):zB8 X (.builtin "min") (zSu X.K):=by
 intro pins s σ H vs us Q I r h;obtain⟨a,ns,rfl,hs,hne,q⟩:=h;obtain⟨its,rv,hl,_⟩:=I.list hs;rw[zY.ref1 r];exact zOt (I.ok.hd hc) hl.isList rv.ints hne λh' tk m t' hk h1 h2=>⟨.int _,H,I.kept hk,⟨_,rfl⟩,q m h1 h2⟩
end
mutual
inductive Dp(K:Qf)(H:Hp):V->PyData->Prop
|non:Dp K H .non .none
|bl (b:Bool):Dp K H (.bl b) (.bool b)
|int (i:Int):Dp K H (.int i) (.int i)
|str (x:Str):Dp K H (.str x) (.str x)
|lst {a:Addr}{xs:List V}{ds:List PyData}:zN K H a xs->zB9 K H xs ds->Dp K H (.ref a) (.list ds)
|tup {a:Addr}{xs:List V}{ds:List PyData}:yJ K H a xs->zB9 K H xs ds->Dp K H (.ref a) (.tuple ds)
inductive zB9(K:Qf)(H:Hp):List V->List PyData->Prop
|nil:zB9 K H [] []
|cons {v:V}{vs:List V}{d:PyData}{ds:List PyData}:Dp K H v d->zB9 K H vs ds->zB9 K H (v::vs) (d::ds)
end
section
variable {X:Cx}{pins:Qp}{σ:St}{H:Hp}{s:Shared}
mutual
theorem Dp.reads(I:zK X pins σ H s):∀ (d:PyData) (v:V) (u:Value),Dp X.K H v d->zp v u->∃ as,Reads s.heap u d as
|.none,_,_,h,r=>by
  cases h;cases r;exact⟨_,Reads.none⟩
|.bool b,_,_,h,r=>by
  cases h;cases r;exact⟨_,Reads.bool b⟩
|.int i,_,_,h,r=>by
  cases h;obtain⟨t,rfl⟩:=r;exact⟨_,Reads.int i t⟩
|.str x,_,_,h,r=>by
  cases h;obtain⟨t,rfl⟩:=r;exact⟨_,Reads.str x t⟩
|.list ds,_,_,h,r=>by
  cases h with
 |lst hs ha=>
   cases r;obtain⟨its,rv,⟨o,n,ho,hc,_,hd⟩,_⟩:=I.list hs;obtain⟨as,hr⟩:=Dp.readsAll I ds _ its ha rv;exact⟨_,Reads.list ho hc hd hr⟩
|.tuple ds,_,_,h,r=>by
  cases h with
 |tup hs ha=>
   cases r;obtain⟨its,rv,⟨o,ho,hc,n,hd⟩,_⟩:=I.tuple hs;obtain⟨as,hr⟩:=Dp.readsAll I ds _ its ha rv;exact⟨_,Reads.tuple ho hc hd hr⟩
|.dict _,_,_,h,_=>by cases h
theorem Dp.readsAll(I:zK X pins σ H s):∀ (ds:List PyData) (vs:List V) (us:List Value),zB9 X.K H vs ds->zY vs us->∃ as,ReadsAll s.heap us ds as
|[],_,_,h,r=>by
  cases h;cases r;exact⟨_,ReadsAll.nil⟩
|d::ds,_,_,h,r=>by
  cases h with
 |cons h1 h2=>
   cases r with
  |cons r1 r2=>
    obtain⟨as,q1⟩:=Dp.reads I d _ _ h1 r1;obtain⟨bs,q2⟩:=Dp.readsAll I ds _ _ h2 r2;exact⟨_,ReadsAll.cons q1 q2⟩
end
end
section
variable {X:Cx}
def zSv (K:Qf):R2:=λx y H Q=>∃ d e,Dp K H x d/\Dp K H y e/\SeqAt.shaped d=true/\SeqAt.shaped e=true/\Q (.bl (!PyData.eqv d e)) H
theorem zQj(hu:X.A.units+64<cLine):Y5 X (compareOp .NotEq) (zSv X.K):=by
 intro pins s σ H x y v u Q I rx ry h;obtain⟨d,e,hd,he,sd,se,q⟩:=h;obtain⟨as,r1⟩:=Dp.reads I d x v hd rx;obtain⟨bs,r2⟩:=Dp.reads I e y u he ry;exact SeqAt.compareNe_shaped r1 r2 sd se hu ⟨.bl _,H,I,rfl,q⟩
end
abbrev zLy(h:Heap)(c:Addr)(v:Option Value):Prop:=h.IsCell c v
def zSw (scope sc:Scope):Scope:=
 {scope with names:=scope.names.map λ(n,k)=>if (k==.free&&sc.kind==.function&&sc.names.lookup n==some .cell) then (n,.cell) else (n,k)}
def yh (cells:List (Str×Addr)):List (Str×NameKind)->List (Str×Addr)->List (Str×Addr)
|[],acc=>acc
|(n,k)::r,acc=>if k==.free then yh cells r ((n,(cells.lookup n).getD 0)::acc) else yh cells r acc
theorem zEJ(env:Env)(f:Str×NameKind->List (Str×Addr)->Sem (ForInStep (List (Str×Addr))))
  (hf:∀ n k c,f (n,k) c=if k==.free then (do let a <-cellOf env n;pure (.yield ((n,a)::c))) else pure (.yield c)) :
  ∀ (names:List (Str×NameKind)) (acc:List (Str×Addr)),(∀ y∈names,y.2=.free->∃ c,env.cells.lookup y.1=some c)->forIn names acc f=pure (yh env.cells names acc)
|[],acc,_=>by rw[List.forIn_nil];rfl
|(n,k)::r,acc,h=>by
  rw[List.forIn_cons,hf];have ih:=λacc=>zEJ env f hf r acc λy hy=>h y (Wg _ hy)
  unfold yh;by_cases hk:(k==NameKind.free)=true
  .rw[Wc hk,Wc hk];obtain⟨c,hc⟩:=h (n,k) Wm (by simpa using hk);have e:cellOf env n=pure c:=by unfold cellOf;rw[hc]
   rw[e];have e2:(env.cells.lookup n).getD 0=c:=by rw[hc];rfl
   rw[e2];exact ih _
  .rw[Wb hk,Wb hk];exact ih _
theorem zKe{scope:Scope}{env:Env}(h:∀ y∈scope.names,y.2=.free->∃ c,env.cells.lookup y.1=some c):closureFor scope env=pure (yh env.cells scope.names []):=by
 simp only[closureFor];rw[zEJ env _ (λn k c=>rfl) scope.names [] h];rfl
theorem zDl{α:Type}:∀ {l:List (Str×α)}{n:Str}{c:α},(n,c)∈l->∃ c',l.lookup n=some c'
|(k,v)::r,n,c,h=>by
  rw[VJ];cases hb:n==k with
 |true=>exact⟨_,rfl⟩
 |false=>
   rcases Wd.mp h with e|h
   .cases e;simp at hb
   .exact zDl h
theorem zBZ{cells:List (Str×Addr)}:∀ {names:List (Str×NameKind)}{acc:List (Str×Addr)}{n:Str}{c:Addr},(n,c)∈yh cells names acc->(n,c)∈acc\/((n,.free)∈names/\c=(cells.lookup n).getD 0)
|[],_,_,_,h=>.inl h
|(m,k)::r,acc,n,c,h=>by
  unfold yh at h;split at h
  .rename_i hk
   have hk:k=.free:=by simpa using hk
   rcases zBZ h with h|⟨h1,h2⟩
   .rcases Wd.mp h with e|h
    .cases e;exact .inr ⟨hk ▸ Wm,rfl⟩
    .exact .inl h
   .exact .inr ⟨Wg _ h1,h2⟩
  .rcases zBZ h with h|⟨h1,h2⟩
   .exact .inl h
   .exact .inr ⟨Wg _ h1,h2⟩
theorem zC1{cells:List (Str×Addr)}:∀ {names:List (Str×NameKind)}{acc:List (Str×Addr)}{p:Str×Addr},p∈acc->p∈yh cells names acc
|[],_,_,h=>h
|(m,k)::r,acc,p,h=>by
  unfold yh;split
  .exact zC1 (Wg _ h)
  .exact zC1 h
theorem zC2{cells:List (Str×Addr)}:∀ {names:List (Str×NameKind)}{acc:List (Str×Addr)}{n:Str},(n,.free)∈names->(n,(cells.lookup n).getD 0)∈yh cells names acc
|(m,k)::r,acc,n,h=>by
  unfold yh;rcases Wd.mp h with e|h
  .cases e;exact zC1 Wm
  .split
   .exact zC2 h
   .exact zC2 h
theorem zBm:∀ {names:List (Str×NameKind)}{h:Heap}{acc:List (Str×Addr)}{x:Str}{c:Addr},(x,c)∈cellsFrom h.objs.size names acc->
  (x,c)∈acc\/((x,.cell)∈names/\h.objs.size<=c/\zLy (pushCells h names) c none)
|[],_,_,_,_,h=>.inl h
|(n,k)::r,h,acc,x,c,hm=>by
  unfold cellsFrom at hm;unfold pushCells;split at hm
  .rename_i hk
   rw[Wc hk];have hk:k=.cell:=by simpa using hk
   rw[<-Vt h {cls:=.type "cell",data:=.cell none}] at hm;rcases zBm hm with hm|⟨h1,h2,h3⟩
   .rcases Wd.mp hm with e|hm
    .cases e;exact .inr ⟨hk ▸ Wm,We _,_,UG r _ _ _ (Wz _ rfl),rfl⟩
    .exact .inl hm
   .rw[Vt] at h2;exact .inr ⟨Wg _ h1,Uh h2,h3⟩
  .rename_i hk
   rw[Wb hk];rcases zBm hm with hm|⟨h1,h2,h3⟩
   .exact .inl hm
   .exact .inr ⟨Wg _ h1,h2,h3⟩
theorem zCn:∀ {names:List (Str×NameKind)}{n:Nat}{acc:List (Str×Addr)}{p:Str×Addr},p∈acc->p∈cellsFrom n names acc
|[],_,_,_,h=>h
|(m,k)::r,n,acc,p,h=>by
  unfold cellsFrom;split
  .exact zCn (Wg _ h)
  .exact zCn h
theorem zEK:∀ {names:List (Str×NameKind)}{n:Nat}{acc:List (Str×Addr)}{x:Str},(x,.cell)∈names->∃ c,(x,c)∈cellsFrom n names acc
|(m,k)::r,n,acc,x,h=>by
  unfold cellsFrom;rcases Wd.mp h with e|h
  .cases e;exact⟨n,zCn Wm⟩
  .split
   .exact zEK h
   .exact zEK h
theorem zEL:∀ {names:List (Str×NameKind)}{h:Heap}{acc:List (Str×Addr)}{x y:Str}{c:Addr},(∀ p∈acc,p.2<h.objs.size)->(∀ x y c,(x,c)∈acc->(y,c)∈acc->x=y)->
  (x,c)∈cellsFrom h.objs.size names acc->(y,c)∈cellsFrom h.objs.size names acc->x=y
|[],_,_,_,_,_,_,hi,h1,h2=>hi _ _ _ h1 h2
|(n,k)::r,h,acc,x,y,c,hl,hi,h1,h2=>by
  unfold cellsFrom at h1 h2;split at h1
  .rename_i hk
   rw[Wc hk] at h2;rw[<-Vt h {cls:=.type "cell",data:=.cell none}] at h1 h2;refine zEL (h:=h.push _) (λp hp=>?_) (λx y c a b=>?_) h1 h2
   .rw[Vt];rcases Wd.mp hp with rfl|hp
    .exact XN _
    .exact U1 (hl p hp)
   .rcases Wd.mp a with e|a <;> rcases Wd.mp b with e'|b
    .cases e;cases e';rfl
    .cases e;exact absurd (hl _ b) (VB _)
    .cases e';exact absurd (hl _ a) (VB _)
    .exact hi _ _ _ a b
  .rename_i hk
   rw[Wb hk] at h2;exact zEL hl hi h1 h2
theorem zJG{M:Model}{A:Around}{E:Qs}{s:Shared}{scope:Scope}{globals:Addr}{closure:List (Str×Addr)}{qual:Str}{func:Option Addr}{code:Value}{around:Env}{builtins:Addr}{Q:Env->Shared->Prop}
  (h:Q (newEnv scope s.heap.objs.size globals (cellsFrom (s.heap.objs.size+1) scope.names closure) qual func code (some around) builtins)
   {s with heap:=pushCells (s.heap.push {cls:=.type "dict",data:=.dict #[]}) scope.names}) :
  wpAny M A (newFunctionEnv scope globals closure [] qual func code (some around) builtins) Q E s:=by
 simp only[newFunctionEnv,Option.isSome_some,UO];refine Wh (wpAny_alloc ?_);refine Wh (wpAny_layCells _ (λn k c=>rfl) scope.names closure _ _ ?_);rw[show ({s with heap:=s.heap.push {cls:=.type "dict",data:=.dict #[]}}:Shared).heap.objs.size=s.heap.objs.size+1 from Vt ..];rw[List.forIn_nil];exact Wh (WI (WI h))
theorem zC3{sc:Scope}:∀ {names:List (Str×NameKind)}{x:Str}{k:NameKind},
  (names.map λ(n,k)=>if (k==NameKind.free&&sc.kind==.function&&sc.names.lookup n==some .cell) then (n,NameKind.cell) else (n,k)).lookup x=some k->
  ∃ k',names.lookup x=some k'/\(k=k'\/(k'=.free/\k=.cell))
|[],_,_,h=>by simp at h
|(n,k₀)::r,x,k,h=>by
  have ih:=@zC3 sc r x k;have h':List.lookup x ((if (k₀==NameKind.free&&sc.kind==.function&&sc.names.lookup n==some .cell)=true then (n,NameKind.cell) else (n,k₀))::(r.map _))=some k:=h;cases hx:x==n with
 |true=>
   simp only[VJ,hx];by_cases hc:(k₀==NameKind.free&&sc.kind==.function&&sc.names.lookup n==some .cell)=true
   .rw[Wc hc] at h';simp only[VJ,hx] at h';cases h';simp only[y9,Vj] at hc;exact⟨k₀,rfl,.inr ⟨hc.1.1,rfl⟩⟩
   .rw[Wb hc] at h';simp only[VJ,hx] at h';cases h';exact⟨_,rfl,.inl rfl⟩
 |false=>
   simp only[VJ,hx];by_cases hc:(k₀==NameKind.free&&sc.kind==.function&&sc.names.lookup n==some .cell)=true
   .rw[Wc hc] at h';simp only[VJ,hx] at h';exact ih h'
   .rw[Wb hc] at h';simp only[VJ,hx] at h';exact ih h'
structure zF1(N:List Str)(sc scope:Scope)(own:List (Str×Nat)):Prop where
 kind:scope.kind=.function
 uniq:∀ y∈scope.names,scope.names.lookup y.1=some y.2
 ix:∀ p∈own,N[p.2]?=some p.1
 free:∀ y∈scope.names,y.2=.free->sc.names.lookup y.1=some .cell\/sc.names.lookup y.1=some .free
 own:∀ y∈scope.names,y.2=.local\/y.2=.cell->y.1∈own.map (·.1)\/y.1∉N
def ZL (σ:St):List Nat->St
|[]=>σ
|v::vs=>(ZL σ vs).set v none
theorem zC4(σ:St):∀ vs:List Nat,(ZL σ vs).length=σ.length
|[]=>rfl
|v::vs=>by unfold ZL;rw[VR,zC4 σ vs]
theorem zEM{σ:St}{i:Nat}{x:V}:∀ {vs:List Nat},(ZL σ vs)[i]?=some (some x)->σ[i]?=some (some x)/\i∉vs
|[],h=>⟨h,by simp⟩
|v::vs,h=>by
  unfold ZL at h;by_cases hi:v=i
  .subst hi;by_cases hv:v<(ZL σ vs).length
   .rw[VF hv] at h;cases h
   .rw[Vq (by simpa using hv)] at h;cases h
  .rw[Ve hi] at h;obtain⟨h1,h2⟩:=zEM h;exact⟨h1,by simp only[Wd,not_or];exact⟨λe=>hi e.symm,h2⟩⟩
abbrev Cx.blk(X:Cx)(s:Shared)(H:Hp)(scope:Scope)(cenv:Env)(fp:List Addr):Cx:={X with s_0:=s,H_0:=H,env:=cenv,outer:=X.stack,ex:=fp,fn:=λx=>scope.names.lookup x==some .cell,pn:=[],xe:=λ_ _=>False}
section
variable {X:Cx}{pins:Qp}{σ:St}{H:Hp}{s:Shared}
theorem zJH{scope:Scope}{own:List (Str×Nat)}{fp:List Addr}(I:zK X pins σ H s)(ok:zF1 X.N X.env.scope scope own)(hN:X.N.Nodup)(hfp:∀ b∈fp,zAN X pins H b/\b<s.heap.objs.size) :
  zK (X.blk s H scope (compEnvC scope (cellsFrom (s.heap.objs.size+1) scope.names (yh X.env.cells scope.names [])) s.heap.objs.size X.env) fp) [] (ZL σ (own.map (·.2))) H {s with heap:=pushCells (s.heap.push {cls:=.type "dict",data:=.dict #[]}) scope.names}:=by
 have hfree:∀ y∈scope.names,y.2=.free->∃ c,X.env.cells.lookup y.1=some c:=λy hy e=>by
  rcases ok.free y hy e with k|k
  .exact I.ok.has _ (.inl k)
  .exact I.ok.has _ (.inr k)
 generalize hcenv:compEnvC scope (cellsFrom (s.heap.objs.size+1) scope.names (yh X.env.cells scope.names [])) s.heap.objs.size X.env=cenv;have kp:∀ b o,s.heap.get? b=some o->(pushCells (s.heap.push {cls:=.type "dict",data:=.dict #[]}) scope.names).get? b=some o:=λb o e=>UG _ _ _ _ (Wf _ e)
 have hL:cenv.locals=s.heap.objs.size:=by rw[<-hcenv];rfl
 have hcl:cenv.cells=cellsFrom (s.heap.objs.size+1) scope.names (yh X.env.cells scope.names []):=by rw[<-hcenv];rfl
 have hsc:cenv.scope=zSw scope X.env.scope:=by rw[<-hcenv];rfl
 rw[<-Vt s.heap {cls:=.type "dict",data:=.dict #[]}] at hcl
 have cm:∀ {y c},(y,c)∈yh X.env.cells scope.names []->X.env.cells.lookup y=some c/\c<s.heap.objs.size:=λ{y c} hm=>by
  rcases zBZ hm with hm|⟨h1,rfl⟩
  .cases hm
  .obtain⟨c,hc⟩:=hfree _ h1 rfl;rw[hc];obtain⟨w,z⟩:=I.cell _ _ hc;exact⟨rfl,z.lt⟩
 have mem:∀ {y c},cenv.cells.lookup y=some c->(X.env.cells.lookup y=some c/\c<s.heap.objs.size)\/(s.heap.objs.size+1<=c/\zLy (pushCells (s.heap.push {cls:=.type "dict",data:=.dict #[]}) scope.names) c none):=λ{y c} e=>by
  rw[hcl] at e;rcases zBm (WU e) with hm|⟨_,h2,h3⟩
  .exact .inl (cm hm)
  .rw[Vt] at h2;exact .inr ⟨h2,h3⟩
 have look:∀ {y},scope.names.lookup y=some .free->∃ c,cenv.cells.lookup y=some c/\X.env.cells.lookup y=some c:=λ{y} hl=>by
  have hy:(y,NameKind.free)∈scope.names:=WU hl;obtain⟨c',e'⟩:=zDl (zCn (names:=scope.names) (n:=(s.heap.push {cls:=.type "dict",data:=.dict #[]}).objs.size) (zC2 (cells:=X.env.cells) (acc:=[]) hy));rw[<-hcl] at e';refine⟨c',e',?_⟩;rw[hcl] at e';rcases zBm (WU e') with hm|⟨h1,_,_⟩
  .exact (cm hm).1
  .have:=ok.uniq _ h1;rw[hl] at this;cases this
 have okB:(X.blk s H scope cenv fp).Ok:=by
  refine⟨I.ok.mod,by show cenv.scope.kind=_;rw[hsc];exact ok.kind,by show cenv.globals=_;rw[<-hcenv];exact I.ok.glob,by show cenv.builtins=_;rw[<-hcenv];exact I.ok.blt,by show s.heap.objs.size<=cenv.locals;rw[hL];exact We _,
   λy z c e1 e2=>?_,λy hy=>?_,λy c z e=>?_,I.ok.hd,I.ok.frames,.inl rfl,λb hb=>⟨?_,λy c e z=>?_⟩,I.bs,WT I.ok.bsz I.sz,λb o e hb=>?_,λb hb z=>?_,I.stack,I.stkFree⟩
  .have e1:cenv.cells.lookup y=some c:=e1;have e2:cenv.cells.lookup z=some c:=e2;rw[hcl] at e1 e2;refine zEL (λp hp=>?_) (λy z c a b=>I.ok.inj y z c (cm a).1 (cm b).1) (WU e1) (WU e2);rw[Vt];exact U1 (cm (y:=p.1) (c:=p.2) hp).2
  .show ∃ c,cenv.cells.lookup y=some c
   have key:∀ k,cenv.kindOf y=some k->(k=.cell\/k=.free)->∃ c,cenv.cells.lookup y=some c:=λk hk hk'=>by
    unfold Env.kindOf at hk;rw[hsc] at hk;obtain⟨k',e,r⟩:=zC3 hk
    have:k'=.cell\/k'=.free:=by
     rcases r with rfl|⟨rfl,_⟩
     .exact hk'
     .exact .inr rfl
    rcases this with rfl|rfl
    .obtain⟨c,hm⟩:=zEK (n:=(s.heap.push {cls:=.type "dict",data:=.dict #[]}).objs.size) (acc:=yh X.env.cells scope.names []) (WU e);obtain⟨c',e'⟩:=zDl hm;exact⟨c',by rw[hcl];exact e'⟩
    .obtain⟨c,h1,_⟩:=look e;exact⟨c,h1⟩
   rcases hy with hy|hy
   .exact key _ hy (.inl rfl)
   .exact key _ hy (.inr rfl)
  .have z:(scope.names.lookup y==some NameKind.cell)=true:=z;have z:scope.names.lookup y=some .cell:=by simpa using z
   have e:cenv.cells.lookup y=some c:=e;rw[hcl] at e;rcases zBm (WU e) with hm|⟨_,h2,_⟩
   .rcases zBZ hm with hm|⟨h1,_⟩
    .cases hm
    .have q:=ok.uniq _ h1;rw[z] at q;cases q
   .rw[Vt] at h2;exact Uh h2
  .show b≠cenv.locals;rw[hL];exact Wx (hfp b hb).2
  .have e:cenv.cells.lookup y=some c:=e;rcases mem e with ⟨h1,_⟩|⟨h1,_⟩
   .exact (hfp b hb).1.2.2.2.2.1 y c h1 z
   .have h2:s.heap.objs.size+1<=b:=by rw[<-z];exact h1
    exact absurd (yR (hfp b hb).2 (Uh h2)) (VB _)
  .rcases (hfp b hb).1.2.2.2.1 with z|z
   .exact I.ok.noex b o e z
   .exact absurd (yR (Wj e) (WT I.ok.bsz z)) (VB _)
  .rcases Wd.mp (I.stkSub b z) with z|z
   .exact (hfp b hb).1.2.1 z
   .exact (hfp b hb).1.2.2.1 z
 refine⟨okB,rfl,I.bare,Un.kept kp,⟨λ_=>none,?_,λi y av e1 e2 e3=>?_⟩,λy c e=>?_,?_,λy c e=>?_,λp hp=>?_,I.hok.kept kp,by rw[zC4];exact I.len⟩
 .show Heap.Ns _ cenv.locals _;rw[hL];exact Heap.Ns.keeps (Heap.Ns.new ..) λb o e=>UG _ _ _ _ e
 .obtain⟨e2,hne⟩:=zEM e2
  have hfr:scope.names.lookup y=some .free/\(cenv.kindOf y=some .cell\/cenv.kindOf y=some .free):=by
   have key:∀ k,cenv.scope.names.lookup y=some k->k=.local\/k=.cell\/k=.free->scope.names.lookup y=some .free/\(cenv.kindOf y=some .cell\/cenv.kindOf y=some .free):=λk hk hk'=>by
    have hk0:=hk;rw[hsc] at hk;obtain⟨k',e,r⟩:=zC3 hk
    have no:¬ (k'=.local\/k'=.cell):=λhh=>by
     rcases ok.own _ (WU e) hh with e'|e'
     .obtain⟨p,hp,hpy⟩:=Wp.mp e';have e3:=ok.ix p hp;have:p.1=y:=hpy;rw[this] at e3;exact hne (Wp.mpr ⟨p,hp,zFU hN e3 e1⟩)
     .exact e' (ZM e1)
    rcases r with rfl|⟨rfl,rfl⟩
    .rcases hk' with rfl|rfl|rfl
     .exact absurd (.inl rfl) no
     .exact absurd (.inr rfl) no
     .exact⟨e,.inr hk0⟩
    .exact⟨e,.inl hk0⟩
   have e3:Vis cenv.scope y:=e3;rcases e3 with e3|e3|e3
   .exact key _ e3 (.inl rfl)
   .exact key _ e3 (.inr (.inl rfl))
   .exact key _ e3 (.inr (.inr rfl))
  obtain⟨m,hn,hl⟩:=I.loc;have hvis:Vis X.env.scope y:=(ok.free _ (WU hfr.1) rfl).elim (λk=>.inr (.inl k)) (λk=>.inr (.inr k));obtain⟨w,r,q⟩:=hl i y av e1 e2 hvis;refine⟨w,r,.inr ⟨hfr.2,?_⟩⟩;obtain⟨c,h1,h2⟩:=look hfr.1;rcases q with ⟨k,_⟩|⟨_,c',e',z⟩
  .have k:X.env.scope.names.lookup y=some .local:=k;rcases ok.free _ (WU hfr.1) rfl with k'|k' <;> rw[show X.env.scope.names.lookup y=_ from k'] at k <;> cases k
  .rw[h2] at e';cases e';exact⟨c,h1,z.keeps kp⟩
 .have e:cenv.cells.lookup y=some c:=e;rcases mem e with ⟨h1,_⟩|⟨_,z⟩
  .obtain⟨w,z⟩:=I.cell y c h1;exact⟨w,z.keeps kp⟩
  .exact⟨_,z⟩
 .show H cenv.locals=none;rw[hL];exact I.hok.fresh (We _)
 .have e:cenv.cells.lookup y=some c:=e;rcases mem e with ⟨h1,_⟩|⟨h1,_⟩
  .exact I.freeC y c h1
  .exact I.hok.fresh (Uh h1)
 .exact absurd (show p∈([]:Qp)++[] from hp) (by simp)
theorem zQk{E:Qs}{D:Addr}{xs:List V}{y:V}{v:Value}{Q:Qs}(I:zK X pins σ H s)(hD:H D=some (.lst xs))(hz:xs.length<sizeLine)(r:zp y v)
  (h:∀ s',zK X pins σ (upd H D (.lst (xs++[y]))) s'->Q .none s'):wpAny (model X.prog X.w) X.A (call (.builtin "list.append") [.ref D,v]) Q E s:=by
 obtain⟨hz',its,n,ri,e⟩:=I.hok D _ hD;have hl:=ri.length;refine append_at (hsz:=by rw[Wk];lia) e λh' sb ho'=>?_
 refine h {s with heap:=h'} (I.write (t':=s.toks) (by rw[hD];trivial) (.inl rfl) (λb u hb q=>(sb.2 b hb).trans q) ⟨_,ho'⟩ ⟨by rw[Wi];exact hz,its++[v],n+1,ri.append (.cons r .nil),?_⟩);rw[ho'];simp
def PTs (X:Cx)(ifs:List Expr)(t:TT):Prop:=
 ∀ (pins:Qp) (s:Shared) (σ:St) (H:Hp) (Q:Bool->Hp->Prop),zK X pins σ H s->t σ H Q->
  wpAny (model X.prog X.w) X.A (forIn ifs true λc r=>if r=true then do let ok <-isTrue c X.env (eval c X.env);pure (ForInStep.yield ok) else pure (ForInStep.yield r)) (TP X pins σ Q) X.xe s
def zSx:TT:=λ_ H Q=>Q true H
theorem YF:PTs X [] zSx:=λ_ _ _ H _ I h=>wpAny_tests_nil ⟨H,I,h⟩
theorem zOu{c:Expr}{t:TT}(h:PT X c t):PTs X [c] t:=λpins s σ H Q I hw=>wpAny_tests_one (h pins s σ H Q I hw)
end
theorem zGi{α:Type}{t:Sem α}{Q Q':α->Shared->Prop}{M:Model}{A:Around}{E:Qs}{s:Shared}(h:wpAny M A t Q (λ_ _=>False) s)(hQ:∀ a s,Q a s->Q' a s):wpAny M A t Q' E s:=W9 h hQ λ_ _ z=>False.elim z
theorem zIB{prog:Program}{w:World}{A:Around}{R:Result->Shared->Prop}{s:Shared}{elt target iter:Expr}{ifs:List Expr}{scope:Scope}{pos:Pos}{it acc:Value}{env:Env}(I:Nat->Shared->Prop)
  (turn:∀ n s,I n s->wpAny (model prog w) A (pyNext it) (λr s₁=>match r with
  |none=>R (.ok .next) s₁
  |some v=>wpAny (model prog w) A (letOwnedTupleGo target it v) (λ_ s₁'=>wpAny (model prog w) A (assign target env v) (λ_ s₂=>
     wpAny (model prog w) A (forIn ifs true λc r=>if r=true then do let ok <-isTrue c env (eval c env);pure (ForInStep.yield ok) else pure (ForInStep.yield r)) (λok s₃=>
      if ok=true then wpAny (model prog w) A (eval elt env) (λx s₄=>
       wpAny (model prog w) A (call (.builtin "list.append") [acc,x]) (λ_ s₅=>∃ m,m<n/\I m s₅) (notedBy (model prog w) A env λe s'=>R (.error e) s') s₄) (notedBy (model prog w) A env λe s'=>R (.error e) s') s₃
      else ∃ m,m<n/\I m s₃) (notedBy (model prog w) A env λe s'=>R (.error e) s') s₂) (notedBy (model prog w) A env λe s'=>R (.error e) s') s₁') (notedBy (model prog w) A env λe s'=>R (.error e) s') s₁) (notedBy (model prog w) A env λe s'=>R (.error e) s') s)
  (n:Nat)(h:I n s) :
  codeAny (model prog w) A (.compLoop (.ListComp elt [⟨target,iter,ifs,0⟩] scope pos) 0 it acc env) R s:=by
 refine codeAny_loop rfl I (λn s hI=>?_) n h;show wpAny _ A ((compTurn (.ListComp elt [⟨target,iter,ifs,0⟩] scope pos) 0 it acc env).onRaise (λx=>do noteFrame x env;theTreesLotGoes x)) _ _ s;refine wpAny_noted ?_;rw[compTurn_list];refine Wh (XT (Wh (W9 (turn n s hI) (λr s₁ h₁=>?_) λ_ _ h'=>h')));cases r with
|none=>exact WI h₁
|some v=>
  refine Wh (W9 h₁ (λ_ s₁' h₁'=>?_) λ_ _ h'=>h');refine Wh (W9 h₁' (λ_ s₂ h₂=>Wh (W9 h₂ (λok s₃ h₃=>?_) λ_ _ h'=>h')) λ_ _ h'=>h');cases ok with
 |false=>exact WI ⟨rfl,h₃⟩
 |true=>
   exact Wh (Wh (W9 h₃ (λx s₄ h₄=>Wh (W9 h₄ (λ_ s₅ h₅=>WI (WI ⟨rfl,h₅⟩)) λ_ _ h'=>h')) λ_ _ h'=>h'))
section
variable {X:Cx}
def tLc (wi:TI)(g:TG)(tt:TT)(te:TE)(vs:List Nat):TE:=λσ H Q=>wi σ H λJ H1=>∀ D,H1 D=none->∃ W:Nat->Nat->Hp->Prop,(∃ m,W 0 m (upd H1 D (.lst [])))/\∀ i m H,W i m H->
 (J.stop i H/\Q (.ref D) H)\/(J.go i H/\∃ Nx:Hp->Prop,(∀ H',Nx H'->∃ m',m'<m/\W (i+1) m' H')/\∀ x H',J.yld i H x H'->g x (ZL σ vs) H' λσ2 H2=>ZL σ2 vs=ZL σ vs/\tt σ2 H2 λb H3=>
  if b=true then te σ2 H3 λy H4=>∃ acc,H4 D=some (.lst acc)/\acc.length<sizeLine/\Nx (upd H4 D (.lst (acc++[y]))) else Nx H3)
theorem zJa{pins:Qp}{s:Shared}{σ:St}{H:Hp}{Q:VK}{elt tg iter:Expr}{ifs:List Expr}{scope:Scope}{own:List (Str×Nat)}{pos pos':Pos}{wi:TI}{g:TG}{tt:TT}{te:TE}{use:Option (Value->Sem Unit)}{Qf:Qs}
  (hc:X.calm=true)(hN:X.N.Nodup)(I:zK X pins σ H s)(hi:PI X tg iter wi)(ok:zF1 X.N X.env.scope scope own)
  (hg:∀ (s:Shared) (H:Hp) (C:Addr) (cl:List (Str×Addr)) (fp:List Addr),PG (X.blk s H scope (compEnvC scope cl C X.env) fp) tg g)(ht:∀ (s:Shared) (H:Hp) (C:Addr) (cl:List (Str×Addr)) (fp:List Addr),PTs (X.blk s H scope (compEnvC scope cl C X.env) fp) ifs tt)
  (he:∀ (s:Shared) (H:Hp) (C:Addr) (cl:List (Str×Addr)) (fp:List Addr),PE (X.blk s H scope (compEnvC scope cl C X.env) fp) elt te)(hs:∀ x,foldedSetIterable iter X.env x=pure x)
  (h:tLc wi g tt te (own.map (·.2)) σ H Q)
  (hRR:∀ D C s' m H',zK X pins σ H' s'->Q (.ref D) H'->s'.heap.Ns C m->zAN X pins H' C->compPost (model X.prog X.w) X.A X.xe use Qf (.ref D) C (.ok .next) s') :
  wpAny (model X.prog X.w) X.A (comprehension (.ListComp elt [⟨tg,iter,ifs,0⟩] scope pos) scope X.env pos' (newList []) false (eval iter X.env) use) Qf X.xe s:=by
 have hfree:∀ y∈scope.names,y.2=.free->∃ c,X.env.cells.lookup y.1=some c:=λy hy e=>by
  rcases ok.free y hy e with k|k
  .exact I.ok.has _ (.inl k)
  .exact I.ok.has _ (.inr k)
 refine wpAny_comprehension_free (use:=use) rfl hs (zKe hfree) ok.kind (λy hy e=>by rw[ok.uniq y hy,e])
  (zr (hi pins s σ H _ I h) λxv s1 hx=>zr hx λitv s2 h2=>?_)
 obtain⟨it,fp,tn,J,H2,e,I2,T,st2,f2,q⟩:=h2;subst e;refine wpAny_newObj_type (zJG ?_) (by show 0<=sizeLine;decide);generalize hD:s2.heap.objs.size=D;have hDn:H2 D=none:=I2.hok.fresh (UA hD);obtain⟨W,⟨m0,w0⟩,turn⟩:=q D hDn;generalize hs3:({s2 with heap:=s2.heap.push {cls:=.type "list",data:=.seq ([]:List Value).toArray}}:Shared)=s3
 have I3:zK X pins σ (upd H2 D (.lst [])) s3:=by
  rw[<-hs3];refine I2.laid (t':=s2.toks) (λb o e=>Wf _ e) (UA hD) ⟨Ww _,[],0,.nil,?_⟩;rw[<-hD];exact Wz _ rfl
 have h3:s3.heap=s2.heap.push {cls:=.type "list",data:=.seq ([]:List Value).toArray}:=by rw[<-hs3]
 have sz:∀ b∈fp,b<s2.heap.objs.size:=λb hb=>by
  obtain⟨o,e,_⟩:=T.obj _ _ st2 b hb;exact Wj e
 have f3:∀ b∈fp,zAN X pins (upd H2 D (.lst [])) b/\b<s3.heap.objs.size:=λb hb=>by
  have hlt:=sz b hb;refine⟨⟨?_,(f2 b hb).2⟩,by rw[h3,Vt];exact U1 hlt⟩;rw[zD (by rw[<-hD];exact Wx hlt)];exact (f2 b hb).1
 have st3:tn 0 s3.heap:=T.keep _ _ _ st2 λb _ o e=>by rw[h3];exact Wf _ e
 have I4:=zJH I3 ok hN f3;have pg:=hg s3 (upd H2 D (.lst [])) s3.heap.objs.size (cellsFrom (s3.heap.objs.size+1) scope.names (yh X.env.cells scope.names [])) fp;have pt:=ht s3 (upd H2 D (.lst [])) s3.heap.objs.size (cellsFrom (s3.heap.objs.size+1) scope.names (yh X.env.cells scope.names [])) fp;have pe:=he s3 (upd H2 D (.lst [])) s3.heap.objs.size (cellsFrom (s3.heap.objs.size+1) scope.names (yh X.env.cells scope.names [])) fp;show codeAny _ _ (.compStart (.ListComp elt [⟨tg,iter,ifs,0⟩] scope pos) 0 (.ref it) (.ref D) (compEnvC scope (cellsFrom (s3.heap.objs.size+1) scope.names (yh X.env.cells scope.names [])) s3.heap.objs.size X.env)) (compPost (model X.prog X.w) X.A X.xe use Qf (.ref D) s3.heap.objs.size) {s3 with heap:=pushCells (s3.heap.push {cls:=.type "dict",data:=.dict #[]}) scope.names};have nfp:∀ b∈fp,(upd H2 D (.lst [])) b=none:=λb hb=>(f3 b hb).1.1
 generalize hce:compEnvC scope (cellsFrom (s3.heap.objs.size+1) scope.names (yh X.env.cells scope.names [])) s3.heap.objs.size X.env=ce at I4 pg pt pe ⊢;have cL:ce.locals=s3.heap.objs.size:=by subst hce;rfl
 generalize hH3:upd H2 D (.lst [])=H3 at I3 I4 pg pt pe w0 nfp f3;generalize hs4:({s3 with heap:=pushCells (s3.heap.push {cls:=.type "dict",data:=.dict #[]}) scope.names}:Shared)=s4 at I4 ⊢;have st4:tn 0 s4.heap:=T.keep _ _ _ st3 λb _ o e=>by rw[<-hs4];exact UG _ _ _ _ (Wf _ e)
 have stat:∀ {σ':St}{H':Hp}{s':Shared},zK (X.blk s3 H3 scope ce fp) [] σ' H' s'->(∀ b∈fp,H' b=none)->∀ b∈fp,zAN (X.blk s3 H3 scope ce fp) [] H' b:=λ{σ' H' s'} I' hn b hb=>
  ⟨hn b hb,(I'.ok.exf b hb).1,I'.ok.exfs b hb,.inl hb,λx c e=>(I'.ok.exf b hb).2 x c e,λp hp=>absurd (show p∈([]:Qp)++[] from hp) (by simp)⟩
 have loop:codeAny (model X.prog X.w) X.A (.compLoop (.ListComp elt [⟨tg,iter,ifs,0⟩] scope pos) 0 (.ref it) (.ref D) ce) (compPost (model X.prog X.w) X.A X.xe use Qf (.ref D) s3.heap.objs.size) s4:=by
  refine zIB (λn s'=>∃ i H',zK (X.blk s3 H3 scope ce fp) [] (ZL σ (own.map (·.2))) H' s'/\tn i s'.heap/\(∀ b∈fp,H' b=none)/\W i n H') ?_ m0 ⟨0,H3,I4,st4,nfp,w0⟩;rintro n s5 ⟨i,H5,I5,st5,n5,w5⟩;rcases turn i n H5 w5 with ⟨stop,qq⟩|⟨go,Nx,hNx,step⟩
  .have td:=T.done (X.blk s3 H3 scope ce fp) rfl rfl rfl hc i [] s5 _ H5 (λ_ _=>False) I5 (stat I5 n5) st5 stop;refine zGi td λr s6 ⟨hr,I6⟩=>?_
   subst hr;have I7:zK X pins σ H5 s6:=I3.call' (ch:=fp) I6.os I6.base I6.hok I6.bare λb hb=>⟨(f3 b hb).1.2.2.2.1,(f3 b hb).1.2.1,(f3 b hb).1.2.2.2.2.1,(f3 b hb).1.2.2.2.2.2⟩
   have nC:H5 s3.heap.objs.size=none:=by
    have z:H5 ce.locals=none:=I6.free;rw[cL] at z;exact z
   obtain⟨m,hn,_⟩:=I6.loc;have hn:s6.heap.Ns ce.locals m:=hn;rw[cL] at hn;exact hRR D s3.heap.objs.size s6 m H5 I7 qq hn (I3.fpOk (We _) nC)
  .have ti:=T.item (X.blk s3 H3 scope ce fp) rfl rfl rfl hc i [] s5 _ H5 (λ_ _=>False) I5 (stat I5 n5) st5 go;refine zGi ti λr s6 ⟨u,hr,h6⟩=>?_
   subst hr;refine zGi h6 λ_ s7 ⟨x,H7,I7,r7,y7,st7,n7⟩=>?_
   have I7':=I7.pinned (stat I7 n7) (T.obj _ _ st7);refine zGi (pg _ s7 _ H7 x u _ I7' r7 (step x H7 y7)) λ_ s8 ⟨σ8,H8,I8,hw8,q8⟩=>?_
   refine zGi (pt _ s8 σ8 H8 _ I8 q8) λb s9 ⟨H9,I9,q9⟩=>?_
   have fin:∀ {s':Shared}{H':Hp},zK (X.blk s3 H3 scope ce fp) ([]++zEH fp s7.heap) σ8 H' s'->Nx H'->∃ m,m<n/\∃ i H',zK (X.blk s3 H3 scope ce fp) [] (ZL σ (own.map (·.2))) H' s'/\tn i s'.heap/\(∀ b∈fp,H' b=none)/\W i m H':=λ{s' H'} I' nx=>by
    obtain⟨m',hm,w'⟩:=hNx H' nx
    have pin':∀ b∈fp,∀ o,s7.heap.get? b=some o->s'.heap.get? b=some o/\H' b=none:=λb hb o e=>
     let z:=I'.pin (b,o) (WN _ (WN _ (zDi hb e)))
     ⟨z.1,z.2.1⟩
    have hl:(ZL σ (own.map (·.2))).length=σ8.length:=by rw[<-hw8,zC4]
    refine⟨m',hm,i+1,H',(I'.unpinned (pins:=[])).weak hl (λj v e=>?_),T.keep _ _ _ st7 λb hb o e=>(pin' b hb o e).1,λb hb=>?_,w'⟩
    .rw[<-hw8] at e;exact (zEM e).1
    .obtain⟨o,e,_⟩:=T.obj _ _ st7 b hb;exact (pin' b hb o e).2
   cases b with
  |false=>
    simp only[UU,Uq] at q9 ⊢;exact fin I9 q9
  |true=>
    simp only[UO] at q9 ⊢;refine zGi (pe _ s9 σ8 H9 _ I9 q9) λz s10 ⟨yv,H10,I10,r10,acc,hD10,hz10,nx⟩=>?_
    exact zQk (X:=X.blk s3 H3 scope ce fp) I10 hD10 hz10 r10 λs11 I11=>fin I11 nx
 exact codeAny_compStart_list loop (T.self X.A 0 _ _ _ st4 loop)
theorem zKf{elt tg iter:Expr}{ifs:List Expr}{scope:Scope}{own:List (Str×Nat)}{pos:Pos}{wi:TI}{g:TG}{tt:TT}{te:TE}(hc:X.calm=true)(hN:X.N.Nodup)(hi:PI X tg iter wi)(ok:zF1 X.N X.env.scope scope own)
  (hg:∀ (s:Shared) (H:Hp) (C:Addr) (cl:List (Str×Addr)) (fp:List Addr),PG (X.blk s H scope (compEnvC scope cl C X.env) fp) tg g)(ht:∀ (s:Shared) (H:Hp) (C:Addr) (cl:List (Str×Addr)) (fp:List Addr),PTs (X.blk s H scope (compEnvC scope cl C X.env) fp) ifs tt)
  (he:∀ (s:Shared) (H:Hp) (C:Addr) (cl:List (Str×Addr)) (fp:List Addr),PE (X.blk s H scope (compEnvC scope cl C X.env) fp) elt te)(hs:∀ x,foldedSetIterable iter X.env x=pure x:=by intro _;rfl) :
  PE X (.ListComp elt [⟨tg,iter,ifs,0⟩] scope pos) (tLc wi g tt te (own.map (·.2))):=by
 intro pins s σ H Q I h;rw[eval_ListComp];refine zJa hc hN I hi ok hg ht he hs h λD C s' m H' I' q hn f=>⟨m,hn,λh'' sb=>?_⟩
 obtain⟨f0,f1,f2,f3,f4,f5⟩:=f;exact⟨.ref D,H',I'.turned (t':=s'.toks) (λb o hb e=>(sb.2 b hb).trans e) f0 f1 f3 f4 f5,rfl,q⟩
theorem YT{i:Nat}{y:Str}{py:Pos}{elt tg iter:Expr}{ifs:List Expr}{scope:Scope}{own:List (Str×Nat)}{pos spos:Pos}{wi:TI}{g:TG}{tt:TT}{te:TE}(hc:X.calm=true)(hN:X.N.Nodup)(hy:X.N[i]?=some y)(hyl:X.env.scope.names.lookup y=some .local)
  (hsw:swapsWith (.ListComp elt [⟨tg,iter,ifs,0⟩] scope pos) (some (.Name y py)) spos.line X.env=pure true)(hi:PI X tg iter wi)(ok:zF1 X.N X.env.scope scope own)
  (hg:∀ (s:Shared) (H:Hp) (C:Addr) (cl:List (Str×Addr)) (fp:List Addr),PG (X.blk s H scope (compEnvC scope cl C X.env) fp) tg g)(ht:∀ (s:Shared) (H:Hp) (C:Addr) (cl:List (Str×Addr)) (fp:List Addr),PTs (X.blk s H scope (compEnvC scope cl C X.env) fp) ifs tt)
  (he:∀ (s:Shared) (H:Hp) (C:Addr) (cl:List (Str×Addr)) (fp:List Addr),PE (X.blk s H scope (compEnvC scope cl C X.env) fp) elt te)(hs:∀ x,foldedSetIterable iter X.env x=pure x:=by intro _;rfl) :
  PS X (.Assign [.Name y py] (.ListComp elt [⟨tg,iter,ifs,0⟩] scope pos) spos) (Ya (tLc wi g tt te (own.map (·.2))) (Zc i)):=by
 intro pins s σ H D I h;rw[exec_Assign_Name_used _ _ _ _ hsw];refine Wh (XT (Wh ?_));show wpAny _ X.A (do let _ <-comprehension (.ListComp elt [⟨tg,iter,ifs,0⟩] scope pos) scope X.env (firstIterPos [⟨tg,iter,ifs,0⟩] pos) (newList []) false (eval iter X.env) (some (assign (.Name y py) X.env))) _ _ s;have h:tLc wi g tt te (own.map (·.2)) σ H (λx H1=>Zc i x σ H1 D.nx):=h;refine Wh (zr (zJa (Qf:=λ_ s'=>SP X pins D .next s') hc hN I hi ok hg ht he hs h λL C s' m H' I' q hn f=>?_) λ_ s' hq=>WI (WI hq));show wpAny _ _ (assign (.Name y py) X.env (.ref L)) _ _ _;refine wpAny_assign_Name (zEE (v:=V.ref L) I' hN hy (.inl hyl) rfl (λs2 I2 ⟨a,sb,ha⟩=>?_) (.inr hyl));obtain⟨f0,f1,f2,f3,f4,f5⟩:=f
 have haC:C≠a:=by
  rcases ha with z|z
  .rw[z];exact f1
  .exact λe=>f4 y a z e.symm
 refine⟨m,hn.sameBut sb haC,λh3 sb3=>?_⟩;exact⟨_,H',I2.turned (t':=s2.toks) (λb o hb e=>(sb3.2 b hb).trans e) f0 f1 f3 f4 f5,q⟩
end
theorem zAp{K:Qf}{a:Addr}{xs:List V}{g:TG}{tt:TT}{te:TE}{vs:List Nat}{σ:St}{H1:Hp}{D:Addr}{Qd:Hp->Prop}(Pv:Nat->Hp->Prop)(h0:Pv 0 (upd H1 D (.lst [])))(hl:∀ i H,i<=xs.length->Pv i H->zN K H a xs)
  (hs:∀ i x H,xs[i]?=some x->Pv i H->g x (ZL σ vs) H λσ2 H2=>ZL σ2 vs=ZL σ vs/\tt σ2 H2 λb H3=>
   if b=true then te σ2 H3 λy H4=>∃ acc,H4 D=some (.lst acc)/\acc.length<sizeLine/\Pv (i+1) (upd H4 D (.lst (acc++[y]))) else Pv (i+1) H3) (hd:∀ H,Pv xs.length H->Qd H) :
  ∃ W:Nat->Nat->Hp->Prop,(∃ m,W 0 m (upd H1 D (.lst [])))/\∀ i m H,W i m H->
   ((Itl K a).stop i H/\Qd H)\/((Itl K a).go i H/\∃ Nx:Hp->Prop,(∀ H',Nx H'->∃ m',m'<m/\W (i+1) m' H')/\∀ x H',(Itl K a).yld i H x H'->g x (ZL σ vs) H' λσ2 H2=>ZL σ2 vs=ZL σ vs/\tt σ2 H2 λb H3=>
    if b=true then te σ2 H3 λy H4=>∃ acc,H4 D=some (.lst acc)/\acc.length<sizeLine/\Nx (upd H4 D (.lst (acc++[y]))) else Nx H3):=by
 refine⟨λi m H=>m=xs.length-i/\i<=xs.length/\Pv i H,⟨xs.length,by simp,Ww _,h0⟩,?_⟩;rintro i m H ⟨rfl,hi,p⟩;have q:=hl i H hi p;by_cases hlt:i<xs.length
 .refine .inr ⟨⟨xs,xs[i],q,by simp[hlt]⟩,Pv (i+1),λH' p'=>⟨xs.length-(i+1),by lia,rfl,hlt,p'⟩,λx H' y=>?_⟩;obtain⟨e,y⟩:=y;subst e;exact hs i x _ (y xs q) p
 .have e:i=xs.length:=by lia
  subst e;exact .inl ⟨⟨xs,q,We _⟩,hd H p⟩
def zAg (N:List Str)(sc scope:Scope)(own:List (Str×Nat)):Bool:=
 (match scope.kind with |.function=>true|_=>false)&&(scope.names.all λy=>decide (scope.names.lookup y.1=some y.2))&&(own.all λp=>decide (N[p.2]?=some p.1)) &&
  (scope.names.all λy=>match y.2 with
  |.free=>(match sc.names.lookup y.1 with |some .cell=>true|some .free=>true|_=>false)
  |.local=>decide (y.1∈own.map (·.1))||decide (y.1∉N)
  |.cell=>decide (y.1∈own.map (·.1))||decide (y.1∉N)
  |_=>true)
theorem ZW{N:List Str}{sc scope:Scope}{own:List (Str×Nat)}(h:zAg N sc scope own=true):zF1 N sc scope own:=by
 unfold zAg at h;simp only[y9,WW,yr] at h;obtain⟨⟨⟨h1,h2⟩,h3⟩,h4⟩:=h;refine⟨?_,h2,h3,λy hy e=>?_,λy hy e=>?_⟩
 .split at h1
  .assumption
  .cases h1
 .have q:=h4 y hy;simp only[e] at q;split at q <;> first|exact .inl (by assumption)|exact .inr (by assumption)|cases q
 .have q:=h4 y hy;rcases e with e|e <;> (simp only[e,Vc,yr] at q;exact q)
section
variable {κ:Type} [DecidableEq κ]
def ZB (kvs:List (κ×V))(k:κ):Option V:=(kvs.find? λkv=>decide (kv.1=k)).map (·.2)
def YE (kvs:List (κ×V))(k:κ)(v:V):List (κ×V):=
 if (kvs.any λkv=>decide (kv.1=k))=true then kvs.map (λkv=>if kv.1=k then (kv.1,v) else kv) else kvs++[(k,v)]
theorem zNF{k:κ}:ZB ([]:List (κ×V)) k=none:=rfl
theorem Z2{p:κ×V}{r:List (κ×V)}{k:κ}(e:p.1=k):ZB (p::r) k=some p.2:=by simp[ZB,VT,e]
theorem Z3{p:κ×V}{r:List (κ×V)}{k:κ}(e:¬ p.1=k):ZB (p::r) k=ZB r k:=by simp[ZB,VT,e]
theorem zAh(k:κ):∀ kvs:List (κ×V),(kvs.any λkv=>decide (kv.1=k))=(ZB kvs k).isSome
|[]=>rfl
|p::r=>by
  rw[Xi];by_cases e:p.1=k
  .simp only[Z2 e,WO e,U6,Option.isSome_some]
  .rw[Z3 e,WH e,Xj];exact zAh k r
theorem zIC(k j:κ)(y:V):∀ kvs:List (κ×V),ZB (kvs.map λkv=>if kv.1=k then (kv.1,y) else kv) j=(ZB kvs j).map λx=>if j=k then y else x
|[]=>rfl
|p::r=>by
  have ih:=zIC k j y r;rw[Wo];by_cases h:p.1=k
  .rw[Wc h];by_cases e:p.1=j
   .rw[Z2 (p:=(p.1,y)) e,Z2 e,Vl,Wc (e.symm.trans h)]
   .rw[Z3 (p:=(p.1,y)) e,Z3 e,ih]
  .rw[Wb h];by_cases e:p.1=j
   .rw[Z2 (p:=p) e,Z2 e,Vl,Wb (λz=>h (e.trans z))]
   .rw[Z3 (p:=p) e,Z3 e,ih]
theorem zHL(k j:κ)(y:V):∀ kvs:List (κ×V),ZB kvs k=none->ZB (kvs++[(k,y)]) j=if j=k then some y else ZB kvs j
|[],_=>by
  by_cases e:k=j
  .rw[Wc e.symm];exact Z2 (p:=(k,y)) e
  .rw[Wb (λz=>e z.symm)];exact Z3 (p:=(k,y)) e
|p::r,hn=>by
  rw[List.cons_append];have hk:¬ p.1=k:=λz=>by rw[Z2 z] at hn;cases hn
  rw[Z3 hk] at hn;have ih:=zHL k j y r hn;by_cases e:p.1=j
  .rw[Z2 e,Z2 e,Wb (λz=>hk (e.trans z))]
  .rw[Z3 e,Z3 e,ih]
theorem zNG(kvs:List (κ×V))(k j:κ)(y:V):ZB (YE kvs k y) j=if j=k then some y else ZB kvs j:=by
 unfold YE;by_cases a:(kvs.any λkv=>decide (kv.1=k))=true
 .rw[Wc a,zIC];rw[zAh] at a;by_cases e:j=k
  .obtain⟨x,hx⟩:=Option.isSome_iff_exists.mp a;rw[Wc e,e,hx,Vl,Wc rfl]
  .rw[Wb e];cases ZB kvs j with
  |none=>rfl
  |some x=>rw[Vl,Wb e]
 .rw[Wb a];refine zHL k j y kvs ?_;rw[zAh] at a;cases q:ZB kvs k with
 |none=>rfl
 |some x=>rw[q] at a;exact (a rfl).elim
theorem zC5(kvs:List (κ×V))(k:κ)(v:V):(YE kvs k v).length<=kvs.length+1:=by
 unfold YE;split
 .rw[zX];lia
 .rw[Wi,Wn,VS];lia
theorem zNH{kvs:List (κ×V)}{k:κ}(v:V)(h:ZB kvs k=none):YE kvs k v=kvs++[(k,v)]:=by
 unfold YE;rw[zAh,h];exact Wb (by decide)
theorem Yn.isSome_eq{o:Option V}{u:Option Value}(r:Yn o u):o.isSome=u.isSome:=by
 cases o with
|none=>cases u with
 |none=>rfl
 |some _=>exact (show False from r).elim
|some _=>cases u with
 |none=>exact (show False from r).elim
 |some _=>rfl
theorem KV.val{kvs:List (κ×V)}{vs:List (κ×Value)}(r:KV kvs vs)(k:κ):Yn (ZB kvs k) (valueAt vs k):=by
 unfold KV at r
 induction r with
|nil=>exact True.intro
|@cons p q ps qs h t ih=>
  obtain⟨h1,h2⟩:=h;by_cases e:p.1=k
  .have e':q.1=k:=h1.symm.trans e;have b:valueAt (q::qs) k=some q.2:=by simp[valueAt,VT,e']
   rw[Z2 e,b];exact h2
  .have e':¬ q.1=k:=λz=>e (h1.trans z)
   have b:valueAt (q::qs) k=valueAt qs k:=by simp[valueAt,VT,e']
   rw[Z3 e,b];exact ih
theorem KV.any{kvs:List (κ×V)}{vs:List (κ×Value)}(r:KV kvs vs)(k:κ):(kvs.any λkv=>decide (kv.1=k))=vs.any λkv=>decide (kv.1=k):=by
 unfold KV at r
 induction r with
|nil=>rfl
|cons h t ih=>rw[Xi,Xi,ih,h.1]
theorem KV.repl{kvs:List (κ×V)}{vs:List (κ×Value)}(r:KV kvs vs)(k:κ){y:V}{u:Value}(ry:zp y u) :
  KV (kvs.map λkv=>if kv.1=k then (kv.1,y) else kv) (vs.map λkv=>if kv.1=k then (kv.1,u) else kv):=by
 unfold KV at r ⊢
 induction r with
|nil=>exact .nil
|@cons p q ps qs h t ih=>
  rw[Wo,Wo];refine .cons ?_ ih;obtain⟨h1,h2⟩:=h;by_cases e:p.1=k
  .rw[Wc e,Wc (h1.symm.trans e)];exact⟨h1,ry⟩
  .rw[Wb e,Wb (λz=>e (h1.trans z))];exact⟨h1,h2⟩
theorem KV.put{kvs:List (κ×V)}{vs:List (κ×Value)}(r:KV kvs vs)(k:κ){y:V}{u:Value}(ry:zp y u):KV (YE kvs k y) (stored vs k u):=by
 unfold YE stored;rw[r.any k];by_cases e:(vs.any λkv=>decide (kv.1=k))=true
 .rw[Wc e,Wc e];exact r.repl k ry
 .rw[Wb e,Wb e];exact Paired.snoc r ⟨rfl,ry⟩
theorem KV.length{kvs:List (κ×V)}{vs:List (κ×Value)}(r:KV kvs vs):kvs.length=vs.length:=US r
end
theorem zHr{P:Program}{w:World}{k:yD}{u:Value}(r:zp (kV k) u):(yP P w).is k u=true:=by
 cases k with
|inl i=>obtain⟨t,e⟩:=(show ∃ t,u=Value.int i t from r);subst e;exact zJD P w i t
|inr x=>obtain⟨t,e⟩:=(show ∃ t,u=Value.str x t from r);subst e;exact zJE P w x t
theorem zHM{P:Program}{w:World}:∀ {ks:List yD}{us:List Value},zY (ks.map kV) us->ItemsAre (yP P w) ks us
|[],_,r=>by rw[Xr] at r;cases r;exact .nil
|k::ks,_,r=>by
  rw[Wo] at r;cases r with
 |cons h t=>exact .cons (zHr h) (zHM t)
abbrev KT(H:Hp):List (List yD×V)->List (List yD×Addr×Value)->Prop:=Paired λp q=>p.1=q.1/\H q.2.1=some (.tup (p.1.map kV))/\zp p.2 q.2.2
theorem KT.val{H:Hp}{kvs:List (List yD×V)}{xs:List (List yD×Addr×Value)}(r:KT H kvs xs)(k:List yD):Yn (ZB kvs k) ((atKey xs k).map (·.2)):=by
 induction r with
|nil=>exact True.intro
|@cons p q ps qs h t ih=>
  obtain⟨h1,_,h2⟩:=h;by_cases e:p.1=k
  .have e':q.1=k:=h1.symm.trans e;have b:atKey (q::qs) k=some q.2:=by simp[atKey,VT,e']
   rw[Z2 e,b];exact h2
  .have e':¬ q.1=k:=λz=>e (h1.trans z)
   have b:atKey (q::qs) k=atKey qs k:=by simp[atKey,VT,e']
   rw[Z3 e,b];exact ih
theorem KT.repl{H:Hp}{kvs:List (List yD×V)}{xs:List (List yD×Addr×Value)}(r:KT H kvs xs)(k:List yD){y:V}{u:Value}(ry:zp y u) :
  KT H (kvs.map λkv=>if kv.1=k then (kv.1,y) else kv) (xs.map (putAt k u)):=by
 induction r with
|nil=>exact .nil
|@cons p q ps qs h t ih=>
  rw[Wo,Wo];refine .cons ?_ ih;obtain⟨h1,h2,h3⟩:=h;unfold putAt;by_cases e:p.1=k
  .rw[Wc e,Wc (h1.symm.trans e)];exact⟨h1,h2,ry⟩
  .rw[Wb e,Wb (λz=>e (h1.trans z))];exact⟨h1,h2,h3⟩
theorem KT.put{H:Hp}{kvs:List (List yD×V)}{xs:List (List yD×Addr×Value)}(r:KT H kvs xs)(k:List yD){b:Addr}{y:V}{u:Value}(hb:H b=some (.tup (k.map kV)))(ry:zp y u) :
  KT H (YE kvs k y) (storedH xs k b u):=by
 have e:(kvs.any λkv=>decide (kv.1=k))=(atKey xs k).isSome:=by
  rw[zAh,(r.val k).isSome_eq,UY]
 unfold YE storedH;rw[e];by_cases q:(atKey xs k).isSome=true
 .rw[Wc q,Wc q];exact r.repl k ry
 .rw[Wb q,Wb q];exact Paired.snoc r ⟨rfl,hb,ry⟩
theorem KT.keeps{H H':Hp}{kvs:List (List yD×V)}{xs:List (List yD×Addr×Value)}(r:KT H kvs xs)(ht:∀ b ys,H b=some (.tup ys)->H' b=some (.tup ys)):KT H' kvs xs:=
 Paired.mapP r λ_ _ z=>⟨z.1,ht _ _ z.2.1,z.2.2⟩
section
variable {P:Program}{w:World}{H:Hp}{h:Heap}{a:Addr}
theorem zOA{u:HO}(ok:ZO P w H h)(e:Rd H a u):yT P w H h a u:=e.ok ok
theorem zKg{kvs:List (yD×V)}(ok:ZO P w H h)(e:Rd H a (.dK kvs)):kvs.length<=sizeLine/\(a==sysModules)=false/\∃ vs,KV kvs vs/\h.DictOf (yP P w) a vs:=
 show yT P w H h a (.dK kvs) from zOA ok e
theorem zR8{kvs:List (yD×V)}(ok:ZO P w H h)(e:H a=some (.dK kvs)):kvs.length<=sizeLine/\(a==sysModules)=false/\∃ vs,KV kvs vs/\h.DictOf (yP P w) a vs:=zKg ok (.inl e)
theorem zEN{ks:List yD}(ok:ZO P w H h)(e:H a=some (.tup (ks.map kV))):(tupleKind (yP P w)).is h ks a:=by
 obtain⟨_,its,r,o,h1,h2,n,h3⟩:=(show yT P w H h a (.tup (ks.map kV)) from ok a _ e)
 exact⟨o,its.toArray,n,h1,h2,h3,by simpa using zHM r⟩
theorem zKh{kvs:List (List yD×V)}(ok:ZO P w H h)(e:Rd H a (.dT kvs)):kvs.length<=sizeLine/\(a==sysModules)=false/\
  ∃ xs,KT H kvs xs/\h.DictOfH (tupleKind (yP P w)) a xs:=by
 obtain⟨z,y,xs,r,o,es,ep,h1,h2,h3,h4,h5⟩:=(show yT P w H h a (.dT kvs) from zOA ok e)
 refine⟨z,y,xs,r,o,es,ep,h1,h2,h3,h4,λx hx=>?_,h5⟩
 have all:∀ {l:List (List yD×V)}{m:List (List yD×Addr×Value)},KT H l m->∀ x∈m,(tupleKind (yP P w)).is h x.1 x.2.1:=by
  intro l m q
  induction q with
 |nil=>intro x hx;exact nomatch hx
 |@cons p q ps qs hq t ih=>
   intro x hx;rcases Wd.mp hx with e|hx
   .subst e;exact zEN ok (by rw[<-hq.1];exact hq.2.1)
   .exact ih x hx
 exact all r x hx
theorem zR9{kvs:List (List yD×V)}(ok:ZO P w H h)(e:H a=some (.dT kvs)):kvs.length<=sizeLine/\(a==sysModules)=false/\
  ∃ xs,KT H kvs xs/\h.DictOfH (tupleKind (yP P w)) a xs:=zKh ok (.inl e)
end
def zCL (H:Hp)(a:Addr)(y:V)(r:Option V):Prop:=
 (∃ kvs k,Rd H a (.dK kvs)/\y=kV k/\r=ZB kvs k)\/∃ kvs k b,Rd H a (.dT kvs)/\y=.ref b/\H b=some (.tup (k.map kV))/\r=ZB kvs k
def zEO (H:Hp)(a:Addr)(y v:V)(H':Hp):Prop:=
 (∃ kvs k,H a=some (.dK kvs)/\y=kV k/\kvs.length<sizeLine/\H'=upd H a (.dK (YE kvs k v)))\/
 ∃ kvs k b,H a=some (.dT kvs)/\y=.ref b/\H b=some (.tup (k.map kV))/\kvs.length<sizeLine/\H'=upd H a (.dT (YE kvs k v))
theorem zCL.k{H:Hp}{a:Addr}{kvs:List (yD×V)}{k:yD}(e:H a=some (.dK kvs)):zCL H a (kV k) (ZB kvs k):=.inl ⟨kvs,k,.inl e,rfl,rfl⟩
theorem zCL.t{H:Hp}{a b:Addr}{kvs:List (List yD×V)}{k:List yD}(e:H a=some (.dT kvs))(eb:H b=some (.tup (k.map kV))):zCL H a (.ref b) (ZB kvs k):=.inr ⟨kvs,k,b,.inl e,rfl,eb,rfl⟩
theorem zEO.k{H:Hp}{a:Addr}{kvs:List (yD×V)}{k:yD}{v:V}(e:H a=some (.dK kvs))(hl:kvs.length<sizeLine):zEO H a (kV k) v (upd H a (.dK (YE kvs k v))):=.inl ⟨kvs,k,e,rfl,hl,rfl⟩
theorem zEO.t{H:Hp}{a b:Addr}{kvs:List (List yD×V)}{k:List yD}{v:V}(e:H a=some (.dT kvs))(eb:H b=some (.tup (k.map kV)))(hl:kvs.length<sizeLine) :
  zEO H a (.ref b) v (upd H a (.dT (YE kvs k v))):=.inr ⟨kvs,k,b,e,rfl,eb,hl,rfl⟩
section
variable {X:Cx}{pins:Qp}{σ:St}{H:Hp}{s:Shared}{a:Addr}{y v:V}{u r:Value}{o:Option V}{A:Around}{E:Qs}
theorem zK.big(I:zK X pins σ H s):sysModules<s.heap.objs.size:=by
 have h:mainGlobals<s.heap.objs.size:=(I.mod.glob.keeps I.bk).lt;exact VW (by decide) h
theorem zSy{Q:Qs}(hu:A.units+1<cLine)(I:zK X pins σ H s)(g:zCL H a y o)(ry:zp y u)(h:∀ s',zK X pins σ H s'->Q (.bool o.isSome) s') :
  wpAny (model X.prog X.w) A (compareOp .In u (.ref a)) Q E s:=by
 rcases g with ⟨kvs,k,e,ey,l⟩|⟨kvs,k,b,e,ey,eb,l⟩
 .subst ey;obtain⟨z,hd,vs,rel,dd⟩:=zKg I.hok e;refine wpAny_in_of (zHr ry) hd dd.mapOf ?_;rw[<-(rel.val k).isSome_eq,<-l];exact h _ (I.tok _)
 .subst ey;cases (show u=Value.ref b from ry);obtain⟨z,hd,xs,rel,dd⟩:=zKh I.hok e;refine wpAny_in_heap (UT hu) (zEN I.hok eb) hd dd ?_;have q:=(rel.val k).isSome_eq;rw[UY] at q;rw[<-q,<-l];exact h _ (I.tok _)
theorem zOv{Q:Qs}(hu:A.units+1<cLine)(I:zK X pins σ H s)(g:zCL H a y o)(ry:zp y u)(h:∀ s',zK X pins σ H s'->Q (.bool (!o.isSome)) s') :
  wpAny (model X.prog X.w) A (compareOp .NotIn u (.ref a)) Q E s:=by
 rcases g with ⟨kvs,k,e,ey,l⟩|⟨kvs,k,b,e,ey,eb,l⟩
 .subst ey;obtain⟨z,hd,vs,rel,dd⟩:=zKg I.hok e;refine wpAny_notIn_of (zHr ry) hd dd.mapOf ?_;rw[<-(rel.val k).isSome_eq,<-l];exact h _ (I.tok _)
 .subst ey;cases (show u=Value.ref b from ry);obtain⟨z,hd,xs,rel,dd⟩:=zKh I.hok e;refine wpAny_notIn_heap (UT hu) (zEN I.hok eb) hd dd ?_;have q:=(rel.val k).isSome_eq;rw[UY] at q;rw[<-q,<-l];exact h _ (I.tok _)
theorem zJb{h':Heap}{t':Nat}{ob:HO}(I:zK X pins σ H s)(mu:Mut (H a))(hs:Heap.SameBut a s.heap h')(he:∃ q,h'.get? a=some q)(new:yT X.prog X.w (upd H a ob) h' a ob) :
  zK X pins σ (upd H a ob) {s with heap:=h',toks:=t'}:=
 I.write (x:=a) (e:=a) mu (.inl rfl) (λb q hb z=>(hs.2 b hb).trans z) he new
theorem zQl{P:Program}{w:World}{H':Hp}{h':Heap}{kvs:List (yD×V)}{vs:List (yD×Value)}(z:kvs.length<=sizeLine)(hd:(a==sysModules)=false)(rel:KV kvs vs)(dd:h'.DictOf (yP P w) a vs) :
  yT P w H' h' a (.dK kvs):=⟨z,hd,vs,rel,dd⟩
theorem zLz{H':Hp}{Q:Unit->Shared->Prop}(hu:A.units+1<cLine)(I:zK X pins σ H s)(g:zEO H a y v H')(ry:zp y u)(rv:zp v r)(h:∀ s',zK X pins σ H' s'->Q () s') :
  wpAny (model X.prog X.w) A (setItem (.ref a) u r) Q E s:=by
 rcases g with ⟨kvs,k,e,ey,l,eH⟩|⟨kvs,k,b,e,ey,eb,l,eH⟩
 .subst ey eH;obtain⟨z,hd,vs,rel,dd⟩:=zR8 I.hok e;have hz:vs.length<=sizeLine:=by rw[<-rel.length];exact z
  have hl:(YE kvs k v).length<=sizeLine:=by have:=zC5 kvs k v;lia
  refine wpAny_setItem_pairs (hsz:=hz) (zHr ry) dd λh' dd' hs=>h _ ?_
  have he:∃ q,h'.get? a=some q:=let ⟨q,_,_,hq,_⟩:=dd';⟨q,hq⟩;exact zJb I (by rw[e];exact True.intro) hs he (zQl hl hd (rel.put k rv) dd')
 .subst ey eH;cases (show u=Value.ref b from ry);obtain⟨z,hd,xs,rel,dd⟩:=zR9 I.hok e;have hz:xs.length<=sizeLine:=by rw[<-US rel];exact z
  have hl:(YE kvs k v).length<=sizeLine:=by have:=zC5 kvs k v;lia
  refine wpAny_setItem_heap (hsz:=hz) (UT hu) (zEN I.hok eb) dd λh' dd' hs=>h _ ?_
  obtain⟨q,es,ep,hq,h2,h3,h4,_,h5⟩:=dd';refine zJb I (by rw[e];exact True.intro) hs ⟨q,hq⟩ ⟨hl,hd,_,(rel.put k eb rv).keeps λc ys ec=>?_,q,es,ep,hq,h2,h3,h4,h5⟩;rw[zD (zRv ec e (λz=>nomatch z))];exact ec
end
def zSz (ty td:TE):TE:=λσ H Q=>ty σ H λy H1=>td σ H1 λx H2=>∃ a o,x=.ref a/\zCL H2 a y o/\Q (.bl o.isSome) H2
def zOw (ty td:TE):TE:=λσ H Q=>ty σ H λy H1=>td σ H1 λx H2=>∃ a o,x=.ref a/\zCL H2 a y o/\Q (.bl (!o.isSome)) H2
def zSA (td ty tv:TE):TS:=λD σ H=>tv σ H λv H1=>td σ H1 λx H2=>ty σ H2 λy H3=>∃ a H4,x=.ref a/\zEO H3 a y v H4/\D.nx σ H4
section
variable {X:Cx}{o i e value:Expr}{pos pos' tpos:Pos}{td ty tv:TE}
theorem zL0(hu:X.A.units+1<cLine)(hi:PE X i ty)(ho:PE X o td):PC X .In i o (zSz ty td):=by
 intro pins s σ H Q I h;refine zr (hi pins s σ H _ I h) λiv s1 ⟨y,H1,I1,ry,q1⟩=>zr (ho pins s1 σ H1 _ I1 q1) λu s2 ⟨x,H2,I2,rx,a,ov,ex,g,q2⟩=>?_
 subst ex;obtain rfl:u=Value.ref a:=rx;exact zSy hu I2 g ry λs3 I3=>⟨.bl ov.isSome,H2,I3,rfl,q2⟩
theorem zL1(hu:X.A.units+1<cLine)(hi:PE X i ty)(ho:PE X o td):PC X .NotIn i o (zOw ty td):=by
 intro pins s σ H Q I h;refine zr (hi pins s σ H _ I h) λiv s1 ⟨y,H1,I1,ry,q1⟩=>zr (ho pins s1 σ H1 _ I1 q1) λu s2 ⟨x,H2,I2,rx,a,ov,ex,g,q2⟩=>?_
 subst ex;obtain rfl:u=Value.ref a:=rx;exact zOv hu I2 g ry λs3 I3=>⟨.bl (!ov.isSome),H2,I3,rfl,q2⟩
theorem zJc(hu:X.A.units+1<cLine)(ho:PE X o td)(hi:PE X i ty)(hv:PE X value tv)(hs:swapsWith value (some (.Subscript o i pos')) pos.line X.env=pure false) :
  PS X (.Assign [.Subscript o i pos'] value pos) (zSA td ty tv):=by
 intro pins s σ H D I h;refine wpAny_Assign_Subscript (zr (hv pins s σ H _ I h) λr s1 ⟨v,H1,I1,rv,q1⟩=>zr (ho pins s1 σ H1 _ I1 q1) λu s2 ⟨x,H2,I2,rx,q2⟩=>zr (hi pins s2 σ H2 _ I2 q2) λiv s3 ⟨y,H3,I3,ry,a,H4,ex,g,q3⟩=>?_) hs;subst ex;obtain rfl:u=Value.ref a:=rx;exact zLz hu I3 g ry rv λs4 I4=>⟨σ,H4,I4,q3⟩
end
theorem zNI{P:Program}{w:World}{H:Hp}(h:Heap)(hb:sysModules<h.objs.size):yT P w H (h.push {cls:=.type "dict",data:=.dict #[]}) h.objs.size (.dK []):=
 ⟨Ww _,W8.mpr (Ne.symm (Wx hb)),[],.nil,Heap.DictOf.new h⟩
theorem zNJ{P:Program}{w:World}{H:Hp}(h:Heap)(hb:sysModules<h.objs.size):yT P w H (h.push {cls:=.type "dict",data:=.dict #[]}) h.objs.size (.dT []):=
 ⟨Ww _,W8.mpr (Ne.symm (Wx hb)),[],.nil,_,#[],0,Wz _ rfl,⟨rfl,rfl,rfl⟩,rfl,rfl,VY⟩
def zQm:TE:=λ_ H Q=>∀ p,H p=none->Q (.ref p) (upd H p (.dK []))
def zQn:TE:=λ_ H Q=>∀ p,H p=none->Q (.ref p) (upd H p (.dT []))
section
variable {X:Cx}{pos:Pos}
theorem zNK:PE X (.Dict [] [] pos) zQm:=λpins s σ H Q I h=>
 wpAny_Dict_empty ⟨.ref s.heap.objs.size,_,I.laid (a:=s.heap.objs.size) (o:=.dK []) (t':=s.toks) (λ_ _ q=>Wf _ q) (We _) (zNI s.heap I.big),rfl,h _ (I.hok.fresh (We _))⟩
theorem zNL:PE X (.Dict [] [] pos) zQn:=λpins s σ H Q I h=>
 wpAny_Dict_empty ⟨.ref s.heap.objs.size,_,I.laid (a:=s.heap.objs.size) (o:=.dT []) (t':=s.toks) (λ_ _ q=>Wf _ q) (We _) (zNJ s.heap I.big),rfl,h _ (I.hok.fresh (We _))⟩
end
theorem zGj:typeLookup (.type "list") "keys" = pure none:=am_miss_of_fast (by first|decide +kernel|rfl)
theorem zID:entryFor table "dict.update.loop" = some Builtin.«dict.update.loop»:=entryFor_of_tree (by kernel_rfl)
theorem zCM:plainId "dict.update.loop" = true:=by decide +kernel
section
variable {prog:Program}{w:World}{A:Around}{E:Qs}
theorem zL2{s:Shared}{a:Addr}{o:Obj}{xs:Array Value}{k:Nat}{Q:Option Value->Shared->Prop}(hx:s.heap.get? a=some o)(hc:o.cls=.type "list")(hdat:o.data=.seq xs k)(hd:o.dict=none)(hA:A.handled=none)
  (h:∀ h' tk,(∀ b ob,s.heap.get? b=some ob->h'.get? b=some ob)->Q none {s with heap:=h',toks:=tk}):wpAny (model prog w) A (getAttr? (.ref a) "keys") Q E s:=by
 obtain⟨c,dct,dat,sl⟩:=o;simp only at hc hdat hd;subst hc hdat hd;obtain⟨hp,g,d,tk,os⟩:=s;have hT:∀ tk',(⟨hp,g,d,tk',os⟩:Shared).TypeIs (.ref a) "list":=λ_=>⟨_,hx,rfl⟩
 have hmiss:=zGj;have hname:(["__module__","__name__","__qualname__","__doc__","__annotations__"]:List Str).contains "keys" = false:=by decide +kernel
 have hsz:("keys" : Str).length+100<=sizeLine:=by first|size_fits|decide +kernel
 have f1:=sub_AttributeError;have f3:=PySem.F.slot_list_getattribute.lookup;have f4:=PySem.F.slot_list_getattribute.bind (.ref a);have f5:=am_list_getattr_none;unfold getAttr? getAttrBy? getAttrBy
 repeat (any_goals (first|assumption|exact hT _|((with_reducible show wpAny _ _ (call (Value.builtin "list.__getattribute__") _ _) _ _ _);refine Jl PySem.F.slot_list_getattribute (hT _) am_entry_list_getattribute (PySem.F.args_list_getattribute_2 _ _) (meets_getattribute_miss_list a xs k sl "keys" _ hmiss hname hsz) ⟨hx,hA,λh' tk' e hx'=>?_⟩)|wp_step))
 obtain⟨t',u',he⟩:=hx'.there;show wpAny _ _ (getattributeRaised _ _ _ _ _ _ _) _ _ _;unfold getattributeRaised
 repeat (any_goals (first|assumption|wp_step))
 all_goals first|exact h _ _ hx'.keeps|(dsimp only;repeat (any_goals (first|assumption|exact h _ _ hx'.keeps|wp_step)))
end
section
variable {X:Cx}
theorem zJd:∀ {ps:List Addr}{us:List Value},zY (ps.map V.ref) us->us=ps.map Value.ref
|[],us,r=>by
  rw[Xr] at r;cases r;rfl
|p::ps,us,r=>by
  rw[Wo] at r;cases r with
 |cons h t=>
   cases h;rw[Wo,<-zJd t]
end
theorem zGk:bootBuiltins "reversed" = some (.type "reversed"):=by decide +kernel
section
variable {X:Cx}{pins:Qp}{σ:St}{H:Hp}{s:Shared}{h':Heap}
theorem zK.turnedNew{t':Nat}{ch:List Addr}{T:Addr}{ob:HO}(I:zK X pins σ H s)(k:∀ b o,b∉ch->s.heap.get? b=some o->h'.get? b=some o)(hf:∀ b∈ch,zAN X pins H b)(hT:s.heap.objs.size<=T)
  (new:yT X.prog X.w (upd H T ob) h' T ob):zK X pins σ (upd H T ob) {s with heap:=h',toks:=t'}:=by
 have hn:H T=none:=I.hok.fresh hT
 have nit:∀ b u,H b=some u->b∉ch:=λb u e z=>by
  have q:=(hf b z).1;rw[q] at e;cases e
 refine I.step (g':=s.gens) (d':=s.drawn) (ch:=ch) (λb hb=>⟨(hf b hb).2.2.2.1,(hf b hb).2.1,(hf b hb).2.2.2.2.1,(hf b hb).2.2.2.2.2⟩) (λb o _ _ hc e _=>k b o hc e) (λb o _ _ hc e _=>⟨o.slots,k b o hc e⟩)
  (λb o _ e n=>?_) (λb o hc e=>⟨o,k b o hc e⟩) (λb xs e=>?_) (λb o u e=>?_) (λb ps e=>⟨#[],?_⟩) (λm hm=>?_) (λb u e=>?_) I.bare
 .rw[zD (Wx (yR (Wj e) hT))];exact n
 .rw[zD (zJ e hn)];exact e
 .rw[zD (zJ e hn)];exact e
 .rw[zD (zJ e hn),e];simp
 .obtain⟨o,es,ep,ho,r⟩:=hm;exact⟨o,es,ep,k _ o (λz=>(hf _ z).2.1 rfl) ho,r⟩
 .by_cases hb:b=T
  .subst hb;rw[zE] at e;cases e;exact new
  .rw[zD hb] at e;refine (I.hok b u e).stay (λc v hc q=>k c v ?_ q) (λc q=>by rw[zD (zJ q hn)];exact q) λc xs q=>by rw[zD (zJ q hn)];exact q
   rcases hc with z|z
   .rw[z];exact nit b u e
   .exact nit c _ z
end
section
variable {X:Cx}
theorem zL3{tg:Expr}{pins:Qp}{σ:St}{H:Hp}{s:Shared}{R:It->Hp->Prop}{J:It}{tn:Nat->Heap->Prop}{tk:Nat}(I:zK X pins σ H s)(o:Obj)
  (T:zEG X.prog X.w X.K tg J [s.heap.objs.size] s.heap.objs.size tn)(st:tn 0 (s.heap.push o))(q:R J H):PIE X pins σ tg R (.ref s.heap.objs.size) {s with heap:=s.heap.push o,toks:=tk}:=by
 refine⟨s.heap.objs.size,[s.heap.objs.size],tn,J,H,rfl,I.kept λb ob e=>Wf _ e,T,st,λb hb=>?_,q⟩;have e:b=s.heap.objs.size:=by simpa using hb
 subst e;exact I.fpOk (We _) (I.hok.fresh (We _))
end
def Itc (lo c:Int)(n:Nat):It:=⟨λi _=>i<n,λi H x H'=>H'=H/\x=.int (lo+(i:Nat)*c),λi _=>n<=i⟩
theorem zJI{P:Program}{w:World}{K:Qf}{tg:Expr}(it:Addr)(lo c:Int)(n:Nat):zEG P w K tg (Itc lo c n) [it] it (λi h=>IsRangeIter h it (lo+(i:Nat)*c) ((n:Int)-(i:Nat)) c) where
 mem:=by simp
 obj:=λi h st b hb=>by
  have e:b=it:=by simpa using hb
  subst e;exact⟨_,st,λv z=>nomatch z⟩
 keep:=λi h h' st k=>k it (by simp) _ st
 item:=by
  intro X hP hw hK hc i pins s σ H E I hf st hg;subst hP hw hK;obtain⟨f0,f1,f2,f3,f4,f5⟩:=hf it (by simp);have W:=Walks.range (prog:=X.prog) (w:=X.w) (I.ok.hd hc) it lo c n;refine W.item i s _ _ hg st λv h' tk hv st' kk=>?_
  obtain⟨t,rfl⟩:=hv;have I1:zK X pins σ H {s with heap:=h',toks:=tk}:=I.turned (λb o hb e=>kk b o (by simpa using hb) e) f0 f1 f3 f4 f5;exact⟨_,rfl,zFv (s:={s with heap:=h',toks:=tk}) (n:="range_iterator") st' rfl rfl (by decide) ⟨.int (lo+(i:Nat)*c),H,I1,⟨t,rfl⟩,⟨rfl,rfl⟩,st',λb hb=>(hf b hb).1⟩⟩
 done:=by
  intro X hP hw hK hc i pins s σ H E I hf st hg;subst hP hw hK;obtain⟨f0,f1,f2,f3,f4,f5⟩:=hf it (by simp);exact wpAny_pyNext_range_end (I.ok.hd hc) st (by have:n<=i:=hg;lia) λh' eb=>⟨rfl,I.turned (t':=s.toks) (λb o hb e=>eb b o hb e) f0 f1 f3 f4 f5⟩
 self:=λA i s Q E st h=>wpAny_pyIter_rangeiter st h
def RgC (i j c:Int)(n:Nat):Prop:=c≠0/\c.natAbs<1073741824/\Builtin.Range.small i j c=true/\Builtin.Range.rangeSize i j c=n
def zSB (ta:TA):TI:=λσ H R=>ta σ H λvs H1=>∃ (i j c:Int) (n:Nat),vs=[.int i,.int j,.int c]/\RgC i j c n/\R (Itc i c n) H1
section
variable {X:Cx}{tg:Expr}
theorem zBn{a b c:Expr}{ta:TA}{p pos:Pos}(hg:Gl X "range")(hm:X.mg "range" = none)(ha:PA X [a,b,c] ta)
  (hs:starEach [a,b,c] X.env=(false,eval a X.env)::starEach [b,c] X.env:=by rfl)(hpl:(backTo pos (starEach [b,c] X.env)).any (·.1)=false:=by rfl) :
  PI X tg (.Call (.Name "range" p) [a,b,c] [] pos) (zSB ta):=by
 intro pins s σ H R I h;refine Call_ (zAy I hg hm Jm (Vh (zr (ha pos pins s σ H _ I h) λus s1 ⟨vs,H1,I1,r1,q1⟩=>?_) hs hpl));obtain⟨i,j,k,n,e,⟨c0,c1,c2,c3⟩,q⟩:=q1;subst e;cases r1 with
|cons r rr=>
  cases rr with
 |cons r' rr=>
   cases rr with
  |cons r'' rr=>
    cases rr;obtain⟨t,rfl⟩:=r;obtain⟨t',rfl⟩:=r';obtain⟨t'',rfl⟩:=r'';refine call_range_3 c0 ?_ (.inl (PyProof.noPylong_small c1));refine wpAny_pyIter_range (IsRange.new ..) c2 ?_;have I2:zK X pins σ H1 {s1 with heap:=s1.heap.push {cls:=.type "range",data:=.fields #[.int i t,.int j t',.int k t'']}}:=I1.kept (t':=s1.toks) λb o e=>Wf _ e
    refine zL3 (tk:=s1.toks) I2 _ (zJI _ i k n) ?_ q;have e1:i+((0:Nat):Int)*k=i:=by simp
    have e2:(n:Int)-((0:Nat):Int)=Builtin.Range.rangeSize i j k:=by rw[c3];simp
    show IsRangeIter _ _ (i+((0:Nat):Int)*k) ((n:Int)-((0:Nat):Int)) k;rw[e1,e2];exact Wz _ rfl
end
theorem zKi{lo c:Int}{n:Nat}{g:TG}{tb:TS}{D:Y0}{σ:St}{H:Hp}(Pv:Nat->St->Hp->Prop)(h0:Pv 0 σ H)
  (hs:∀ i σ H,i<n->Pv i σ H->g (.int (lo+(i:Nat)*c)) σ H λσ2 H2=>tb {D with nx:=Pv (i+1),ct:=Pv (i+1),bk:=D.nx} σ2 H2)(hd:∀ σ H,Pv n σ H->D.nx σ H) :
  ∃ W:Nat->Nat->St->Hp->Prop,(∃ m,W 0 m σ H)/\∀ i m σ H,W i m σ H->
   ((Itc lo c n).stop i H/\D.nx σ H)\/((Itc lo c n).go i H/\∃ N:St->Hp->Prop,(∀ σ' H',N σ' H'->∃ m',m'<m/\W (i+1) m' σ' H')/\∀ x H',(Itc lo c n).yld i H x H'->g x σ H' λσ2 H2=>tb {D with nx:=N,ct:=N,bk:=D.nx} σ2 H2):=by
 refine⟨λi m σ H=>m=n-i/\i<=n/\Pv i σ H,⟨n,by simp,Ww _,h0⟩,?_⟩;rintro i m σ H ⟨rfl,hi,p⟩;by_cases hlt:i<n
 .refine .inr ⟨hlt,Pv (i+1),λσ' H' p'=>⟨n-(i+1),by lia,rfl,hlt,p'⟩,λx H' y=>?_⟩;obtain⟨e,y⟩:=y;subst e y;exact hs i σ _ hlt p
 .have e:i=n:=by lia
  subst e;exact .inl ⟨We _,hd σ H p⟩
def Itv (K:Qf)(a:Addr)(n:Nat):It:=
 ⟨λi H=>i<n/\∃ (xs:List V) (x:V),zN K H a xs/\xs[n-1-i]?=some x,λi H x H'=>H'=H/\∀ xs,zN K H a xs->xs[n-1-i]?=some x,λi _=>n<=i⟩
theorem zNM{P:Program}{w:World}{K:Qf}{tg:Expr}(a it:Addr)(n:Nat):zEG P w K tg (Itv K a n) [it] it (λi h=>i<=n/\h.IsRevIter it a ((n:Int)-1-(i:Nat))) where
 mem:=by simp
 obj:=λi h st b hb=>by
  have e:b=it:=by simpa using hb
  subst e;obtain⟨_,o,e,c,d⟩:=st;exact⟨o,e,λv z=>by rw[d] at z;cases z⟩
 keep:=λi h h' st k=>⟨st.1,st.2.at λo e=>k it (by simp) o e⟩
 item:=by
  intro X hP hw hK hc i pins s σ H E I hf st hg;subst hP hw hK;obtain⟨hin,xs,x,hq,hx⟩:=hg;obtain⟨its,rv,p,hz⟩:=I.list hq;obtain⟨u,hu,ru⟩:=rv.get hx;obtain⟨f0,f1,f2,f3,f4,f5⟩:=hf it (by simp);obtain⟨_,hit⟩:=st;have e1:(n:Int)-1-((i:Nat):Int)=((n-1-i:Nat):Int):=by lia
  rw[e1] at hit;refine wpAny_pyNext_rev_item hit p.isList (x:=u) (by simpa using hu) λh' st' sb=>?_
  have e2:((n-1-i:Nat):Int)-1=(n:Int)-1-((i+1:Nat):Int):=by lia
  rw[e2] at st';have I1:zK X pins σ H {s with heap:=h'}:=I.turned (t':=s.toks) (λb o hb e=>(sb.2 b hb).trans e) f0 f1 f3 f4 f5;obtain⟨o,e,c,d⟩:=id st';exact⟨u,rfl,zFv (s:={s with heap:=h'}) e c d (by decide) ⟨x,H,I1,ru,⟨rfl,λys hy=>by rw[I.list_inj hy hq];exact hx⟩,⟨hin,st'⟩,λb hb=>(hf b hb).1⟩⟩
 done:=by
  intro X hP hw hK hc i pins s σ H E I hf st hg;subst hP hw hK;obtain⟨f0,f1,f2,f3,f4,f5⟩:=hf it (by simp);obtain⟨hin,hit⟩:=st;have hge:n<=i:=hg;have e1:(n:Int)-1-((i:Nat):Int) = -1:=by lia
  rw[e1] at hit;exact wpAny_pyNext_rev_end (I.ok.hd hc) hit λh' eb=>⟨rfl,I.turned (t':=s.toks) (λb o hb e=>eb b o hb e) f0 f1 f3 f4 f5⟩
 self:=λA i s Q E st h=>wpAny_pyIter_revIter st.2 h
def zS0 (K:Qf)(ta:TA):TI:=λσ H R=>ta σ H λvs H1=>∃ (a:Addr) (xs:List V),vs=[.ref a]/\zN K H1 a xs/\R (Itv K a xs.length) H1
section
variable {X:Cx}{tg:Expr}
theorem zJJ{e:Expr}{ta:TA}{p pos:Pos}(hg:Gl X "reversed")(hm:X.mg "reversed" = none)(ha:PA X [e] ta)(hs:starEach [e] X.env=[(false,eval e X.env)]:=by rfl):PI X tg (.Call (.Name "reversed" p) [e] [] pos) (zS0 X.K ta):=by
 intro pins s σ H R I h;refine Call_ (zAy I hg hm zGk (Vh (zr (ha pos pins s σ H _ I h) λus s1 ⟨vs,H1,I1,r1,q1⟩=>?_) hs rfl));obtain⟨a,xs,e,hq,q⟩:=q1;subst e;cases r1 with
|cons r rr=>
  cases rr;cases r;obtain⟨its,rv,p',hz⟩:=I1.list hq;have hl:=rv.length;have e1:((its.toArray.size:Nat):Int)-1=(xs.length:Int)-1-((0:Nat):Int):=by simp only[Wk];lia
  refine call_reversed_list p'.isList (wpAny_pyIter_revIter (l:=a) (i:=((its.toArray.size:Nat):Int)-1) ⟨_,Wz _ rfl,rfl,rfl⟩ ?_);refine zL3 (tk:=s1.toks) I1 _ (zNM a _ xs.length) ⟨Ww _,?_⟩ q;rw[<-e1];exact⟨_,Wz _ rfl,rfl,rfl⟩
end
def Ite (K:Qf)(a:Addr):It:=
 ⟨λi H=>∃ (xs:List V) (x:V),zN K H a xs/\xs[i]?=some x,λi H v H'=>∃ T x,v=.ref T/\H T=none/\H'=upd H T (.tup [.int (i:Nat),x])/\∀ xs,zN K H a xs->xs[i]?=some x,λi H=>∃ xs:List V,zN K H a xs/\xs.length<=i⟩
theorem zL4{P:Program}{w:World}{K:Qf}{elts:List Expr}{kk:Nat}{tpos:Pos}(a e it:Addr) :
  zEG P w K (.Tuple elts kk tpos) (Ite K a) [e,it] e (λi h=>(∃ old,IsEnum h e it ((i:Nat):Int) old)/\h.IsListIter it a i/\e≠it) where
 mem:=by simp
 obj:=λi h st b hb=>by
  obtain⟨⟨old,he⟩,⟨o,ho,hc,hd⟩,_⟩:=st;have e':b=e\/b=it:=by simpa using hb
  rcases e' with z|z
  .rw[z];exact⟨_,he,λv q=>nomatch q⟩
  .rw[z];exact⟨o,ho,λv q=>by rw[hd] at q;cases q⟩
 keep:=λi h h' st k=>let ⟨⟨old,he⟩,hi,hne⟩:=st;⟨⟨old,k e (by simp) _ he⟩,hi.at λo q=>k it (by simp) o q,hne⟩
 item:=by
  intro X hP hw hK hc i pins s σ H E I hf st hg;subst hP hw hK;obtain⟨⟨old,he⟩,hit,hne⟩:=st;obtain⟨xs,x,hq,hx⟩:=hg;obtain⟨its,rv,p,hz⟩:=I.list hq;obtain⟨u,hu,ru⟩:=rv.get hx;have hel:e<s.heap.objs.size:=Wj he;have hil:it<s.heap.objs.size:=by obtain⟨_,q,_⟩:=hit;exact Wj q
  refine wpAny_pyNext_enum_item he hit p.isList (x:=u) (by simpa using hu) hne λh' ho hit' hT hsz hk=>?_
  refine⟨_,rfl,wpAny_letOwnedTupleGo_enum (s:={s with heap:=h',toks:=s.toks+1}) ho λh'' he' sb=>?_⟩;have hT2:h''.get? s.heap.objs.size=some {cls:=.type "tuple",data:=.seq #[.int i s.toks,u]}:=(sb.2 _ (U0 hel)).trans hT
  have new:yT X.prog X.w (upd H s.heap.objs.size (.tup [.int (i:Nat),x])) h'' s.heap.objs.size (.tup [.int (i:Nat),x]):=
   ⟨by show 2<=sizeLine;decide,[.int i s.toks,u],.cons ⟨_,rfl⟩ (.cons ru .nil),⟨_,hT2,rfl,_,rfl⟩⟩
  have I1:zK X pins σ (upd H s.heap.objs.size (.tup [.int (i:Nat),x])) {s with heap:=h'',toks:=s.toks+1}:=
   I.turnedNew (ch:=[e,it]) (λb ob hb q=>(sb.2 b (λz=>hb (by simp[z]))).trans (hk b ob (λz=>hb (by simp[z])) (λz=>hb (by simp[z])) q)) hf (We _) new
  refine⟨.ref s.heap.objs.size,_,I1,rfl,⟨_,x,rfl,I.hok.fresh (We _),rfl,λys hy=>by rw[I.list_inj hy hq];exact hx⟩,⟨⟨u,?_⟩,hit'.at λo q=>(sb.2 it (Ne.symm hne)).trans q,hne⟩,λb hb=>?_⟩
  .have e1:((i+1:Nat):Int)=(i:Int)+1:=by lia
   rw[e1];exact he'
  .have hb':b<s.heap.objs.size:=by
    have e':b=e\/b=it:=by simpa using hb
    rcases e' with z|z
    .rw[z];exact hel
    .rw[z];exact hil
   rw[zD (Wx hb')];exact (hf b hb).1
 done:=by
  intro X hP hw hK hc i pins s σ H E I hf st hg;subst hP hw hK;obtain⟨⟨old,he⟩,hit,hne⟩:=st;obtain⟨xs,hq,hx⟩:=hg;obtain⟨its,rv,p,hz⟩:=I.list hq;obtain⟨f0,f1,f2,f3,f4,f5⟩:=hf it (by simp);have hl:=rv.length;exact wpAny_pyNext_enum_end (I.ok.hd hc) he hit p.isList (by simp;lia) λh' eb=>⟨rfl,I.turned (t':=s.toks) (λb o hb q=>eb b o hb q) f0 f1 f3 f4 f5⟩
 self:=λA i s Q E st h=>let ⟨⟨_,he⟩,_⟩:=st;wpAny_pyIter_enum he h
def zSC (K:Qf)(ta:TA):TI:=λσ H R=>ta σ H λvs H1=>∃ a xs,vs=[.ref a]/\zN K H1 a xs/\R (Ite K a) H1
theorem YG{X:Cx}{e:Expr}{ta:TA}{p pos tpos:Pos}{elts:List Expr}{kk:Nat}(hg:Gl X "enumerate")(hm:X.mg "enumerate" = none)(ha:PA X [e] ta)(hs:starEach [e] X.env=[(false,eval e X.env)]:=by rfl) :
  PI X (.Tuple elts kk tpos) (.Call (.Name "enumerate" p) [e] [] pos) (zSC X.K ta):=by
 intro pins s σ H R I h;refine Call_ (zAy I hg hm boot_enumerate (Vh (zr (ha pos pins s σ H _ I h) λus s1 ⟨vs,H1,I1,r1,q1⟩=>?_) hs rfl));obtain⟨a,xs,ex,hq,q⟩:=q1;subst ex;cases r1 with
|cons r rr=>
  cases rr;cases r;obtain⟨its,rv,p',hz⟩:=I1.list hq;refine call_enumerate_list p'.isList λh' he hit hsz hk=>wpAny_pyIter_enum he ?_
  have I2:zK X pins σ H1 {s1 with heap:=h'}:=I1.kept (t':=s1.toks) hk;refine⟨s1.heap.objs.size+1,[s1.heap.objs.size+1,s1.heap.objs.size],_,_,H1,rfl,I2,zL4 a (s1.heap.objs.size+1) s1.heap.objs.size,⟨⟨.none,he⟩,hit,Nat.succ_ne_self _⟩,λb hb=>?_,q⟩;have e':b=s1.heap.objs.size+1\/b=s1.heap.objs.size:=by simpa using hb
  have hle:s1.heap.objs.size<=b:=by
   rcases e' with z|z
   .rw[z];exact Us _ _
   .rw[z];exact We _
  exact I1.fpOk hle (I1.hok.fresh hle)
end L2
section
namespace TL
open PySem PySem.Builtin PySem.Builtin.Str PySem.StrLaws
abbrev tl(x:Str):List Nat:=x.cps.toList
def pre (S l:List Nat):Bool:=l.take S.length==S
def par (S:List Nat):List Nat->List Nat->Option (List Nat×List Nat)
|_,[]=>none
|acc,c::r=>if pre S (c::r)=true then some (acc,(c::r).drop S.length) else par S (acc++[c]) r
end TL
end
namespace L2
open PySem PySem.Spec PyProof.Rows
def Yy (s:Stmt)(j:Nat):Stmt:=match s with
|.ClassDef _ _ _ body _ _ _ _ _ _ _=>body.getD j (.Pass ⟨0,0,0,0⟩)
|_=>.Pass ⟨0,0,0,0⟩
def Zz (s:Stmt):Arguments:=match s with
|.FunctionDef _ a _ _ _ _ _ _ _ _=>a
|_=>{posonlyargs:=[],args:=[],vararg:=none,kwonlyargs:=[],kw_defaults:=[],kwarg:=none,defaults:=[]}
def ZG (s:Stmt):List Stmt:=match s with
|.FunctionDef _ _ b _ _ _ _ _ _ _=>b
|_=>[]
def zI (s:Stmt):Scope:=match s with
|.FunctionDef _ _ _ _ _ _ sc _ _ _=>sc
|_=>{kind:=.function,names:=[],isGenerator:=false,isCoroutine:=false}
abbrev CX0:CXT:=λ_ _ _ _ _ _=>False
abbrev E0:XK:=λ_ _ _=>False
theorem zF2{X:Cx}:Yb CX0 X E0:=λ_ _ _ _ _ _ _ h=>h.elim
structure Fun(K:Qf)(x qual:Str)(st:Stmt)(f:Addr)(fd:FuncData):Prop where
 ex:∃ (oc:Value) (od:Option Addr) (kV doc pm:Value) (an:Option Addr) (cdv ct:Value) (osl:Array (Option Value)),
  fd=PySem.W.fnOf x qual (Zz st) (ZG st) (zI st) .none kV doc pm an cdv ct/\K.lookup f=some ⟨oc,od,.func fd,osl⟩/\PySem.W.codeIn K cdv qual=true
 kp:PySem.W.keepIn K (.ref f)=true
section
variable {P:Program}{w:World}{K:Qf}{mg:Qm}{base:Heap}
theorem Fun.ok{x qual:Str}{st:Stmt}{f:Addr}{fd:FuncData}{N ps:List Str}{k:Nat}{sp:Sp}(F:Fun K x qual st f fd)(S:zO N ps (zI st))(len:∀ vs H Q E,sp vs H Q E->vs.length=ps.length)
  (hbody:∀ (cdv:Value) (A:Around) (outer:List Env) (s:Shared) (H:Hp) (vs:List V) (Q:VK) (E:XK),zn k (A.deeper (envOfC qual (zI st) s.heap.objs.size f cdv))->sp vs H Q E->
   ∃ t,PSs (ZR CX0 P w K mg base N qual (zI st) f cdv A outer s H E).nox (ZG st) t/\t {nx:=λ_ H'=>Q .non H',rt:=Q} (YW N vs) H):Y2 P w K mg base CX0 (k+1) f fd ps sp:=by
 obtain⟨oc,od,kV,doc,pm,an,cdv,ct,osl,rfl,lk,hcd⟩:=F.ex;refine zKb lk hcd S len λA outer s H vs Q E hr hsp=>?_
 obtain⟨t,h,q⟩:=hbody cdv A outer s H vs Q E hr hsp;exact⟨t,h.nox,q⟩
theorem Fun.binds{x qual:Str}{st:Stmt}{f:Addr}{fd:FuncData}{ps:List Str}(F:Fun K x qual st f fd)
  (h:∀ (kV doc pm:Value) (an:Option Addr) (cdv ct:Value) (us:List Value),us.length=ps.length->bindArgs (PySem.W.fnOf x qual (Zz st) (ZG st) (zI st) .none kV doc pm an cdv ct) ⟨us,[]⟩=pure (ps.zip us)):ZK K fd ps []:=by
 obtain⟨oc,od,kV,doc,pm,an,cdv,ct,osl,rfl,lk,hcd⟩:=F.ex;exact .all (h kV doc pm an cdv ct)
theorem zBo{x qual:Str}{st:Stmt}{f:Addr}{oc:Value}{od an:Option Addr}{osl:Array (Option Value)}{kV doc pm cdv ct:Value}(l:K.lookup f=some ⟨oc,od,.func (PySem.W.fnOf x qual (Zz st) (ZG st) (zI st) .none kV doc pm an cdv ct),osl⟩)
  (c:PySem.W.codeIn K cdv qual=true)(k:PySem.W.keepIn K (.ref f)=true):Fun K x qual st f (PySem.W.fnOf x qual (Zz st) (ZG st) (zI st) .none kV doc pm an cdv ct):=⟨⟨oc,od,kV,doc,pm,an,cdv,ct,osl,rfl,l,c⟩,k⟩
end
theorem zKj{A:Around}{k:Nat}(hr:zn k A):A.units+1<cLine:=Yv (Nat.add_le_add_left (by decide:1<=64) _) hr.units
section
variable {X:Cx}
theorem pv(i:Nat){x:Str}{pos:Pos}(hN:X.N[i]?=some x:=by rfl)(hv:Vis X.env.scope x:=by first|exact Or.inl rfl|exact Or.inr (Or.inl rfl)|exact Or.inr (Or.inr rfl))(hd:(x==("__debug__" : Str))=false:=by decide)
  (hcd:(x==("__classdict__" : Str))=false:=by decide):PE X (.Name x pos) (zM6 i):=zLm hN hv hd hcd
end
theorem zKk{A B:Prop}(h:B):if false=true then A else B:=by
 rw[Wb Wr];exact h
theorem zGl{A B:Prop}(h:A):if true=true then A else B:=by
 rw[Wc rfl];exact h
theorem zSD{c A B:Prop}[Decidable c](hc:c)(h:B):if (!decide c)=true then A else B:=by
 rw[WO hc];exact zKk h
def zH (H H':Hp):Prop:=∀ b o,H b=some o->H' b=some o
theorem zH.refl(H:Hp):zH H H:=λ_ _ h=>h
theorem zH.trans{H H1 H2:Hp}(a:zH H H1)(b:zH H1 H2):zH H H2:=λc o h=>b c o (a c o h)
theorem zH.seq{K:Qf}{H H':Hp}{a:Addr}{xs:List V}(e:zH H H')(h:zN K H a xs):zN K H' a xs:=by
 rcases h with (h|⟨o,h⟩)|h
 .exact .inl (.inl (e _ _ h))
 .exact .inl (.inr ⟨o,e _ _ h⟩)
 .exact .inr h
theorem y6{xs:List V}{z:Int}{j:Nat}{v:V}(e:z=(j:Int))(h:xs[j]?=some v):atI xs z=some v:=by
 rw[e];exact zOo h
theorem zSE{α:Type}{l:List α}(hN:l.Nodup){i j:Nat}{x:α}(a:l[i]?=some x)(b:l[j]?=some x):i=j:=by
 obtain⟨h1,e1⟩:=yG a;obtain⟨h2,e2⟩:=yG b;exact (List.getElem_inj hN).mp (e1.trans e2.symm)
theorem zH.made{H H1:Hp}{x dx C:Addr}(nx:H x=Option.none)(nd:H dx=Option.none)(k:∀ b o,(upd (upd H dx (.own x)) x (.ins C dx [])) b=some o->b≠x->H1 b=some o):zH H H1:=λb o e=>
 k b o (by rw[zD (zJ e nx),zD (zJ e nd)];exact e) (zJ e nx)
end L2
end
section
set_option Elab.async false
set_option linter.all false
set_option maxRecDepth 100000
set_option maxHeartbeats 2000000
namespace L2
open PySem PySem.Spec PyProof.Rows
open PySem.W (WData Codec OpenSpec Well WellAll ReadsW ReadsAllW)
mutual
inductive Dw(K:Qf)(H:Hp):V->WData->Prop
|non:Dw K H .non .none
|bl (b:Bool):Dw K H (.bl b) (.bool b)
|int (i:Int):Dw K H (.int i) (.int i)
|str (x:Str):Dw K H (.str x) (.str x)
|byt (b:Array UInt8):Dw K H (.byt b) (.bytes b.toList)
|lst {a:Addr}{xs:List V}{ds:List WData}:zN K H a xs->zA0 K H xs ds->Dw K H (.ref a) (.list ds)
|tup {a:Addr}{xs:List V}{ds:List WData}:yJ K H a xs->zA0 K H xs ds->Dw K H (.ref a) (.tuple ds)
inductive zA0(K:Qf)(H:Hp):List V->List WData->Prop
|nil:zA0 K H [] []
|cons {v:V}{vs:List V}{d:WData}{ds:List WData}:Dw K H v d->zA0 K H vs ds->zA0 K H (v::vs) (d::ds)
end
theorem zJe{K:Qf}{H:Hp}:∀ ns:List Int,zA0 K H (ns.map V.int) (ns.map WData.int)
|[]=>.nil
|n::r=>.cons (.int n) (zJe r)
theorem zEu{K:Qf}{H:Hp}:∀ (ns:List Int) (xs:List V),zA0 K H xs (ns.map WData.int)->xs=ns.map V.int
|[],xs,h=>by
  cases h;rfl
|n::r,xs,h=>by
  cases h with
 |cons h1 h2=>
   cases h1;rw[zEu r _ h2] <;> rfl
section
variable {P:Program}{w:World}{K:Qf}{H:Hp}{h:Heap}{R:PySem.W.WRecords}{cl:Str->Option Addr}
theorem zQo{a:Addr}{xs:List V}(hok:ZO P w H h)(KX:K.In h)(q:zN K H a xs):∃ (its:List Value) (o:Obj) (n:Nat),zY xs its/\h.get? a=some o/\o.cls=.type "list"/\o.data=.seq its.toArray n:=by
 rcases q with q|⟨o,its,n,e,hc,_,hd,_,hv⟩
 .obtain⟨_,its,n,hv,e⟩:=(show yT P w H h a (.lst xs) from q.ok hok)
  exact⟨its,_,n,hv,e,rfl,rfl⟩
 .exact⟨its.toList,o,n,hv,KX _ _ e,hc,by simp[hd]⟩
theorem zQp{a:Addr}{xs:List V}(hok:ZO P w H h)(KX:K.In h)(q:yJ K H a xs):∃ (its:List Value) (o:Obj) (n:Nat),zY xs its/\h.get? a=some o/\o.cls=.type "tuple"/\o.data=.seq its.toArray n:=by
 rcases q with q|⟨o,its,n,e,hc,hd,_,hv⟩
 .obtain⟨_,its,hv,o,e,hc,n,hd⟩:=(show yT P w H h a (.tup xs) from q.ok hok)
  exact⟨its,o,n,hv,e,hc,hd⟩
 .exact⟨its.toList,o,n,hv,KX _ _ e,hc,by simp[hd]⟩
mutual
theorem Dw.reads(hok:ZO P w H h)(KX:K.In h):∀ (d:WData) (v:V) (u:Value),Dw K H v d->zp v u->∃ as,ReadsW R cl h u d as
|.none,_,_,x,r=>by
  cases x;cases r;exact⟨_,ReadsW.none⟩
|.bool b,_,_,x,r=>by
  cases x;cases r;exact⟨_,ReadsW.bool b⟩
|.int i,_,_,x,r=>by
  cases x;obtain⟨t,rfl⟩:=r;exact⟨_,ReadsW.int i t⟩
|.str s,_,_,x,r=>by
  cases x;obtain⟨t,rfl⟩:=r;exact⟨_,ReadsW.str s t⟩
|.bytes b,_,_,x,r=>by
  cases x;obtain⟨t,rfl⟩:=r;exact⟨_,ReadsW.bytes _ t⟩
|.list ds,_,_,x,r=>by
  cases x with
 |lst hs ha=>
   cases r;obtain⟨its,o,n,rv,ho,hc,hd⟩:=zQo hok KX hs;obtain⟨as,hr⟩:=Dw.readsAll hok KX ds _ its ha rv;exact⟨_,ReadsW.list ho hc hd hr⟩
|.tuple ds,_,_,x,r=>by
  cases x with
 |tup hs ha=>
   cases r;obtain⟨its,o,n,rv,ho,hc,hd⟩:=zQp hok KX hs;obtain⟨as,hr⟩:=Dw.readsAll hok KX ds _ its ha rv;exact⟨_,ReadsW.tuple ho hc hd hr⟩
|.float _,_,_,x,_=>by cases x
|.dict _,_,_,x,_=>by cases x
|.bytearray _,_,_,x,_=>by cases x
|.set _,_,_,x,_=>by cases x
|.frozenset _,_,_,x,_=>by cases x
|.obj _ _,_,_,x,_=>by cases x
theorem Dw.readsAll(hok:ZO P w H h)(KX:K.In h):∀ (ds:List WData) (vs:List V) (us:List Value),zA0 K H vs ds->zY vs us->∃ as,ReadsAllW R cl h us ds as
|[],_,_,x,r=>by
  cases x;cases r;exact⟨_,ReadsAllW.nil⟩
|d::ds,_,_,x,r=>by
  cases x with
 |cons h1 h2=>
   cases r with
  |cons r1 r2=>
    obtain⟨as,q1⟩:=Dw.reads hok KX d _ _ h1 r1;obtain⟨bs,q2⟩:=Dw.readsAll hok KX ds _ _ h2 r2;exact⟨_,ReadsAllW.cons q1 q2⟩
end
end
mutual
def plW:WData->Bool
|.none=>true
|.bool _=>true
|.int _=>true
|.str _=>true
|.bytes _=>true
|.list xs=>zBx xs
|.tuple xs=>zBx xs
|_=>false
def zBx:List WData->Bool
|[]=>true
|x::r=>plW x&&zBx r
end
theorem zIE{α:Type}{f:α->WData}(h:∀ a,plW (f a)=true):∀ l:List α,zBx (l.map f)=true
|[]=>rfl
|x::r=>by
  show (plW (f x)&&zBx (r.map f))=true;rw[h x,zIE h r] <;> rfl
theorem zBp:∀ (c:Codec) (a:c.denote),plW (c.enc a)=true
|.unit,_=>rfl
|.bool,_=>rfl
|.int _ _,_=>rfl
|.nat _ _,_=>rfl
|.u8,_=>rfl
|.bytes _ _,_=>rfl
|.text _ _ _ _,_=>rfl
|.list _ _ c,a=>zIE (λx=>zBp c x) a
|.pair c d,a=>by
  show (plW (c.enc a.1)&&(plW (d.enc a.2)&&true))=true;rw[zBp c a.1,zBp d a.2] <;> rfl
|.triple c d e,a=>by
  show (plW (c.enc a.1)&&(plW (d.enc a.2.1)&&(plW (e.enc a.2.2)&&true)))=true;rw[zBp c a.1,zBp d a.2.1,zBp e a.2.2] <;> rfl
|.option c,none=>rfl
|.option c,some x=>zBp c x
theorem zHN:∀ (cs:List Codec) (a:Codec.denoteAll cs),zBx (Codec.encAll cs a)=true
|[],_=>rfl
|c::cs,a=>by
  show (plW (c.enc a.1)&&zBx (Codec.encAll cs a.2))=true;rw[zBp c a.1,zHN cs a.2] <;> rfl
theorem zDm:∀ {xs:List WData}{d:WData},d∈xs->d.weight<=WData.weightAll xs
|[],d,h=>absurd h (by simp)
|x::r,d,h=>by
  show d.weight<=x.weight+1+WData.weightAll r;rcases Wd.mp h with e|m
  .rw[e]
   lia
  .have z:=zDm m
   lia
def toV:Value->V
|.none=>.non
|.bool b=>.bl b
|.int i _=>.int i
|.str x _=>.str x
|.bytes b _=>.byt b
|.ref a=>.ref a
|_=>.non
def OkU (A:List Addr):Value->Prop
|.none=>True
|.bool _=>True
|.int _ _=>True
|.str _ _=>True
|.bytes _ _=>True
|.ref a=>a∈A
|_=>False
theorem OkU.mono{A B:List Addr}(h:∀ a∈A,a∈B):∀ {u:Value},OkU A u->OkU B u:=λ{u} x=>by
 cases u with
|ref a=>exact h a x
|none=>trivial
|bool b=>trivial
|int i t=>trivial
|str s t=>trivial
|bytes b t=>trivial
|_=>exact False.elim x
theorem zNN{A:List Addr}{u:Value}(x:OkU A u):zp (toV u) u:=by
 cases u with
|ref a=>rfl
|none=>rfl
|bool b=>rfl
|int i t=>exact⟨t,rfl⟩
|str s t=>exact⟨t,rfl⟩
|bytes b t=>exact⟨t,rfl⟩
|_=>exact False.elim x
theorem zBF{A:List Addr}:∀ {vs:List Value},(∀ u∈vs,OkU A u)->zY (vs.map toV) vs
|[],_=>.nil
|u::r,h=>.cons (zNN (h u (Wm ..))) (zBF λx hx=>h x (Wg _ hx))
def zAb (h:Heap)(A:List Addr)(a:Addr):Prop:=∃ vs:List Value,vs.length<=sizeLine/\(∀ u∈vs,OkU A u)/\
 (h.get? a=some {cls:=.type "list",data:=.seq vs.toArray}\/h.get? a=some {cls:=.type "tuple",data:=.seq vs.toArray})
theorem zAb.mono{h:Heap}{A B:List Addr}{a:Addr}(k:∀ a∈A,a∈B)(x:zAb h A a):zAb h B a:=by
 obtain⟨vs,h1,h2,h3⟩:=x;exact⟨vs,h1,λu hu=>(h2 u hu).mono k,h3⟩
theorem zBa{P:Params}{h:Heap}:∀ {vs:List Value}{ds:List WData},WellAll P h vs ds->vs.length=ds.length
|_,_,.nil=>rfl
|_,_,.cons _ b=>by
  show _+1=_+1;rw[zBa b]
theorem zHO{P:Params}{h:Heap}{v:Value}{ds:List WData}(x:Well P h v (.list ds)):∃ (a:Addr) (vs:List Value),v=.ref a/\h.get? a=some {cls:=.type "list",data:=.seq vs.toArray}/\WellAll P h vs ds:=by
 cases x with
|list ho hall=>exact⟨_,_,rfl,ho,hall⟩
theorem zF3{P:Params}{h:Heap}{v:Value}{ds:List WData}(x:Well P h v (.tuple ds)):∃ (a:Addr) (vs:List Value),v=.ref a/\h.get? a=some {cls:=.type "tuple",data:=.seq vs.toArray}/\WellAll P h vs ds:=by
 cases x with
|tuple ho hall=>exact⟨_,_,rfl,ho,hall⟩
theorem zHP{P:Params}{h:Heap}{us:List Value}{d:WData}{ds:List WData}(x:WellAll P h us (d::ds)):∃ (v:Value) (vs:List Value),us=v::vs/\Well P h v d/\WellAll P h vs ds:=by
 cases x with
|cons a b=>exact⟨_,_,rfl,a,b⟩
theorem zJf{n:Nat}(h:n<=1048576):n<=sizeLine:=WT h (by decide)
section
variable {P:Params}{h:Heap}
mutual
theorem zNO:∀ (d:WData) (v:Value),Well P h v d->plW d=true->d.weight<=1048576->∃ A:List Addr,OkU A v/\∀ a∈A,zAb h A a
|.none,_,x,_,_=>by
  cases x;exact⟨[],trivial,λa m=>absurd m (by simp)⟩
|.bool b,_,x,_,_=>by
  cases x;exact⟨[],trivial,λa m=>absurd m (by simp)⟩
|.int i,_,x,_,_=>by
  cases x;exact⟨[],trivial,λa m=>absurd m (by simp)⟩
|.str s,_,x,_,_=>by
  cases x;exact⟨[],trivial,λa m=>absurd m (by simp)⟩
|.bytes b,_,x,_,_=>by
  cases x;exact⟨[],trivial,λa m=>absurd m (by simp)⟩
|.list ds,_,x,p,z=>by
  obtain⟨a,vs,rfl,ho,hall⟩:=zHO x;have z2:WData.weightAll ds<=1048576:=z;obtain⟨A,h1,h2⟩:=zDn ds _ hall p λd hd=>WT (zDm hd) z2
  have k:∀ b∈A,b∈a::A:=λb hb=>Wg _ hb
  refine⟨a::A,Wm ..,λb hb=>?_⟩;rcases Wd.mp hb with e|m
  .rw[e];exact⟨vs,zJf (by rw[zBa hall];exact WT (Jf ds) z2),λu hu=>(h1 u hu).mono k,.inl ho⟩
  .exact (h2 b m).mono k
|.tuple ds,_,x,p,z=>by
  obtain⟨a,vs,rfl,ho,hall⟩:=zF3 x;have z2:WData.weightAll ds<=1048576:=z;obtain⟨A,h1,h2⟩:=zDn ds _ hall p λd hd=>WT (zDm hd) z2
  have k:∀ b∈A,b∈a::A:=λb hb=>Wg _ hb
  refine⟨a::A,Wm ..,λb hb=>?_⟩;rcases Wd.mp hb with e|m
  .rw[e];exact⟨vs,zJf (by rw[zBa hall];exact WT (Jf ds) z2),λu hu=>(h1 u hu).mono k,.inr ho⟩
  .exact (h2 b m).mono k
|.float _,_,_,p,_=>Bool.noConfusion (show false=true from p)
|.dict _,_,_,p,_=>Bool.noConfusion (show false=true from p)
|.bytearray _,_,_,p,_=>Bool.noConfusion (show false=true from p)
|.set _,_,_,p,_=>Bool.noConfusion (show false=true from p)
|.frozenset _,_,_,p,_=>Bool.noConfusion (show false=true from p)
|.obj _ _,_,_,p,_=>Bool.noConfusion (show false=true from p)
theorem zDn:∀ (ds:List WData) (vs:List Value),WellAll P h vs ds->zBx ds=true->(∀ d∈ds,d.weight<=1048576)->∃ A:List Addr,(∀ u∈vs,OkU A u)/\∀ a∈A,zAb h A a
|[],_,x,_,_=>by
  cases x;exact⟨[],λu m=>absurd m (by simp),λa m=>absurd m (by simp)⟩
|d::ds,_,x,p,z=>by
  obtain⟨v,vs,rfl,x1,x2⟩:=zHP x;have q:plW d=true/\zBx ds=true:=Bool.and_eq_true_iff.mp p;obtain⟨A,a1,a2⟩:=zNO d v x1 q.1 (z d (Wm ..));obtain⟨B,b1,b2⟩:=zDn ds vs x2 q.2 λe he=>z e (Wg _ he)
  have kA:∀ b∈A,b∈A++B:=λb hb=>Wv.mpr (.inl hb)
  have kB:∀ b∈B,b∈A++B:=λb hb=>Wv.mpr (.inr hb)
  refine⟨A++B,λu hu=>?_,λb hb=>?_⟩
  .rcases Wd.mp hu with e|m
   .rw[e];exact a1.mono kA
   .exact (b1 u m).mono kB
  .rcases Wv.mp hb with m|m
   .exact (a2 b m).mono kA
   .exact (b2 b m).mono kB
end
end
def zKl (o:Obj):Option HO:=match o.data with
|.seq vs _=>if (o.cls==Value.type "list")=true then some (.frz o (.lst (vs.toList.map toV))) else some (.frz o (.tup (vs.toList.map toV)))
|_=>none
def Yp (K:Qf)(h:Heap)(A:List Addr):Hp:=λb=>if b∈A then (if (K.lookup b).isNone=true then (h.get? b).bind zKl else none) else none
def zHs (H:Hp):Prop:=∀ b,H b=none\/∃ o u,H b=some (.frz o u)
theorem zIF(vs:List Value):zKl {cls:=.type "list",data:=.seq vs.toArray}=some (.frz {cls:=.type "list",data:=.seq vs.toArray} (.lst (vs.map toV))):=by
 show (if (Value.type "list" == Value.type "list")=true then some (HO.frz {cls:=.type "list",data:=.seq vs.toArray} (.lst (vs.toArray.toList.map toV))) else some (HO.frz {cls:=.type "list",data:=.seq vs.toArray} (.tup (vs.toArray.toList.map toV))))=_;rw[Wc (beq_self_eq_true _)]
theorem zIG(vs:List Value):zKl {cls:=.type "tuple",data:=.seq vs.toArray}=some (.frz {cls:=.type "tuple",data:=.seq vs.toArray} (.tup (vs.map toV))):=by
 show (if (Value.type "tuple" == Value.type "list")=true then some (HO.frz {cls:=.type "tuple",data:=.seq vs.toArray} (.lst (vs.toArray.toList.map toV))) else some (HO.frz {cls:=.type "tuple",data:=.seq vs.toArray} (.tup (vs.toArray.toList.map toV))))=_;rw[Wb (by decide)]
section
variable {P:Program}{w:World}{K:Qf}{h:Heap}{A:List Addr}
theorem zEv{b:Addr}{o:Obj}(hb:b∈A)(hk:K.lookup b=none)(e:h.get? b=some o):Yp K h A b=zKl o:=by
 unfold Yp;rw[Wc hb,hk,Wc (show (none:Option Obj).isNone=true from rfl),e] <;> rfl
theorem zOx{b:Addr}{u:HO}(q:Yp K h A b=some u):b∈A/\K.lookup b=none:=by
 unfold Yp at q;by_cases hb:b∈A
 .rw[Wc hb] at q;cases hk:K.lookup b with
 |none=>exact⟨hb,rfl⟩
 |some o=>
   rw[hk,Wb (by simp)] at q;cases q
 .rw[Wb hb] at q;cases q
theorem zEw(ar:∀ a∈A,zAb h A a){b:Addr}{u:HO}(q:Yp K h A b=some u):K.lookup b=none/\∃ vs:List Value,vs.length<=sizeLine/\(∀ u∈vs,OkU A u)/\
    ((h.get? b=some {cls:=.type "list",data:=.seq vs.toArray}/\u=.frz {cls:=.type "list",data:=.seq vs.toArray} (.lst (vs.map toV)))\/
     (h.get? b=some {cls:=.type "tuple",data:=.seq vs.toArray}/\u=.frz {cls:=.type "tuple",data:=.seq vs.toArray} (.tup (vs.map toV)))):=by
  obtain⟨hb,hk⟩:=zOx q;obtain⟨vs,h1,h2,h3⟩:=ar b hb;refine⟨hk,vs,h1,h2,?_⟩;rcases h3 with e|e
  · rw[zEv hb hk e,zIF] at q
    exact .inl ⟨e,(Wu q).symm⟩
  · rw[zEv hb hk e,zIG] at q
    exact .inr ⟨e,(Wu q).symm⟩
theorem zL5(ar:∀ a∈A,zAb h A a):zHs (Yp K h A):=λb=>by
 cases q:Yp K h A b with
|none=>exact .inl rfl
|some u=>
  obtain⟨_,vs,_,_,⟨_,e⟩|⟨_,e⟩⟩:=zEw ar q
  .exact .inr ⟨_,_,by rw[e]⟩
  .exact .inr ⟨_,_,by rw[e]⟩
theorem zOy(ar:∀ a∈A,zAb h A a):ZO P w (Yp K h A) h:=λb u q=>by
 obtain⟨_,vs,h1,h2,⟨e,rfl⟩|⟨e,rfl⟩⟩:=zEw ar q
 .exact⟨e,by rw[zX];exact h1,vs,_,zBF h2,e⟩
 .exact⟨e,by rw[zX];exact h1,vs,zBF h2,_,e,rfl,_,rfl⟩
theorem zEx{c c':Value}{vs us:List Value}(e:(some {cls:=c,data:=.seq vs.toArray}:Option Obj)=some {cls:=c',data:=.seq us.toArray}):c=c'/\vs=us:=by
 have e1:=Wu e;have e2:c=c':=W1 Obj.cls e1;have e3:Data.seq vs.toArray=Data.seq us.toArray:=W1 Obj.data e1;injection e3 with e4
 refine⟨e2,?_⟩;have e5:=W1 Array.toList e4;simpa using e5
theorem zS1(KX:K.In h)(ar:∀ a∈A,zAb h A a){a:Addr}{vs:List Value}(ha:a∈A)(e:h.get? a=some {cls:=.type "list",data:=.seq vs.toArray}):(∀ u∈vs,OkU A u)/\zN K (Yp K h A) a (vs.map toV):=by
 obtain⟨us,h1,h2,h3⟩:=ar a ha
 have hu:us=vs:=by
  rcases h3 with q|q
  .rw[e] at q;exact (zEx q).2.symm
  .rw[e] at q;exact absurd (Value.type.inj (zEx q).1) (by decide)
 subst hu;refine⟨h2,?_⟩;cases hk:K.lookup a with
|none=>exact .inl (.inr ⟨_,by rw[zEv ha hk e,zIF]⟩)
|some o=>
  have e2:=KX a o hk;rw[e] at e2;obtain rfl:=Wu e2;exact .inr ⟨_,us.toArray,_,hk,rfl,rfl,rfl,by rw[Wk];exact h1,by simpa using zBF h2⟩
theorem zS2(KX:K.In h)(ar:∀ a∈A,zAb h A a){a:Addr}{vs:List Value}(ha:a∈A)(e:h.get? a=some {cls:=.type "tuple",data:=.seq vs.toArray}):(∀ u∈vs,OkU A u)/\yJ K (Yp K h A) a (vs.map toV):=by
 obtain⟨us,h1,h2,h3⟩:=ar a ha
 have hu:us=vs:=by
  rcases h3 with q|q
  .rw[e] at q;exact absurd (Value.type.inj (zEx q).1) (by decide)
  .rw[e] at q;exact (zEx q).2.symm
 subst hu;refine⟨h2,?_⟩;cases hk:K.lookup a with
|none=>exact .inl (.inr ⟨_,by rw[zEv ha hk e,zIG]⟩)
|some o=>
  have e2:=KX a o hk;rw[e] at e2;obtain rfl:=Wu e2;exact .inr ⟨_,us.toArray,_,hk,rfl,rfl,by rw[Wk];exact h1,by simpa using zBF h2⟩
mutual
theorem zQq{Pm:Params}(KX:K.In h)(ar:∀ a∈A,zAb h A a):∀ (d:WData) (v:Value),Well Pm h v d->plW d=true->OkU A v->Dw K (Yp K h A) (toV v) d
|.none,_,x,_,_=>by
  cases x;exact .non
|.bool b,_,x,_,_=>by
  cases x;exact .bl b
|.int i,_,x,_,_=>by
  cases x;exact .int i
|.str s,_,x,_,_=>by
  cases x;exact .str s
|.bytes b,_,x,_,_=>by
  cases x;have z:=Dw.byt (K:=K) (H:=Yp K h A) b.toArray;exact z
|.list ds,_,x,p,hu=>by
  obtain⟨a,vs,rfl,ho,hall⟩:=zHO x;obtain⟨h2,hs⟩:=zS1 KX ar hu ho;exact .lst hs (zF4 KX ar ds _ hall p h2)
|.tuple ds,_,x,p,hu=>by
  obtain⟨a,vs,rfl,ho,hall⟩:=zF3 x;obtain⟨h2,hs⟩:=zS2 KX ar hu ho;exact .tup hs (zF4 KX ar ds _ hall p h2)
|.float _,_,_,p,_=>Bool.noConfusion (show false=true from p)
|.dict _,_,_,p,_=>Bool.noConfusion (show false=true from p)
|.bytearray _,_,_,p,_=>Bool.noConfusion (show false=true from p)
|.set _,_,_,p,_=>Bool.noConfusion (show false=true from p)
|.frozenset _,_,_,p,_=>Bool.noConfusion (show false=true from p)
|.obj _ _,_,_,p,_=>Bool.noConfusion (show false=true from p)
theorem zF4{Pm:Params}(KX:K.In h)(ar:∀ a∈A,zAb h A a):∀ (ds:List WData) (vs:List Value),WellAll Pm h vs ds->zBx ds=true->(∀ u∈vs,OkU A u)->zA0 K (Yp K h A) (vs.map toV) ds
|[],_,x,_,_=>by
  cases x;exact .nil
|d::ds,_,x,p,hu=>by
  obtain⟨v,vs,rfl,x1,x2⟩:=zHP x;have q:plW d=true/\zBx ds=true:=Bool.and_eq_true_iff.mp p;exact .cons (zQq KX ar d v x1 q.1 (hu _ (Wm ..))) (zF4 KX ar ds vs x2 q.2 λu m=>hu u (Wg _ m))
end
end
theorem zGm{ds:List WData}(h:WData.layableAll ds=true):∀ d∈ds,d.weight<=1048576:=λd hd=>
 (PySem.W.layableW_iff.mp (WW.mp h d hd)).2.2
theorem zF5:∀ (cs:List Codec) (a:Codec.denoteAll cs),(Codec.encAll cs a).length=cs.length
|[],_=>rfl
|c::cs,a=>by
  show (Codec.encAll cs a.2).length+1=cs.length+1;rw[zF5 cs a.2]
end L2
end
set_option Elab.async false
set_option linter.all false
set_option maxRecDepth 100000
set_option maxHeartbeats 2000000
namespace Kn
open PySem PySem.Spec PyProof.Rows L2
open PySem.W (Codec)
structure Def(K:Qf)(mg:Qm)(x:Str)(st:Stmt)(ps:List Str)(f:Addr)(fd:FuncData):Prop where
 fn:Fun K x x st f fd
 at_:mg x=some (.ref f)
 bi:ZK K fd ps []
def zV (K:Qf)(mg:Qm)(x:Str)(st:Stmt)(ps:List Str):Prop:=∃ f fd,Def K mg x st ps f fd
theorem zOz{K:Qf}{h:Heap}{mg:Qm}{x:Str}{st:Stmt}{ps:List Str}{fa f:Addr}{oc:Value}{od an:Option Addr}{osl:Array (Option Value)}{kV doc pm cdv ct:Value}(X:K.In h)(G:h.Ns mainGlobals mg)(hfa:mg x=some (.ref fa))
  (a:PySem.W.nsIn K mainGlobals x=some (some (.ref f)))
  (l:K.lookup f=some ⟨oc,od,.func (PySem.W.fnOf x x (Zz st) (ZG st) (zI st) .none kV doc pm an cdv ct),osl⟩)
  (c:PySem.W.codeIn K cdv x=true)(k:PySem.W.keepIn K (.ref f)=true)
  (b:∀ (kV doc pm:Value) (an:Option Addr) (cdv ct:Value) (us:List Value),us.length=ps.length->bindArgs (PySem.W.fnOf x x (Zz st) (ZG st) (zI st) .none kV doc pm an cdv ct) ⟨us,[]⟩=pure (ps.zip us)) :
  ∃ fd,Def K mg x st ps fa fd/\∀ (s:Shared) (us:List Value),us.length=ps.length->BindsTo s fd ⟨us,[]⟩ (ps.zip us):=by
 have e:=hfa.symm.trans (Va X G a);cases e;exact⟨_,⟨zBo l c k,Va X G a,(zBo l c k).binds b⟩,λs us hu=>.of_eq (b _ _ _ _ _ _ us hu)⟩
def Ok (P:Program)(w:World)(K:Qf)(mg:Qm)(base:Heap)(k:Nat)(x:Str)(ps:List Str)(sp:Sp):Prop:=
 ∃ f fd,Y2 P w K mg base CX0 k f fd ps sp/\mg x=some (.ref f)/\PySem.W.keepIn K (.ref f)=true/\ZK K fd ps []
theorem zV.ok{P:Program}{w:World}{K:Qf}{mg:Qm}{base:Heap}{x:Str}{st:Stmt}{N ps:List Str}{k:Nat}{sp:Sp}(D:zV K mg x st ps)(S:zO N ps (zI st))(len:∀ vs H Q E,sp vs H Q E->vs.length=ps.length)
  (hbody:∀ (f:Addr) (cdv:Value) (A:Around) (outer:List Env) (s:Shared) (H:Hp) (vs:List V) (Q:VK) (E:XK),zn k (A.deeper (envOfC x (zI st) s.heap.objs.size f cdv))->sp vs H Q E->
   ∃ t,PSs (ZR CX0 P w K mg base N x (zI st) f cdv A outer s H E).nox (ZG st) t/\t {nx:=λ_ H'=>Q .non H',rt:=Q} (YW N vs) H):Ok P w K mg base (k+1) x ps sp:=by
 obtain⟨f,fd,D⟩:=D;exact⟨f,fd,D.fn.ok S len (λcdv A outer s H vs Q E=>hbody f cdv A outer s H vs Q E),D.at_,D.fn.kp,D.bi⟩
section
variable {X:Cx}{k:Nat}{x:Str}{ps:List Str}{sp:Sp}{p pos:Pos}{e:Expr}{es:List Expr}{t:TA}
theorem zR(O:Ok X.prog X.w X.K X.mg X.base k x ps sp)(hr:zn k X.A)(ha:PA X (e::es) t)(hg:Gl X x:=by rfl)(hdb:(x==("__debug__" : Str))=false:=by decide)
  (he:starEach (e::es) X.env=(false,eval e X.env)::starEach es X.env:=by rfl)(hpl:(backTo pos (starEach es X.env)).any (·.1)=false:=by rfl) :
  PE X (.Call (.Name x p) (e::es) [] pos) (zHp sp [] E0 t):=by
 obtain⟨f,fd,F,m,kp,b⟩:=O;exact zGg F hr hg m kp b .nil zF2 ha hdb he hpl
theorem y8{n:Int}(hm:∃ u,X.mg x=some u/\zp (.int n) u)(hg:Gl X x:=by rfl)(hd:(x==("__debug__" : Str))=false:=by decide):PE X (.Name x pos) (tC (.int n)):=by
 obtain⟨u,h1,h2⟩:=hm;exact zJS hg h1 h2 hd
theorem yH(hm:X.mg "len" = none)(ha:PA X [e] t)(hg:Gl X "len":=by rfl)(hs:starEach [e] X.env=(false,eval e X.env)::starEach [] X.env:=by rfl)(hpl:(backTo pos (starEach [] X.env)).any (·.1)=false:=by rfl) :
  PE X (.Call (.Name "len" p) [e] [] pos) (λσ H Q=>t σ H λxs H1=>∃ q ys,xs=[.ref q]/\(zN X.K H1 q ys\/yJ X.K H1 q ys)/\Q (.int ys.length) H1):=YS zH9 hg hm PySem.boot_len ha (he:=hs) (hpl:=hpl)
end
def yl (mg:Qm)(x:Str)(n:Int):Prop:=∃ u,mg x=some u/\zp (.int n) u
theorem Yc{K:Qf}{h:Heap}{mg:Qm}{x:Str}{n:Int}{t:Tok}(X:K.In h)(G:h.Ns mainGlobals mg)(a:PySem.W.nsIn K mainGlobals x=some (some (.int n t))):yl mg x n:=⟨_,Va X G a,t,rfl⟩
theorem ZF{Q:VK}{H:Hp}{b c:Bool}(h:Q (.bl b) H)(e:b=c):Q (.bl c) H:=e ▸ h
theorem zQr{Q:VK}{H:Hp}{b c:Int}(h:Q (.int b) H)(e:b=c):Q (.int c) H:=e ▸ h
theorem yA{A B:Prop}{c:Bool}(h1:c=true->A)(h2:c=false->B):if c=true then A else B:=by
 cases c
 .rw[Wb Wr];exact h2 rfl
 .rw[Wc rfl];exact h1 rfl
theorem zAq{t u:TT}{σ:L2.St}{H:Hp}{Q:Bool->Hp->Prop}{c d:Bool}(ht:∀ R:Bool->Hp->Prop,R c H->t σ H R)(hu:c=true->∀ R:Bool->Hp->Prop,R d H->u σ H R)(h:Q (c&&d) H):zEF t u σ H Q:=by
 refine ht _ (yA (λhc=>hu hc _ ?_) λhc=>?_)
 .rw[hc,XU] at h;exact h
 .rw[hc,V9] at h;exact h
theorem zEP{t u:TT}{σ:L2.St}{H:Hp}{Q:Bool->Hp->Prop}{c d:Bool}(ht:∀ R:Bool->Hp->Prop,R c H->t σ H R)(hu:c=false->∀ R:Bool->Hp->Prop,R d H->u σ H R)(h:Q (c||d) H):tOr t u σ H Q:=by
 refine ht _ (yA (λhc=>?_) λhc=>hu hc _ ?_)
 .rw[hc,U6] at h;exact h
 .rw[hc,Xj] at h;exact h
theorem YU{ta tb:TE}{σ:L2.St}{H:Hp}{Q:VK}{c d:Bool}(ht:∀ R:VK,R (.bl c) H->ta σ H R)(hu:c=true->∀ R:VK,R (.bl d) H->tb σ H R)(h:Q (.bl (c&&d)) H):zB7 ta tb σ H Q:=by
 refine ht _ ⟨_,rfl,yA (λhc=>hu hc _ ?_) λhc=>?_⟩
 .rw[hc,XU] at h;exact h
 .rw[hc,V9] at h;exact h
theorem Z4{K:Qf}{a:Addr}{xs:List V}{g:TG}{tb:TS}{D:Y0}{σ:L2.St}{H:Hp}(Pv:Nat->L2.St->Hp->Prop)(h0:Pv 0 σ H)(hl:∀ i σ H,i<=xs.length->Pv i σ H->zN K H a xs)
  (hs:∀ i x σ H T,xs[i]?=some x->Pv i σ H->H T=none->g (.ref T) σ (upd H T (.tup [.int (i:Nat),x])) λσ2 H2=>tb {D with nx:=Pv (i+1),ct:=Pv (i+1),bk:=D.nx} σ2 H2)(hd:∀ σ H,Pv xs.length σ H->D.nx σ H) :
  ∃ W:Nat->Nat->L2.St->Hp->Prop,(∃ m,W 0 m σ H)/\∀ i m σ H,W i m σ H->
   ((Ite K a).stop i H/\D.nx σ H)\/((Ite K a).go i H/\∃ N:L2.St->Hp->Prop,(∀ σ' H',N σ' H'->∃ m',m'<m/\W (i+1) m' σ' H')/\∀ x H',(Ite K a).yld i H x H'->g x σ H' λσ2 H2=>tb {D with nx:=N,ct:=N,bk:=D.nx} σ2 H2):=by
 refine⟨λi m σ H=>m=xs.length-i/\i<=xs.length/\Pv i σ H,⟨xs.length,by simp,Ww _,h0⟩,?_⟩;rintro i m σ H ⟨rfl,hi,p⟩;have q:=hl i σ H hi p;by_cases hlt:i<xs.length
 .refine .inr ⟨⟨xs,xs[i],q,by simp[hlt]⟩,Pv (i+1),λσ' H' p'=>⟨xs.length-(i+1),by omega,rfl,hlt,p'⟩,λv H' y=>?_⟩;obtain⟨T,x,e1,e2,e3,e4⟩:=y;subst e1 e3;exact hs i x σ H T (e4 xs q) p e2
 .have e:i=xs.length:=by omega
  subst e;exact .inl ⟨⟨xs,q,We _⟩,hd σ H p⟩
theorem zQ{H H1:Hp}{p:Addr}{o:HO}(s:zH H H1)(n:H1 p=Option.none):zH H (L2.upd H1 p o):=λb u e=>by
 rw[zD (zJ (s b u e) n)];exact s b u e
theorem zv{α:Type}{l:List α}{i:Nat}{x:α}(h:l[i]?=some x):l.take (i+1)=l.take i++[x]:=by
 rw[List.take_succ,h];rfl
theorem yV{α β:Type}{f:α->β}{l:List α}{i:Nat}{y:β}(h:(l.map f)[i]?=some y):∃ z,l[i]?=some z/\y=f z:=by
 rw[WQ] at h;cases e:l[i]? with
|none=>rw[e] at h;cases h
|some z=>rw[e] at h;exact⟨z,rfl,(Wu h).symm⟩
theorem map_some{α β:Type}{f:α->β}{l:List α}{i:Nat}{z:α}(h:l[i]?=some z):(l.map f)[i]?=some (f z):=by rw[WQ,h];rfl
theorem bn0{P:List Value->Prop}(h:P [])(us:List Value)(e:us.length=0):P us:=by
 rw[List.length_eq_zero_iff.mp e];exact h
theorem bnS{n:Nat}{P:List Value->Prop}(h:∀ a us,List.length us=n->P (a::us))(us:List Value)(e:us.length=n+1):P us:=by
 cases us with
|nil=>cases e
|cons a us=>exact h a us (Nat.succ.inj e)
theorem YL{P:List Value->Prop}(h:∀ a,P [a]):∀ us:List Value,us.length=1->P us:=bnS λa=>bn0 (h a)
theorem bn2{P:List Value->Prop}(h:∀ a b,P [a,b]):∀ us:List Value,us.length=2->P us:=bnS λa=>bnS λb=>bn0 (h a b)
theorem bn3{P:List Value->Prop}(h:∀ a b c,P [a,b,c]):∀ us:List Value,us.length=3->P us:=bnS λa=>bnS λb=>bnS λc=>bn0 (h a b c)
theorem bn4{P:List Value->Prop}(h:∀ a b c d,P [a,b,c,d]):∀ us:List Value,us.length=4->P us:=bnS λa=>bnS λb=>bnS λc=>bnS λd=>bn0 (h a b c d)
theorem bn5{P:List Value->Prop}(h:∀ a b c d e,P [a,b,c,d,e]):∀ us:List Value,us.length=5->P us:=bnS λa=>bnS λb=>bnS λc=>bnS λd=>bnS λe=>bn0 (h a b c d e)
theorem bn6{P:List Value->Prop}(h:∀ a b c d e f,P [a,b,c,d,e,f]):∀ us:List Value,us.length=6->P us:=bnS λa=>bnS λb=>bnS λc=>bnS λd=>bnS λe=>bnS λf=>bn0 (h a b c d e f)
theorem yI{K:Qf}{h:Heap}{mg:Qm}(x:Str)(st:Stmt)(ps:List Str){f:Addr}{oc:Value}{od an:Option Addr}{osl:Array (Option Value)}{kV doc pm cdv ct:Value}(X:K.In h)(G:h.Ns mainGlobals mg)
  (b:∀ (kV doc pm:Value) (an:Option Addr) (cdv ct:Value) (us:List Value),us.length=ps.length->bindArgs (PySem.W.fnOf x x (Zz st) (ZG st) (zI st) .none kV doc pm an cdv ct) ⟨us,[]⟩=pure (ps.zip us))(a:PySem.W.nsIn K mainGlobals x=some (some (.ref f)):=by k_is)(l:K.lookup f=some ⟨oc,od,.func (PySem.W.fnOf x x (Zz st) (ZG st) (zI st) .none kV doc pm an cdv ct),osl⟩:=by k_is)(c:PySem.W.codeIn K cdv x=true:=by k_is)(k:PySem.W.keepIn K (.ref f)=true:=by k_is):zV K mg x st ps:=
 ⟨f,_,zBo l c k,Va X G a,(zBo l c k).binds b⟩
def YM (n lo hi:Int):Bool:=decide (lo<=n)&&decide (n<=hi)
theorem zQs{z:Int}(h:0<=z):KilnNeutral.nat z=some z.toNat:=by
 unfold KilnNeutral.nat;rw[Wb (by omega)]
end Kn
set_option autoImplicit false
namespace Kt
def zW:Nat->(Nat->Int)->Int
|0,_=>0
|n+1,f=>zW n f+f n
theorem zi{n:Nat}{f g:Nat->Int}(h:∀ i,i<n->f i=g i):zW n f=zW n g:=by
 induction n with
|zero=>rfl
|succ n ih=>simp only[zW];rw[ih (λi hi=>h i (by omega)),h n (by omega)]
theorem yL{n:Nat}{f:Nat->Int}(h:∀ i,i<n->f i=0):zW n f=0:=by
 induction n with
|zero=>rfl
|succ n ih=>simp only[zW];rw[ih (λi hi=>h i (by omega)),h n (by omega)];rfl
theorem Zm(n:Nat)(f g:Nat->Int):zW n (λi=>f i+g i)=zW n f+zW n g:=by
 induction n with
|zero=>rfl
|succ n ih=>simp only[zW];rw[ih];grind
theorem zCN(n:Nat)(f:Nat->Int):zW n (λi=>- f i) = - zW n f:=by
 induction n with
|zero=>rfl
|succ n ih=>simp only[zW];rw[ih];grind
theorem zAD(n:Nat)(f g:Nat->Int):zW n (λi=>f i-g i)=zW n f-zW n g:=by
 induction n with
|zero=>rfl
|succ n ih=>simp only[zW];rw[ih];grind
theorem zBG(n:Nat)(c:Int)(f:Nat->Int):zW n (λi=>c*f i)=c*zW n f:=by
 induction n with
|zero=>simp[zW]
|succ n ih=>simp only[zW];rw[ih,Int.mul_add]
theorem zCo(n m:Nat)(f:Nat->Nat->Int):zW n (λa=>zW m (λb=>f a b))=zW m (λb=>zW n (λa=>f a b)):=by
 induction n with
|zero=>simp only[zW];rw[yL λ_ _=>rfl]
|succ n ih=>simp only[zW];rw[ih,<-Zm]
theorem Zn{n k:Nat}{f:Nat->Int}(hk:k<n)(h:∀ i,i<n->i≠k->f i=0):zW n f=f k:=by
 induction n with
|zero=>omega
|succ n ih=>
  simp only[zW];by_cases e:k=n
  .subst e;rw[yL λi hi=>h i (by omega) (by omega)]
   grind
  .rw[ih (by omega) λi hi=>h i (by omega),h n (by omega) (by omega)]
   grind
theorem zAU{n:Nat}{f:Nat->Int}(h:∀ i,i<n->0<=f i):0<=zW n f:=by
 induction n with
|zero=>exact V4 0
|succ n ih=>
  simp only[zW];have:=ih (λi hi=>h i (by omega));have:=h n (by omega)
  grind
theorem zFW{n k:Nat}{f:Nat->Int}(h:∀ i,i<n->0<=f i)(hk:k<n)(hp:0<f k):0<zW n f:=by
 induction n with
|zero=>grind
|succ n ih=>
  simp only[zW];have:=zAU (n:=n) (f:=f) (λi hi=>h i (by omega));by_cases e:k=n
  .subst e;omega
  .have:=ih (λi hi=>h i (by omega)) (by lia);have:=h n (by omega);omega
theorem yf{a b:Int}(h:0<a):(0<a*b↔0<b)/\(a*b<0↔b<0)/\(a*b=0↔b=0):=by
 rcases W4 b 0 with hb|hb|hb
 .have:=Jt h hb;omega
 .subst hb;simp
 .have:=V3 h hb;omega
theorem ngp{b:Int}:0 < -b↔b<0:=⟨Int.neg_of_neg_pos,Int.neg_pos_of_neg⟩
theorem ngn{b:Int} : -b<0↔0<b:=⟨Int.pos_of_neg_neg,Int.neg_neg_of_pos⟩
theorem zEQ{a b:Int}(h:a<0):(0<a*b↔b<0)/\(a*b<0↔0<b)/\(a*b=0↔b=0):=by
 have q:=yf (a:=-a) (b:=-b) (Int.neg_pos_of_neg h);rw[Vv] at q;exact⟨q.1.trans ngp,q.2.1.trans ngn,q.2.2.trans Int.neg_eq_zero⟩
theorem cA{x y D:Int}(e:D = -(x+y))(h:x<=0)(k:y<0):0<D:=by omega
theorem cB{x y D:Int}(e:D=x+y)(h:0<=x)(k:0<y):0<D:=by omega
theorem zF6{α β γ δ p q r s D:Int}(h1:0<α)(h2:0<β)(h3:0<γ)(h4:0<δ)(hA:D = -(α*p+β*q))(hB:D=γ*r+δ*s)(nc:¬ (p*q<0/\r*s<0))(hs:0<s)(hq:r<0->q<0):0<D:=by
 by_cases hr:r<0
 .exact cA hA (Vz.mp λh=>nc ⟨Jt ((yf h1).1.mp h) (hq hr),Int.mul_neg_of_neg_of_pos hr hs⟩) ((yf h2).2.1.mpr (hq hr))
 .exact cB hB (Vs (Int.le_of_lt h3) (Vz.mp hr)) (V3 h4 hs)
theorem zHt{α β γ δ p q r s D:Int}(h1:0<α)(h2:0<β)(h3:0<γ)(h4:0<δ)(hA:D = -(α*p+β*q))(hB:D=γ*r+δ*s)(nc:¬ (p*q<0/\r*s<0))(hs:s<0)(hq:0<r->0<q):D<0:=by
 have:=zF6 (α:=α) (β:=β) (γ:=γ) (δ:=δ) (p:=-p) (q:=-q) (r:=-r) (s:=-s) (D:=-D) h1 h2 h3 h4 (by rw[hA];grind) (by rw[hB];grind) (by rw[Vv,Vv];exact nc) (by lia) (by lia)
 grind
def Sg (A s:Int):Prop:=(0<A↔0<s)/\(A<0↔s<0)/\(A=0↔s=0)
def Sn (A s:Int):Prop:=(0<A↔s<0)/\(A<0↔0<s)/\(A=0↔s=0)
theorem sga{A B C:Int}(e:A+B=C)(h:A<0)(k:0<C):0<B:=by omega
theorem sgb{A B C:Int}(e:A+B=C)(h:0<A)(k:C<0):B<0:=by omega
theorem sgc{x r s:Int}(d:x=r-s)(h:s<0)(g:0<r):0<x:=by omega
theorem sgd{x r s:Int}(d:x=r-s)(h:0<s)(g:r<0):x<0:=by omega
theorem sg1{A B C p q r s:Int}(k:Sg A s)(l:Sg B q)(m:Sg C (q-p))(e:A+B=C)(d:q-p=r-s):(s<0->0<r->0<q)/\(0<s->r<0->q<0):=
 ⟨λh g=>l.1.mp (sga e (k.2.1.mpr h) (m.1.mpr (sgc d h g))),λh g=>l.2.1.mp (sgb e (k.1.mpr h) (m.2.1.mpr (sgd d h g)))⟩
theorem sg2{A B C p q s:Int}(k:Sg A s)(l:Sg B q)(m:Sn C (q-p))(e:A+B=C):(q<0->-p<0->-s<0)/\(0<q->0 < -p->0 < -s):=
 ⟨λh g=>ngn.mpr (k.1.mp (sga ((V5 _ _).trans e) (l.2.1.mpr h) (m.1.mpr (sgd rfl (ngn.mp g) h)))),λh g=>ngp.mpr (k.2.1.mp (sgb ((V5 _ _).trans e) (l.1.mpr h) (m.2.1.mpr (sgc rfl (ngp.mp g) h))))⟩
theorem sg3{A B C p q r s:Int}(k:Sg A r)(l:Sg B p)(m:Sn C (q-p))(e:A+B=C)(d:q-p=r-s):(r<0->0<s->0<p)/\(0<r->s<0->p<0):=
 ⟨λh g=>l.1.mp (sga e (k.2.1.mpr h) (m.1.mpr (sgd d g h))),λh g=>l.2.1.mp (sgb e (k.1.mpr h) (m.2.1.mpr (sgc d g h)))⟩
theorem sg4{A B C p q r s:Int}(k:Sg A r)(l:Sg B p)(m:Sg C (q-p))(e:A+B=C)(d:q-p=r-s):(p<0->-q<0->-r<0)/\(0<p->0 < -q->0 < -r):=
 ⟨λh g=>ngn.mpr (k.1.mp (sga ((V5 _ _).trans e) (l.2.1.mpr h) (m.1.mpr (sgc rfl h (ngn.mp g))))),λh g=>ngp.mpr (k.2.1.mp (sgb ((V5 _ _).trans e) (l.1.mpr h) (m.2.1.mpr (sgd rfl h (ngp.mp g)))))⟩
theorem fnn{D s:Int}(h:D<0)(k:s<0):D≠0/\(0<D↔0<s):=by omega
theorem fpp{D s:Int}(h:0<D)(k:0<s):D≠0/\(0<D↔0<s):=by omega
theorem fpn{D s:Int}(h:0<D)(k:s<0):D≠0/\(0<D↔s<0):=by omega
theorem fnp{D s:Int}(h:D<0)(k:0<s):D≠0/\(0<D↔s<0):=by omega
theorem level{yu yv ya yb t p q r s D:Int}(t1:yu<t)(t2:t<yv)(t3:ya<t)(t4:t<yb)(hA:D = -((yb-t)*p+(t-ya)*q))(hB:D=(yv-t)*r+(t-yu)*s)(hD:q-p=r-s)
  (hI:(yv-yu)*r+(yb-ya)*p=(ya-yu)*(q-p))(hIV:(yv-yu)*s+(yb-ya)*q=(yb-yv)*(q-p))(nc:¬ (p*q<0/\r*s<0)) :
  (yv<yb->s≠0->D≠0/\(0<D↔0<s))/\(yb<yv->q≠0->D≠0/\(0<D↔q<0))/\(ya<yu->r≠0->D≠0/\(0<D↔0<r))/\(yu<ya->p≠0->D≠0/\(0<D↔p<0)):=by
 have e1:0<yv-yu:=W3 (VX t1 t2);have e2:0<yb-ya:=W3 (VX t3 t4);have u1:=W3 t1;have u2:=W3 t2;have u3:=W3 t3;have u4:=W3 t4;have k1:Sg _ _:=yf (b:=r) e1;have k2:Sg _ _:=yf (b:=p) e2;have k3:Sg _ _:=yf (b:=s) e1;have k4:Sg _ _:=yf (b:=q) e2;have hA':D = -((t-ya)*q+(yb-t)*p):=by rw[hA,V5]
 have hB':D=(t-yu)*s+(yv-t)*r:=by rw[hB,V5]
 have hA2:D=(yb-t)*(-p)+(t-ya)*(-q):=by rw[hA,UN,UN,Int.neg_add]
 have hB2:D = -((yv-t)*(-r)+(t-yu)*(-s)):=by rw[hB,UN,UN,<-Int.neg_add,Int.neg_neg]
 have hA3:D=(t-ya)*(-q)+(yb-t)*(-p):=by rw[hA2,V5]
 have hB3:D = -((t-yu)*(-s)+(yv-t)*(-r)):=by rw[hB2,V5]
 have nc1:¬ (q*p<0/\s*r<0):=by rw[VG q p,VG s r];exact nc
 have nc2:¬ (-r * -s<0/\-p * -q<0):=by rw[Vv,Vv];exact λh=>nc ⟨h.2,h.1⟩
 have nc3:¬ (-s * -r<0/\-q * -p<0):=by rw[Vv,Vv];exact λh=>nc1 ⟨h.2,h.1⟩
 have hD':q-p=r-s:=hD;refine⟨λh hs=>?_,λh hq=>?_,λh hr=>?_,λh hp=>?_⟩
 .have m:=sg1 k3 k4 (yf (a:=yb-yv) (b:=q-p) (W3 h)) hIV hD;rcases Uf hs with h0|h0
  .exact fnn (zHt u4 u3 u2 u1 hA hB nc h0 (m.1 h0)) h0
  .exact fpp (zF6 u4 u3 u2 u1 hA hB nc h0 (m.2 h0)) h0
 .have m:=sg2 k3 k4 (zEQ (a:=yb-yv) (b:=q-p) (Int.sub_neg_of_lt h)) hIV;rcases Uf hq with h0|h0
  .exact fpn (zF6 u2 u1 u4 u3 hB2 hA2 nc2 (Int.neg_pos_of_neg h0) (m.1 h0)) h0
  .exact fnp (zHt u2 u1 u4 u3 hB2 hA2 nc2 (Int.neg_neg_of_pos h0) (m.2 h0)) h0
 .have m:=sg3 k1 k2 (zEQ (a:=ya-yu) (b:=q-p) (Int.sub_neg_of_lt h)) hI hD;rcases Uf hr with h0|h0
  .exact fnn (zHt u3 u4 u1 u2 hA' hB' nc1 h0 (m.1 h0)) h0
  .exact fpp (zF6 u3 u4 u1 u2 hA' hB' nc1 h0 (m.2 h0)) h0
 .have m:=sg4 k1 k2 (yf (a:=ya-yu) (b:=q-p) (W3 h)) hI hD;rcases Uf hp with h0|h0
  .exact fpn (zF6 u1 u2 u3 u4 hB3 hA3 nc3 (Int.neg_pos_of_neg h0) (m.1 h0)) h0
  .exact fnp (zHt u1 u2 u3 u4 hB3 hA3 nc3 (Int.neg_neg_of_pos h0) (m.2 h0)) h0
def T (X Y:Nat->Int)(a b c:Nat):Int:=(X b-X a)*(Y c-Y b)-(Y b-Y a)*(X c-X b)
structure yW(n:Nat)(X Y:Nat->Int)(J:Nat->Nat->Prop):Prop where
 sym:∀ a b,J a b->J b a
 lt:∀ a b,J a b->a<n
 ne:∀ a b,J a b->a≠b
 inj:∀ a b,a<n->b<n->Y a=Y b->a=b
 even:∀ a,a<n->Y a%2=0
 on:∀ a b c,J a b->c<n->Y a<Y c->Y c<Y b->T X Y a b c≠0
 nc:∀ a b c d,J a b->J c d->¬ (T X Y a b c*T X Y a b d<0/\T X Y c d a*T X Y c d b<0)
structure Zr(n:Nat)(J:Nat->Nat->Prop)(d:Nat->Nat->Int):Prop where
 anti:∀ a b,d a b = - d b a
 supp:∀ a b,d a b≠0->J a b
 cons:∀ x,x<n->zW n (λu=>d u x)=0
def Dl (X Y:Nat->Int)(t:Int)(u v a b:Nat):Int:=(X a*(Y b-t)+X b*(t-Y a))*(Y v-Y u)-(X u*(Y v-t)+X v*(t-Y u))*(Y b-Y a)
section
variable {n:Nat}{X Y:Nat->Int}{J:Nat->Nat->Prop}{d:Nat->Nat->Int}
theorem zF7(a b:Nat):T X Y a b b=0:=by unfold T;grind
theorem zEy(a b:Nat):T X Y a b a=0:=by unfold T;grind
theorem zEz(a b c:Nat):T X Y a b c=T X Y b c a:=by unfold T;grind
theorem Yd(a b c:Nat):T X Y a c b = - T X Y a b c:=by unfold T;grind
theorem yW.lt2(G:yW n X Y J){a b:Nat}(h:J a b):b<n:=G.lt b a (G.sym a b h)
theorem yW.yne(G:yW n X Y J){a b:Nat}(h:J a b):Y a≠Y b:=λe=>G.ne a b h (G.inj a b (G.lt a b h) (G.lt2 h) e)
theorem lz1{D A B x:Int}(hA:D = -(A+B*0))(m:Sg A x)(hx:x≠0):D≠0/\(0<D↔x<0):=by
 unfold Sg at m;rw[Vw] at hA
 grind
theorem yW.level(G:yW n X Y J){u v a b:Nat}{t:Int}(e:J u v)(f:J a b)(ne:¬ (a=u/\b=v))(t1:Y u<t)(t2:t<Y v)(t3:Y a<t)(t4:t<Y b) :
  Dl X Y t u v a b≠0/\(Y v<Y b->(0<Dl X Y t u v a b↔0<T X Y a b v))/\(Y b<Y v->(0<Dl X Y t u v a b↔T X Y u v b<0))/\(b=v->(0<Dl X Y t u v a b↔T X Y u v a<0))/\
  (Y a<Y u->(0<Dl X Y t u v a b↔0<T X Y a b u))/\(Y u<Y a->(0<Dl X Y t u v a b↔T X Y u v a<0))/\(a=u->(0<Dl X Y t u v a b↔T X Y u v b<0)):=by
 have hA:Dl X Y t u v a b = -((Y b-t)*T X Y u v a+(t-Y a)*T X Y u v b):=by unfold Dl T;grind
 have hB:Dl X Y t u v a b=(Y v-t)*T X Y a b u+(t-Y u)*T X Y a b v:=by unfold Dl T;grind
 have hD:T X Y u v b-T X Y u v a=T X Y a b u-T X Y a b v:=by unfold T;grind
 have hI:(Y v-Y u)*T X Y a b u+(Y b-Y a)*T X Y u v a=(Y a-Y u)*(T X Y u v b-T X Y u v a):=by unfold T;grind
 have hIV:(Y v-Y u)*T X Y a b v+(Y b-Y a)*T X Y u v b=(Y b-Y v)*(T X Y u v b-T X Y u v a):=by unfold T;grind
 have L:=Kt.level t1 t2 t3 t4 hA hB hD hI hIV (G.nc u v a b e f);obtain⟨L1,L2,L3,L4⟩:=L
 have hbv:b=v->T X Y u v b=0/\T X Y u v a≠0:=by
  rintro rfl;refine⟨zF7 _ _,λh0=>?_⟩;rcases W4 (Y a) (Y u) with h|h|h
  .refine G.on a b u f (G.lt _ _ e) h (by omega) ?_;have:=zEz (X:=X) (Y:=Y) u b a;have:=Yd (X:=X) (Y:=Y) a u b;have:=zEz (X:=X) (Y:=Y) a b u;have:=zEz (X:=X) (Y:=Y) b u a;have:=Yd (X:=X) (Y:=Y) u a b;unfold T at *
   grind
  .exact ne ⟨G.inj a u (G.lt _ _ f) (G.lt _ _ e) h,rfl⟩
  .exact G.on u b a e (G.lt _ _ f) h (by omega) h0
 have hau:a=u->T X Y u v a=0/\T X Y u v b≠0:=by
  rintro rfl;refine⟨zEy _ _,λh0=>?_⟩;rcases W4 (Y b) (Y v) with h|h|h
  .exact G.on a v b e (G.lt2 f) (by omega) h h0
  .exact ne ⟨rfl,G.inj b v (G.lt2 f) (G.lt2 e) h⟩
  .refine G.on a b v f (G.lt2 e) (by omega) h ?_;have:=Yd (X:=X) (Y:=Y) a v b
   grind
 have m1:=yf (a:=Y b-t) (b:=T X Y u v a) (by omega);have m2:=yf (a:=t-Y a) (b:=T X Y u v b) (by omega);have c1:Y v<Y b->T X Y a b v≠0:=λh=>G.on a b v f (G.lt2 e) (by omega) h
 have c2:Y b<Y v->T X Y u v b≠0:=λh=>G.on u v b e (G.lt2 f) (by omega) h
 have c3:Y a<Y u->T X Y a b u≠0:=λh=>G.on a b u f (G.lt _ _ e) h (by omega)
 have c4:Y u<Y a->T X Y u v a≠0:=λh=>G.on u v a e (G.lt _ _ f) h (by omega)
 refine⟨?_,λh=>(L1 h (c1 h)).2,λh=>(L2 h (c2 h)).2,λh=>?_,λh=>(L3 h (c3 h)).2,λh=>(L4 h (c4 h)).2,λh=>?_⟩
 .rcases W4 (Y b) (Y v) with h|h|h
  .exact (L2 h (c2 h)).1
  .have q:=hbv (G.inj b v (G.lt2 f) (G.lt2 e) h);rw[q.1] at hA;exact (lz1 hA m1 q.2).1
  .exact (L1 h (c1 h)).1
 .have q:=hbv h;rw[q.1] at hA;exact (lz1 hA m1 q.2).2
 .have q:=hau h;rw[q.1,V5] at hA;exact (lz1 hA m2 q.2).2
theorem Zr.flux(G:yW n X Y J)(C:Zr n J d)(φ:Nat->Int):zW n (λa=>zW n (λb=>if Y a<Y b then d a b*(φ b-φ a) else 0))=0:=by
 have h1:zW n (λa=>zW n (λb=>d a b*φ b))=0:=by
  rw[zCo];refine yL λb hb=>?_
  rw[show (λa=>d a b*φ b)=(λa=>φ b*d a b) from funext λa=>VG _ _,zBG,C.cons b hb,Vw]
 have h2:zW n (λa=>zW n (λb=>d a b*φ b))=zW n (λa=>zW n (λb=>if Y a<Y b then d a b*φ b else 0))+zW n (λa=>zW n (λb=>if Y b<Y a then d a b*φ b else 0)):=by
  rw[<-Zm];refine zi λa ha=>?_
  rw[<-Zm];refine zi λb hb=>?_
  by_cases h:d a b=0
  .rw[h];simp
  .have:=G.yne (C.supp a b h);by_cases hl:Y a<Y b
   .rw[Wc hl,Wb (by lia)];grind
   .rw[Wb hl,Wc (by lia)];grind
 have h3:zW n (λa=>zW n (λb=>if Y b<Y a then d a b*φ b else 0)) = - zW n (λa=>zW n (λb=>if Y a<Y b then d a b*φ a else 0)):=by
  rw[zCo,<-zCN];refine zi λa ha=>?_
  rw[<-zCN];refine zi λb hb=>?_
  rw[C.anti b a];by_cases hl:Y a<Y b
  .rw[Wc hl,Wc hl,Int.neg_mul]
  .rw[Wb hl,Wb hl];rfl
 have h4:zW n (λa=>zW n (λb=>if Y a<Y b then d a b*(φ b-φ a) else 0))=zW n (λa=>zW n (λb=>if Y a<Y b then d a b*φ b else 0))-zW n (λa=>zW n (λb=>if Y a<Y b then d a b*φ a else 0)):=by
  rw[<-zAD];refine zi λa ha=>?_
  rw[<-zAD];refine zi λb hb=>?_
  by_cases hl:Y a<Y b
  .rw[Wc hl,Wc hl,Wc hl,Int.mul_sub]
  .rw[Wb hl,Wb hl,Wb hl];rfl
 omega
def ind (p:Prop)[Decidable p]:Int:=if p then 1 else 0
theorem zb{p q:Prop}[Decidable p][Decidable q](h:p↔q):ind p=ind q:=by
 unfold ind;by_cases hp:p
 .rw[Wc hp,Wc (h.mp hp)]
 .rw[Wb hp,Wb λhq=>hp (h.mpr hq)]
theorem zM{p:Prop}[Decidable p](h:¬ p):ind p=0:=Wb h
theorem z9{p:Prop}[Decidable p](h:p):ind p=1:=Wc h
def bot (X Y:Nat->Int)(u v a b:Nat):Int:=ind (Y a<Y u/\Y u<Y b/\0<T X Y a b u)+ind (a=u/\Y u<Y b/\T X Y u v b<0)
def tp (X Y:Nat->Int)(u v a b:Nat):Int:=ind (Y a<Y v/\Y v<Y b/\0<T X Y a b v)+ind (b=v/\Y a<Y v/\T X Y u v a<0)
def mid (X Y:Nat->Int)(t:Int)(u v a b:Nat):Int:=ind (Y a<t/\t<Y b/\0<Dl X Y t u v a b)
theorem tri{l x y z:Int}{E P1 P2 P3 D:Prop}[Decidable E][Decidable P1][Decidable P2][Decidable P3][Decidable D](c:l<x)(hz:z<y)(k1:y<x->(D↔P2))(k2:x<y->(D↔P1))(k3:E->(D↔P3))(i:x=y->E)(j:E->x=y) :
  ind (l<x/\x<y/\P1)+(ind (z<y/\y<x/\P2)+ind (E/\z<y/\P3))=ind D:=by
 rcases W4 x y with h|h|h
 .rw[zb (k2 h),zb (p:=l<x/\x<y/\P1) (q:=P1) ⟨λq=>q.2.2,λq=>⟨c,h,q⟩⟩,zM (p:=z<y/\y<x/\P2) (λq=>Xd h q.2.1),zM (p:=E/\_) (λq=>UC h (j q.1))];exact Ua _
 .rw[zb (k3 (i h)),zM (p:=l<x/\x<y/\P1) (λq=>UC q.2.1 h),zM (p:=z<y/\y<x/\P2) (λq=>UD q.2.1 h),zb (p:=E/\z<y/\P3) (q:=P3) ⟨λq=>q.2.2,λq=>⟨i h,hz,q⟩⟩,VL,VL]
 .rw[zb (k1 h),zM (p:=l<x/\x<y/\P1) (λq=>Xd h q.2.1),zb (p:=z<y/\y<x/\P2) (q:=P2) ⟨λq=>q.2.2,λq=>⟨hz,h,q⟩⟩,zM (p:=E/\_) (λq=>UD h (j q.1)),VL,Ua]
theorem zS3{x y z w:Int}{E P1 P2 P3 D:Prop}[Decidable E][Decidable P1][Decidable P2][Decidable P3][Decidable D](c:x<w)(hz:y<z)(k1:x<y->(D↔P2))(k2:y<x->(D↔P1))(k3:E->(D↔P3))(i:x=y->E)(j:E->x=y) :
  ind (y<x/\x<w/\P1)+(ind (x<y/\y<z/\P2)+ind (E/\y<z/\P3))=ind D:=by
 rcases W4 x y with h|h|h
 .rw[zb (k1 h),zM (p:=y<x/\x<w/\P1) (λq=>Xd h q.1),zb (p:=x<y/\y<z/\P2) (q:=P2) ⟨λq=>q.2.2,λq=>⟨h,hz,q⟩⟩,zM (p:=E/\_) (λq=>UC h (j q.1)),VL,Ua]
 .rw[zb (k3 (i h)),zM (p:=y<x/\x<w/\P1) (λq=>UD q.1 h),zM (p:=x<y/\y<z/\P2) (λq=>UC q.1 h),zb (p:=E/\y<z/\P3) (q:=P3) ⟨λq=>q.2.2,λq=>⟨i h,hz,q⟩⟩,VL,VL]
 .rw[zb (k2 h),zb (p:=y<x/\x<w/\P1) (q:=P1) ⟨λq=>q.2.2,λq=>⟨h,c,q⟩⟩,zM (p:=x<y/\y<z/\P2) (λq=>Xd h q.1),zM (p:=E/\_) (λq=>UD h (j q.1))];exact Ua _
theorem zS4{A B b t D:Int}(q1:A+t=D)(q2:B+b=D):A-B=b-t:=by grind
theorem zS5{A t D:Int}(q:A+t=D):A-0=D-t:=by lia
theorem nd{yu yv ya yb:Int}(h1:yu<yv)(h2:ya<yb)(h:yb<=yu\/yv<=ya):¬ (yu<yb/\yb<yv)/\¬ (yu<ya/\ya<yv)/\¬ (ya<yu/\yu<yb)/\¬ (ya<yv/\yv<yb)/\¬ (ya=yu/\yu<yb)/\¬ (yb=yv/\ya<yv):=by lia
theorem yW.step(G:yW n X Y J){u v a b:Nat}(e:J u v)(huv:Y u<Y v)(f:J a b)(hab:Y a<Y b) :
  ind (Y u<Y b/\Y b<Y v/\T X Y u v b<0)-ind (Y u<Y a/\Y a<Y v/\T X Y u v a<0)=bot X Y u v a b-tp X Y u v a b:=by
 have j1:a=u->Y a=Y u:=λh=>by rw[h]
 have j2:b=v->Y b=Y v:=λh=>by rw[h]
 unfold bot tp;by_cases same:a=u/\b=v
 .obtain⟨rfl,rfl⟩:=same;simp[ind,zF7,zEy]
 .by_cases hd:Y b<=Y u\/Y v<=Y a
  .obtain⟨n1,n2,n3,n4,n5,n6⟩:=nd huv hab hd;rw[zM (λq=>n1 ⟨q.1,q.2.1⟩),zM (λq=>n2 ⟨q.1,q.2.1⟩),zM (λq=>n3 ⟨q.1,q.2.1⟩),zM (λq=>n5 ⟨j1 q.1,q.2.1⟩),zM (λq=>n4 ⟨q.1,q.2.1⟩),zM (λq=>n6 ⟨j2 q.1,q.2.1⟩)];rfl
  .obtain⟨d1,d2⟩:=not_or.mp hd;have d1:=Jp.mp d1;have d2:=Jp.mp d2
   obtain⟨t,h1,h2,h3,h4⟩:∃ t,Y u<t/\t<Y v/\Y a<t/\t<Y b:=by
    have ea:=G.even a (G.lt _ _ f);have eb:=G.even b (G.lt2 f);have eu:=G.even u (G.lt _ _ e);have ev:=G.even v (G.lt2 e);clear j1 j2 hd;by_cases h:Y a<=Y u
    .exact⟨Y u+1,by grind,by omega,by omega,by omega⟩
    .exact⟨Y a+1,by omega,by omega,by grind,by omega⟩
   obtain⟨_,k1,k2,k3,k4,k5,k6⟩:=G.level e f same h1 h2 h3 h4;exact zS4 (tri (l:=Y u) (D:=0<Dl X Y t u v a b) d1 d2 k1 k2 k3 (G.inj b v (G.lt2 f) (G.lt2 e)) j2) (zS3 (w:=Y v) (D:=0<Dl X Y t u v a b) d2 d1 k4 k5 k6 (G.inj a u (G.lt _ _ f) (G.lt _ _ e)) j1)
theorem yW.stepM(G:yW n X Y J){u v a b:Nat}{t:Int}(e:J u v)(h1:Y u<t)(h2:t<Y v)(f:J a b)(hab:Y a<Y b)(ha:Y a≠t)(hb:Y b≠t) :
  ind (t<Y b/\Y b<Y v/\T X Y u v b<0)-ind (t<Y a/\Y a<Y v/\T X Y u v a<0)=mid X Y t u v a b-tp X Y u v a b:=by
 have s:=G.step e (VX h1 h2) f hab;unfold bot at s;unfold mid;have j1:a=u->Y a=Y u:=λh=>by rw[h]
 have j2:b=v->Y b=Y v:=λh=>by rw[h]
 by_cases c1:t<Y a
 .rw[zb (p:=t<Y b/\_) (q:=Y u<Y b/\Y b<Y v/\T X Y u v b<0) ⟨λq=>⟨VX h1 q.1,q.2⟩,λq=>⟨VX c1 hab,q.2⟩⟩,zb (p:=t<Y a/\_) (q:=Y u<Y a/\Y a<Y v/\T X Y u v a<0) ⟨λq=>⟨VX h1 q.1,q.2⟩,λq=>⟨c1,q.2⟩⟩,zM (p:=Y a<t/\_) (λq=>Xd c1 q.1)];rw[zM (p:=Y a<Y u/\_) (λq=>Xd (VX h1 c1) q.1),zM (p:=a=u/\_) (λq=>UD (VX h1 c1) (j1 q.1)),Ua] at s;exact s
 .have a1:Y a<t:=by have:=Vz.mp c1;clear s j1 j2 c1;lia
  rw[zM (p:=t<Y a/\_) (λq=>c1 q.1)];by_cases c2:Y b<t
  .rw[zM (p:=t<Y b/\_) (λq=>Xd c2 q.1),zM (p:=Y a<t/\_) (λq=>Xd c2 q.2.1)];unfold tp;rw[zM (p:=Y a<Y v/\_) (λq=>Xd (VX c2 h2) q.2.1),zM (p:=b=v/\_) (λq=>UC (VX c2 h2) (j2 q.1))];rfl
  .have c4:t<Y b:=by have:=Vz.mp c2;clear s j1 j2 c1 c2;lia
   unfold tp;by_cases same:a=u/\b=v
   .obtain⟨rfl,rfl⟩:=same;rw[zM (p:=t<Y b/\_) (λq=>Int.lt_irrefl _ q.2.1),zM (p:=_/\_/\0<Dl X Y t a b a b) (by clear s j1 j2;unfold Dl;omega),zM (p:=Y a<Y b/\_) (λq=>Int.lt_irrefl _ q.2.1),zM (p:=b=b/\_) (by rw[zEy];exact λq=>Int.lt_irrefl _ q.2.2)];rfl
   .obtain⟨_,k1,k2,k3,_⟩:=G.level e f same h1 h2 a1 c4;rw[zb (p:=Y a<t/\t<Y b/\_) (q:=0<Dl X Y t u v a b) ⟨λh=>h.2.2,λh=>⟨a1,c4,h⟩⟩];have q:=tri (l:=t) (D:=0<Dl X Y t u v a b) c4 (VX a1 h2) k1 k2 k3 (G.inj b v (G.lt2 f) (G.lt2 e)) j2;exact zS5 q
def yw (n:Nat)(Y:Nat->Int)(d:Nat->Nat->Int)(g:Nat->Nat->Int):Int:=zW n (λa=>zW n (λb=>if Y a<Y b then d a b*g a b else 0))
theorem zAr(C:Zr n J d){g h:Nat->Nat->Int}(e:∀ a b,J a b->Y a<Y b->g a b=h a b):yw n Y d g=yw n Y d h:=by
 refine zi λa ha=>zi λb hb=>?_
 by_cases hl:Y a<Y b
 .rw[Wc hl,Wc hl];by_cases h0:d a b=0
  .rw[h0];simp
  .rw[e a b (C.supp a b h0) hl]
 .rw[Wb hl,Wb hl]
theorem zJg(g h:Nat->Nat->Int):yw n Y d (λa b=>g a b-h a b)=yw n Y d g-yw n Y d h:=by
 unfold yw;rw[<-zAD];refine zi λa ha=>?_
 rw[<-zAD];refine zi λb hb=>?_
 by_cases hl:Y a<Y b
 .rw[Wc hl,Wc hl,Wc hl,Int.mul_sub]
 .rw[Wb hl,Wb hl,Wb hl];rfl
theorem zGn(g h:Nat->Nat->Int):yw n Y d (λa b=>g a b+h a b)=yw n Y d g+yw n Y d h:=by
 unfold yw;rw[<-Zm];refine zi λa ha=>?_
 rw[<-Zm];refine zi λb hb=>?_
 by_cases hl:Y a<Y b
 .rw[Wc hl,Wc hl,Wc hl,Int.mul_add]
 .rw[Wb hl,Wb hl,Wb hl];rfl
theorem Zr.botTop(G:yW n X Y J)(C:Zr n J d){u v:Nat}(e:J u v)(huv:Y u<Y v):yw n Y d (bot X Y u v)=yw n Y d (tp X Y u v):=by
 have h:=C.flux G (λp=>ind (Y u<Y p/\Y p<Y v/\T X Y u v p<0));have h2:yw n Y d (λa b=>ind (Y u<Y b/\Y b<Y v/\T X Y u v b<0)-ind (Y u<Y a/\Y a<Y v/\T X Y u v a<0))=0:=h;rw[zAr C (λa b f hab=>G.step e huv f hab),zJg] at h2
 grind
theorem Zr.midTop(G:yW n X Y J)(C:Zr n J d){u v:Nat}{t:Int}(e:J u v)(h1:Y u<t)(h2:t<Y v)(ht:∀ p,p<n->Y p≠t):yw n Y d (mid X Y t u v)=yw n Y d (tp X Y u v):=by
 have h:=C.flux G (λp=>ind (t<Y p/\Y p<Y v/\T X Y u v p<0));have h2:yw n Y d (λa b=>ind (t<Y b/\Y b<Y v/\T X Y u v b<0)-ind (t<Y a/\Y a<Y v/\T X Y u v a<0))=0:=h;rw[zAr C (λa b f hab=>G.stepM e h1 (by assumption) f hab (ht a (G.lt _ _ f)) (ht b (G.lt2 f))),zJg] at h2
 grind
end
def Tp (X Y:Nat->Int)(a b:Nat)(px py:Int):Int:=(X b-X a)*(py-Y b)-(Y b-Y a)*(px-X b)
def ll (X Y:Nat->Int)(v a b:Nat):Prop:=(Y v<Y a/\¬ Y v<Y b)\/((Y v<Y a↔Y v<Y b)/\T X Y v a b<0)
instance (X Y:Nat->Int)(v a b:Nat):Decidable (ll X Y v a b):=by unfold ll;infer_instance
def base (n:Nat)(X Y:Nat->Int)(d:Nat->Nat->Int)(px py:Int):Int:=yw n Y d (λa b=>ind (Y a<py/\py<Y b/\0<Tp X Y a b px py))
def ell (n:Nat)(X Y:Nat->Int)(d:Nat->Nat->Int)(v:Nat):Int:=base n X Y d (X v) (Y v)+zW n (λw=>ind (Y v<Y w)*d v w)
def Yw (n:Nat)(X Y:Nat->Int)(d:Nat->Nat->Int)(u v:Nat):Int:=ell n X Y d v-zW n (λw=>ind (w=u\/ll X Y v w u)*d v w)
def zER (n:Nat)(X Y:Nat->Int)(d:Nat->Nat->Int)(v u:Nat):Int:=ell n X Y d v-zW n (λw=>ind (ll X Y v w u)*d v w)
section
variable {n:Nat}{X Y:Nat->Int}{J:Nat->Nat->Prop}{d:Nat->Nat->Int}
theorem zES(v a:Nat):¬ ll X Y v a a:=by
 unfold ll;rw[zF7];omega
theorem zIH{v u:Nat}(hu:u<n):zER n X Y d v u=Yw n X Y d u v+d v u:=by
 unfold zER Yw
 have:zW n (λw=>ind (w=u\/ll X Y v w u)*d v w)=zW n (λw=>ind (ll X Y v w u)*d v w)+d v u:=by
  have e:d v u=zW n (λw=>ind (w=u)*d v w):=by
   rw[Zn hu λi _ hi=>by rw[zM hi,Xb],z9 rfl,UM]
  rw[e,<-Zm];refine zi λw _=>?_
  by_cases h:w=u
  .subst h;rw[z9 (Or.inl rfl),zM (zES v w),z9 rfl];omega
  .rw[zM h,zb (p:=w=u\/_) (q:=ll X Y v w u) ⟨λk=>k.resolve_left h,Or.inr⟩];grind
 lia
theorem dne(C:Zr n J d){v w:Nat}{x y:Int}(h:J v w->x=y):x*d v w=y*d v w:=by
 by_cases h0:d v w=0
 .rw[h0,Vw,Vw]
 .rw[h (C.supp _ _ h0)]
theorem Zr.linUp(G:yW n X Y J)(C:Zr n J d){u v:Nat}(e:J u v)(huv:Y u<Y v):Yw n X Y d u v=yw n Y d (tp X Y u v)+d u v:=by
 have hu:=G.lt _ _ e;have hv:=G.lt2 e
 have hb:yw n Y d (tp X Y u v)=base n X Y d (X v) (Y v)+zW n (λw=>ind (Y w<Y v/\T X Y u v w<0)*d w v):=by
  have:yw n Y d (tp X Y u v)=yw n Y d (λa b=>ind (Y a<Y v/\Y v<Y b/\0<Tp X Y a b (X v) (Y v)))+yw n Y d (λa b=>ind (b=v/\Y a<Y v/\T X Y u v a<0)):=by
   rw[<-zGn];rfl
  rw[this];unfold base
  congr 1
  unfold yw;refine zi λw _=>?_
  rw[Zn hv λb _ hb=>by dsimp only;rw[zM (by omega),Vw,UX]];dsimp only;by_cases h:Y w<Y v
  .rw[Wc h,zb (p:=v=v/\_) (q:=Y w<Y v/\T X Y u v w<0) (by simp),VG]
  .rw[Wb h,zM (by omega),Xb]
 rw[hb];unfold Yw ell
 have:zW n (λw=>ind (Y v<Y w)*d v w)-zW n (λw=>ind (w=u\/ll X Y v w u)*d v w)=zW n (λw=>ind (Y w<Y v/\T X Y u v w<0)*d w v)+d u v:=by
  have e1:d u v=zW n (λw=>ind (w=u)*d w v):=by
   rw[Zn hu λi _ hi=>by rw[zM hi,Xb],z9 rfl,UM]
  rw[e1,<-zAD,<-Zm];refine zi λw hw=>?_
  rw[<-Int.sub_mul,<-Int.add_mul,C.anti w v,UN,<-Int.neg_mul];refine dne C λf=>?_
  have yn:=G.yne f;have q:T X Y v w u=T X Y u v w:=(zEz u v w).symm;have e2:ll X Y v w u↔(Y v<Y w\/(¬ Y v<Y w/\T X Y u v w<0)):=by unfold ll;rw[q];omega
  by_cases hwu:w=u
  .subst hwu;rw[zM (by omega),z9 (Or.inl rfl),zM (by rw[zEy];omega),z9 rfl];grind
  .rw[zb (p:=w=u\/_) (q:=Y v<Y w\/(¬ Y v<Y w/\T X Y u v w<0)) (by rw[e2];omega),zM hwu];by_cases hl:Y v<Y w
   .rw[z9 hl,z9 (Or.inl hl),zM (by omega)];grind
   .rw[zM hl,zb (p:=Y v<Y w\/_) (q:=Y w<Y v/\T X Y u v w<0) (by omega)];omega
 omega
theorem Zr.edgeUp(G:yW n X Y J)(C:Zr n J d){u v:Nat}(e:J u v)(huv:Y u<Y v):zER n X Y d u v=Yw n X Y d u v:=by
 have hu:=G.lt _ _ e;have hv:=G.lt2 e
 have h1:zER n X Y d u v=yw n Y d (bot X Y u v)+d u v:=by
  have hb:yw n Y d (bot X Y u v)=base n X Y d (X u) (Y u)+zW n (λw=>ind (Y u<Y w/\T X Y u v w<0)*d u w):=by
   have:yw n Y d (bot X Y u v)=yw n Y d (λa b=>ind (Y a<Y u/\Y u<Y b/\0<Tp X Y a b (X u) (Y u)))+yw n Y d (λa b=>ind (a=u/\Y u<Y b/\T X Y u v b<0)):=by
    rw[<-zGn];rfl
   rw[this];unfold base
   congr 1
   unfold yw;rw[Zn hu]
   .refine zi λw _=>?_
    dsimp only;by_cases h:Y u<Y w
    .rw[Wc h,zb (p:=u=u/\_) (q:=Y u<Y w/\T X Y u v w<0) (by simp),VG]
    .rw[Wb h,zM (by omega),Xb]
   .intro a _ ha;refine yL λb _=>?_
    dsimp only;rw[zM (by omega),Vw,UX]
  rw[hb];unfold zER ell
  have:zW n (λw=>ind (Y u<Y w)*d u w)-zW n (λw=>ind (ll X Y u w v)*d u w)=zW n (λw=>ind (Y u<Y w/\T X Y u v w<0)*d u w)+d u v:=by
   have e1:d u v=zW n (λw=>ind (w=v)*d u w):=by
    rw[Zn hv λi _ hi=>by rw[zM hi,Xb],z9 rfl,UM]
   rw[e1,<-zAD,<-Zm];refine zi λw hw=>?_
   rw[<-Int.sub_mul,<-Int.add_mul];refine dne C λf=>?_
   have q:=Yd (X:=X) (Y:=Y) u v w;have e2:ll X Y u w v↔(Y u<Y w/\T X Y u w v<0):=by unfold ll;omega
   rw[zb e2];by_cases hl:Y u<Y w
   .rw[z9 hl];by_cases hwv:w=v
    .subst hwv;rw[zM (p:=_/\T X Y u w w<0) (by rw[zF7];omega),z9 (p:=w=w) rfl];omega
    .rw[zM hwv]
     have nz:T X Y u v w≠0:=by
      rcases W4 (Y w) (Y v) with h|h|h
      .exact G.on u v w e hw hl h
      .exact absurd (G.inj w v hw hv h) hwv
      .have:=G.on u w v f hv huv h;omega
     by_cases hs:T X Y u v w<0
     .rw[zM (p:=Y u<Y w/\T X Y u w v<0) (by omega),z9 (p:=Y u<Y w/\T X Y u v w<0) ⟨hl,hs⟩];omega
     .rw[z9 (p:=Y u<Y w/\T X Y u w v<0) ⟨hl,by omega⟩,zM (p:=Y u<Y w/\T X Y u v w<0) (by omega)];omega
   .have:w≠v:=λh=>hl (by rw[h];exact huv)
    rw[zM hl,zM (p:=Y u<Y w/\T X Y u w v<0) (by omega),zM (p:=Y u<Y w/\T X Y u v w<0) (by omega),zM this];omega
  omega
 rw[h1,C.linUp G e huv,C.botTop G e huv]
theorem Zr.edge(G:yW n X Y J)(C:Zr n J d){u v:Nat}(e:J u v):zER n X Y d u v=Yw n X Y d u v:=by
 have:=G.yne e;by_cases h:Y u<Y v
 .exact C.edgeUp G e h
 .have k:=C.edgeUp G (G.sym _ _ e) (by omega);have a1:=zIH (n:=n) (X:=X) (Y:=Y) (d:=d) (v:=u) (u:=v) (G.lt2 e);have a2:=zIH (n:=n) (X:=X) (Y:=Y) (d:=d) (v:=v) (u:=u) (G.lt _ _ e);have:=C.anti u v
  lia
theorem Zr.rev(G:yW n X Y J)(C:Zr n J d){u v:Nat}(e:J u v):Yw n X Y d u v=Yw n X Y d v u+d u v:=by
 rw[<-C.edge G e,zIH (G.lt2 e)]
def Nx (X Y:Nat->Int)(J:Nat->Nat->Prop)(v p q:Nat):Prop:=J v q/\((∀ w,J v w->((w=p\/ll X Y v w p)↔ll X Y v w q))\/((∀ w,J v w->w=p\/ll X Y v w p)/\∀ w,J v w->¬ ll X Y v w q))
theorem Zr.cons2(C:Zr n J d){v:Nat}(hv:v<n):zW n (λw=>d v w)=0:=by
 rw[show (λw=>d v w)=(λw=>- d w v) from funext λw=>C.anti v w,zCN,C.cons v hv];rfl
theorem Zr.corner(G:yW n X Y J)(C:Zr n J d){v p q:Nat}(h:Nx X Y J v p q):Yw n X Y d p v=Yw n X Y d v q:=by
 obtain⟨jq,h⟩:=h;rw[<-C.edge G jq];unfold Yw zER
 congr 1
 rcases h with h|⟨h1,h2⟩
 .refine zi λw _=>dne C λf=>zb (h w f)
 .rw[yL (f:=λw=>ind (ll X Y v w q)*d v w) λw _=>by rw[dne C (y:=0) λf=>zM (h2 w f),Xb],<-C.cons2 (G.lt _ _ jq)];refine zi λw _=>?_
  rw[dne C (y:=1) λf=>z9 (h1 w f),UM]
theorem Zr.outer(G:yW n X Y J)(C:Zr n J d){v q:Nat}(hv:∀ w,w<n->Y w<=Y v)(jq:J v q)(hq:∀ w,J v w->¬ ll X Y v w q):Yw n X Y d v q=0:=by
 rw[<-C.edge G jq];unfold zER ell base;rw[yL (f:=λw=>ind (ll X Y v w q)*d v w) λw _=>by rw[dne C (y:=0) λf=>zM (hq w f),Xb]];rw[yL (f:=λw=>ind (Y v<Y w)*d v w) λw hw=>by rw[zM (by have:=hv w hw;omega),Xb]];unfold yw;rw[yL λa _=>yL λb hb=>by dsimp only;rw[zM (by have:=hv b hb;omega),Vw,UX]];rfl
theorem zS6{x y z a b c:Int}(hx:Sg x a)(hy:Sg y b)(hz:Sg z c)(e:x=y+z)(h1:b<0)(h2:c<0):a<0:=by
 have q1:=hy.2.1.mpr h1;have q2:=hz.2.1.mpr h2;exact hx.2.1.mp (by omega)
theorem zS7{x y z a b c:Int}(hx:Sn x a)(hy:Sn y b)(hz:Sn z c)(e:x=y+z)(h1:b<0)(h2:c<0):a<0:=by
 have q1:=hy.1.mpr h1;have q2:=hz.1.mpr h2;exact hx.1.mp (by omega)
theorem zII(G:yW n X Y J){v a b c:Nat}(ja:J v a)(jb:J v b)(jc:J v c)(h1:ll X Y v a b)(h2:ll X Y v b c):ll X Y v a c:=by
 have ya:=G.yne ja;have yb:=G.yne jb;have yc:=G.yne jc;have id:(Y b-Y v)*T X Y v a c=(Y a-Y v)*T X Y v b c+(Y c-Y v)*T X Y v a b:=by unfold T;grind
 have ng:∀ x,Y v≠Y x->¬ Y v<Y x->Y x-Y v<0:=λx h1 h2=>by lia
 unfold ll at *
 rcases h1 with ⟨a1,a2⟩|⟨a1,a2⟩ <;> rcases h2 with ⟨b1,b2⟩|⟨b1,b2⟩
 .exact absurd b1 a2
 .exact .inl ⟨a1,λz=>a2 (b1.mpr z)⟩
 .exact .inl ⟨a1.mpr b1,b2⟩
 .refine .inr ⟨a1.trans b1,?_⟩;by_cases hb:Y v<Y b
  .exact zS6 (yf (W3 hb)) (yf (W3 (a1.mpr hb))) (yf (W3 (b1.mp hb))) id b2 a2
  .exact zS7 (zEQ (ng b yb hb)) (zEQ (ng a ya λz=>hb (a1.mp z))) (zEQ (ng c yc λz=>hb (b1.mpr z))) id b2 a2
theorem zE0(G:yW n X Y J){v a b:Nat}(ja:J v a)(jb:J v b)(h1:ll X Y v a b)(h2:ll X Y v b a):False:=zES v a (zII G ja jb ja h1 h2)
theorem Ye(G:yW n X Y J){v a b:Nat}(ja:J v a)(jb:J v b)(hab:a≠b):ll X Y v a b\/ll X Y v b a:=by
 have ya:=G.yne ja;have yb:=G.yne jb;have s:=Yd (X:=X) (Y:=Y) v a b;have la:=G.lt2 ja;have lb:=G.lt2 jb
 have nz:(Y v<Y a↔Y v<Y b)->T X Y v a b≠0:=by
  intro h h0;have c1:=zEz (X:=X) (Y:=Y) v a b;have c2:=zEz (X:=X) (Y:=Y) a b v;rcases W4 (Y a) (Y b) with k|k|k
  .by_cases hv:Y v<Y a
   .exact G.on v b a jb la hv k (by lia)
   .refine G.on a v b (G.sym _ _ ja) lb k (by omega) ?_;have:=Yd (X:=X) (Y:=Y) a b v
    lia
  .exact hab (G.inj a b la lb k)
  .by_cases hv:Y v<Y b
   .exact G.on v a b ja lb hv k h0
   .refine G.on b v a (G.sym _ _ jb) la k (by grind) ?_
    lia
 unfold ll;by_cases h:(Y v<Y a↔Y v<Y b)
 .have:=nz h;omega
 .omega
open Classical in
noncomputable def rk (n:Nat) (X Y:Nat->Int) (J:Nat->Nat->Prop) (v w:Nat):Int:=zW n (λx=>if J v x/\ll X Y v x w then 1 else 0)
open Classical in
theorem Y6(G:yW n X Y J){v a b:Nat}(ja:J v a)(jb:J v b)(h:ll X Y v a b):rk n X Y J v a<rk n X Y J v b:=by
 have:0<zW n (λx=>(if J v x/\ll X Y v x b then 1 else 0)-(if J v x/\ll X Y v x a then (1:Int) else 0)):=by
  refine zFW (k:=a) (λi _=>?_) (G.lt2 ja) ?_
  .by_cases h1:J v i/\ll X Y v i a
   .rw[Wc h1,Wc ⟨h1.1,zII G h1.1 ja jb h1.2 h⟩];omega
   .rw[Wb h1];split <;> grind
  .rw[Wc ⟨ja,h⟩,Wb λk=>zES v a k.2];omega
 rw[zAD] at this;unfold rk;omega
open Classical in
theorem zF8{v w:Nat}:rk n X Y J v w<=n:=by
 unfold rk;generalize hf:(λx=>if J v x/\ll X Y v x w then (1:Int) else 0)=f
 have h1:∀ x,f x<=1:=by
  intro x;rw[<-hf];dsimp only;split <;> omega
 clear hf
 induction n with
|zero=>simp[zW]
|succ n ih=>
  simp only[zW];have:=h1 n;omega
theorem zF9(G:yW n X Y J){nx:Nat->Nat->Nat}(hnx:∀ p v,J p v->Nx X Y J v p (nx p v)){v:Nat}(h:Nat->Int)(hh:∀ w,J v w->h w=h (nx w v)) :
  ∀ (k:Nat) (w:Nat),J v w->(n:Int)-rk n X Y J v w<=k->∃ M,J v M/\(∀ x,J v x->x=M\/ll X Y v x M)/\h w=h M
|0,w,jw,hk=>by
  obtain⟨jq,s|s⟩:=hnx w v (G.sym _ _ jw)
  .have:=Y6 G jw jq ((s w jw).mp (Or.inl rfl));have:=zF8 (n:=n) (X:=X) (Y:=Y) (J:=J) (v:=v) (w:=nx w v);omega
  .exact⟨w,jw,s.1,rfl⟩
|k+1,w,jw,hk=>by
  obtain⟨jq,s|s⟩:=hnx w v (G.sym _ _ jw)
  .have:=Y6 G jw jq ((s w jw).mp (Or.inl rfl));obtain⟨M,a,b,c⟩:=zF9 G hnx h hh k (nx w v) jq (by omega);exact⟨M,a,b,(hh w jw).trans c⟩
  .exact⟨w,jw,s.1,rfl⟩
theorem around(G:yW n X Y J){nx:Nat->Nat->Nat}(hnx:∀ p v,J p v->Nx X Y J v p (nx p v)){v:Nat}(h:Nat->Int)(hh:∀ w,J v w->h w=h (nx w v)){a b:Nat}(ja:J v a)(jb:J v b):h a=h b:=by
 obtain⟨M,m1,m2,m3⟩:=zF9 G hnx h hh _ a ja (U5 _);obtain⟨M',k1,k2,k3⟩:=zF9 G hnx h hh _ b jb (U5 _)
 have e:M=M':=by
  rcases k2 M m1 with e|e
  .exact e
  .rcases m2 M' k1 with e'|e'
   .exact e'.symm
   .exact absurd e (λe=>zE0 G m1 k1 e e')
 rw[m3,k3,e]
theorem zQt(G:yW n X Y J){v p p' q:Nat}(jp:J v p)(jp':J v p')(h:Nx X Y J v p q)(h':Nx X Y J v p' q):p=p':=by
 obtain⟨jq,s|s⟩:=h
 .obtain⟨_,s'|s'⟩:=h'
  .rcases (s' p jp).mpr ((s p jp).mp (Or.inl rfl)) with e|e
   .exact e
   .rcases (s p' jp').mpr ((s' p' jp').mp (Or.inl rfl)) with e'|e'
    .exact e'.symm
    .exact absurd e' (λe'=>zE0 G jp jp' e e')
  .exact absurd ((s p jp).mp (Or.inl rfl)) (s'.2 p jp)
 .obtain⟨_,s'|s'⟩:=h'
  .exact absurd ((s' p' jp').mp (Or.inl rfl)) (s.2 p' jp')
  .rcases s'.1 p jp with e|e
   .exact e
   .rcases s.1 p' jp' with e'|e'
    .exact e'.symm
    .exact absurd e' (λe'=>zE0 G jp jp' e e')
abbrev zf:=Nat×Nat
def ph (nx:Nat->Nat->Nat)(e:zf):zf:=(e.2,nx e.1 e.2)
def yB (nx:Nat->Nat->Nat):Nat->zf->zf
|0,e=>e
|k+1,e=>yB nx k (ph nx e)
def zU (nx:Nat->Nat->Nat):Nat->zf->List zf
|0,_=>[]
|k+1,e=>e::zU nx k (ph nx e)
variable {nx:Nat->Nat->Nat}
theorem ZX:∀ (k:Nat) (e:zf),yB nx (k+1) e=ph nx (yB nx k e)
|0,_=>rfl
|k+1,e=>ZX k (ph nx e)
theorem zAs:∀ (i j:Nat) (e:zf),yB nx (i+j) e=yB nx i (yB nx j e)
|i,0,e=>rfl
|i,j+1,e=>zAs i j (ph nx e)
theorem zo{x:zf}:∀ {k:Nat}{e:zf},x∈zU nx k e↔∃ i,i<k/\x=yB nx i e
|0,e=>by simp[zU]
|k+1,e=>by
  rw[zU,Wd,zo];constructor
  .rintro (h|⟨i,hi,h⟩)
   .exact⟨0,by grind,h⟩
   .exact⟨i+1,by omega,h⟩
  .rintro⟨i,hi,h⟩;cases i with
  |zero=>exact Or.inl h
  |succ i=>exact Or.inr ⟨i,by omega,h⟩
theorem ZY:∀ (k:Nat) (e:zf),(zU nx k e).length=k
|0,_=>rfl
|k+1,e=>W1 (· + 1) (ZY k _)
theorem Zu(hnx:∀ p v,J p v->Nx X Y J v p (nx p v)):∀ (k:Nat) {e:zf},J e.1 e.2->J (yB nx k e).1 (yB nx k e).2
|0,_,h=>h
|k+1,e,h=>Zu hnx k (e:=ph nx e) (hnx _ _ h).1
theorem zGA(G:yW n X Y J)(hnx:∀ p v,J p v->Nx X Y J v p (nx p v)){a b:zf}(ja:J a.1 a.2)(jb:J b.1 b.2)(h:ph nx a=ph nx b):a=b:=by
 obtain⟨p,v⟩:=a;obtain⟨p',v'⟩:=b;have e1:v=v':=W1 Prod.fst h;subst e1;have e2:nx p v=nx p' v:=W1 Prod.snd h;have h':=hnx p' v jb;rw[<-e2] at h';have e3:p=p':=zQt G (G.sym _ _ ja) (G.sym _ _ jb) (hnx p v ja) h';rw[e3]
theorem zE1(G:yW n X Y J)(hnx:∀ p v,J p v->Nx X Y J v p (nx p v)):∀ (k:Nat) {a b:zf},J a.1 a.2->J b.1 b.2->yB nx k a=yB nx k b->a=b
|0,_,_,_,_,h=>h
|k+1,a,b,ja,jb,h=>zGA G hnx ja jb (zE1 G hnx k (hnx _ _ ja).1 (hnx _ _ jb).1 h)
def dW (W:List zf)(a b:Nat):Int:=(W.count (a,b):Int)-(W.count (b,a):Int)
theorem zET(x:Nat):∀ (W:List zf),(∀ e∈W,e.1<n)->zW n (λu=>(W.count (u,x):Int))=((W.countP (λe=>e.2==x)):Int)
|[],_=>by simpa using yL λ_ _=>rfl
|e::W,h=>by
  have ih:=zET x W λe' he=>h e' (by simp[he])
  have h1:zW n (λu=>if e=(u,x) then (1:Int) else 0)=if e.2=x then 1 else 0:=by
   by_cases hx:e.2=x
   .rw[Wc hx,Zn (k:=e.1) (h e (by simp)),Wc (by rw[<-hx])];intro i _ hi;rw[Wb λhe=>hi (by rw[he])]
   .rw[Wb hx];exact yL λi _=>Wb λhe=>hx (by rw[he])
  rw[XS]
  have h2:(λu=>((e::W).count (u,x):Int))=λu=>(W.count (u,x):Int)+(if e=(u,x) then (1:Int) else 0):=by
   funext u
   rw[UJ];by_cases he:e=(u,x)
   .rw[Wc he,Wc (by simp[he])];grind
   .rw[Wb he,Wb (by simpa using he)];grind
  rw[h2,Zm,ih,h1];by_cases hx:e.2=x
  .rw[Wc hx,Wc (by simpa using hx)];omega
  .rw[Wb hx,Wb (by simpa using hx)];omega
theorem zGB(a b:Nat):∀ (W:List zf),(W.map λe=>(e.2,e.1)).count (a,b)=W.count (b,a)
|[]=>rfl
|e::W=>by
  rw[Wo,UJ,UJ,zGB a b W]
  congr 1
  by_cases h:e=(b,a)
  .subst h;simp
  .rw[Wb (by intro k;apply h;have:=eq_of_beq k;obtain⟨e1,e2⟩:=e;simp at this;rw[this.1,this.2]),Wb (by simpa using h)]
theorem zL6(G:yW n X Y J){W:List zf}(hJ:∀ e∈W,J e.1 e.2)(hc:∀ x,W.countP (λe=>e.2==x)=W.countP (λe=>e.1==x)):Zr n J (dW W):=by
 refine⟨λa b=>by unfold dW;grind,λa b h=>?_,λx hx=>?_⟩
 .by_cases h1:(a,b)∈W
  .exact hJ _ h1
  .by_cases h2:(b,a)∈W
   .exact G.sym _ _ (hJ _ h2)
   .unfold dW at h;rw[X5 h1,X5 h2] at h;exact absurd rfl h
 .unfold dW;rw[zAD,zET x W λe he=>G.lt _ _ (hJ e he)]
  have h2:(λu=>(W.count (x,u):Int))=λu=>((W.map λe=>(e.2,e.1)).count (u,x):Int):=by
   funext u
   rw[zGB]
  rw[h2,zET x _ λe he=>by
   obtain⟨e',he',rfl⟩:=Wp.mp he;exact G.lt2 (hJ e' he')]
  rw[List.countP_map,hc x];have:((λ(e:zf)=>e.2==x)∘λ(e:zf)=>(e.2,e.1))=λe=>e.1==x:=rfl
  rw[this]
  grind
theorem zIJ(x:Nat):∀ (k:Nat) (e:zf),((zU nx k e).countP (λe=>e.2==x):Int)-((zU nx k e).countP (λe=>e.1==x):Int)=(if (yB nx k e).1=x then 1 else 0)-(if e.1=x then 1 else 0)
|0,e=>by simp only[zU,yB,List.countP_nil];grind
|k+1,e=>by
  have ih:=zIJ x k (ph nx e);rw[zU,XS,XS];have e1:(ph nx e).1=e.2:=rfl;rw[e1] at ih;rw[yB];simp only[Vj] at *
  split <;> split <;> simp_all <;> lia
theorem zJh(G:yW n X Y J)(hnx:∀ p v,J p v->Nx X Y J v p (nx p v)){k:Nat}{e:zf}(je:J e.1 e.2)(hk:(yB nx k e).1=e.1):Zr n J (dW (zU nx k e)):=by
 refine zL6 G (λx hx=>?_) (λx=>?_)
 .obtain⟨i,_,rfl⟩:=zo.mp hx;exact Zu hnx i je
 .have:=zIJ (nx:=nx) x k e;rw[hk] at this;omega
theorem zIK{W:List zf}(h:W.Nodup)(a b:Nat):dW W a b=ind ((a,b)∈W)-ind ((b,a)∈W):=by
 have c:∀ e:zf,(W.count e:Int)=ind (e∈W):=by
  intro e;by_cases he:e∈W
  .rw[z9 he,h.count,Wc he];rfl
  .rw[zM he,X5 he];rfl
 unfold dW;rw[c,c]
end
section
variable {n:Nat}{X Y:Nat->Int}{J:Nat->Nat->Prop}{nx:Nat->Nat->Nat}
structure Dr(n:Nat)(X Y:Nat->Int)(J:Nat->Nat->Prop)(nx:Nat->Nat->Nat):Prop where
 G:yW n X Y J
 hnx:∀ p v,J p v->Nx X Y J v p (nx p v)
 deg:∀ v,v<n->∃ w,J w v
 conn:∀ h:Nat->Int,(∀ a b,J a b->h a=h b)->∀ a b,a<n->b<n->h a=h b
 cut:∀ v,v<n->∀ h:Nat->Int,(∀ a b,J a b->a≠v->b≠v->h a=h b)->∀ a b,a<n->b<n->a≠v->b≠v->h a=h b
theorem Dr.at_(D:Dr n X Y J nx){g:Nat->Nat->Int}{x:Nat}(h1:∀ p,J p x->g p x=g x (nx p x))(h2:∀ u,J u x->g u x=g x u){a b:Nat}(ja:J a x)(jb:J b x):g a x=g b x:=by
 refine around D.G D.hnx (v:=x) (λw=>g w x) (λw jw=>?_) (D.G.sym _ _ ja) (D.G.sym _ _ jb);have jp:=D.G.sym _ _ jw;have jn:=(D.hnx w x jp).1;show g w x=g (nx w x) x;rw[h1 w jp,h2 _ (D.G.sym _ _ jn)]
theorem Dr.all(D:Dr n X Y J nx){g:Nat->Nat->Int}(h1:∀ p x,J p x->g p x=g x (nx p x))(h2:∀ u x,J u x->g u x=g x u){a b a' b':Nat}(j:J a b)(j':J a' b'):g a b=g a' b':=by
 obtain⟨c,hc⟩:∃ c:Nat->Nat,∀ v,v<n->J (c v) v:=by
  refine⟨λv=>if h:v<n then Classical.choose (D.deg v h) else 0,λv hv=>?_⟩;dsimp only;rw[dif_pos hv];exact Classical.choose_spec (D.deg v hv)
 have k:=D.conn (λv=>g (c v) v) (λx y jxy=>?_) b b' (D.G.lt2 j) (D.G.lt2 j')
 .have e1:=D.at_ (λp=>h1 p b) (λu=>h2 u b) j (hc b (D.G.lt2 j));have e2:=D.at_ (λp=>h1 p b') (λu=>h2 u b') j' (hc b' (D.G.lt2 j'));rw[e1,e2];exact k
 .have e1:=D.at_ (λp=>h1 p x) (λu=>h2 u x) (hc x (D.G.lt _ _ jxy)) (D.G.sym _ _ jxy);have e2:=D.at_ (λp=>h1 p y) (λu=>h2 u y) (hc y (D.G.lt2 jxy)) jxy;show g (c x) x=g (c y) y;rw[e1,e2,h2 x y jxy]
theorem Dr.allBut(D:Dr n X Y J nx){v:Nat}(hv:v<n){g:Nat->Nat->Int}(h1:∀ p x,J p x->x≠v->g p x=g x (nx p x))(h2:∀ u x,J u x->g u x=g x u){a b a' b':Nat}(j:J a b)(j':J a' b')(hb:b≠v)(hb':b'≠v):g a b=g a' b':=by
 obtain⟨c,hc⟩:∃ c:Nat->Nat,∀ v,v<n->J (c v) v:=by
  refine⟨λv=>if h:v<n then Classical.choose (D.deg v h) else 0,λv hv=>?_⟩;dsimp only;rw[dif_pos hv];exact Classical.choose_spec (D.deg v hv)
 have k:=D.cut v hv (λv=>g (c v) v) (λx y jxy hx hy=>?_) b b' (D.G.lt2 j) (D.G.lt2 j') hb hb'
 .have e1:=D.at_ (λp jp=>h1 p b jp hb) (λu=>h2 u b) j (hc b (D.G.lt2 j));have e2:=D.at_ (λp jp=>h1 p b' jp hb') (λu=>h2 u b') j' (hc b' (D.G.lt2 j'));rw[e1,e2];exact k
 .have e1:=D.at_ (λp jp=>h1 p x jp hx) (λu=>h2 u x) (hc x (D.G.lt _ _ jxy)) (D.G.sym _ _ jxy);have e2:=D.at_ (λp jp=>h1 p y jp hy) (λu=>h2 u y) (hc y (D.G.lt2 jxy)) jxy;show g (c x) x=g (c y) y;rw[e1,e2,h2 x y jxy]
structure Zs(nx:Nat->Nat->Nat)(k:Nat)(e:zf):Prop where
 pos:0<k
 back:yB nx k e=e
 least:∀ i,0<i->i<k->yB nx i e≠e
theorem Zs.inj(D:Dr n X Y J nx){k:Nat}{e:zf}(je:J e.1 e.2)(P:Zs nx k e){i j:Nat}(hi:i<k)(hj:j<k)(h:yB nx i e=yB nx j e):i=j:=by
 have key:∀ i j,i<j->j<k->yB nx i e≠yB nx j e:=by
  intro i j hij hj h;rw[show j=i+(j-i) by omega,zAs] at h;have:=zE1 D.G D.hnx i je (Zu D.hnx (j-i) je) h;exact P.least (j-i) (by omega) (by omega) this.symm
 rcases VO i j with q|q|q
 .exact absurd h (key i j q hj)
 .exact q
 .exact absurd h.symm (key j i q hi)
theorem zBq:∀ (k:Nat) (e:zf),(∀ i j,i<k->j<k->yB nx i e=yB nx j e->i=j)->(zU nx k e).Nodup
|0,_,_=>VY
|k+1,e,h=>by
  rw[zU,Vu];refine⟨λhm=>?_,zBq k _ λi j hi hj he=>?_⟩
  .obtain⟨i,hi,he⟩:=zo.mp hm;have:=h 0 (i+1) (by grind) (by omega) he
   grind
  .have:=h (i+1) (j+1) (by omega) (by omega) he
   grind
theorem Zs.nodup(D:Dr n X Y J nx){k:Nat}{e:zf}(je:J e.1 e.2)(P:Zs nx k e):(zU nx k e).Nodup:=zBq k e λ_ _ hi hj h=>P.inj D je hi hj h
theorem Zs.mem_ph(D:Dr n X Y J nx){k:Nat}{e x:zf}(je:J e.1 e.2)(P:Zs nx k e)(jx:J x.1 x.2):x∈zU nx k e↔ph nx x∈zU nx k e:=by
 constructor
 .intro h;obtain⟨i,hi,rfl⟩:=zo.mp h;rw[<-ZX];by_cases hk:i+1<k
  .exact zo.mpr ⟨i+1,hk,rfl⟩
  .have:i+1=k:=by omega
   rw[this,P.back];exact zo.mpr ⟨0,P.pos,rfl⟩
 .intro h;obtain⟨i,hi,h⟩:=zo.mp h;cases i with
 |zero=>
   have e1:e=ph nx (yB nx (k-1) e):=by
    rw[<-ZX,show k-1+1=k by have:=P.pos;omega,P.back]
   have h2:ph nx x=ph nx (yB nx (k-1) e):=h.trans e1;rw[zGA D.G D.hnx jx (Zu D.hnx _ je) h2];exact zo.mpr ⟨k-1,by have:=P.pos;omega,rfl⟩
 |succ i=>
   rw[ZX] at h;rw[zGA D.G D.hnx jx (Zu D.hnx _ je) h];exact zo.mpr ⟨i,by omega,rfl⟩
theorem Zs.cyc(D:Dr n X Y J nx){k:Nat}{e:zf}(je:J e.1 e.2)(P:Zs nx k e):Zr n J (dW (zU nx k e)):=zJh D.G D.hnx je (by rw[P.back])
theorem Zs.left(D:Dr n X Y J nx){k:Nat}{e:zf}(je:J e.1 e.2)(P:Zs nx k e){v q:Nat}(hv:∀ w,w<n->Y w<=Y v)(jq:J v q)(hq:∀ w,J v w->¬ ll X Y v w q){a b:Nat}(j:J a b) :
  Yw n X Y (dW (zU nx k e)) a b=ind ((a,b)∈zU nx k e)-ind ((v,q)∈zU nx k e):=by
 have C:=P.cyc D je;have h:=D.all (g:=λa b=>Yw n X Y (dW (zU nx k e)) a b-ind ((a,b)∈zU nx k e)) (λp x jp=>?_) (λu x ju=>?_) j jq
 .rw[C.outer D.G hv jq hq] at h;omega
 .rw[C.corner D.G (D.hnx p x jp),zb (P.mem_ph D je (x:=(p,x)) jp)];rfl
 .rw[C.rev D.G ju,zIK (P.nodup D je)]
  grind
theorem Zs.simple(D:Dr n X Y J nx){k:Nat}{e:zf}(je:J e.1 e.2)(P:Zs nx k e){j:Nat}(h0:0<j)(hj:j<k):(yB nx j e).1≠e.1:=by
 intro hb;have C:Zr n J (dW (zU nx j e)):=zJh D.G D.hnx je hb;have nd:(zU nx j e).Nodup:=zBq j e λa b ha hb h=>P.inj D je (by omega) (by omega) h
 have hl:yB nx (k-1) e∉zU nx j e:=by
  intro h;obtain⟨i,hi,h⟩:=zo.mp h;have:=P.inj D je (i:=k-1) (j:=i) (by omega) (by omega) h;omega
 have jl:=Zu D.hnx (k-1) je;have el:ph nx (yB nx (k-1) e)=e:=by rw[<-ZX,show k-1+1=k by omega,P.back]
 have hin:e∈zU nx j e:=zo.mpr ⟨0,h0,rfl⟩;generalize yB nx (k-1) e=l at hl jl el;obtain⟨v,q⟩:=e;obtain⟨p,v'⟩:=l;have e1:v'=v:=W1 Prod.fst el;subst e1;have e2:nx p v'=q:=W1 Prod.snd el;have hvn:v'<n:=D.G.lt _ _ je
 have h2:∀ u x,J u x->Yw n X Y (dW (zU nx j (v',q))) u x-ind ((u,x)∈zU nx j (v',q))=Yw n X Y (dW (zU nx j (v',q))) x u-ind ((x,u)∈zU nx j (v',q)):=by
  intro u x ju;rw[C.rev D.G ju,zIK nd]
  grind
 have h1:∀ p x,J p x->x≠v'->Yw n X Y (dW (zU nx j (v',q))) p x-ind ((p,x)∈zU nx j (v',q))=Yw n X Y (dW (zU nx j (v',q))) x (nx p x)-ind ((x,nx p x)∈zU nx j (v',q)):=by
  intro p x jp hx;rw[C.corner D.G (D.hnx p x jp)]
  congr 1
  refine zb ⟨λh=>?_,λh=>?_⟩
  .obtain⟨i,hi,h⟩:=zo.mp h;have h':(x,nx p x)=yB nx (i+1) (v',q):=by rw[ZX,<-h];rfl
   by_cases hk:i+1<j
   .exact zo.mpr ⟨i+1,hk,h'⟩
   .have e3:i+1=j:=by omega
    rw[e3] at h';rw[<-h'] at hb;exact absurd hb hx
  .obtain⟨i,hi,h⟩:=zo.mp h;cases i with
  |zero=>exact absurd (W1 Prod.fst h) hx
  |succ i=>
    rw[ZX] at h;have h3:ph nx (p,x)=ph nx (yB nx i (v',q)):=h;have h4:=zGA D.G D.hnx (a:=(p,x)) jp (Zu D.hnx _ je) h3;rw[h4];exact zo.mpr ⟨i,by omega,rfl⟩
 have jp:J p v':=jl;have jq:J v' q:=je;have hp:p≠v':=D.G.ne _ _ jp;have hq:q≠v':=λh=>D.G.ne _ _ jq h.symm
 have k1:=D.allBut hvn (g:=λa b=>Yw n X Y (dW (zU nx j (v',q))) a b-ind ((a,b)∈zU nx j (v',q))) h1 h2 (D.G.sym _ _ jp) jq hp hq;have k2:=h2 p v' jp;have k3:=C.corner D.G (D.hnx p v' jp);rw[e2] at k3;rw[z9 hin] at k1;rw[zM hl] at k2;omega
theorem zAi{α:Type}[DecidableEq α]:∀ (l m:List α),l.Nodup->(∀ x∈l,x∈m)->l.length<=m.length
|[],_,_,_=>Ww _
|a::l,m,h,hs=>by
  rw[Vu] at h;have hm:a∈m:=hs a (by simp)
  have:=zAi l (m.erase a) h.2 λx hx=>by
   have hne:x≠a:=λe=>h.1 (e ▸ hx)
   exact (List.mem_erase_of_ne hne).mpr (hs x (by simp[hx]))
  rw[List.length_erase_of_mem hm] at this;have hp:0<m.length:=List.length_pos_of_mem hm;rw[Wn];omega
theorem zNP{P:Nat->Prop}:∀ (m:Nat),P m->∃ k,k<=m/\P k/\∀ i,i<k->¬ P i:=by
 intro m
 induction m using Nat.strongRecOn with
|ind m ih=>
  intro hm;by_cases h:∃ i,i<m/\P i
  .obtain⟨i,hi,hp⟩:=h;obtain⟨k,h1,h2,h3⟩:=ih i hi hp;exact⟨k,by omega,h2,h3⟩
  .exact⟨m,We _,hm,λi hi hp=>h ⟨i,hi,hp⟩⟩
theorem Dr.per(D:Dr n X Y J nx){A:List zf}(hA:∀ e:zf,J e.1 e.2->e∈A){e:zf}(je:J e.1 e.2):∃ k,Zs nx k e/\k<=A.length:=by
 have h1:∃ i j,i<j/\j<=A.length/\yB nx i e=yB nx j e:=by
  refine Wa λhno=>?_
  have nd:(zU nx (A.length+1) e).Nodup:=zBq _ _ λi j hi hj h=>by
   rcases VO i j with q|q|q
   .exact absurd ⟨i,j,q,by omega,h⟩ hno
   .exact q
   .exact absurd ⟨j,i,q,by omega,h.symm⟩ hno
  have:=zAi _ A nd λx hx=>by
   obtain⟨i,_,rfl⟩:=zo.mp hx;exact hA _ (Zu D.hnx i je)
  rw[ZY] at this;omega
 obtain⟨i,j,hij,hj,h⟩:=h1;rw[show j=i+(j-i) by omega,zAs] at h;have hb:=zE1 D.G D.hnx i je (Zu D.hnx _ je) h;obtain⟨k,k1,k2,k3⟩:=zNP (P:=λm=>yB nx (m+1) e=e) (j-i-1) (by rw[show j-i-1+1=j-i by grind];exact hb.symm);refine⟨k+1,⟨by grind,k2,λi hi hk he=>k3 (i-1) (by omega) ?_⟩,by omega⟩;rw[show i-1+1=i by omega];exact he
end
def num (X Y:Nat->Int)(t:Int)(e:zf):Int:=X e.1*(Y e.2-t)+X e.2*(t-Y e.1)
def yx (Y:Nat->Int)(e:zf):Int:=Y e.2-Y e.1
theorem zL7{α:Type}(N D:α->Int):∀ (l:List α),(∀ x∈l,0<D x)->l≠[]->∃ m∈l,∀ x∈l,N m*D x<=N x*D m
|[],_,h=>absurd rfl h
|[a],_,_=>⟨a,by simp,λx hx=>by rw[Wl.mp hx];exact V4 _⟩
|a::b::l,hD,_=>by
  obtain⟨m,hm,h⟩:=zL7 N D (b::l) (λx hx=>hD x (by simp[hx])) (by simp);have da:=hD a (by simp);have dm:=hD m (Wg _ hm);by_cases c:N a*D m<=N m*D a
  .refine⟨a,by simp,λx hx=>?_⟩;rcases Wd.mp hx with e|e
   .rw[e];exact V4 _
   .have hx2:=h x e;have dx:=hD x (Wg _ e);have k1:N a*D m*D x<=N m*D a*D x:=Vd c (by lia);have k2:N m*D x*D a<=N x*D m*D a:=Vd hx2 (by lia)
    have k3:D m*(N a*D x)<=D m*(N x*D a):=by
     have e1:D m*(N a*D x)=N a*D m*D x:=by grind
     have e2:D m*(N x*D a)=N x*D m*D a:=by grind
     have e3:N m*D a*D x=N m*D x*D a:=by grind
     grind
    exact Int.le_of_mul_le_mul_left k3 dm
  .refine⟨m,Wg _ hm,λx hx=>?_⟩;rcases Wd.mp hx with e|e
   .rw[e];lia
   .exact h x e
section
variable {n:Nat}{X Y:Nat->Int}{J:Nat->Nat->Prop}{d:Nat->Nat->Int}
theorem zIL(a b:Nat)(px t:Int):Tp X Y a b px t=num X Y t (a,b)-px*yx Y (a,b):=by unfold Tp num yx;grind
theorem zIM(t:Int)(u v a b:Nat):Dl X Y t u v a b=num X Y t (a,b)*yx Y (u,v)-num X Y t (u,v)*yx Y (a,b):=rfl
theorem zO0{u v:Nat}(hu:u<n)(hv:v<n)(h:Y u<Y v):yw n Y d (λa b=>ind (a=u/\b=v))=d u v:=by
 unfold yw
 rw[Zn hu λa _ ha=>yL λb _=>by dsimp only;rw[zM (by grind),Vw,UX],
  Zn hv λb _ hb=>by dsimp only;rw[zM (by grind),Vw,UX]]
 dsimp only;rw[Wc h,z9 ⟨rfl,rfl⟩,Int.mul_one]
theorem zDO(G:yW n X Y J)(C:Zr n J d){px t:Int}(ht:∀ p,p<n->Y p≠t){u v:Nat}(e:J u v)(h1:Y u<t)(h2:t<Y v)(h3:0<Tp X Y u v px t)
  (hm:∀ a b,J a b->Y a<t->t<Y b->0<Tp X Y a b px t->num X Y t (u,v)*yx Y (a,b)<=num X Y t (a,b)*yx Y (u,v)):base n X Y d px t=Yw n X Y d u v:=by
 rw[C.linUp G e (by omega),<-C.midTop G e h1 h2 ht,<-zO0 (d:=d) (G.lt _ _ e) (G.lt2 e) (by omega:Y u<Y v),<-zGn];unfold base;refine zAr C λa b f hab=>?_
 unfold mid;by_cases same:a=u/\b=v
 .obtain⟨rfl,rfl⟩:=same;rw[z9 ⟨h1,h2,h3⟩,zM (by rw[zIM];omega),z9 ⟨rfl,rfl⟩];grind
 .rw[zM same];by_cases c:Y a<t/\t<Y b
  .have L:=(G.level e f same h1 h2 c.1 c.2).1;rw[zb (p:=Y a<t/\t<Y b/\0<Tp X Y a b px t) (q:=0<Tp X Y a b px t) (by omega),zb (p:=Y a<t/\t<Y b/\0<Dl X Y t u v a b) (q:=0<Dl X Y t u v a b) (by omega)];rw[Ua];refine zb ⟨λh=>?_,λh=>?_⟩
   .have:=hm a b f c.1 c.2 h;rw[zIM] at L ⊢;omega
   .refine Jp.mp λhn=>?_
    rw[zIL] at h3 hn;rw[zIM] at h;have d1:0<yx Y (u,v):=by unfold yx;show 0<Y v-Y u;lia
    have d2:0<yx Y (a,b):=by unfold yx;show 0<Y b-Y a;omega
    have k1:num X Y t (a,b)*yx Y (u,v)<=px*yx Y (a,b)*yx Y (u,v):=Vd (by grind) (by lia);have k2:px*yx Y (u,v)*yx Y (a,b)<num X Y t (u,v)*yx Y (a,b):=Int.mul_lt_mul_of_pos_right (by omega) d2;have k3:px*yx Y (a,b)*yx Y (u,v)=px*yx Y (u,v)*yx Y (a,b):=by grind
    grind
  .rw[zM (by omega),zM (by omega)];rfl
theorem near(G:yW n X Y J){px t:Int}(ht:∀ p,p<n->Y p≠t):(∀ d,Zr n J d->base n X Y d px t=0)\/∃ u v,J u v/\Y u<t/\t<Y v/\0<Tp X Y u v px t/\∀ d,Zr n J d->base n X Y d px t=Yw n X Y d u v:=by
 classical
 let A:List zf:=((List.range n).flatMap λa=>(List.range n).map λb=>(a,b)).filter λe=>decide (J e.1 e.2/\Y e.1<t/\t<Y e.2/\0<Tp X Y e.1 e.2 px t)
 have hA:∀ e:zf,e∈A↔(J e.1 e.2/\Y e.1<t/\t<Y e.2/\0<Tp X Y e.1 e.2 px t):=by
  intro e;constructor
  .intro h;exact WG (V1.mp h).2
  .intro h;refine V1.mpr ⟨U9.mpr ⟨e.1,VD.mpr (G.lt _ _ h.1),Wp.mpr ⟨e.2,VD.mpr (G.lt2 h.1),rfl⟩⟩,WO h⟩
 by_cases hne:A=[]
 .refine .inl λd C=>?_
  have:base n X Y d px t=yw n Y d (λ_ _=>0):=by
   unfold base;refine zAr C λa b f hab=>zM λh=>?_
   have:(a,b)∈A:=(hA (a,b)).mpr ⟨f,h.1,h.2.1,h.2.2⟩;rw[hne] at this;cases this
  rw[this];unfold yw;exact yL λa _=>yL λb _=>by rw[Vw,UX]
 .obtain⟨m,hm,hmin⟩:=zL7 (num X Y t) (yx Y) A (λx hx=>by have:=(hA x).mp hx;unfold yx;omega) hne;obtain⟨u,v⟩:=m;have k:=(hA (u,v)).mp hm;exact .inr ⟨u,v,k.1,k.2.1,k.2.2.1,k.2.2.2,λd C=>zDO G C ht k.1 k.2.1 k.2.2.1 k.2.2.2 λa b f h1 h2 h3=>hmin (a,b) ((hA (a,b)).mpr ⟨f,h1,h2,h3⟩)⟩
end
theorem zQu(α β:Int)(h:α<=β)(h0:0<=α):∀ K:Nat,zW K (λs=>ind (α<=(s:Int)/\(s:Int)<β)*(2*((s:Int)-α)+1))=(if (K:Int)<=α then 0 else if (K:Int)<=β then ((K:Int)-α)*((K:Int)-α) else (β-α)*(β-α))
|0=>by simp[zW,h0]
|K+1=>by
  simp only[zW];rw[zQu α β h h0 K];have hc:((K+1:Nat):Int)=(K:Int)+1:=by omega
  rw[hc];by_cases c1:(K:Int)+1<=α
  .rw[Wc (by omega),Wc c1,zM (by omega)];grind
  .rw[Wb c1];by_cases c2:(K:Int)<=α
   .have e:α=K:=by omega
    rw[Wc c2];by_cases c3:(K:Int)+1<=β
    .rw[Wc c3,z9 (by omega),e];grind
    .have e2:β=K:=by omega
     rw[Wb c3,zM (by omega),e,e2];grind
   .rw[Wb c2];by_cases c3:(K:Int)+1<=β
    .rw[Wc c3,Wc (by omega),z9 (by omega)];grind
    .rw[Wb c3,zM (by omega)];by_cases c4:(K:Int)<=β
     .have e2:β=K:=by omega
      rw[Wc c4,e2];grind
     .rw[Wb c4];grind
theorem zQv(α β:Int)(h:α<=β)(h0:0<=α):∀ K:Nat,zW K (λs=>ind (α<=(s:Int)/\(s:Int)<β)*(2*(β-(s:Int))-1))=(if (K:Int)<=α then 0 else if (K:Int)<=β then (β-α)*(β-α)-(β-(K:Int))*(β-(K:Int)) else (β-α)*(β-α))
|0=>by simp[zW,h0]
|K+1=>by
  simp only[zW];rw[zQv α β h h0 K];have hc:((K+1:Nat):Int)=(K:Int)+1:=by omega
  rw[hc];by_cases c1:(K:Int)+1<=α
  .rw[Wc (by omega),Wc c1,zM (by omega)];grind
  .rw[Wb c1];by_cases c2:(K:Int)<=α
   .have e:α=K:=by omega
    rw[Wc c2];by_cases c3:(K:Int)+1<=β
    .rw[Wc c3,z9 (by omega),e];grind
    .have e2:β=K:=by omega
     rw[Wb c3,zM (by omega),e,e2];grind
   .rw[Wb c2];by_cases c3:(K:Int)+1<=β
    .rw[Wc c3,Wc (by omega),z9 (by omega)];grind
    .rw[Wb c3,zM (by omega)];by_cases c4:(K:Int)<=β
     .have e2:β=K:=by omega
      rw[Wc c4,e2];grind
     .rw[Wb c4];grind
theorem zJi(Z:Int)(h0:0<=Z):∀ B:Nat,zW B (λx=>ind ((x:Int)<Z))=if (B:Int)<=Z then (B:Int) else Z
|0=>by simp only[zW];split <;> omega
|B+1=>by
  simp only[zW];rw[zJi Z h0 B];by_cases c:(B:Int)<Z
  .rw[z9 c,Wc (by omega),Wc (by omega)];grind
  .rw[zM c];split <;> split <;> omega
def ZZ:Nat->Nat
|0=>1
|k+1=>(k+1)*ZZ k
theorem zE2:∀ k,0<ZZ k
|0=>Nat.one_pos
|k+1=>Nat.mul_pos (UZ k) (zE2 k)
theorem zGo:∀ (k m:Nat),0<m->m<=k->m ∣ ZZ k
|0,m,h,h'=>by omega
|k+1,m,h,h'=>by
  by_cases e:m=k+1
  .rw[e];exact Nat.dvd_mul_right _ _
  .exact Nat.dvd_mul_left_of_dvd (zGo k m h (by lia)) _
section
variable {n:Nat}{X Y:Nat->Int}{J:Nat->Nat->Prop}{nx:Nat->Nat->Nat}
theorem zCG(M:Int)(a b c:Nat):T (λi=>M*X i) Y a b c=M*T X Y a b c:=by unfold T;grind
theorem zIN{M:Int}(hM:0<M)(v a b:Nat):ll (λi=>M*X i) Y v a b↔ll X Y v a b:=by
 unfold ll;rw[zCG,(yf hM).2.1]
theorem yW.scale(G:yW n X Y J){M:Int}(hM:0<M):yW n (λi=>M*X i) Y J:=by
 refine⟨G.sym,G.lt,G.ne,G.inj,G.even,λa b c j hc h1 h2 h=>?_,λa b c d j j' h=>?_⟩
 .rw[zCG,(yf hM).2.2] at h;exact G.on a b c j hc h1 h2 h
 .rw[zCG,zCG,zCG,zCG] at h;have MM:0<M*M:=V3 hM hM;rw[show M*T X Y a b c*(M*T X Y a b d)=M*M*(T X Y a b c*T X Y a b d) by grind,show M*T X Y c d a*(M*T X Y c d b)=M*M*(T X Y c d a*T X Y c d b) by grind,(yf MM).2.1,(yf MM).2.1] at h;exact G.nc a b c d j j' h
theorem Dr.scale(D:Dr n X Y J nx){M:Int}(hM:0<M):Dr n (λi=>M*X i) Y J nx:=by
 refine⟨D.G.scale hM,λp v j=>?_,D.deg,D.conn,D.cut⟩;have h:=D.hnx p v j;unfold Nx at *
 simp only[zIN hM];exact h
theorem zGp(g:Nat->Int):∀ (k:Nat) (e:zf),((zU nx k e).map λe=>g e.2-g e.1).sum=g (yB nx k e).1-g e.1
|0,e=>by simp only[zU,yB,Xr,List.sum_nil];grind
|k+1,e=>by
  rw[zU,Wo,Vr,zGp g k (ph nx e),yB];have:(ph nx e).1=e.2:=rfl;rw[this]
  grind
theorem zFO{α:Type}(f g:α->Int):∀ l:List α,(l.map λx=>f x+g x).sum=(l.map f).sum+(l.map g).sum
|[]=>rfl
|a::l=>by rw[Wo,Wo,Wo,Vr,Vr,Vr,zFO f g l];grind
theorem zNQ(d d':Nat->Nat->Int)(h:Nat->Nat->Int):yw n Y (λa b=>d a b+d' a b) h=yw n Y d h+yw n Y d' h:=by
 unfold yw;rw[<-Zm];refine zi λa ha=>?_
 rw[<-Zm];refine zi λb hb=>?_
 by_cases hl:Y a<Y b
 .rw[Wc hl,Wc hl,Wc hl,Int.add_mul]
 .rw[Wb hl,Wb hl,Wb hl];rfl
theorem zGq(G:yW n X Y J){h:Nat->Nat->Int}(anti:∀ a b,h b a = - h a b):∀ (W:List zf),(∀ e∈W,J e.1 e.2)->(W.map λe=>h e.1 e.2).sum=yw n Y (dW W) h
|[],_=>by
  unfold yw dW;simp only[List.count_nil,Xr,List.sum_nil];exact (yL λa _=>yL λb _=>by split <;> simp).symm
|e::W,hJ=>by
  have ih:=zGq G anti W λe' he=>hJ e' (by simp[he])
  have je:=hJ e (by simp)
  have e1:dW (e::W)=λa b=>dW W a b+(ind (e=(a,b))-ind (e=(b,a))):=by
   funext a b
   unfold dW
   have c:∀ x:zf,((e::W).count x:Int)=(W.count x:Int)+ind (e=x):=by
    intro x;rw[UJ];by_cases hx:e=x
    .rw[z9 hx,Wc (by simpa using hx)];grind
    .rw[zM hx,Wb (by simpa using hx)];grind
   rw[c,c];grind
  rw[Wo,Vr,ih,e1,zNQ];obtain⟨p,q⟩:=e;have je:J p q:=je;have yn:=G.yne je
  have key:yw n Y (λa b=>ind ((p,q)=(a,b))-ind ((p,q)=(b,a))) h=h p q:=by
   unfold yw;by_cases hl:Y p<Y q
   .rw[Zn (k:=p) (G.lt _ _ je),Zn (k:=q) (G.lt2 je)]
    .dsimp only;rw[Wc hl,z9 rfl,zM (λk=>D_ne je G (W1 Prod.fst k))];grind
    .intro b _ hb;split
     .dsimp only;rw[zM (λk=>hb (W1 Prod.snd k).symm),zM (λk=>D_ne je G (W1 Prod.snd k).symm)];grind
     .rfl
    .intro a _ ha;refine yL λb _=>?_
     split
     .rename_i hab
      dsimp only
      rw[zM (λk=>ha (W1 Prod.fst k).symm),zM (λk=>by
       have k1:p=b:=W1 Prod.fst k;have k2:q=a:=W1 Prod.snd k;rw[<-k1,<-k2] at hab
       lia)];omega
     .rfl
   .rw[Zn (k:=q) (G.lt2 je),Zn (k:=p) (G.lt _ _ je)]
    .dsimp only;rw[Wc (by omega),zM (λk=>D_ne je G (W1 Prod.fst k)),z9 rfl,anti p q];grind
    .intro b _ hb;split
     .dsimp only;rw[zM (λk=>D_ne je G (W1 Prod.fst k)),zM (λk=>hb (W1 Prod.fst k).symm)];grind
     .rfl
    .intro a _ ha;refine yL λb _=>?_
     split
     .rename_i hab
      dsimp only
      rw[zM (λk=>by
       have k1:p=a:=W1 Prod.fst k;have k2:q=b:=W1 Prod.snd k;rw[<-k1,<-k2] at hab;omega),zM (λk=>ha (W1 Prod.snd k).symm)];omega
     .rfl
  rw[key];show h p q+_=_
  grind
where
 D_ne {p q:Nat}(je:J p q) (G:yW n X Y J):p≠q:=G.ne _ _ je
theorem zJj(d:Nat->Nat->Int)(B:Nat)(g:Nat->Nat->Nat->Int):yw n Y d (λa b=>zW B (g a b))=zW B (λx=>yw n Y d (λa b=>g a b x)):=by
 unfold yw;rw[zCo B n];refine zi λa _=>?_
 rw[zCo B n];refine zi λb _=>?_
 by_cases hl:Y a<Y b
 .rw[Wc hl];rw[<-zBG];exact zi λx _=>by rw[Wc hl]
 .rw[Wb hl];exact (yL λx _=>by rw[Wb hl]).symm
theorem zJk(d:Nat->Nat->Int)(c:Int)(g:Nat->Nat->Int):yw n Y d (λa b=>c*g a b)=c*yw n Y d g:=by
 unfold yw;rw[<-zBG];refine zi λa _=>?_
 rw[<-zBG];refine zi λb _=>?_
 by_cases hl:Y a<Y b
 .rw[Wc hl,Wc hl];grind
 .rw[Wb hl,Wb hl,Vw]
theorem zS8(G:yW n X Y J){K B:Nat}(hY:∀ a,a<n->0<=Y a/\Y a<=2*K)(hX:∀ a,a<n->0<X a/\X a<=B){a b:Nat}(j:J a b)(hab:Y a<Y b) :
  ((ZZ (2*K):Int)*X a+(ZZ (2*K):Int)*X b)*(Y b-Y a)=4*zW K (λs=>zW (ZZ (2*K)*B) (λx=>ind (Y a<2*(s:Int)+1/\2*(s:Int)+1<Y b/\0<Tp (λi=>(ZZ (2*K):Int)*X i) Y a b (x:Int) (2*(s:Int)+1)))):=by
 have la:=G.lt _ _ j;have lb:=G.lt2 j;have ⟨a0,a1⟩:=hY a la;have ⟨b0,b1⟩:=hY b lb;have ⟨xa0,xa1⟩:=hX a la;have ⟨xb0,xb1⟩:=hX b lb;have ea:=G.even a la;have eb:=G.even b lb;obtain⟨α,hα⟩:∃ α:Int,Y a=2*α:=⟨Y a/2,by grind⟩
 obtain⟨β,hβ⟩:∃ β:Int,Y b=2*β:=⟨Y b/2,by grind⟩
 obtain⟨c,hc⟩:∃ c:Nat,ZZ (2*K)=(Y b-Y a).toNat*c:=zGo (2*K) (Y b-Y a).toNat (by omega) (by grind)
 have hM:(ZZ (2*K):Int)=2*(β-α)*c:=by
  rw[hc,Xg,Int.toNat_of_nonneg (by grind)]
  congr 1
  grind
 have hc0:0<(c:Int):=by
  have:=zE2 (2*K);rw[hc] at this;have:=Nat.pos_of_mul_pos_left this;omega
 generalize hMM:ZZ (2*K)=M at *
 have inner:∀ s,s<K->zW (M*B) (λx=>ind (Y a<2*(s:Int)+1/\2*(s:Int)+1<Y b/\0<Tp (λi=>(M:Int)*X i) Y a b (x:Int) (2*(s:Int)+1)))=ind (α<=(s:Int)/\(s:Int)<β)*(c*(X a*(2*(β-(s:Int))-1)+X b*(2*((s:Int)-α)+1))):=by
  intro s hs;by_cases cr:α<=(s:Int)/\(s:Int)<β
  .rw[z9 cr,UM];have z1:0<=X a*(2*(β-(s:Int))-1):=Vs (by lia) (by omega);have z2:0<=X b*(2*((s:Int)-α)+1):=Vs (by lia) (by omega);have z0:0<=c*(X a*(2*(β-(s:Int))-1)+X b*(2*((s:Int)-α)+1)):=Vs (by omega) (by omega)
   have zB:c*(X a*(2*(β-(s:Int))-1)+X b*(2*((s:Int)-α)+1))<=((M*B:Nat):Int):=by
    have y1:X a*(2*(β-(s:Int))-1)<=B*(2*(β-(s:Int))-1):=Vd xa1 (by omega);have y2:X b*(2*((s:Int)-α)+1)<=B*(2*((s:Int)-α)+1):=Vd xb1 (by omega);have y3:c*(X a*(2*(β-(s:Int))-1)+X b*(2*((s:Int)-α)+1))<=c*(B*(2*(β-(s:Int))-1)+B*(2*((s:Int)-α)+1)):=VM (by omega) (by omega);rw[Xg,hM];refine Int.le_trans y3 (Int.le_of_eq ?_)
    grind
   have e:∀ x:Nat,(Y a<2*(s:Int)+1/\2*(s:Int)+1<Y b/\0<Tp (λi=>(M:Int)*X i) Y a b (x:Int) (2*(s:Int)+1))↔(x:Int)<c*(X a*(2*(β-(s:Int))-1)+X b*(2*((s:Int)-α)+1)):=by
    intro x
    have t:Tp (λi=>(M:Int)*X i) Y a b (x:Int) (2*(s:Int)+1)=2*(β-α)*(c*(X a*(2*(β-(s:Int))-1)+X b*(2*((s:Int)-α)+1))-x):=by
     unfold Tp;dsimp only;rw[hM,hα,hβ]
     grind
    have m:=yf (a:=2*(β-α)) (b:=c*(X a*(2*(β-(s:Int))-1)+X b*(2*((s:Int)-α)+1))-x) (by omega);rw[t,m.1];omega
   rw[zi λx _=>zb (e x),zJi _ z0];split <;> omega
  .rw[zM cr,Xb];exact yL λx _=>zM (by omega)
 rw[zi inner]
 have spl:zW K (λs=>ind (α<=(s:Int)/\(s:Int)<β)*(c*(X a*(2*(β-(s:Int))-1)+X b*(2*((s:Int)-α)+1))))=c*X a*((β-α)*(β-α))+c*X b*((β-α)*(β-α)):=by
  have o1:=zQu α β (by omega) (by omega) K;have o2:=zQv α β (by omega) (by omega) K;rw[Wb (by omega)] at o1 o2
  have f1:zW K (λs=>ind (α<=(s:Int)/\(s:Int)<β)*(2*((s:Int)-α)+1))=(β-α)*(β-α):=by
   rw[o1];by_cases h:(K:Int)<=β
   .have:(K:Int)=β:=by omega
    rw[Wc h,this]
   .rw[Wb h]
  have f2:zW K (λs=>ind (α<=(s:Int)/\(s:Int)<β)*(2*(β-(s:Int))-1))=(β-α)*(β-α):=by
   rw[o2];by_cases h:(K:Int)<=β
   .have:(K:Int)=β:=by omega
    rw[Wc h,this];grind
   .rw[Wb h]
  have ring:∀ i c x y P Q:Int,i*(c*(x*P+y*Q))=c*x*(i*P)+c*y*(i*Q):=λi c x y P Q=>by grind
  rw[zi λs _=>ring _ _ _ _ _ _,Zm,zBG,zBG,f1,f2]
 rw[spl,hM,hα,hβ]
 grind
theorem zIO:∀ (k:Nat) (e:zf),(∀ x∈zU nx k e,Y x.2<Y x.1)->0<k->Y (yB nx k e).1<Y e.1
|0,_,_,h=>by omega
|1,e,h,_=>h e (by simp[zU])
|k+2,e,h,_=>by
  have h1:=h e (by simp[zU]);have:=zIO (k+1) (ph nx e) (λx hx=>h x (by rw[zU];exact Wg _ hx)) (by grind);have e1:(ph nx e).1=e.2:=rfl;rw[e1] at this;rw[yB];omega
theorem Zs.area(D:Dr n X Y J nx){K B:Nat}(hY:∀ a,a<n->0<=Y a/\Y a<=2*K)(hX:∀ a,a<n->0<X a/\X a<=B){k:Nat}{e:zf}(je:J e.1 e.2)(P:Zs nx k e){v q:Nat}(hv:∀ w,w<n->Y w<=Y v)(jq:J v q)(hq:∀ w,J v w->¬ ll X Y v w q) :
  0<((zU nx k e).map λe=>X e.1*Y e.2-X e.2*Y e.1).sum↔(v,q)∉zU nx k e:=by
 have G:=D.G;have C:=P.cyc D je
 have hJ:∀ x∈zU nx k e,J x.1 x.2:=λx hx=>by
  obtain⟨i,_,rfl⟩:=zo.mp hx;exact Zu D.hnx i je
 have hM:0<(ZZ (2*K):Int):=by have:=zE2 (2*K);omega
 have D':=D.scale hM;have hq':∀ w,J v w->¬ ll (λi=>(ZZ (2*K):Int)*X i) Y v w q:=λw jw=>by rw[zIN hM];exact hq w jw
 have e1:((zU nx k e).map λe=>(X e.1+X e.2)*(Y e.2-Y e.1)).sum=((zU nx k e).map λe=>X e.1*Y e.2-X e.2*Y e.1).sum:=by
  have t:=zGp (nx:=nx) (λi=>X i*Y i) k e;rw[P.back] at t;have s:=zFO (λe:zf=>X e.1*Y e.2-X e.2*Y e.1) (λe:zf=>X e.2*Y e.2-X e.1*Y e.1) (zU nx k e);have f:(λe:zf=>X e.1*Y e.2-X e.2*Y e.1+(X e.2*Y e.2-X e.1*Y e.1))=λe:zf=>(X e.1+X e.2)*(Y e.2-Y e.1):=by funext e;grind
  rw[f] at s;omega
 have e2:(ZZ (2*K):Int)*((zU nx k e).map λe=>(X e.1+X e.2)*(Y e.2-Y e.1)).sum=4*zW K (λs=>zW (ZZ (2*K)*B) (λx=>base n (λi=>(ZZ (2*K):Int)*X i) Y (dW (zU nx k e)) (x:Int) (2*(s:Int)+1))):=by
  rw[zGq G (h:=λa b=>(X a+X b)*(Y b-Y a)) (λa b=>by grind) _ hJ,<-zJk];rw[zAr C (h:=λa b=>4*zW K (λs=>zW (ZZ (2*K)*B) (λx=>ind (Y a<2*(s:Int)+1/\2*(s:Int)+1<Y b/\0<Tp (λi=>(ZZ (2*K):Int)*X i) Y a b (x:Int) (2*(s:Int)+1))))) (λa b j hab=>?_)]
  .rw[zJk,zJj]
   congr 1
   refine zi λs _=>?_
   rw[zJj];rfl
  .rw[<-zS8 G hY hX j hab];grind
 rw[e1] at e2;have odd:∀ s:Nat,∀ p,p<n->Y p≠2*(s:Int)+1:=λs p hp=>by have:=G.even p hp;grind
 have val:∀ (x s:Nat),base n (λi=>(ZZ (2*K):Int)*X i) Y (dW (zU nx k e)) (x:Int) (2*(s:Int)+1)=0\/∃ u w,J u w/\base n (λi=>(ZZ (2*K):Int)*X i) Y (dW (zU nx k e)) (x:Int) (2*(s:Int)+1)=ind ((u,w)∈zU nx k e)-ind ((v,q)∈zU nx k e):=by
  intro x s;rcases near D'.G (px:=(x:Int)) (odd s) with h|⟨u,w,ju,_,_,_,h⟩
  .exact .inl (h _ C)
  .exact .inr ⟨u,w,ju,by rw[h _ C,P.left D' je hv jq hq' ju]⟩
 have i01:∀ x:zf,0<=ind (x∈zU nx k e)/\ind (x∈zU nx k e)<=1:=λx=>by unfold ind;split <;> grind
 by_cases ho:(v,q)∈zU nx k e
 .refine⟨λh=>?_,λh=>absurd ho h⟩
  exfalso
  have np:0<=zW K (λs=>- zW (ZZ (2*K)*B) (λx=>base n (λi=>(ZZ (2*K):Int)*X i) Y (dW (zU nx k e)) (x:Int) (2*(s:Int)+1))):=by
   refine zAU λs _=>?_
   rw[<-zCN];refine zAU λx _=>?_
   rcases val x s with h|⟨u,w,_,h⟩
   .rw[h];grind
   .rw[h,z9 ho];have:=i01 (u,w)
    lia
  rw[zCN] at np;have:=V3 hM h;omega
 .refine⟨λ_=>ho,λ_=>?_⟩
  have nn:∀ s x:Nat,0<=base n (λi=>(ZZ (2*K):Int)*X i) Y (dW (zU nx k e)) (x:Int) (2*(s:Int)+1):=by
   intro s x;rcases val x s with h|⟨u,w,_,h⟩
   .rw[h];grind
   .rw[h,zM ho];have:=i01 (u,w);omega
  obtain⟨f,hf,hup⟩:∃ f∈zU nx k e,Y f.1<Y f.2:=by
   refine Wa λhno=>?_
   have:=zIO (nx:=nx) (Y:=Y) k e (λx hx=>by
    have h1:=G.yne (hJ x hx);have h2:¬ Y x.1<Y x.2:=λh=>hno ⟨x,hx,h⟩
    lia) P.pos
   rw[P.back] at this
   grind
  obtain⟨a,b⟩:=f;have j:J a b:=hJ _ hf;have la:=G.lt _ _ j;have lb:=G.lt2 j;have ⟨a0,a1⟩:=hY a la;have ⟨b0,b1⟩:=hY b lb;have ⟨xa0,xa1⟩:=hX a la;have ⟨xb0,xb1⟩:=hX b lb;have ea:=G.even a la;have eb:=G.even b lb;dsimp only at hup;obtain⟨s,hs⟩:∃ s:Nat,Y a=2*(s:Int):=⟨(Y a/2).toNat,by omega⟩
  have dv:∀ x y:Nat,J x y->Y x<Y y->∃ c:Int,0<c/\(ZZ (2*K):Int)=yx Y (x,y)*c:=by
   intro x y jxy hxy;have ⟨x0,x1⟩:=hY x (G.lt _ _ jxy);have ⟨y0,y1⟩:=hY y (G.lt2 jxy);obtain⟨c,hc⟩:=zGo (2*K) (Y y-Y x).toNat (by omega) (by grind);refine⟨c,?_,?_⟩
   .have:=zE2 (2*K);rw[hc] at this;have:=Nat.pos_of_mul_pos_left this;omega
   .rw[hc,Xg,Int.toNat_of_nonneg (by lia)];rfl
  have nums:∀ (x y:Nat) (t:Int),num (λi=>(ZZ (2*K):Int)*X i) Y t (x,y)=ZZ (2*K)*num X Y t (x,y):=by
   intro x y t;unfold num;dsimp only
   grind
  obtain⟨c,c0,hc⟩:=dv a b j hup
  have hnum:0<num X Y (2*(s:Int)+1) (a,b):=by
   unfold num;dsimp only;have z1:0<=X a*(Y b-(2*(s:Int)+1)):=Vs (by lia) (by omega);have z2:0<X b*(2*(s:Int)+1-Y a):=V3 (by omega) (by omega);omega
  have hden:0<yx Y (a,b):=by unfold yx;show 0<Y b-Y a;grind
  have hZ:0<c*num X Y (2*(s:Int)+1) (a,b):=V3 c0 hnum;obtain⟨x,hx⟩:∃ x:Nat,(x:Int)=c*num X Y (2*(s:Int)+1) (a,b)-1:=⟨(c*num X Y (2*(s:Int)+1) (a,b)-1).toNat,by omega⟩
  have tpos:0<Tp (λi=>(ZZ (2*K):Int)*X i) Y a b (x:Int) (2*(s:Int)+1):=by
   rw[zIL,nums,hc,hx];have:yx Y (a,b)*c*num X Y (2*(s:Int)+1) (a,b)-(c*num X Y (2*(s:Int)+1) (a,b)-1)*yx Y (a,b)=yx Y (a,b):=by grind
   lia
  have hb1:base n (λi=>(ZZ (2*K):Int)*X i) Y (dW (zU nx k e)) (x:Int) (2*(s:Int)+1)=1:=by
   rw[zDO D'.G C (odd s) j (by omega) (by omega) tpos,P.left D' je hv jq hq' j,z9 hf,zM ho]
   .rfl
   .intro a' b' j' h1 h2 h3;obtain⟨c',c0',hc'⟩:=dv a' b' j' (by omega);have hden':0<yx Y (a',b'):=by unfold yx;show 0<Y b'-Y a';grind
    rw[zIL,nums,hc'] at h3;rw[nums,nums]
    have h4:0<yx Y (a',b')*(c'*num X Y (2*(s:Int)+1) (a',b')-x):=by
     have:yx Y (a',b')*c'*num X Y (2*(s:Int)+1) (a',b')-x*yx Y (a',b')=yx Y (a',b')*(c'*num X Y (2*(s:Int)+1) (a',b')-x):=by grind
     grind
    rw[(yf hden').1,hx] at h4;have h5:c*num X Y (2*(s:Int)+1) (a,b)<=c'*num X Y (2*(s:Int)+1) (a',b'):=by lia
    have h6:yx Y (a,b)*yx Y (a',b')*(c*num X Y (2*(s:Int)+1) (a,b))<=yx Y (a,b)*yx Y (a',b')*(c'*num X Y (2*(s:Int)+1) (a',b')):=VM h5 (Int.le_of_lt (V3 hden hden'));have g1:(ZZ (2*K):Int)*num X Y (2*(s:Int)+1) (a,b)*yx Y (a',b')=yx Y (a,b)*yx Y (a',b')*(c*num X Y (2*(s:Int)+1) (a,b)):=by rw[hc];grind
    have g2:(ZZ (2*K):Int)*num X Y (2*(s:Int)+1) (a',b')*yx Y (a,b)=yx Y (a,b)*yx Y (a',b')*(c'*num X Y (2*(s:Int)+1) (a',b')):=by rw[hc'];grind
    omega
  have hsK:s<K:=by omega
  have hxB:x<ZZ (2*K)*B:=by
   have z1:X a*(Y b-(2*(s:Int)+1))<=B*(Y b-(2*(s:Int)+1)):=Vd xa1 (by omega);have z2:X b*(2*(s:Int)+1-Y a)<=B*(2*(s:Int)+1-Y a):=Vd xb1 (by omega)
   have z3:num X Y (2*(s:Int)+1) (a,b)<=B*yx Y (a,b):=by
    unfold num yx;dsimp only;have:(B:Int)*(Y b-Y a)=B*(Y b-(2*(s:Int)+1))+B*(2*(s:Int)+1-Y a):=by grind
    lia
   have z4:c*num X Y (2*(s:Int)+1) (a,b)<=c*(B*yx Y (a,b)):=VM z3 (by lia);have z5:c*(B*yx Y (a,b))=((ZZ (2*K)*B:Nat):Int):=by rw[Xg,hc];grind
   omega
  have p1:0<zW (ZZ (2*K)*B) (λx=>base n (λi=>(ZZ (2*K):Int)*X i) Y (dW (zU nx k e)) (x:Int) (2*(s:Int)+1)):=zFW (k:=x) (λi _=>nn s i) hxB (by rw[hb1];grind);have p2:=zFW (n:=K) (k:=s) (f:=λs=>zW (ZZ (2*K)*B) (λx=>base n (λi=>(ZZ (2*K):Int)*X i) Y (dW (zU nx k e)) (x:Int) (2*(s:Int)+1))) (λi _=>zAU λx _=>nn i x) hsK p1;have:0<(ZZ (2*K):Int)*((zU nx k e).map λe=>X e.1*Y e.2-X e.2*Y e.1).sum:=by omega
  exact (yf hM).1.mp this
end
open Gla
theorem ZI{α:Type}{p:Nat->α->Bool}{l:List α}(h:firstAt p l=none){i:Nat}{x:α}(hx:l[i]?=some x):p i x=false:=by
 unfold firstAt at h;rw[W0,Ue] at h;have:=h (x,i) (VQ.mpr hx);simpa using this
structure yC(S:Plan):Prop where
 r4:firstBad (λ(p:Pt)=>decide (p.x<=S.w)&&decide (p.y<=S.h)) Pt.below S.pts=none
 r5:firstBad (λ(l:Nat×Nat)=>decide (l.1<l.2)&&decide (l.2<S.pts.length)) lineBelow S.lines=none
 r6:frameOk S=true
 r7:firstAt (touches S) S.lines=none
 r8:((List.range S.pts.length).find? λ(i:Nat)=>decide ((S.near i).length<2))=none
 r9:((List.range S.pts.length).find? λ(i:Nat)=>!((seenFrom S.nears S.pts.length 0 (noneSeen S.pts.length)).getD i false))=none
 r10:((List.range S.pts.length).find? (cuts S.nears S.pts.length))=none
def xi (S:Plan)(i:Nat):Int:=((S.pt i).x:Int)
def yi (S:Plan)(i:Nat):Int:=((S.pt i).y:Int)
def cx (S:Plan)(i:Nat):Int:=xi S i+1
def cy (S:Plan)(i:Nat):Int:=2*(((S.w:Int)+1)*yi S i+(S.w:Int)-xi S i)
def JJ (S:Plan)(a b:Nat):Prop:=(min a b,max a b)∈S.lines
theorem zGC{S:Plan}{i:Nat}{p:Pt}(h:S.pts[i]?=some p):S.pt i=p:=by
 unfold Plan.pt;rw[WC,h];rfl
theorem yC.box{S:Plan}(O:yC S){i:Nat}(hi:i<S.pts.length):0<=xi S i/\xi S i<=S.w/\0<=yi S i/\yi S i<=S.h:=by
 have h:S.pts[i]?=some S.pts[i]:=yQ hi;have k:=ZI O.r4 h;have e:=zGC h;unfold xi yi;rw[e];simp only[WZ,WD,y9,yr] at k;omega
theorem yC.step{S:Plan}(O:yC S){i:Nat}(hi:i+1<S.pts.length):yi S i<yi S (i+1)\/(yi S i=yi S (i+1)/\xi S i<xi S (i+1)):=by
 have h:S.pts[i+1]?=some S.pts[i+1]:=yQ hi;have h0:S.pts[i]?=some (S.pts[i]'(by omega)):=yQ (by omega);have k:=ZI O.r4 h;have e:=zGC h;have e0:=zGC h0;unfold xi yi;rw[e,e0];simp only[WZ,Nat.add_sub_cancel] at k;have k2:=k.2;rw[h0] at k2;have:Pt.below (S.pts[i]'(by omega)) S.pts[i+1]=true:=by simpa using k2
 unfold Pt.below at this;simp only[Vc,y9,yr,Vj] at this;omega
theorem yC.ord{S:Plan}(O:yC S):∀ (k i:Nat),i+k+1<S.pts.length->yi S i<yi S (i+k+1)\/(yi S i=yi S (i+k+1)/\xi S i<xi S (i+k+1))
|0,i,h=>O.step h
|k+1,i,h=>by
  have a:=O.ord k i (by omega);have b:=O.step (i:=i+k+1) (by omega);rw[show i+(k+1)+1=i+k+1+1 by omega];omega
theorem yC.lt{S:Plan}(O:yC S){i j:Nat}(hij:i<j)(hj:j<S.pts.length):yi S i<yi S j\/(yi S i=yi S j/\xi S i<xi S j):=by
 have:=O.ord (j-i-1) i (by omega);rw[show i+(j-i-1)+1=j by omega] at this;exact this
theorem zGD{S:Plan}{xa ya xb yb:Int}(ha:0<=xa/\xa<=S.w)(hb:0<=xb/\xb<=S.w):2*(((S.w:Int)+1)*ya+(S.w:Int)-xa)<2*(((S.w:Int)+1)*yb+(S.w:Int)-xb)↔(ya<yb\/(ya=yb/\xb<xa)):=by
 have key:∀ y y':Int,y<y'->((S.w:Int)+1)*y+((S.w:Int)+1)<=((S.w:Int)+1)*y':=by
  intro y y' h;have:((S.w:Int)+1)*(y+1)<=((S.w:Int)+1)*y':=VM (by lia) (by lia);rw[Int.mul_add] at this;omega
 rcases W4 ya yb with h|h|h
 .have:=key _ _ h;omega
 .subst h
  grind
 .have:=key _ _ h;omega
theorem yC.cylt{S:Plan}(O:yC S){a b:Nat}(ha:a<S.pts.length)(hb:b<S.pts.length):cy S a<cy S b↔(yi S a<yi S b\/(yi S a=yi S b/\xi S b<xi S a)):=by
 have h1:=O.box ha;have h2:=O.box hb;unfold cy;exact zGD ⟨h1.1,h1.2.1⟩ ⟨h2.1,h2.2.1⟩
theorem yC.inj{S:Plan}(O:yC S){a b:Nat}(ha:a<S.pts.length)(hb:b<S.pts.length)(h1:xi S a=xi S b)(h2:yi S a=yi S b):a=b:=by
 rcases VO a b with h|h|h
 .have:=O.lt h hb;omega
 .exact h
 .have:=O.lt h ha;omega
theorem zBr(S:Plan)(a b c:Nat):T (cx S) (cy S) a b c=2*((S.w:Int)+1)*turn (S.pt a) (S.pt b) (S.pt c):=by
 unfold T cx cy xi yi turn dx dy
 grind
theorem yC.line{S:Plan}(O:yC S){l:Nat×Nat}(h:l∈S.lines):l.1<l.2/\l.2<S.pts.length:=by
 obtain⟨i,hi⟩:=VZ.mp h;have k:=ZI O.r5 hi;simp only[WZ,WD,y9,yr] at k;exact k.1
theorem zAV{S:Plan}{a b:Nat}:JJ S a b↔((a<=b/\(a,b)∈S.lines)\/(b<=a/\(b,a)∈S.lines)):=by
 unfold JJ;by_cases h:a<=b
 .rw[XA h,Nat.max_eq_right h];constructor
  .exact λk=>.inl ⟨h,k⟩
  .rintro (k|k)
   .exact k.2
   .have:a=b:=by lia
    subst this;exact k.2
 .rw[XL (by omega),Nat.max_eq_left (by omega)];constructor
  .exact λk=>.inr ⟨by omega,k⟩
  .rintro (k|k)
   .omega
   .exact k.2
theorem zA1{S:Plan}{a b:Nat}(h:JJ S a b):JJ S b a:=by
 unfold JJ at *
 rw[Nat.min_comm,Nat.max_comm];exact h
theorem yC.jlt{S:Plan}(O:yC S){a b:Nat}(h:JJ S a b):a<S.pts.length/\b<S.pts.length/\a≠b:=by
 have:=O.line h;dsimp only at this
 lia
theorem lsp{a b:Int}(h:0<b-a):a<=b:=by omega
theorem lsn{a b:Int}(h:a-b<0):a<=b:=by omega
theorem ls0{a b:Int}(h:b-a=0):a<=b:=by omega
theorem ls1{a b:Int}(h:a-b=0):a<=b:=by omega
theorem zQw{S:Plan}(a b c:Nat)(W:0<(S.w:Int)+1)(h0:T (cx S) (cy S) a b c=0)(h1:cy S a<cy S c)(h2:cy S c<cy S b):isOn (S.pt a) (S.pt b) (S.pt c)=true:=by
 have t0:turn (S.pt a) (S.pt b) (S.pt c)=0:=by
  rw[zBr] at h0;exact (yf (a:=2*((S.w:Int)+1)) (by omega)).2.2.mp h0
 have kx:(cy S b-cy S a)*(xi S c-xi S a)=(cy S c-cy S a)*(xi S b-xi S a):=by
  unfold T at h0;unfold cx at h0
  grind
 have ky:(cy S b-cy S a)*(yi S c-yi S a)=(cy S c-cy S a)*(yi S b-yi S a):=by
  unfold turn dx dy at t0;unfold cy;have e1:((S.pt a).x:Int)=xi S a:=rfl;have e2:((S.pt b).x:Int)=xi S b:=rfl;have e3:((S.pt c).x:Int)=xi S c:=rfl;have e4:((S.pt a).y:Int)=yi S a:=rfl;have e5:((S.pt b).y:Int)=yi S b:=rfl;have e6:((S.pt c).y:Int)=yi S c:=rfl;rw[e1,e2,e3,e4,e5,e6] at t0
  grind
 have key:∀ p q r:Int,(cy S b-cy S a)*(r-p)=(cy S c-cy S a)*(q-p)->(p<=r/\r<=q)\/(q<=r/\r<=p):=by
  intro p q r h;have m1:=yf (a:=cy S b-cy S a) (b:=r-p) (by omega);have m2:=yf (a:=cy S c-cy S a) (b:=q-p) (by omega);have m3:(cy S b-cy S a)*(r-q)=(cy S c-cy S b)*(q-p):=by grind
  have m4:=yf (a:=cy S b-cy S a) (b:=r-q) (by omega);have m5:=zEQ (a:=cy S c-cy S b) (b:=q-p) (by omega);rcases W4 (q-p) 0 with k|k|k
  .exact .inr ⟨lsp (m4.1.mp (by rw[m3];exact m5.1.mpr k)),lsn (m1.2.1.mp (by rw[h];exact m2.2.1.mpr k))⟩
  .rw[k,Vw] at h m3;exact .inl ⟨ls0 (m1.2.2.mp h),ls1 (m4.2.2.mp m3)⟩
  .exact .inl ⟨lsp (m1.1.mp (by rw[h];exact m2.1.mpr k)),lsn (m4.2.1.mp (by rw[m3];exact m5.2.1.mpr k))⟩
 have bx:=key _ _ _ kx;have by':=key _ _ _ ky;unfold isOn between;rw[t0];unfold xi at bx;unfold yi at by';simp only[beq_self_eq_true,XU,y9,yr]
 lia
theorem ZQ(p q r:Pt):turn q p r = - turn p q r:=by unfold turn dx dy;grind
theorem zL8(p q r:Pt):isOn q p r=isOn p q r:=by
 unfold isOn between;rw[ZQ,Nat.min_comm q.x,Nat.max_comm q.x,Nat.min_comm q.y,Nat.max_comm q.y]
 congr 1
 rw[WB,Vj,Vj]
 grind
theorem yC.notOn{S:Plan}(O:yC S){a b c:Nat}(j:JJ S a b)(hc:c<S.pts.length)(h1:c≠a)(h2:c≠b):isOn (S.pt a) (S.pt b) (S.pt c)=false:=by
 have key:∀ l∈S.lines,c≠l.1->c≠l.2->isOn (S.pt l.1) (S.pt l.2) (S.pt c)=false:=by
  intro l hl k1 k2;obtain⟨i,hi⟩:=VZ.mp hl;have k:=ZI O.r7 hi;unfold touches at k;rw[WZ] at k;have k3:=List.any_eq_false.mp k.1 c (VD.mpr hc);simp only[y9,bne_iff_ne,ne_eq,not_and] at k3;simpa using k3 k1 k2
 rcases zAV.mp j with ⟨_,h⟩|⟨_,h⟩
 .exact key (_,_) h h1 h2
 .rw[zL8];exact key (_,_) h h2 h1
theorem zHo{S:Plan}(O:yC S){l m:Nat×Nat}(hl:l∈S.lines)(hm:m∈S.lines)(ne:l≠m):crosses (S.pt l.1) (S.pt l.2) (S.pt m.1) (S.pt m.2)=false:=by
 obtain⟨i,hi⟩:=VZ.mp hl;obtain⟨j,hj⟩:=VZ.mp hm
 have key:∀ {l m:Nat×Nat}{i j:Nat},S.lines[i]?=some l->S.lines[j]?=some m->j<i->crosses (S.pt l.1) (S.pt l.2) (S.pt m.1) (S.pt m.2)=false:=by
  intro l m i j hi hj hji;have k:=ZI O.r7 hi;unfold touches at k;rw[WZ] at k
  have hm:m∈S.lines.take i:=by
   rw[Jr];obtain⟨h1,h2⟩:=yG hj;exact⟨j,by omega,h2⟩
  simpa using List.any_eq_false.mp k.2 m hm
 rcases VO i j with h|h|h
 .have:=key hj hi h;unfold crosses at *
  rw[Bool.and_comm];exact this
 .subst h;rw[hi] at hj;exact absurd (Wu hj) ne
 .exact key hi hj h
theorem yC.good{S:Plan}(O:yC S):yW S.pts.length (cx S) (cy S) (JJ S):=by
 have W:0<(S.w:Int)+1:=by omega
 refine⟨λa b=>zA1,λa b h=>(O.jlt h).1,λa b h=>(O.jlt h).2.2,λa b ha hb h=>?_,λa _=>by unfold cy;omega,λa b c j hc h1 h2 h0=>?_,λa b c d j j' h=>?_⟩
 .have k1:=O.cylt ha hb;have k2:=O.cylt hb ha;exact O.inj ha hb (by grind) (by grind)
 .have k:=zQw a b c W h0 h1 h2;rw[O.notOn j hc (λe=>by subst e;omega) (λe=>by subst e;omega)] at k;cases k
 .rw[zBr,zBr,zBr,zBr] at h;have W2:0<2*((S.w:Int)+1):=by omega
  generalize 2*((S.w:Int)+1)=M at h W2;have MM:0<M*M:=V3 W2 W2;have r:∀ x y:Int,M*x*(M*y)=M*M*(x*y):=λx y=>by grind
  rw[r,r,(yf MM).2.1,(yf MM).2.1] at h
  have key:∀ p q r s:Nat,(p,q)∈S.lines->(r,s)∈S.lines->¬ (turn (S.pt p) (S.pt q) (S.pt r)*turn (S.pt p) (S.pt q) (S.pt s)<0/\turn (S.pt r) (S.pt s) (S.pt p)*turn (S.pt r) (S.pt s) (S.pt q)<0):=by
   intro p q r s hl hm hh;by_cases e:(p,q)=(r,s)
   .cases e;have:turn (S.pt p) (S.pt q) (S.pt q)=0:=by unfold turn dx dy;grind
    rw[this] at hh
    grind
   .have:=zHo O hl hm e;unfold crosses at this;rw[WO hh.1,WO hh.2] at this;cases this
  rcases zAV.mp j with ⟨_,hl⟩|⟨_,hl⟩ <;> rcases zAV.mp j' with ⟨_,hm⟩|⟨_,hm⟩
  .exact key a b c d hl hm h
  .refine key a b d c hl hm ?_;rw[ZQ (S.pt c) (S.pt d),ZQ (S.pt c) (S.pt d),Vv,VG (turn (S.pt a) (S.pt b) (S.pt d))];exact h
  .refine key b a c d hl hm ?_;rw[ZQ (S.pt a) (S.pt b),ZQ (S.pt a) (S.pt b),Vv,VG (turn (S.pt c) (S.pt d) (S.pt b))];exact h
  .refine key b a d c hl hm ?_;rw[ZQ (S.pt a) (S.pt b),ZQ (S.pt a) (S.pt b),ZQ (S.pt c) (S.pt d),ZQ (S.pt c) (S.pt d),Vv,Vv,VG (turn (S.pt c) (S.pt d) (S.pt b)),VG (turn (S.pt a) (S.pt b) (S.pt d))];exact h
theorem Z5{S:Plan}(O:yC S){v w:Nat}:w∈S.near v↔JJ S v w:=by
 unfold Plan.near;rw[VI];constructor
 .rintro⟨l,hl,h⟩;have:=O.line hl;by_cases h1:l.1=v
  .rw[Wc h1] at h;cases h;rw[zAV];refine .inl ⟨by omega,?_⟩;rw[<-h1];exact hl
  .rw[Wb h1] at h;by_cases h2:l.2=v
   .rw[Wc h2] at h;cases h;rw[zAV];refine .inr ⟨by omega,?_⟩;rw[<-h2];exact hl
   .rw[Wb h2] at h;cases h
 .intro h;rcases zAV.mp h with ⟨_,hl⟩|⟨_,hl⟩
  .exact⟨_,hl,by rw[Wc rfl]⟩
  .have:=O.line hl;dsimp only at this;exact⟨_,hl,by rw[Wb (show ¬ (w,v).1=v by dsimp only;omega),Wc rfl]⟩
theorem zIP{S:Plan}{k:Nat}(hk:k<S.pts.length):S.nears.getD k []=S.near k:=by
 unfold Plan.nears;rw[WX];simp[hk]
theorem zHQ{S:Plan}{k j:Nat}(h:j∈S.nears.getD k []):k<S.pts.length:=by
 apply Nat.lt_of_not_le;intro hk;unfold Plan.nears at h;rw[WX,UF (by simp;omega)] at h;cases h
def zGE (a:List Nat×Array Bool)(j:Nat):List Nat×Array Bool:=if a.2.getD j true=true then a else (j::a.1,a.2.setIfInBounds j true)
structure zGr(h:Nat->Int)(c:Int)(Bad:Nat->Prop)(n:Nat)(a:List Nat×Array Bool):Prop where
 size:a.2.size=n
 todo:∀ k∈a.1,¬ Bad k/\h k=c
 bad:∀ j,j<n->Bad j->a.2.getD j true=true
 seen:∀ j,j<n->a.2.getD j true=true->Bad j\/h j=c
theorem Yq{a:Array Bool}{i j:Nat}(hi:i<a.size):(a.setIfInBounds i true).getD j true=if i=j then true else a.getD j true:=by
 rw[WX,WX,Array.getElem?_setIfInBounds];by_cases e:i=j
 .rw[Wc e,Wc e,Wc (by omega)];rfl
 .rw[Wb e,Wb e]
theorem zIQ{h:Nat->Int}{c:Int}{Bad:Nat->Prop}{n:Nat}:∀ (l:List Nat) (a:List Nat×Array Bool),(∀ j∈l,¬ Bad j->h j=c)->zGr h c Bad n a->zGr h c Bad n (l.foldl zGE a)
|[],_,_,I=>I
|j::l,a,hl,I=>by
  rw[Vm];refine zIQ l _ (λj' hj'=>hl j' (by simp[hj'])) ?_;unfold zGE;by_cases hs:a.2.getD j true=true
  .rw[Wc hs];exact I
  .rw[Wb hs]
   have hj:j<a.2.size:=by
    apply Nat.lt_of_not_le;intro hk;rw[WX,UF hk] at hs;exact hs rfl
   have nb:¬ Bad j:=λhb=>hs (I.bad j (by rw[<-I.size];exact hj) hb)
   refine⟨by rw[Vg];exact I.size,λk hk=>?_,λi hi hb=>?_,λi hi hs'=>?_⟩
   .rcases Wd.mp hk with e|e
    .rw[e];exact⟨nb,hl j (by simp) nb⟩
    .exact I.todo k e
   .rw[Yq hj];by_cases e:j=i
    .rw[Wc e]
    .rw[Wb e];exact I.bad i hi hb
   .rw[Yq hj] at hs';by_cases e:j=i
    .rw[<-e];exact .inr (hl j (by simp) nb)
    .rw[Wb e] at hs';exact I.seen i hi hs'
theorem zDo{h:Nat->Int}{c:Int}{Bad:Nat->Prop}{n:Nat}{near:Array (List Nat)}(hstep:∀ k j,j∈near.getD k []->¬ Bad k->¬ Bad j->h k=c->h j=c) :
  ∀ (fuel:Nat) (todo:List Nat) (seen:Array Bool),zGr h c Bad n (todo,seen)->(spread near fuel todo seen).size=n/\∀ j,j<n->(spread near fuel todo seen).getD j true=true->Bad j\/h j=c
|0,todo,seen,I=>⟨I.size,I.seen⟩
|f+1,[],seen,I=>⟨I.size,I.seen⟩
|f+1,k::r,seen,I=>by
  have hk:=I.todo k (by simp);have I2:zGr h c Bad n ((near.getD k []).foldl zGE (r,seen)):=zIQ _ _ (λj hj nb=>hstep k j hj hk.1 nb hk.2) ⟨I.size,λk' hk'=>I.todo k' (by simp[hk']),I.bad,I.seen⟩;have ih:=zDo hstep f ((near.getD k []).foldl zGE (r,seen)).1 ((near.getD k []).foldl zGE (r,seen)).2 I2;exact ih
theorem zCp{n:Nat}{p:Nat->Bool}(h:(List.range n).find? p=none){i:Nat}(hi:i<n):p i=false:=by
 rw[Ue] at h;simpa using h i (VD.mpr hi)
theorem zFX(n j:Nat)(hj:j<n)(b:Bool):(noneSeen n).getD j b=false:=by
 unfold noneSeen;rw[WX];simp[hj]
theorem yC.conn{S:Plan}(O:yC S)(h:Nat->Int)(hh:∀ a b,JJ S a b->h a=h b)(a b:Nat)(ha:a<S.pts.length)(hb:b<S.pts.length):h a=h b:=by
 have hs:∀ k j,j∈S.nears.getD k []->¬ False->¬ False->h k=h 0->h j=h 0:=by
  intro k j hj _ _ hk;rw[zIP (zHQ hj),Z5 O] at hj;rw[<-hh _ _ hj];exact hk
 have hz:0<(noneSeen S.pts.length).size:=by
  unfold noneSeen;simp;omega
 have I:zGr h (h 0) (λ_=>False) S.pts.length ([0],(noneSeen S.pts.length).setIfInBounds 0 true):=by
  refine⟨by rw[Vg];unfold noneSeen;simp,λk hk=>?_,λj _ hb=>absurd hb id,λj hj hs=>?_⟩
  .rw[Wl.mp hk];exact⟨id,rfl⟩
  .rw[Yq hz] at hs;by_cases e:0=j
   .rw[<-e];exact .inr rfl
   .rw[Wb e,zFX _ _ hj] at hs;cases hs
 have K:=zDo hs (S.pts.length+1) _ _ I
 have all:∀ j,j<S.pts.length->h j=h 0:=by
  intro j hj;have q:=zCp O.r9 hj;rw[WD] at q
  have q2:(seenFrom S.nears S.pts.length 0 (noneSeen S.pts.length)).getD j true=true:=by
   rw[WX] at q ⊢;cases e:(seenFrom S.nears S.pts.length 0 (noneSeen S.pts.length))[j]? with
  |none=>rfl
  |some x=>rw[e] at q;exact q
  exact (K.2 j hj q2).resolve_left id
 rw[all a ha,all b hb]
theorem yC.cut{S:Plan}(O:yC S)(v:Nat)(hv:v<S.pts.length)(h:Nat->Int)(hh:∀ a b,JJ S a b->a≠v->b≠v->h a=h b)(a b:Nat)(ha:a<S.pts.length)(hb:b<S.pts.length)(hav:a≠v)(hbv:b≠v):h a=h b:=by
 have q:=zCp O.r10 hv;unfold cuts at q;generalize hst:(if v=0 then 1 else 0)=s at q;have hsv:s≠v:=by rw[<-hst];split <;> lia
 have hs:∀ k j,j∈S.nears.getD k []->¬ k=v->¬ j=v->h k=h s->h j=h s:=by
  intro k j hj h1 h2 hk;rw[zIP (zHQ hj),Z5 O] at hj;rw[<-hh _ _ hj h1 h2];exact hk
 have sz:(noneSeen S.pts.length).size=S.pts.length:=by unfold noneSeen;simp
 have I:zGr h (h s) (λj=>j=v) S.pts.length ([s],((noneSeen S.pts.length).setIfInBounds v true).setIfInBounds s true):=by
  refine⟨by rw[Vg,Vg];exact sz,λk hk=>?_,λj hj hb=>?_,λj hj hs=>?_⟩
  .rw[Wl.mp hk];exact⟨hsv,rfl⟩
  .by_cases hsl:s<S.pts.length
   .rw[Yq (by rw[Vg,sz];exact hsl),Wb (by grind),Yq (by rw[sz];exact hv),Wc hb.symm]
   .rw[UW (by rw[Vg,sz];omega),Yq (by rw[sz];exact hv),Wc hb.symm]
  .by_cases hsl:s<S.pts.length
   .rw[Yq (by rw[Vg,sz];exact hsl)] at hs;by_cases e:s=j
    .rw[<-e];exact .inr rfl
    .rw[Wb e,Yq (by rw[sz];exact hv)] at hs;by_cases e2:v=j
     .exact .inl e2.symm
     .rw[Wb e2,zFX _ _ hj] at hs;cases hs
   .rw[UW (by rw[Vg,sz];omega),Yq (by rw[sz];exact hv)] at hs;by_cases e2:v=j
    .exact .inl e2.symm
    .rw[Wb e2,zFX _ _ hj] at hs;cases hs
 have K:=zDo hs (S.pts.length+1) _ _ I
 have all:∀ j,j<S.pts.length->j≠v->h j=h s:=by
  intro j hj hjv
  have q2:(seenFrom S.nears S.pts.length s ((noneSeen S.pts.length).setIfInBounds v true)).getD j true=true:=by
   rw[WX];cases e:(seenFrom S.nears S.pts.length s ((noneSeen S.pts.length).setIfInBounds v true))[j]? with
  |none=>rfl
  |some x=>
    cases x with
   |true=>rfl
   |false=>
     exfalso
     have:(seenFrom S.nears S.pts.length s ((noneSeen S.pts.length).setIfInBounds v true)).contains false=true:=by
      rw[Array.contains_iff];exact Array.mem_of_getElem? e
     rw[this] at q;cases q
  exact (K.2 j hj q2).resolve_left hjv
 rw[all a ha hav,all b hb hbv]
theorem sqp{x y:Int}(h:¬ (x=0/\y=0)):0<x*x+y*y:=by
 have s:∀ x:Int,x*x=0/\x=0\/0<x*x:=λx=>(W4 x 0).elim (λh=>.inr (Js h h)) λh=>h.elim (λh=>.inl ⟨by rw[h];rfl,h⟩) λh=>.inr (V3 h h)
 rcases s x with a|a <;> rcases s y with b|b
 .exact absurd ⟨a.2,b.2⟩ h
 .rw[a.1];omega
 .rw[b.1];omega
 .exact Int.add_pos a b
theorem zS9{a b M:Int}(h:a-b=2*(M*0-0)):a=b:=by grind
theorem zTA{V P Q d:Int}(hp:V≠P)(hq:V≠Q)(t:(V<P/\¬ V<Q\/(V<P↔V<Q)/\(0:Int)<0)\/(V<Q/\¬ V<P\/(V<Q↔V<P)/\(-0:Int)<0))(m:0<(P-V)*d↔0<Q-V)(n:(P-V)*d<0↔Q-V<0):d<0:=by
 rcases t with (t|t)|(t|t)
 .exact (yf (W3 t.1)).2.1.mp (n.mpr (by lia))
 .exact absurd t.2 (Int.lt_irrefl 0)
 .exact (zEQ (a:=P-V) (by lia)).1.mp (m.mpr (W3 t.1))
 .exact absurd t.2 (Int.lt_irrefl 0)
theorem zDP{S:Plan}(O:yC S){v p a:Nat}(jp:JJ S v p)(ja:JJ S v a)(hne:a≠p) :
  half (dir S v p) (dir S v a)=if T (cx S) (cy S) v p a<0 then 0 else if 0<T (cx S) (cy S) v p a then 2 else 1:=by
 have G:=O.good;have W2:0<2*((S.w:Int)+1):=by omega
 have e:(dir S v p).1*(dir S v a).2-(dir S v p).2*(dir S v a).1=turn (S.pt v) (S.pt p) (S.pt a):=by unfold dir turn dx dy;grind
 have m:=yf (b:=turn (S.pt v) (S.pt p) (S.pt a)) W2;rw[<-zBr] at m;unfold half;dsimp only;rw[e];by_cases c1:turn (S.pt v) (S.pt p) (S.pt a)<0
 .rw[Wc c1,Wc (m.2.1.mpr c1)]
 .rw[Wb c1,Wb λh=>c1 (m.2.1.mp h)];by_cases c2:0<turn (S.pt v) (S.pt p) (S.pt a)
  .rw[Wc c2,Wc (m.1.mpr c2)]
  .rw[Wb c2,Wb λh=>c2 (m.1.mp h),Wc];have c0:turn (S.pt v) (S.pt p) (S.pt a)=0:=Int.le_antisymm (Vz.mp c2) (Vz.mp c1);have t0:T (cx S) (cy S) v p a=0:=m.2.2.mpr c0;have tot:=Ye G jp ja (λh=>hne h.symm);have sw:=Yd (X:=cx S) (Y:=cy S) v p a;unfold ll at tot;have hp:cy S p-cy S v=2*(((S.w:Int)+1)*(dir S v p).2-(dir S v p).1):=by unfold cy dir dx dy xi yi;grind
   have ha:cy S a-cy S v=2*(((S.w:Int)+1)*(dir S v a).2-(dir S v a).1):=by unfold cy dir dx dy xi yi;grind
   rw[c0] at e
   have key:(cy S p-cy S v)*((dir S v p).1*(dir S v a).1+(dir S v p).2*(dir S v a).2)=(cy S a-cy S v)*((dir S v p).1*(dir S v p).1+(dir S v p).2*(dir S v p).2):=by
    rw[hp,ha];generalize (dir S v p).1=r1 at *
    generalize (dir S v p).2=r2 at *
    generalize (dir S v a).1=a1 at *
    generalize (dir S v a).2=a2 at *
    generalize ((S.w:Int)+1)=M at *
    clear tot sw m hp ha
    grind
   have qpos:0<(dir S v p).1*(dir S v p).1+(dir S v p).2*(dir S v p).2:=sqp λz=>G.yne jp (by rw[z.1,z.2] at hp;exact (zS9 hp).symm)
   have mq:=yf (b:=cy S a-cy S v) qpos;rw[VG,<-key] at mq;rw[sw,t0] at tot;exact zTA (G.yne jp) (G.yne ja) tot mq.1 mq.2.1
theorem zHR{S:Plan}(v p:Nat):half (dir S v p) (dir S v p)=3:=by
 unfold half;dsimp only;rw[Wb (by rw[VG];grind),Wb (by rw[VG];omega),Wb]
 have sq:∀ x:Int,0<=x*x:=by
  intro x;rcases W4 x 0 with h|h|h
  .have:=Js h h;omega
  .subst h;omega
  .have:=V3 h h;omega
 have:=sq (dir S v p).1;have:=sq (dir S v p).2;omega
theorem zDQ{V P C:Int}(h:V≠P):Sg ((P-V)*C) (if V<P then C else -C):=by
 split
 .rename_i q
  exact yf (W3 q)
 .rename_i q
  have m:=zEQ (a:=P-V) (b:=C) (by omega);unfold Sg
  lia
theorem nle{x a:Int}(h:Sg x a)(k:a<=0):x<=0:=Vz.mp λz=>Vz.mpr k (h.1.mp z)
theorem nge{x a:Int}(h:Sg x a)(k:0<=a):0<=x:=Vz.mp λz=>Vz.mpr k (h.2.1.mp z)
theorem sp1{x y z:Int}(e:z=y-x)(h:(0<y/\x<=0)\/(0<=y/\x<0)):0<z:=by omega
theorem sp2{x y z:Int}(e:z=y-x)(h:(y<0/\0<=x)\/(y<=0/\0<x)):z<0:=by omega
theorem zQx{x y z a b c:Int}(hx:Sg x a)(hy:Sg y b)(hz:Sg z c)(e:z=y-x):(0<b->a<=0->0<c)/\(0<=b->a<0->0<c)/\(b<0->0<=a->c<0)/\(b<=0->0<a->c<0)/\(a=0->b=0->c=0):=
 ⟨λhb ha=>hz.1.mp (sp1 e (.inl ⟨hy.1.mpr hb,nle hx ha⟩)),λhb ha=>hz.1.mp (sp1 e (.inr ⟨nge hy hb,hx.2.1.mpr ha⟩)),λhb ha=>hz.2.1.mp (sp2 e (.inl ⟨hy.2.1.mpr hb,nge hx ha⟩)),λhb ha=>hz.2.1.mp (sp2 e (.inr ⟨nle hy hb,hx.1.mpr ha⟩)),λha hb=>hz.2.2.mp (by rw[e,hy.2.2.mpr hb,hx.2.2.mpr ha];rfl)⟩
theorem zKm{A:Int}:(A<0/\¬ 0<A)\/(¬ A<0/\¬ 0<A)\/(¬ A<0/\0<A):=by grind
theorem hlt{A B:Int}:((if A<0 then 0 else if 0<A then 2 else 1)<(if B<0 then 0 else if 0<B then 2 else 1:Nat))↔((A<0/\¬ B<0)\/(¬ 0<A/\0<B)):=by
 rcases @zKm A with a|a|a <;> rcases @zKm B with b|b|b <;> simp[a,b]
theorem heq{A B:Int}:((if A<0 then 0 else if 0<A then 2 else 1)=(if B<0 then 0 else if 0<B then 2 else 1:Nat))↔((A<0↔B<0)/\(0<A↔0<B)):=by
 rcases @zKm A with a|a|a <;> rcases @zKm B with b|b|b <;> simp[a,b]
theorem zTB{A B C:Int}(t:A<0\/-A<0)(h1:B<0->0<=-A->C<0)(h2:0<B->-A<=0->0<C):(((A<0/\¬ B<0)\/(¬ 0<A/\0<B))\/((A<0↔B<0)/\(0<A↔0<B))/\C<0↔A<0):=by grind
theorem zTC{A B C:Int}(t:A<0\/-A<0)(h1:0 < -B->A<=0->0 < -C)(h2 : -B<0->0<=A->-C<0):(((A<0/\¬ B<0)\/(¬ 0<A/\0<B))\/((A<0↔B<0)/\(0<A↔0<B))/\C<0↔A<0):=by grind
theorem zTD{A B C:Int}(t:B<0\/-B<0)(h1 : -B<0->0<=A->C<0)(h2:0 < -B->A<=0->0<C):(((A<0/\¬ B<0)\/(¬ 0<A/\0<B))\/((A<0↔B<0)/\(0<A↔0<B))/\C<0↔-B<0):=by grind
theorem zTE{A B C:Int}(t:B<0\/-B<0)(h1:0<B->-A<=0->0 < -C)(h2:B<0->0<=-A->-C<0):(((A<0/\¬ B<0)\/(¬ 0<A/\0<B))\/((A<0↔B<0)/\(0<A↔0<B))/\C<0↔-B<0):=by grind
theorem brC{A B C:Int}(t:C<0\/-C<0)(z1:0<B->A<=0->C<0)(z2:0<=B->A<0->C<0)(z3:B<0->0<=A->0<C)(z4:B<=0->0<A->0<C):(((A<0/\¬ B<0)\/(¬ 0<A/\0<B))\/((A<0↔B<0)/\(0<A↔0<B))/\C<0↔C<0):=by grind
theorem brT{A B C:Int}(t1:A<0\/-A<0)(t2:B<0\/-B<0)(z1:0<B->A<=0->0<C)(z3:B<0->0<=A->C<0):(((A<0/\¬ B<0)\/(¬ 0<A/\0<B))\/((A<0↔B<0)/\(0<A↔0<B))/\C<0↔A<0/\C<0\/-B<0/\A<0\/C<0/\-B<0):=by grind
theorem zSF{X Y Z:Int}(h:0 < -X->-Y<=0->0 < -Z):X<0->0<=Y->Z<0:=by lia
theorem zSG{X Y Z:Int}(h : -X<0->0<=-Y->-Z<0):0<X->Y<=0->0<Z:=by grind
theorem zKn{S:Plan}(O:yC S){v p a b:Nat}(jp:JJ S v p)(ja:JJ S v a)(jb:JJ S v b)(hap:a≠p)(hbp:b≠p)(hab:a≠b) :
  sooner (dir S v p) (dir S v a) (dir S v b)=true↔((ll (cx S) (cy S) v p a/\ll (cx S) (cy S) v a b)\/(ll (cx S) (cy S) v b p/\ll (cx S) (cy S) v p a)\/(ll (cx S) (cy S) v a b/\ll (cx S) (cy S) v b p)):=by
 have G:=O.good;have W2:0<2*((S.w:Int)+1):=by omega
 have e:(dir S v a).1*(dir S v b).2-(dir S v a).2*(dir S v b).1=turn (S.pt v) (S.pt a) (S.pt b):=by unfold dir turn dx dy;grind
 have m:=yf (b:=turn (S.pt v) (S.pt a) (S.pt b)) W2;rw[<-zBr] at m;unfold sooner;rw[zDP O jp ja hap,zDP O jp jb hbp,e];simp only[Vc,y9,yr,Vj];rw[<-m.2.1];have id:(cy S p-cy S v)*T (cx S) (cy S) v a b=(cy S a-cy S v)*T (cx S) (cy S) v p b-(cy S b-cy S v)*T (cx S) (cy S) v p a:=by unfold T;grind
 have s3:=Yd (X:=cx S) (Y:=cy S) v p b;have t1:=Ye G jp ja (λh=>hap h.symm);have t2:=Ye G jp jb (λh=>hbp h.symm);have t3:=Ye G ja jb hab;have w1:=Yd (X:=cx S) (Y:=cy S) v p a;have w3:=Yd (X:=cx S) (Y:=cy S) v a b;have yp:=G.yne jp;have ya:=G.yne ja;have yb:=G.yne jb;unfold ll at *
 rw[w1] at t1;rw[s3] at t2;rw[w3] at t3;rw[s3];generalize T (cx S) (cy S) v p a=A at *
 generalize T (cx S) (cy S) v p b=B at *
 generalize T (cx S) (cy S) v a b=C at *
 generalize cy S v=V at *
 generalize cy S p=P at *
 generalize cy S a=Q at *
 generalize cy S b=R at *
 have z:=zQx (zDQ (C:=A) yb) (zDQ (C:=B) ya) (zDQ (C:=C) yp) id;clear m e w1 s3 w3 id yp ya yb G jp ja jb hap hbp hab O W2;by_cases u1:V<P <;> by_cases u2:V<Q <;> by_cases u3:V<R <;> simp only[u1,u2,u3,true_and,false_and,not_true_eq_false,not_false_eq_true,or_false,false_or,iff_self,and_true,and_false,iff_true,iff_false,true_iff,false_iff,UO,Uq] at t1 t2 t3 z ⊢
 all_goals rw[hlt,heq]
 .exact brT t1 t2 z.1 z.2.2.1
 .exact zTB t1 z.2.2.1 z.1
 .exact zTD t2 z.2.2.1 z.1
 .exact brC t3 (λh k=>z.2.2.1 (Int.neg_neg_of_pos h) (Int.neg_nonneg_of_nonpos k)) (λh k=>z.2.2.2.1 (Int.neg_nonpos_of_nonneg h) (Int.neg_pos_of_neg k)) (λh k=>z.1 (Int.neg_pos_of_neg h) (Int.neg_nonpos_of_nonneg k)) (λh k=>z.2.1 (Int.neg_nonneg_of_nonpos h) (Int.neg_neg_of_pos k))
 .exact brC t3 (λh k=>Int.neg_of_neg_pos (z.1 h k)) (λh k=>Int.neg_of_neg_pos (z.2.1 h k)) (λh k=>Int.pos_of_neg_neg (z.2.2.1 h k)) (λh k=>Int.pos_of_neg_neg (z.2.2.2.1 h k))
 .exact zTE t2 z.1 z.2.2.1
 .exact zTC t1 z.1 z.2.2.1
 .exact brT t1 t2 (zSG z.2.2.1) (zSF z.1)
section
variable {n:Nat}{X Y:Nat->Int}{J:Nat->Nat->Prop}
theorem zHu{v w:Nat}:0<=rk n X Y J v w:=by
 classical
 unfold rk;exact zAU λi _=>by split <;> grind
theorem zCO(G:yW n X Y J){v a b:Nat}(ja:J v a)(jb:J v b):ll X Y v a b↔rk n X Y J v a<rk n X Y J v b:=by
 refine⟨Y6 G ja jb,λh=>?_⟩;by_cases e:a=b
 .subst e;omega
 .rcases Ye G ja jb e with k|k
  .exact k
  .have:=Y6 G jb ja k;omega
end
noncomputable def YV (S:Plan) (v p w:Nat):Int:=if w=p then 2*S.pts.length+5 else if rk S.pts.length (cx S) (cy S) (JJ S) v p<rk S.pts.length (cx S) (cy S) (JJ S) v w then rk S.pts.length (cx S) (cy S) (JJ S) v w else rk S.pts.length (cx S) (cy S) (JJ S) v w+S.pts.length+1
theorem zIR{S:Plan}(O:yC S){v p a b:Nat}(jp:JJ S v p)(ja:JJ S v a)(jb:JJ S v b):sooner (dir S v p) (dir S v a) (dir S v b)=true↔YV S v p a<YV S v p b:=by
 have G:=O.good;have bd:∀ w,0<=rk S.pts.length (cx S) (cy S) (JJ S) v w/\rk S.pts.length (cx S) (cy S) (JJ S) v w<=S.pts.length:=λw=>⟨zHu,zF8⟩
 have ba:=bd a;have bb:=bd b;have bp:=bd p
 have h3:∀ w,JJ S v w->w≠p->half (dir S v p) (dir S v w)<3:=by
  intro w jw hw;rw[zDP O jp jw hw];split
  .omega
  .split <;> grind
 by_cases e1:a=b
 .subst e1
  have:sooner (dir S v p) (dir S v a) (dir S v a)=false:=by
   unfold sooner;have z:(dir S v a).1*(dir S v a).2-(dir S v a).2*(dir S v a).1=0:=by rw[VG];grind
   rw[z];simp
  rw[this];simp
 .by_cases e2:a=p
  .subst e2
   have:sooner (dir S v a) (dir S v a) (dir S v b)=false:=by
    unfold sooner;rw[zHR];have:=h3 b jb (λh=>e1 h.symm);rw[WH (by omega),Xj,W8.mpr (by omega),V9]
   rw[this];unfold YV;rw[Wc rfl,Wb (λh=>e1 h.symm)];constructor
   .intro h;cases h
   .intro h
    exfalso
    split at h <;> omega
  .by_cases e3:b=p
   .subst e3
    have:sooner (dir S v b) (dir S v a) (dir S v b)=true:=by
     unfold sooner;rw[zHR];have:=h3 a ja e2;rw[WO (by omega),U6]
    rw[this];unfold YV;rw[Wb e2,Wc rfl];refine⟨λ_=>?_,λ_=>rfl⟩;split <;> omega
   .rw[zKn O jp ja jb e2 e3 e1,zCO G jp ja,zCO G ja jb,zCO G jb jp]
    have n1:rk S.pts.length (cx S) (cy S) (JJ S) v a≠rk S.pts.length (cx S) (cy S) (JJ S) v b:=by
     rcases Ye G ja jb e1 with k|k
     .have:=Y6 G ja jb k;omega
     .have:=Y6 G jb ja k;omega
    have n2:rk S.pts.length (cx S) (cy S) (JJ S) v a≠rk S.pts.length (cx S) (cy S) (JJ S) v p:=by
     rcases Ye G ja jp e2 with k|k
     .have:=Y6 G ja jp k;omega
     .have:=Y6 G jp ja k;omega
    have n3:rk S.pts.length (cx S) (cy S) (JJ S) v b≠rk S.pts.length (cx S) (cy S) (JJ S) v p:=by
     rcases Ye G jb jp e3 with k|k
     .have:=Y6 G jb jp k;omega
     .have:=Y6 G jp jb k;omega
    unfold YV;rw[Wb e2,Wb e3];split <;> split <;> omega
theorem zFY{s:Nat->Nat->Bool}{ρ:Nat->Int}:∀ (l:List Nat) (k:Nat),(∀ a∈k::l,∀ b∈k::l,(s a b=true↔ρ a<ρ b))->
  l.foldl (λa b=>if s b a=true then b else a) k∈k::l/\∀ w∈k::l,ρ (l.foldl (λa b=>if s b a=true then b else a) k)<=ρ w
|[],k,_=>⟨by simp,λw hw=>by rw[Wl.mp hw];exact V4 _⟩
|b::l,k,h=>by
  rw[Vm];have hb:=h b (by simp) k (by simp);by_cases c:s b k=true
  .rw[Wc c];have ih:=zFY (s:=s) (ρ:=ρ) l b (λx hx y hy=>h x (Wg _ hx) y (Wg _ hy));refine⟨Wg _ ih.1,λw hw=>?_⟩;rcases Wd.mp hw with e|e
   .have:=ih.2 b (by simp);have:=hb.mp c;rw[e];omega
   .exact ih.2 w e
  .rw[Wb c];have ih:=zFY (s:=s) (ρ:=ρ) l k (λx hx y hy=>h x (by rcases Wd.mp hx with e|e <;> simp[e]) y (by rcases Wd.mp hy with e|e <;> simp[e]));refine⟨by rcases Wd.mp ih.1 with e|e <;> simp[e],λw hw=>?_⟩;rcases Wd.mp hw with e|e
   .exact ih.2 w (by simp[e])
   .rcases Wd.mp e with e|e
    .have k1:=ih.2 k (by simp);have k2:¬ ρ b<ρ k:=λhh=>c (hb.mpr hh)
     rw[e];omega
    .exact ih.2 w (by simp[e])
theorem zIS{S:Plan}(O:yC S){p v:Nat}(j:JJ S p v):JJ S v (S.next p v)/\∀ w,JJ S v w->YV S v p (S.next p v)<=YV S v p w:=by
 have jp:=zA1 j;unfold Plan.next;have hp:p∈S.near v:=(Z5 O).mpr jp;cases e:S.near v with
|nil=>rw[e] at hp;cases hp
|cons k r=>
  have hJ:∀ w,w∈k::r↔JJ S v w:=λw=>by rw[<-e];exact Z5 O
  have q:=zFY (s:=λb a=>sooner (dir S v p) (dir S v b) (dir S v a)) (ρ:=YV S v p) r k (λa ha b hb=>zIR O jp ((hJ a).mp ha) ((hJ b).mp hb));exact⟨(hJ _).mp q.1,λw hw=>q.2 w ((hJ w).mpr hw)⟩
theorem yC.nx{S:Plan}(O:yC S)(p v:Nat)(j:JJ S p v):Nx (cx S) (cy S) (JJ S) v p (S.next p v):=by
 have G:=O.good;have jp:=zA1 j;obtain⟨jm,hm⟩:=zIS O j;generalize S.next p v=m at jm hm;refine⟨jm,?_⟩;have bd:∀ w,0<=rk S.pts.length (cx S) (cy S) (JJ S) v w/\rk S.pts.length (cx S) (cy S) (JJ S) v w<=S.pts.length:=λw=>⟨zHu,zF8⟩
 have ne:∀ a b,JJ S v a->JJ S v b->a≠b->rk S.pts.length (cx S) (cy S) (JJ S) v a≠rk S.pts.length (cx S) (cy S) (JJ S) v b:=by
  intro a b ja jb h;rcases Ye G ja jb h with k|k
  .have:=Y6 G ja jb k;omega
  .have:=Y6 G jb ja k;omega
 have bm:=bd m;have bp:=bd p;by_cases e:m=p
 .subst e
  have all:∀ w,JJ S v w->w=m:=by
   intro w jw;apply Wa;intro hw;have:=hm w jw;have bw:=bd w;unfold YV at this;rw[Wc rfl,Wb hw] at this;split at this <;> omega
  exact .inr ⟨λw jw=>.inl (all w jw),λw jw=>by rw[all w jw];exact zES v m⟩
 .by_cases c:rk S.pts.length (cx S) (cy S) (JJ S) v p<rk S.pts.length (cx S) (cy S) (JJ S) v m
  .refine .inl λw jw=>?_
   have bw:=bd w;have hw:=hm w jw;rw[zCO G jw jp,zCO G jw jm];by_cases ew:w=p
   .subst ew;exact⟨λ_=>c,λ_=>.inl rfl⟩
   .have:=ne w p jw jp ew;unfold YV at hw;rw[Wb e,Wb ew,Wc c] at hw;split at hw <;> grind
  .have mp:=ne m p jm jp e;refine .inr ⟨λw jw=>?_,λw jw=>?_⟩
   .have bw:=bd w;have hw:=hm w jw;by_cases ew:w=p
    .exact .inl ew
    .refine .inr ((zCO G jw jp).mpr ?_);have:=ne w p jw jp ew;unfold YV at hw;rw[Wb e,Wb ew,Wb c] at hw;split at hw <;> omega
   .rw[zCO G jw jm];have bw:=bd w;have hw:=hm w jw;by_cases ew:w=p
    .subst ew;exact c
    .have:=ne w p jw jp ew;unfold YV at hw;rw[Wb e,Wb ew,Wb c] at hw;split at hw <;> omega
theorem yC.dr{S:Plan}(O:yC S):Dr S.pts.length (cx S) (cy S) (JJ S) S.next:=by
 refine⟨O.good,O.nx,λv hv=>?_,O.conn,O.cut⟩;have h:=zCp O.r8 hv;have h2:=WJ h;cases e:S.near v with
|nil=>rw[e] at h2;exact absurd (by decide) h2
|cons w r=>exact⟨w,zA1 ((Z5 O).mp (by rw[e];simp))⟩
theorem zAj{S:Plan}(O:yC S)(e:zf):e∈ways S↔JJ S e.1 e.2:=by
 unfold ways;rw[U9];constructor
 .rintro⟨l,hl,h⟩;have:=O.line hl;rcases Wd.mp h with h|h
  .rw[h,zAV];exact .inl ⟨by omega,hl⟩
  .rw[Wl.mp h,zAV];exact .inr ⟨by dsimp only;omega,hl⟩
 .intro h;obtain⟨a,b⟩:=e;rcases zAV.mp h with ⟨_,hl⟩|⟨_,hl⟩
  .exact⟨_,hl,by simp⟩
  .exact⟨_,hl,by simp⟩
theorem zDp(S:Plan):(ways S).length=2*S.lines.length:=by
 unfold ways
 induction S.lines with
|nil=>rfl
|cons l r ih=>rw[U3,Wi,ih];simp only[Wn,VS];grind
theorem zHS{S:Plan}{s:zf}{k:Nat}(P:Zs S.next k s):∀ (f i:Nat),i<k->k-i<=f->S.round f s (yB S.next i s)=(zU S.next (k-i) (yB S.next i s)).map Prod.fst
|0,i,h1,h2=>by omega
|f+1,i,h1,h2=>by
  have e:k-i=(k-(i+1))+1:=by omega
  rw[e,zU,Wo];unfold Plan.round;dsimp only
  congr 1
  have hf:((yB S.next i s).2,S.next (yB S.next i s).1 (yB S.next i s).2)=yB S.next (i+1) s:=by rw[ZX];rfl
  rw[hf];by_cases c:i+1<k
  .rw[Wb (P.least (i+1) (by grind) c),zHS P f (i+1) c (by omega)]
   congr 2
   rw[<-hf];rfl
  .have:i+1=k:=by omega
   rw[this,Wc P.back,show k-k=0 by grind];rfl
theorem yC.round{S:Plan}(O:yC S){e:zf}(je:JJ S e.1 e.2):∃ k,Zs S.next k e/\S.round (2*S.lines.length+1) e e=(zU S.next k e).map Prod.fst:=by
 obtain⟨k,P,hk⟩:=O.dr.per (A:=ways S) (λe h=>(zAj O e).mpr h) je;rw[zDp] at hk;refine⟨k,P,?_⟩;have:=zHS P (2*S.lines.length+1) 0 P.pos (by lia);exact this
section
variable {nx:Nat->Nat->Nat}
theorem zJl:∀ (k:Nat) (e:zf),(zU nx (k+1) e).map Prod.snd=(zU nx k (ph nx e)).map Prod.fst++[(yB nx (k+1) e).1]
|0,e=>rfl
|k+1,e=>by
  rw[zU,Wo,zJl k (ph nx e)];rfl
theorem zL9:∀ (W:List zf),(W.map Prod.fst).zip (W.map Prod.snd)=W
|[]=>rfl
|e::W=>by rw[Wo,Wo,Uc,zL9 W]
theorem zDR{k:Nat}{e:zf}(P:Zs nx k e):((zU nx k e).map Prod.fst).zip (((zU nx k e).map Prod.fst).drop 1++((zU nx k e).map Prod.fst).take 1)=zU nx k e:=by
 have h:((zU nx k e).map Prod.fst).drop 1++((zU nx k e).map Prod.fst).take 1=(zU nx k e).map Prod.snd:=by
  have b:=P.back;cases k with
 |zero=>exact absurd P.pos (by omega)
 |succ k=>
   rw[zJl,b,zU];rfl
 rw[h,zL9]
theorem zE3:∀ (i j:Nat) (e:zf),zU nx (i+j) e=zU nx i e++zU nx j (yB nx i e)
|0,j,e=>by rw[WA];rfl
|i+1,j,e=>by
  rw[show i+1+j=(i+j)+1 by grind,zU,zU,zE3 i j];rfl
theorem zJm{k i:Nat}{e:zf}(P:Zs nx k e)(hi:i<=k):(zU nx k e).drop i++(zU nx k e).take i=zU nx k (yB nx i e):=by
 have h:zU nx k e=zU nx i e++zU nx (k-i) (yB nx i e):=by rw[<-zE3,show i+(k-i)=k by omega]
 rw[h,List.drop_left' (ZY i e),List.take_left' (ZY i e)];have b:yB nx (k-i) (yB nx i e)=e:=by rw[<-zAs,show k-i+i=k by omega,P.back]
 have h2:zU nx k (yB nx i e)=zU nx (k-i) (yB nx i e)++zU nx i (yB nx (k-i) (yB nx i e)):=by rw[<-zE3,show k-i+i=k by omega]
 rw[h2,b]
theorem Zs.shift{n:Nat}{X Y:Nat->Int}{J:Nat->Nat->Prop}(D:Dr n X Y J nx){k i:Nat}{e:zf}(je:J e.1 e.2)(P:Zs nx k e):Zs nx k (yB nx i e):=by
 refine⟨P.pos,?_,λj hj hk h=>?_⟩
 .rw[<-zAs,Nat.add_comm,zAs,P.back]
 .rw[<-zAs,Nat.add_comm,zAs] at h;exact P.least j hj hk (zE1 D.G D.hnx i (Zu D.hnx j je) je h)
theorem Zo{n:Nat}{X Y:Nat->Int}{J:Nat->Nat->Prop}(D:Dr n X Y J nx){k i:Nat}{e:zf}(je:J e.1 e.2)(P:Zs nx k e)(hi:i<=k)(x:zf):x∈zU nx k (yB nx i e)↔x∈zU nx k e:=by
 rw[<-zJm P hi,Wv,Or.comm,<-Wv,List.take_append_drop]
end
structure zA2(S:Plan)(k:Nat)(e:zf):Prop where
 j:JJ S e.1 e.2
 P:Zs S.next k e
 least:∀ x∈zU S.next k e,e.1<=x.1
theorem zHT:∀ (r:List Nat) (a:Nat),r.foldl min a∈a::r/\∀ w∈a::r,r.foldl min a<=w
|[],a=>⟨by simp,λw hw=>by rw[Wl.mp hw];exact We _⟩
|b::r,a=>by
  rw[Vm];obtain⟨h1,h2⟩:=zHT r (min a b);have hm:min a b=a\/min a b=b:=by lia
  refine⟨?_,λw hw=>?_⟩
  .rcases Wd.mp h1 with e|e
   .rw[e];rcases hm with q|q <;> rw[q] <;> simp
   .simp[e]
  .have hh:=h2 (min a b) (by simp);rcases Wd.mp hw with e|e
   .omega
   .rcases Wd.mp e with e|e
    .omega
    .exact h2 w (by simp[e])
theorem zEU{S:Plan}(O:yC S){k:Nat}{e:zf}(je:JJ S e.1 e.2)(P:Zs S.next k e):∃ i,i<k/\fromLeast ((zU S.next k e).map Prod.fst)=(zU S.next k (yB S.next i e)).map Prod.fst/\zA2 S k (yB S.next i e):=by
 have D:=O.dr;cases hl:(zU S.next k e).map Prod.fst with
|nil=>
  have h:=W1 List.length hl;rw[zX,ZY,VS] at h;have:=P.pos;omega
|cons a r=>
  obtain⟨h1,h2⟩:=zHT r a;have hi:(a::r).idxOf (r.foldl min a)<(a::r).length:=List.idxOf_lt_length_of_mem h1;have hget:(a::r)[(a::r).idxOf (r.foldl min a)]=r.foldl min a:=List.getElem_idxOf hi;have hlen:(a::r).length=k:=by rw[<-hl,zX,ZY]
  have hik:(a::r).idxOf (r.foldl min a)<k:=by rw[<-hlen];exact hi
  have e0:fromLeast (a::r)=(a::r).drop ((a::r).idxOf (r.foldl min a))++(a::r).take ((a::r).idxOf (r.foldl min a)):=rfl;rw[e0];generalize (a::r).idxOf (r.foldl min a)=i at hi hget hik;refine⟨i,hik,?_,Zu D.hnx _ je,P.shift D je,λx hx=>?_⟩
  .rw[<-hl,<-Uo,<-Xh,<-Wq,zJm P (by omega)]
  .rw[Zo D je P (by omega)] at hx;have hx1:x.1∈a::r:=by rw[<-hl];exact Wp.mpr ⟨x,hx,rfl⟩
   have hfst:(yB S.next i e).1=r.foldl min a:=by
    rw[<-hget]
    have:(a::r)[i]?=some (yB S.next i e).1:=by
     rw[<-hl,WQ]
     have:(zU S.next k e)[i]?=some (yB S.next i e):=by
      rw[show k=i+(k-i) by omega,zE3,W5 (by rw[ZY];exact We _),ZY,Xa,show k-i=(k-i-1)+1 by grind,zU];rfl
     rw[this];rfl
    rw[yQ hi] at this;exact (Wu this).symm
   rw[hfst];exact h2 _ hx1
theorem zA2.unique{S:Plan}(O:yC S){k k':Nat}{e e':zf}(F:zA2 S k e)(F':zA2 S k' e'){x:zf}(h:x∈zU S.next k e)(h':x∈zU S.next k' e'):e=e'/\k=k':=by
 have D:=O.dr
 have pk:∀ {k k':Nat}{e:zf},Zs S.next k e->Zs S.next k' e->k=k':=by
  intro k k' e P P';rcases VO k k' with q|q|q
  .exact absurd P.back (P'.least k P.pos q)
  .exact q
  .exact absurd P'.back (P.least k' P'.pos q)
 obtain⟨i,hi,e1⟩:=zo.mp h;obtain⟨i',hi',e1'⟩:=zo.mp h';have Px:Zs S.next k x:=by rw[e1];exact F.P.shift D F.j
 have Px':Zs S.next k' x:=by rw[e1'];exact F'.P.shift D F'.j
 have ek:=pk Px Px';subst ek
 have sets:∀ y,y∈zU S.next k e↔y∈zU S.next k e':=by
  intro y;rw[<-Zo D F.j F.P (i:=i) (by omega),<-e1,<-Zo D F'.j F'.P (i:=i') (by omega),<-e1']
 have m1:e∈zU S.next k e:=zo.mpr ⟨0,F.P.pos,rfl⟩;have m2:e'∈zU S.next k e':=zo.mpr ⟨0,F'.P.pos,rfl⟩;have l1:=F.least _ ((sets _).mpr m2);have l2:=F'.least _ ((sets _).mp m1);obtain⟨j,hj,ej⟩:=zo.mp ((sets _).mpr m2);by_cases j0:j=0
 .subst j0;exact⟨ej.symm,rfl⟩
 .exfalso
  have:=F.P.simple D F.j (j:=j) (by grind) hj;rw[<-ej] at this
  lia
theorem zDq{S:Plan}(O:yC S)(l:List Nat):l∈S.outlines↔∃ k e,zA2 S k e/\l=(zU S.next k e).map Prod.fst/\0<twiceArea S l:=by
 have D:=O.dr;unfold Plan.outlines;rw[V1,List.mem_eraseDups,Wp];constructor
 .rintro⟨⟨e,he,rfl⟩,ha⟩;obtain⟨k,P,hr⟩:=O.round ((zAj O e).mp he);obtain⟨i,hi,h1,h2⟩:=zEU O ((zAj O e).mp he) P;exact⟨k,_,h2,by rw[hr,h1],WG ha⟩
 .rintro⟨k,e,F,hl,ha⟩;refine⟨⟨e,(zAj O e).mpr F.j,?_⟩,WO ha⟩;obtain⟨k',P',hr⟩:=O.round F.j;obtain⟨i,hi,h1,h2⟩:=zEU O F.j P';rw[hr,h1,hl];have m:e∈zU S.next k' (yB S.next i e):=(Zo D F.j P' (by omega) e).mpr (zo.mpr ⟨0,P'.pos,rfl⟩);obtain⟨q1,q2⟩:=F.unique O h2 (zo.mpr ⟨0,F.P.pos,rfl⟩) m;rw[<-q1,<-q2]
theorem zCq{α:Type}[BEq α][LawfulBEq α]:∀ (n:Nat) (l:List α),l.length<=n->l.eraseDups.Nodup
|_,[],_=>by simp
|0,a::l,h=>by simp at h
|n+1,a::l,h=>by
  rw[List.eraseDups_cons,Vu];refine⟨λhm=>?_,zCq n _ ?_⟩
  .rw[List.mem_eraseDups,V1] at hm;simpa using hm.2
  .have:=XJ (λb=>!b==a) l;rw[Wn] at h
   lia
theorem zKo(S:Plan):S.outlines.Nodup:=by
 unfold Plan.outlines;exact UL _ (zCq _ _ (We _))
theorem zNR{S:Plan}{k:Nat}{e:zf}(P:Zs S.next k e):((zU S.next k e).map λe=>cx S e.1*cy S e.2-cx S e.2*cy S e.1).sum=2*((S.w:Int)+1)*twiceArea S ((zU S.next k e).map Prod.fst):=by
 unfold twiceArea;rw[zDR P]
 have h:∀ W:List zf,(W.map λe=>cx S e.1*cy S e.2-cx S e.2*cy S e.1).sum=2*((S.w:Int)+1)*((W.map λ(x:Nat×Nat)=>((S.pt x.1).x:Int)*((S.pt x.2).y:Int)-((S.pt x.2).x:Int)*((S.pt x.1).y:Int)).foldr (λ(a b:Int)=>a+b) 0)+2*((S.w:Int)+1)*(W.map λe=>(yi S e.2-xi S e.2)-(yi S e.1-xi S e.1)).sum:=by
  intro W
  induction W with
 |nil=>simp
 |cons a W ih=>
   rw[Wo,Wo,Wo,Vr,Vr,List.foldr_cons,ih];unfold cx cy xi yi
   grind
 rw[h,zGp (λi=>yi S i-xi S i) k e,P.back];simp
theorem zNS{S:Plan}(O:yC S){v:Nat}(hvn:v<S.pts.length):∃ q,JJ S v q/\∀ w,JJ S v w->¬ ll (cx S) (cy S) v w q:=by
 have D:=O.dr;obtain⟨w,jw⟩:=D.deg v hvn;obtain⟨M,jM,hM,_⟩:=zF9 D.G D.hnx (v:=v) (λ_=>0) (λ_ _=>rfl) _ w (zA1 jw) (U5 _);obtain⟨jq,s|s⟩:=D.hnx M v (zA1 jM)
 .exfalso
  have h1:=(s M jM).mp (.inl rfl);rcases hM _ jq with e|e
  .rw[e] at h1;exact zES v M h1
  .exact zE0 D.G jM jq h1 e
 .exact⟨_,jq,s.2⟩
theorem zA2.area{S:Plan}(O:yC S){k:Nat}{e:zf}(F:zA2 S k e){v q:Nat}(hv:∀ w,w<S.pts.length->cy S w<=cy S v)(jq:JJ S v q)(hq:∀ w,JJ S v w->¬ ll (cx S) (cy S) v w q):0<twiceArea S ((zU S.next k e).map Prod.fst)↔(v,q)∉zU S.next k e:=by
 have W2:0<2*((S.w:Int)+1):=by omega
 rw[<-F.P.area O.dr (K:=((S.w+1)*S.h+S.w)) (B:=S.w+1) (λa ha=>?_) (λa ha=>?_) F.j hv jq hq,zNR F.P]
 .exact (yf W2).1.symm
 .have b:=O.box ha;unfold cy;have:((S.w:Int)+1)*yi S a<=((S.w:Int)+1)*S.h:=VM b.2.2.2 (by omega);have:0<=((S.w:Int)+1)*yi S a:=Vs (by omega) b.2.2.1
  have e1:(((S.w+1)*S.h+S.w:Nat):Int)=((S.w:Int)+1)*S.h+S.w:=by
   rw[Jj,Xg,Jj];rfl
  rw[e1]
  lia
 .have b:=O.box ha;unfold cx;omega
def zx (z:Pt):Int:=(z.x:Int)+1
def zy (S:Plan)(z:Pt):Int:=2*(((S.w:Int)+1)*(z.y:Int)+(S.w:Int)-(z.x:Int))
theorem zO1(S:Plan)(a b:Nat)(z:Pt):Tp (cx S) (cy S) a b (zx z) (zy S z)=2*((S.w:Int)+1)*turn (S.pt a) (S.pt b) z:=by
 unfold Tp cx cy xi yi zx zy turn dx dy
 grind
theorem zAW{S:Plan}(O:yC S){a b:Nat}{z:Pt}(hz:z.x<=S.w)(ha:a<S.pts.length)(hb:b<S.pts.length) :
  (cy S a<zy S z/\zy S z<cy S b/\0<Tp (cx S) (cy S) a b (zx z) (zy S z))↔((S.pt a).y<=z.y/\z.y<(S.pt b).y/\0<turn (S.pt a) (S.pt b) z):=by
 have W2:0<2*((S.w:Int)+1):=by grind
 rw[zO1,(yf W2).1];have ba:=O.box ha;have bb:=O.box hb;have k1:cy S a<zy S z↔(yi S a<z.y\/(yi S a=z.y/\(z.x:Int)<xi S a)):=zGD (S:=S) ⟨ba.1,ba.2.1⟩ ⟨by omega,by omega⟩;have k2:zy S z<cy S b↔((z.y:Int)<yi S b\/((z.y:Int)=yi S b/\xi S b<z.x)):=zGD (S:=S) ⟨by omega,by omega⟩ ⟨bb.1,bb.2.1⟩;rw[k1,k2];have t1:turn (S.pt a) (S.pt b) z=(xi S b-xi S a)*((z.y:Int)-yi S b)-(yi S b-yi S a)*((z.x:Int)-xi S b):=rfl;have t2:turn (S.pt a) (S.pt b) z=(xi S b-xi S a)*((z.y:Int)-yi S a)-(yi S b-yi S a)*((z.x:Int)-xi S a):=by rw[t1];grind
 have ya:yi S a=((S.pt a).y:Int):=rfl;have yb:yi S b=((S.pt b).y:Int):=rfl;constructor
 .rintro⟨h1,h2,h3⟩;refine⟨by omega,?_,h3⟩;rcases h2 with h2|⟨h2,h2'⟩
  .omega
  .exfalso
   rw[t1,h2,Int.sub_self,Vw] at h3;have:0<=(yi S b-yi S a)*((z.x:Int)-xi S b):=Vs (by omega) (by lia);omega
 .rintro⟨h1,h2,h3⟩;refine⟨?_,.inl (by omega),h3⟩;by_cases e:yi S a=z.y
  .refine .inr ⟨e,?_⟩;rw[t2,e,Int.sub_self,Vw] at h3;apply Jp.mp;intro hn;have:0<=(yi S b-(z.y:Int))*((z.x:Int)-xi S a):=Vs (by omega) (by lia);omega
  .exact .inl (by lia)
def cr (S:Plan)(z:Pt)(a b:Nat):Int:=ind (cy S a<zy S z/\zy S z<cy S b/\0<Tp (cx S) (cy S) a b (zx z) (zy S z))-ind (cy S b<zy S z/\zy S z<cy S a/\0<Tp (cx S) (cy S) b a (zx z) (zy S z))
theorem zJn(S:Plan)(z:Pt)(a b:Nat):cr S z b a = - cr S z a b:=by unfold cr;omega
theorem zJo{S:Plan}(O:yC S)(z:Pt)(W:List zf)(hJ:∀ e∈W,JJ S e.1 e.2)(C:Zr S.pts.length (JJ S) (dW W)):base S.pts.length (cx S) (cy S) (dW W) (zx z) (zy S z)=(W.map λe=>cr S z e.1 e.2).sum:=by
 rw[zGq O.good (zJn S z) W hJ];unfold base;refine zAr C λa b j h=>?_
 unfold cr;rw[zM (p:=cy S b<zy S z/\_) (by omega)];omega
def zIT (S:Plan)(z:Pt)(x:Nat×Nat):Bool:=
 let p:=S.pt x.1
 let q:=S.pt x.2
 (decide (p.y<=z.y)&&(decide (z.y<q.y)&&decide (0<turn p q z)))||(decide (q.y<=z.y)&&(decide (z.y<p.y)&&decide (turn p q z<0)))
theorem zQy{S:Plan}(O:yC S){z:Pt}(hz:z.x<=S.w){e:zf}(j:JJ S e.1 e.2):(zIT S z e=true/\(cr S z e.1 e.2=1\/cr S z e.1 e.2 = -1))\/(zIT S z e=false/\cr S z e.1 e.2=0):=by
 have l:=O.jlt j;have h1:=zAW O hz l.1 l.2.1;have h2:=zAW O hz l.2.1 l.1;have sw:=ZQ (S.pt e.1) (S.pt e.2) z;unfold cr zIT;dsimp only;rw[zb h1,zb h2,sw];by_cases c1:(S.pt e.1).y<=z.y/\z.y<(S.pt e.2).y/\0<turn (S.pt e.1) (S.pt e.2) z
 .left
  rw[z9 c1,zM (by omega)];exact⟨by simp[c1.1,c1.2.1,c1.2.2],.inl rfl⟩
 .by_cases c2:(S.pt e.2).y<=z.y/\z.y<(S.pt e.1).y/\0 < - turn (S.pt e.1) (S.pt e.2) z
  .left
   rw[zM c1,z9 c2];refine⟨?_,.inr rfl⟩;rw[Vc]
   right
   simp only[y9,yr];omega
  .right
   rw[zM c1,zM c2];refine⟨?_,rfl⟩;rw[Bool.eq_false_iff];intro h;simp only[Vc,y9,yr] at h;omega
theorem zJp{S:Plan}(O:yC S){z:Pt}(hz:z.x<=S.w):∀ (W:List zf),(∀ e∈W,JJ S e.1 e.2)->(W.map λe=>cr S z e.1 e.2).sum%2=(((W.filter (zIT S z)).length:Nat):Int)%2
|[],_=>rfl
|e::W,h=>by
  have ih:=zJp O hz W λx hx=>h x (by simp[hx])
  rw[Wo,Vr,Ja];rcases zQy O hz (h e (by simp)) with ⟨a,b⟩|⟨a,b⟩
  .rw[a,Wc rfl,Wn]
   grind
  .rw[a,Wb (by decide),b]
   grind
theorem zGF{S:Plan}(O:yC S){z:Pt}(hz:z.x<=S.w){k:Nat}{e:zf}(F:zA2 S k e):insideOf S ((zU S.next k e).map Prod.fst) z=true↔base S.pts.length (cx S) (cy S) (dW (zU S.next k e)) (zx z) (zy S z)%2=1:=by
 have D:=O.dr
 have hJ:∀ x∈zU S.next k e,JJ S x.1 x.2:=λx hx=>by
  obtain⟨i,_,rfl⟩:=zo.mp hx;exact Zu D.hnx i F.j
 rw[zJo O z _ hJ (F.P.cyc D F.j),zJp O hz _ hJ];unfold insideOf;rw[zDR F.P,yr]
 have:((zU S.next k e).filter λ(x:Nat×Nat)=>
  let p:=S.pt x.1
  let q:=S.pt x.2
  (decide (p.y<=z.y)&&(decide (z.y<q.y)&&decide (0<turn p q z)))||(decide (q.y<=z.y)&&(decide (z.y<p.y)&&decide (turn p q z<0))))=(zU S.next k e).filter (zIT S z):=rfl
 rw[this];omega
theorem lvl{S:Plan}(O:yC S){z:Pt}(hz:z.x<=S.w)(hl:onLines S z=false):∀ p,p<S.pts.length->cy S p≠zy S z:=by
 intro p hp h;have bp:=O.box hp;have k1:cy S p<zy S z↔(yi S p<z.y\/(yi S p=z.y/\(z.x:Int)<xi S p)):=zGD (S:=S) ⟨bp.1,bp.2.1⟩ ⟨by omega,by omega⟩;have k2:zy S z<cy S p↔((z.y:Int)<yi S p\/((z.y:Int)=yi S p/\xi S p<z.x)):=zGD (S:=S) ⟨by omega,by omega⟩ ⟨bp.1,bp.2.1⟩;have ex:xi S p=((S.pt p).x:Int):=rfl;have ey:yi S p=((S.pt p).y:Int):=rfl;have e1:(S.pt p).x=z.x:=by grind
 have e2:(S.pt p).y=z.y:=by grind
 have ez:S.pt p=z:=by
  cases hq:S.pt p;cases z;rw[hq] at e1 e2;simp only at e1 e2;rw[e1,e2]
 obtain⟨w,jw⟩:=O.dr.deg p hp
 have on1:∀ u v:Pt,isOn u v u=true/\isOn u v v=true:=by
  intro u v;unfold isOn between turn dx dy;simp only[y9,yr,Vj];refine⟨⟨by grind,?_⟩,⟨by grind,?_⟩⟩ <;> grind
 have:onLines S z=true:=by
  unfold onLines;rw[Vn];rcases zAV.mp jw with ⟨_,h⟩|⟨_,h⟩
  .exact⟨_,h,by dsimp only;rw[<-ez];exact (on1 _ _).2⟩
  .exact⟨_,h,by dsimp only;rw[<-ez];exact (on1 _ _).1⟩
 rw[this] at hl;cases hl
theorem zGG{S:Plan}(O:yC S){z:Pt}(hz:z.x<=S.w)(hl:onLines S z=false){v:Nat}(hvn:v<S.pts.length)(hv:∀ w,w<S.pts.length->cy S w<=cy S v){d:Nat->Nat->Int}(C:Zr S.pts.length (JJ S) d)(hd:base S.pts.length (cx S) (cy S) d (zx z) (zy S z)≠0) :
  ∃ l∈S.outlines,insideOf S l z=true/\∀ l'∈S.outlines,insideOf S l' z=true->l'=l:=by
 have D:=O.dr;obtain⟨q,jq,hq⟩:=zNS O hvn;rcases near O.good (px:=zx z) (lvl O hz hl) with h|⟨a,b,j,_,_,_,h⟩
 .exact absurd (h d C) hd
 ·
  obtain⟨k0,P0,_⟩:=O.round (e:=(a,b)) j;obtain⟨i,hi,_,F⟩:=zEU O (e:=(a,b)) j P0;have mab:(a,b)∈zU S.next k0 (yB S.next i (a,b)):=(Zo D (e:=(a,b)) j P0 (by lia) _).mpr (zo.mpr ⟨0,P0.pos,rfl⟩);generalize yB S.next i (a,b)=e at F mab
  have val:∀ k' e',zA2 S k' e'->base S.pts.length (cx S) (cy S) (dW (zU S.next k' e')) (zx z) (zy S z)=ind ((a,b)∈zU S.next k' e')-ind ((v,q)∈zU S.next k' e'):=by
   intro k' e' F';rw[h _ (F'.P.cyc D F'.j),F'.P.left D F'.j hv jq hq j]
  have hno:(v,q)∉zU S.next k0 e:=by
   intro hm
   have hc:∀ x∈zU S.next k0 e,Yw S.pts.length (cx S) (cy S) d x.1 x.2=Yw S.pts.length (cx S) (cy S) d e.1 e.2:=by
    intro x hx;obtain⟨i,_,rfl⟩:=zo.mp hx
    have all:∀ i,Yw S.pts.length (cx S) (cy S) d (yB S.next i e).1 (yB S.next i e).2=Yw S.pts.length (cx S) (cy S) d e.1 e.2:=by
     intro i
     induction i with
    |zero=>rfl
    |succ i ih=>
      rw[ZX,<-ih];exact (C.corner O.good (D.hnx _ _ (Zu D.hnx i F.j))).symm
    exact all i
   have h1:=hc _ mab;have h2:=hc _ hm;have h3:=C.outer O.good hv jq hq;have h4:=h d C;dsimp only at h1 h2
   grind
  refine⟨(zU S.next k0 e).map Prod.fst,(zDq O _).mpr ⟨k0,e,F,rfl,(F.area O hv jq hq).mpr hno⟩,?_,λl' hl' hin=>?_⟩
  .rw[zGF O hz F,val _ _ F,z9 mab,zM hno];rfl
  .obtain⟨k',e',F',rfl,ha⟩:=(zDq O l').mp hl';rw[F'.area O hv jq hq] at ha;rw[zGF O hz F',val _ _ F',zM ha] at hin
   have hm:(a,b)∈zU S.next k' e':=by
    apply Wa;intro hn;rw[zM hn] at hin
    grind
   obtain⟨q1,q2⟩:=F'.unique O F hm mab;rw[q1,q2]
def cp (l:List Nat):List zf:=l.zip (l.drop 1)
theorem zO2(a b:Nat)(r:List Nat):cp (a::b::r)=(a,b)::cp (b::r):=rfl
theorem zEV(g:Nat->Int):∀ (l:List Nat) (c c':Nat),l.Pairwise (· < ·)->c∈l->c'∈l->(∀ i∈l,c<=i)->(∀ i∈l,i<=c')->((cp l).map λe=>g e.2-g e.1).sum=g c'-g c
|[],c,_,_,h,_,_,_=>by cases h
|[a],c,c',_,h,h',_,_=>by
  rw[Wl.mp h,Wl.mp h'];simp[cp]
|a::b::r,c,c',hp,h,h',h1,h2=>by
  rw[Vy] at hp
  have ca:c=a:=by
   have k1:=h1 a (by simp);rcases Wd.mp h with e|e
   .exact e
   .have:=hp.1 c e;omega
  have hb:∀ i∈b::r,b<=i:=by
   intro i hi;rcases Wd.mp hi with e|e
   .omega
   .have:=(Vy.mp hp.2).1 i e;omega
  have hc':c'∈b::r:=by
   rcases Wd.mp h' with e|e
   .have k1:=h2 b (by simp);have k2:=hp.1 b (by simp);omega
   .exact e
  rw[zO2,Wo,Vr,zEV g (b::r) b c' hp.2 (by simp) hc' hb (λi hi=>h2 i (by simp[hi])),ca];dsimp only
  grind
theorem Zp{S:Plan}{on:Pt->Bool}{i:Nat}:i∈edgePts S on↔i<S.pts.length/\on (S.pt i)=true:=by
 unfold edgePts;rw[V1,VD]
theorem zBb(S:Plan)(on:Pt->Bool):(edgePts S on).Pairwise (· < ·):=by
 unfold edgePts;exact UL _ XD
theorem zGH{l:List Nat}{e:zf}(h:e∈cp l):e.1∈l/\e.2∈l:=by
 unfold cp at h;have:=X8 (a:=e.1) (b:=e.2) h;exact⟨this.1,List.mem_of_mem_drop this.2⟩
theorem zKp{S:Plan}{l:List Nat}(h:chained S l=true){e:zf}(he:e∈cp l):JJ S e.1 e.2:=by
 unfold chained at h;have:=WW.mp h e he;unfold Plan.joined at this;unfold JJ;exact V0.mp this
theorem zCr{S:Plan}{p:Pt}(h:S.pts.contains p=true):∃ i,i<S.pts.length/\S.pt i=p:=by
 have hm:=V0.mp h;obtain⟨i,hi⟩:=VZ.mp hm;exact⟨i,(yG hi).1,zGC hi⟩
theorem zFZ(h:Nat->Nat->Int)(anti:∀ a b,h b a = - h a b):∀ W:List zf,((W.map λe=>(e.2,e.1)).map λe=>h e.1 e.2).sum = - (W.map λe=>h e.1 e.2).sum
|[]=>rfl
|e::W=>by
  rw[Wo,Wo,Wo,Vr,Vr,zFZ h anti W];dsimp only;rw[anti e.1 e.2]
  grind
theorem zGI(x:Nat):∀ W:List zf,((W.countP (λe=>e.2==x):Nat):Int)-((W.countP (λe=>e.1==x):Nat):Int)=(W.map λe=>ind (e.2=x)-ind (e.1=x)).sum
|[]=>rfl
|e::W=>by
  have ih:=zGI x W;rw[XS,XS,Wo,Vr,<-ih]
  have:∀ y:Nat,((if (y==x)=true then 1 else 0:Nat):Int)=ind (y=x):=by
   intro y;unfold ind;by_cases h:y=x
   .rw[Wc h,Wc (by simpa using h)];rfl
   .rw[Wb h,Wb (by simpa using h)];rfl
  have h1:=this e.2;have h2:=this e.1;omega
theorem zCs{S:Plan}{a b:Nat}{z:Pt}(h:xi S a=xi S b):turn (S.pt a) (S.pt b) z=(yi S b-yi S a)*(xi S b-(z.x:Int)):=by
 have t1:turn (S.pt a) (S.pt b) z=(xi S b-xi S a)*((z.y:Int)-yi S b)-(yi S b-yi S a)*((z.x:Int)-xi S b):=rfl;rw[t1,h]
 grind
theorem ndB{a b y:Nat}{T:Prop}(h:(b:Int)=0):¬ (a<=y/\y<b/\T):=λk=>by have:=k.2.1;omega
theorem ndT{a b y H:Nat}{T:Prop}(h:(a:Int)=H)(k:y<H):¬ (a<=y/\y<b/\T):=λq=>by have:=q.1;omega
theorem ndL{a b y x:Nat}(h:0<x):¬ (a<=y/\y<b/\0<((b:Int)-a)*(0-(x:Int))):=λ⟨p,q,r⟩=>by
 have:=(yf (b:=0-(x:Int)) (show 0<(b:Int)-a by omega)).1.mp r;omega
theorem ndP{P Q:Prop}[Decidable P][Decidable Q]:ind (¬ P/\Q)-ind (¬ Q/\P)=ind Q-ind P:=by unfold ind;by_cases p:P <;> by_cases q:Q <;> simp[p,q]
theorem crR{a b y x w:Nat}(h:x<w):ind (a<=y/\y<b/\0<((b:Int)-a)*((w:Int)-x))-ind (b<=y/\y<a/\0<((a:Int)-b)*((w:Int)-x))=ind ((y:Int)<b)-ind ((y:Int)<a):=by
 have m:∀ {a b:Nat},a<=y->y<b->0<((b:Int)-a)*((w:Int)-x):=λp q=>V3 (by omega) (by omega)
 have n:∀ {a b:Nat},ind (a<=y/\y<b/\0<((b:Int)-a)*((w:Int)-x))=ind (¬ (y:Int)<a/\(y:Int)<b):=zb ⟨λk=>⟨by omega,by omega⟩,λk=>⟨by omega,by omega,m (by omega) (by omega)⟩⟩;rw[n,n,ndP]
theorem fxC{p q:Nat}{A B C E:Int}(k:(p:Int)-q=B-A+(E-B+(-(E-C) + -(C-A)))):p=q:=by grind
theorem zNT{S:Plan}(O:yC S){z:Pt}(h1:0<z.x)(h2:z.x<S.w)(h3:0<z.y)(h4:z.y<S.h) :
  ∃ v,v<S.pts.length/\(∀ w,w<S.pts.length->cy S w<=cy S v)/\∃ d,Zr S.pts.length (JJ S) d/\base S.pts.length (cx S) (cy S) d (zx z) (zy S z)≠0:=by
 have f:=O.r6;unfold frameOk at f;simp only[y9] at f;obtain⟨f1,f2,f3,f4,f5,f6,f7,f8⟩:=f;obtain⟨a,la,pa⟩:=zCr f1;obtain⟨b,lb,pb⟩:=zCr f2;obtain⟨c,lc,pc⟩:=zCr f3;obtain⟨e,le,pe⟩:=zCr f4;have X:∀ i,xi S i=((S.pt i).x:Int):=λ_=>rfl
 have Y:∀ i,yi S i=((S.pt i).y:Int):=λ_=>rfl
 have xa:xi S a=0:=by rw[X,pa];rfl
 have ya:yi S a=0:=by rw[Y,pa];rfl
 have xb:xi S b=S.w:=by rw[X,pb]
 have yb:yi S b=0:=by rw[Y,pb];rfl
 have xc:xi S c=0:=by rw[X,pc];rfl
 have yc:yi S c=S.h:=by rw[Y,pc]
 have xe:xi S e=S.w:=by rw[X,pe]
 have ye:yi S e=S.h:=by rw[Y,pe]
 have hB:∀ i∈edgePts S (λp=>p.y==0),i<S.pts.length/\yi S i=0:=λi hi=>by
  have:=Zp.mp hi;refine⟨this.1,?_⟩;have e2:(S.pt i).y=0:=by simpa using this.2
  rw[Y,e2];rfl
 have hT:∀ i∈edgePts S (λp=>p.y==S.h),i<S.pts.length/\yi S i=S.h:=λi hi=>by
  have:=Zp.mp hi;refine⟨this.1,?_⟩;have e2:(S.pt i).y=S.h:=by simpa using this.2
  rw[Y,e2]
 have hL:∀ i∈edgePts S (λp=>p.x==0),i<S.pts.length/\xi S i=0:=λi hi=>by
  have:=Zp.mp hi;refine⟨this.1,?_⟩;have e2:(S.pt i).x=0:=by simpa using this.2
  rw[X,e2];rfl
 have hR:∀ i∈edgePts S (λp=>p.x==S.w),i<S.pts.length/\xi S i=S.w:=λi hi=>by
  have:=Zp.mp hi;refine⟨this.1,?_⟩;have e2:(S.pt i).x=S.w:=by simpa using this.2
  rw[X,e2]
 have ord:∀ {i j:Nat},i<S.pts.length->yi S i<=yi S j->xi S i<=xi S j->i<=j:=λhi h k=>Ur λhji=>(O.lt hji hi).elim (Vz.mpr h) λq=>Vz.mpr k q.2
 have lo:∀ i,i<S.pts.length->a<=i:=λi hi=>ord la (by rw[ya];exact (O.box hi).2.2.1) (by rw[xa];exact (O.box hi).1)
 have up:∀ i,i<S.pts.length->i<=e:=λi hi=>ord hi (by rw[ye];exact (O.box hi).2.2.2) (by rw[xe];exact (O.box hi).2.1)
 have telB:∀ g:Nat->Int,((cp (edgePts S λp=>p.y==0)).map λe=>g e.2-g e.1).sum=g b-g a:=λg=>
  zEV g _ a b (zBb S _) (Zp.mpr ⟨la,by simp[pa]⟩) (Zp.mpr ⟨lb,by simp[pb]⟩) (λi hi=>lo i (hB i hi).1) λi hi=>ord (hB i hi).1 (Int.le_of_eq ((hB i hi).2.trans yb.symm)) (by rw[xb];exact (O.box (hB i hi).1).2.1)
 have telT:∀ g:Nat->Int,((cp (edgePts S λp=>p.y==S.h)).map λe=>g e.2-g e.1).sum=g e-g c:=λg=>
  zEV g _ c e (zBb S _) (Zp.mpr ⟨lc,by simp[pc]⟩) (Zp.mpr ⟨le,by simp[pe]⟩) (λi hi=>ord lc (Int.le_of_eq (yc.trans (hT i hi).2.symm)) (by rw[xc];exact (O.box (hT i hi).1).1)) λi hi=>up i (hT i hi).1
 have telL:∀ g:Nat->Int,((cp (edgePts S λp=>p.x==0)).map λe=>g e.2-g e.1).sum=g c-g a:=λg=>
  zEV g _ a c (zBb S _) (Zp.mpr ⟨la,by simp[pa]⟩) (Zp.mpr ⟨lc,by simp[pc]⟩) (λi hi=>lo i (hL i hi).1) λi hi=>ord (hL i hi).1 (by rw[yc];exact (O.box (hL i hi).1).2.2.2) (Int.le_of_eq ((hL i hi).2.trans xc.symm))
 have telR:∀ g:Nat->Int,((cp (edgePts S λp=>p.x==S.w)).map λe=>g e.2-g e.1).sum=g e-g b:=λg=>
  zEV g _ b e (zBb S _) (Zp.mpr ⟨lb,by simp[pb]⟩) (Zp.mpr ⟨le,by simp[pe]⟩) (λi hi=>ord lb (by rw[yb];exact (O.box (hR i hi).1).2.2.1) (Int.le_of_eq (xb.trans (hR i hi).2.symm))) λi hi=>up i (hR i hi).1
 refine⟨c,lc,λw hw=>Vz.mp λh=>((O.cylt lc hw).mp h).elim (λh=>Vz.mpr (O.box hw).2.2.2 (yc ▸ h)) λh=>Vz.mpr (O.box hw).1 (xc ▸ h.2),?_⟩
 .let W:List zf:=cp (edgePts S λp=>p.y==0)++(cp (edgePts S λp=>p.x==S.w)++(((cp (edgePts S λp=>p.y==S.h)).map λe=>(e.2,e.1))++((cp (edgePts S λp=>p.x==0)).map λe=>(e.2,e.1))))
  have hJ:∀ x∈W,JJ S x.1 x.2:=by
   intro x hx;rcases Wv.mp hx with h|h
   .exact zKp f5 h
   .rcases Wv.mp h with h|h
    .exact zKp f8 h
    .rcases Wv.mp h with h|h
     .obtain⟨y,hy,rfl⟩:=Wp.mp h;exact zA1 (zKp f6 hy)
     .obtain⟨y,hy,rfl⟩:=Wp.mp h;exact zA1 (zKp f7 hy)
  have sumW:∀ h:Nat->Nat->Int,(∀ a b,h b a = - h a b)->(W.map λe=>h e.1 e.2).sum=((cp (edgePts S λp=>p.y==0)).map λe=>h e.1 e.2).sum+(((cp (edgePts S λp=>p.x==S.w)).map λe=>h e.1 e.2).sum+(- ((cp (edgePts S λp=>p.y==S.h)).map λe=>h e.1 e.2).sum + - ((cp (edgePts S λp=>p.x==0)).map λe=>h e.1 e.2).sum)):=by
   intro h anti;show (List.map _ (_++(_++(_++_)))).sum=_;rw[Wq,Wq,Wq,Jg,Jg,Jg,zFZ h anti,zFZ h anti]
  have C:Zr S.pts.length (JJ S) (dW W):=by
   refine zL6 O.good hJ λx=>?_
   have k:=zGI x W;have k2:=sumW (λa b=>ind (b=x)-ind (a=x)) (λa b=>(Int.neg_sub _ _).symm);rw[telB (λi=>ind (i=x)),telR (λi=>ind (i=x)),telT (λi=>ind (i=x)),telL (λi=>ind (i=x))] at k2;exact fxC (k.trans k2)
  refine⟨dW W,C,?_⟩;rw[zJo O z W hJ C,sumW (cr S z) (zJn S z)];have hz:z.x<=S.w:=Vi h2
  have zero:∀ l:List zf,(∀ x∈l,cr S z x.1 x.2=0)->(l.map λe=>cr S z e.1 e.2).sum=0:=by
   intro l
   induction l with
  |nil=>intro _;rfl
  |cons x l ih=>
    intro h;rw[Wo,Vr,ih λy hy=>h y (by simp[hy]),h x (by simp)];rfl
  have z1:((cp (edgePts S λp=>p.y==0)).map λe=>cr S z e.1 e.2).sum=0:=by
   refine zero _ λx hx=>?_
   have m:=zGH hx;have k1:=hB _ m.1;have k2:=hB _ m.2;unfold cr;rw[zb (zAW O hz k1.1 k2.1),zb (zAW O hz k2.1 k1.1),zM (ndB k2.2),zM (ndB k1.2)];rfl
  have z2:((cp (edgePts S λp=>p.y==S.h)).map λe=>cr S z e.1 e.2).sum=0:=by
   refine zero _ λx hx=>?_
   have m:=zGH hx;have k1:=hT _ m.1;have k2:=hT _ m.2;unfold cr;rw[zb (zAW O hz k1.1 k2.1),zb (zAW O hz k2.1 k1.1),zM (ndT k1.2 h4),zM (ndT k2.2 h4)];rfl
  have z3:((cp (edgePts S λp=>p.x==0)).map λe=>cr S z e.1 e.2).sum=0:=by
   refine zero _ λx hx=>?_
   have m:=zGH hx;have k1:=hL _ m.1;have k2:=hL _ m.2;unfold cr;rw[zb (zAW O hz k1.1 k2.1),zb (zAW O hz k2.1 k1.1),zCs (by rw[k1.2,k2.2]),zCs (by rw[k1.2,k2.2]),k1.2,k2.2];rw[Y x.1,Y x.2,zM (ndL h1),zM (ndL h1)];rfl
  have z4:((cp (edgePts S λp=>p.x==S.w)).map λe=>cr S z e.1 e.2).sum=1:=by
   have:((cp (edgePts S λp=>p.x==S.w)).map λe=>cr S z e.1 e.2)=(cp (edgePts S λp=>p.x==S.w)).map λe=>ind ((z.y:Int)<yi S e.2)-ind ((z.y:Int)<yi S e.1):=by
    refine X9 λx hx=>?_
    have m:=zGH hx;have k1:=hR _ m.1;have k2:=hR _ m.2;unfold cr;rw[zb (zAW O hz k1.1 k2.1),zb (zAW O hz k2.1 k1.1),zCs (by rw[k1.2,k2.2]),zCs (by rw[k1.2,k2.2]),k1.2,k2.2];exact crR h2
   rw[this,telR (λi=>ind ((z.y:Int)<yi S i)),z9 (by rw[ye];exact Int.ofNat_lt.mpr h4),zM (by rw[yb];exact Vz.mpr (Xc _))];rfl
  rw[z1,z2,z3,z4];decide
theorem zKq{S:Plan}(O:yC S){z:Pt}(hc:clear S z=true):∃ l∈S.outlines,insideOf S l z=true/\∀ l'∈S.outlines,insideOf S l' z=true->l'=l:=by
 unfold clear at hc;simp only[y9,yr,WE] at hc;obtain⟨v,hvn,hv,d,C,hd⟩:=zNT O hc.1 hc.2.1 hc.2.2.1 hc.2.2.2.1;exact zGG O (by lia) hc.2.2.2.2 hvn hv C hd
def zAE (b h p o:Pt):Bool:=if (decide (0<turn b h p) != decide (0<turn b h o))=true then decide (0<turn b h p) else decide (turn h p o<0)
theorem g0{p q:Prop}{A:Int}(n:((p/\¬ q)\/((p↔q)/\A<0))\/((q/\¬ p)\/((q↔p)/\-A<0)))(h:A=0)(k:p↔q):False:=by
 rcases n with (⟨a,b⟩|⟨_,b⟩)|(⟨a,b⟩|⟨_,b⟩)
 .exact b (k.mp a)
 .rw[h] at b;exact Int.lt_irrefl _ b
 .exact b (k.mpr a)
 .rw[h] at b;exact Int.lt_irrefl _ b
theorem fsA{p q:Prop}[Decidable p][Decidable q]{B C:Int}(h:(p↔q)->False)(z1:0<(if q then B else -B)->0<(if p then C else -C))(z2:(if q then B else -B)<0->(if p then C else -C)<0):(0<B->C<0)/\(B<0->0<C):=by
 by_cases hp:p
 .have hq:¬ q:=λk=>h ⟨λ_=>k,λ_=>hp⟩
  rw[Wb hq,Wc hp] at z1 z2;exact⟨λk=>z2 (Int.neg_neg_of_pos k),λk=>z1 (Int.neg_pos_of_neg k)⟩
 .have hq:q:=Wa λk=>h ⟨λz=>absurd z hp,λz=>absurd z k⟩
  rw[Wc hq,Wb hp] at z1 z2;exact⟨λk=>Int.neg_of_neg_pos (z1 k),λk=>Int.pos_of_neg_neg (z2 k)⟩
theorem fsB{p q:Prop}[Decidable p][Decidable q]{B C:Int}(h:(p↔q)->False)(z1:(if q then B else -B)<0->0<(if p then C else -C))(z2:0<(if q then B else -B)->(if p then C else -C)<0):(0<B->0<C)/\(B<0->C<0):=by
 by_cases hp:p
 .have hq:¬ q:=λk=>h ⟨λ_=>k,λ_=>hp⟩
  rw[Wb hq,Wc hp] at z1 z2;exact⟨λk=>z1 (Int.neg_neg_of_pos k),λk=>z2 (Int.neg_pos_of_neg k)⟩
 .have hq:q:=Wa λk=>h ⟨λz=>absurd z hp,λz=>absurd z k⟩
  rw[Wc hq,Wb hp] at z1 z2;exact⟨λk=>Int.pos_of_neg_neg (z2 k),λk=>Int.neg_of_neg_pos (z1 k)⟩
theorem fsC{p:Prop}[Decidable p]{C:Int}(h:(if p then C else -C)=0):C=0:=by
 split at h <;> omega
theorem zSH{p q r:Prop}(h1:(p↔q)->False)(h2:(p↔r)->False):q↔r:=by
 by_cases hp:p <;> by_cases hq:q <;> by_cases hr:r <;> simp_all
theorem zMA{S:Plan}(O:yC S){v p a b:Nat}(jp:JJ S v p)(ja:JJ S v a)(jb:JJ S v b)(hap:a≠p)(hbp:b≠p)(hab:a≠b) :
  zAE (S.pt p) (S.pt v) (S.pt a) (S.pt b)=true↔YV S v p a<YV S v p b:=by
 rw[<-zIR O jp ja jb];have G:=O.good;have W2:0<2*((S.w:Int)+1):=by omega
 have e:(dir S v a).1*(dir S v b).2-(dir S v a).2*(dir S v b).1=turn (S.pt v) (S.pt a) (S.pt b):=by unfold dir turn dx dy;grind
 have m:=yf (b:=turn (S.pt v) (S.pt a) (S.pt b)) W2;have m1:=yf (b:=turn (S.pt v) (S.pt p) (S.pt a)) W2;have m2:=yf (b:=turn (S.pt v) (S.pt p) (S.pt b)) W2;rw[<-zBr] at m m1 m2;have t1:turn (S.pt p) (S.pt v) (S.pt a) = - turn (S.pt v) (S.pt p) (S.pt a):=ZQ _ _ _;have t2:turn (S.pt p) (S.pt v) (S.pt b) = - turn (S.pt v) (S.pt p) (S.pt b):=ZQ _ _ _;unfold sooner zAE;rw[zDP O jp ja hap,zDP O jp jb hbp,e,t1,t2];have id:(cy S p-cy S v)*T (cx S) (cy S) v a b=(cy S a-cy S v)*T (cx S) (cy S) v p b-(cy S b-cy S v)*T (cx S) (cy S) v p a:=by unfold T;grind
 have n1:=Ye G jp ja (λh=>hap h.symm);have n2:=Ye G jp jb (λh=>hbp h.symm);have n3:=Ye G ja jb hab;have w1:=Yd (X:=cx S) (Y:=cy S) v p a;have w2:=Yd (X:=cx S) (Y:=cy S) v p b;have w3:=Yd (X:=cx S) (Y:=cy S) v a b;have yp:=G.yne jp;have ya:=G.yne ja;have yb:=G.yne jb;unfold ll at n1 n2 n3;rw[w1] at n1;rw[w2] at n2;rw[w3] at n3;generalize T (cx S) (cy S) v p a=A at *
 generalize T (cx S) (cy S) v p b=B at *
 generalize T (cx S) (cy S) v a b=C at *
 generalize turn (S.pt v) (S.pt p) (S.pt a)=A' at *
 generalize turn (S.pt v) (S.pt p) (S.pt b)=B' at *
 generalize turn (S.pt v) (S.pt a) (S.pt b)=C' at *
 generalize cy S v=V at *
 generalize cy S p=P at *
 generalize cy S a=Q at *
 generalize cy S b=R at *
 clear e w1 w2 w3 t1 t2;have z:=zQx (zDQ (C:=A) yb) (zDQ (C:=B) ya) (zDQ (C:=C) yp) id
 obtain⟨f1,f2,f3,f4,f5⟩:(A=0->0<B->C<0)/\(A=0->B<0->0<C)/\(B=0->0<A->0<C)/\(B=0->A<0->C<0)/\¬ (A=0/\B=0):=by
  obtain⟨z1,z2,z3,z4,z5⟩:=z;have a0:A=0->(if V<R then A else -A)=0:=λh=>by rw[h];split <;> rfl
  have b0:B=0->(if V<Q then B else -B)=0:=λh=>by rw[h];split <;> rfl
  have fa:=λh:A=0=>fsA (g0 n1 h) (λk=>z1 k (Int.le_of_eq (a0 h))) (λk=>z3 k (Int.le_of_eq (a0 h).symm))
  have fb:=λh:B=0=>fsB (g0 n2 h) (λk=>z2 (Int.le_of_eq (b0 h).symm) k) (λk=>z4 (Int.le_of_eq (b0 h)) k)
  refine⟨λh=>(fa h).1,λh=>(fa h).2,λh=>(fb h).1,λh=>(fb h).2,λh=>?_⟩;have c0:C=0:=fsC (z5 (a0 h.1) (b0 h.2));have k1:=g0 n1 h.1;have k2:=g0 n2 h.2;exact g0 n3 c0 (zSH k1 k2)
 clear z id n1 n2 n3 yp ya yb;have c1:(C'<0↔C<0):=m.2.1.symm;have c2:(0 < -A'↔A<0):=by clear m m2 f1 f2 f3 f4 f5;lia
 have c3:(0 < -B'↔B<0):=by clear m m1 f1 f2 f3 f4 f5;lia
 clear m m1 m2;simp only[c1,c2,c3];rcases W4 A 0 with hA|hA|hA <;> rcases W4 B 0 with hB|hB|hB
 .simp[hA,hB]
 .have:=f4 hB hA;simp[hA,hB]
 .simp[hA,hB,show ¬ B<0 by omega]
 .have:=f2 hA hB;simp[hA,hB]
 .exact absurd ⟨hA,hB⟩ f5
 .have:=f1 hA hB;simp[hA,hB,show ¬ B<0 by omega,this]
 .simp[hA,hB,show ¬ A<0 by omega]
 .have:=f3 hB hA;simp[hA,hB,show ¬ A<0 by omega,show ¬ C<0 by omega]
 .simp[hA,hB,show ¬ A<0 by omega,show ¬ B<0 by omega]
def ZN (S:Plan)(p v:Nat)(f:Option Nat)(w:Nat):Option Nat:=if w=p then f else match f with
|none=>some w
|some g=>if zAE (S.pt p) (S.pt v) (S.pt w) (S.pt g)=true then some w else some g
theorem zO3{S:Plan}(O:yC S){v p a b:Nat}(jp:JJ S v p)(ja:JJ S v a)(jb:JJ S v b)(h:YV S v p a=YV S v p b):a=b:=by
 apply Wa;intro hab;have G:=O.good;have bd:∀ w,0<=rk S.pts.length (cx S) (cy S) (JJ S) v w/\rk S.pts.length (cx S) (cy S) (JJ S) v w<=S.pts.length:=λw=>⟨zHu,zF8⟩
 have ba:=bd a;have bb:=bd b
 have n1:rk S.pts.length (cx S) (cy S) (JJ S) v a≠rk S.pts.length (cx S) (cy S) (JJ S) v b:=by
  rcases Ye G ja jb hab with k|k
  .have:=Y6 G ja jb k;omega
  .have:=Y6 G jb ja k;omega
 unfold YV at h;split at h
 .rw[Wb (by grind)] at h;split at h <;> omega
 .split at h
  .split at h
   .omega
   .split at h <;> omega
  .split at h
   .omega
   .split at h <;> omega
theorem zJq{S:Plan}(O:yC S){p v:Nat}(jp:JJ S v p):∀ (l:List Nat),(∀ w∈l,JJ S v w)->∀ (f:Option Nat),(∀ g,f=some g->JJ S v g/\g≠p)->
  (∀ g,l.foldl (ZN S p v) f=some g->(JJ S v g/\g≠p)/\(∀ g',f=some g'->YV S v p g<=YV S v p g')/\∀ w∈l,w≠p->YV S v p g<=YV S v p w)/\(l.foldl (ZN S p v) f=none->f=none/\∀ w∈l,w=p)
|[],_,f,hf=>⟨λg hg=>⟨hf g hg,λg' hg'=>by rw[List.foldl_nil] at hg;rw[hg] at hg';cases hg';exact V4 _,λw hw=>by cases hw⟩,λh=>⟨h,λw hw=>by cases hw⟩⟩
|w::l,hl,f,hf=>by
  rw[Vm];have jw:=hl w (by simp)
  have hf':∀ g,ZN S p v f w=some g->JJ S v g/\g≠p:=by
   intro g hg;unfold ZN at hg;by_cases e:w=p
   .rw[Wc e] at hg;exact hf g hg
   .rw[Wb e] at hg;cases f with
   |none=>cases hg;exact⟨jw,e⟩
   |some g0=>
     dsimp only at hg;split at hg
     .cases hg;exact⟨jw,e⟩
     .cases hg;exact hf g rfl
  obtain⟨i1,i2⟩:=zJq O jp l (λx hx=>hl x (by simp[hx])) (ZN S p v f w) hf'
  have st:(w≠p->∃ g,ZN S p v f w=some g/\YV S v p g<=YV S v p w)/\∀ g0,f=some g0->∃ g,ZN S p v f w=some g/\YV S v p g<=YV S v p g0:=by
   unfold ZN;by_cases e:w=p
   .rw[Wc e];exact⟨λh=>absurd e h,λg0 h0=>⟨g0,h0,V4 _⟩⟩
   .rw[Wb e];cases f with
   |none=>exact⟨λ_=>⟨w,rfl,V4 _⟩,λg0 h0=>by cases h0⟩
   |some g0=>
     have k:=hf g0 rfl;dsimp only;by_cases hwg:w=g0
     .subst hwg;split <;> exact⟨λ_=>⟨w,rfl,V4 _⟩,λg' h'=>by cases h';exact⟨w,rfl,V4 _⟩⟩
     .have ms:=zMA O jp jw k.1 e k.2 hwg;by_cases c:zAE (S.pt p) (S.pt v) (S.pt w) (S.pt g0)=true
      .rw[Wc c];have:=ms.mp c;exact⟨λ_=>⟨w,rfl,V4 _⟩,λg' h'=>by cases h';exact⟨w,rfl,by omega⟩⟩
      .rw[Wb c];have:¬ YV S v p w<YV S v p g0:=λh=>c (ms.mpr h)
       exact⟨λ_=>⟨g0,rfl,by omega⟩,λg' h'=>by cases h';exact⟨g0,rfl,V4 _⟩⟩
  refine⟨λg hg=>?_,λhn=>?_⟩
  .obtain⟨a1,a2,a3⟩:=i1 g hg;refine⟨a1,λg' hg'=>?_,λx hx hxp=>?_⟩
   .obtain⟨g1,h1,h2⟩:=st.2 g' hg';have:=a2 g1 h1;omega
   .rcases Wd.mp hx with ex|ex
    .subst ex;obtain⟨g1,h1,h2⟩:=st.1 hxp;have:=a2 g1 h1;omega
    .exact a3 x ex hxp
  .obtain⟨b1,b2⟩:=i2 hn
   have hwp:w=p:=by
    apply Wa;intro h;obtain⟨g1,h1,_⟩:=st.1 h;rw[b1] at h1;cases h1
   refine⟨?_,λx hx=>?_⟩
   .cases f with
   |none=>rfl
   |some g0=>
     obtain⟨g1,h1,_⟩:=st.2 g0 rfl;rw[b1] at h1;cases h1
   .rcases Wd.mp hx with ex|ex
    .rw[ex];exact hwp
    .exact b2 x ex
theorem zDr{S:Plan}(O:yC S)(v:Nat):(S.near v).Nodup:=by
 have key:∀ (ls:List (Nat×Nat)),ls.Nodup->(∀ l∈ls,l.1<l.2)->(ls.filterMap λ(l:Nat×Nat)=>if l.1=v then some l.2 else if l.2=v then some l.1 else none).Nodup:=by
  intro ls
  induction ls with
 |nil=>intro _ _;exact VY
 |cons l ls ih=>
   intro hn hl;rw[Vu] at hn;have ih':=ih hn.2 (λx hx=>hl x (by simp[hx]));have l1:=hl l (by simp)
   have fact:∀ w,((if l.1=v then some l.2 else if l.2=v then some l.1 else none)=some w)->w∉ls.filterMap λ(l:Nat×Nat)=>if l.1=v then some l.2 else if l.2=v then some l.1 else none:=by
    intro w hw hm;obtain⟨m,hm1,hm2⟩:=VI.mp hm;have m1:=hl m (by simp[hm1]);apply hn.1
    have:l=m:=by
     obtain⟨l1',l2'⟩:=l;obtain⟨m1',m2'⟩:=m;dsimp only at *
     by_cases c1:l1'=v
     .rw[Wc c1] at hw;cases hw;by_cases c2:m1'=v
      .rw[Wc c2] at hm2;cases hm2;rw[c1,c2]
      .rw[Wb c2] at hm2;by_cases c3:m2'=v
       .rw[Wc c3] at hm2;cases hm2;omega
       .rw[Wb c3] at hm2;cases hm2
     .rw[Wb c1] at hw;by_cases c2:l2'=v
      .rw[Wc c2] at hw;cases hw;by_cases c3:m1'=v
       .rw[Wc c3] at hm2;cases hm2;omega
       .rw[Wb c3] at hm2;by_cases c4:m2'=v
        .rw[Wc c4] at hm2;cases hm2;rw[c2,c4]
        .rw[Wb c4] at hm2;cases hm2
      .rw[Wb c2] at hw;cases hw
    rw[this];exact hm1
   rw[V6];split
   .exact ih'
   .rename_i w hw
    rw[Vu];exact⟨fact w hw,ih'⟩
 refine key S.lines ?_ (λl hl=>(O.line hl).1)
 have step:∀ i (h:i+1<S.lines.length),lineBelow (S.lines[i]'(by omega)) S.lines[i+1]=true:=by
  intro i h;have h1:S.lines[i+1]?=some S.lines[i+1]:=yQ h;have h0:S.lines[i]?=some (S.lines[i]'(by omega)):=yQ (by omega);have k:=ZI O.r5 h1;simp only[WZ,Nat.add_sub_cancel] at k;have k2:=k.2;rw[h0] at k2;simpa using k2
 have lb:∀ a b c:Nat×Nat,lineBelow a b=true->lineBelow b c=true->lineBelow a c=true:=by
  intro a b c h1 h2;unfold lineBelow at *
  simp only[Vc,y9,yr,Vj] at *
  omega
 have ord:∀ k i (h:i+k+1<S.lines.length),lineBelow (S.lines[i]'(by omega)) S.lines[i+k+1]=true:=by
  intro k
  induction k with
 |zero=>intro i h;exact step i h
 |succ k ih=>
   intro i h;exact lb _ _ _ (ih i (by omega)) (step (i+k+1) h)
 rw[Ud,Xt];intro i j hi hj hij he;have:=ord (j-i-1) i (by omega);have e2:i+(j-i-1)+1=j:=by omega
 simp only[e2] at this;rw[<-he] at this;unfold lineBelow at this;simp only[Vc,y9,yr,Vj] at this;omega
theorem zO4{S:Plan}(O:yC S){p v:Nat}(j:JJ S p v):(S.near v).foldl (ZN S p v) none=some (S.next p v)/\S.next p v≠p:=by
 have jp:=zA1 j;obtain⟨jm,hm⟩:=zIS O j;obtain⟨i1,i2⟩:=zJq O jp (S.near v) (λw hw=>(Z5 O).mp hw) none (λg h=>by cases h);have deg:=zCp O.r8 (O.jlt j).2.1;have deg2:¬ (S.near v).length<2:=WJ deg
 have other:∃ w∈S.near v,w≠p:=by
  apply Wa;intro hno;have all:∀ w∈S.near v,w=p:=λw hw=>Wa λh=>hno ⟨w,hw,h⟩
  have nd:=zDr O v;cases e:S.near v with
 |nil=>rw[e] at deg2;exact deg2 (by decide)
 |cons a r=>
   cases e2:r with
  |nil=>rw[e,e2] at deg2;exact deg2 (by simp)
  |cons b r'=>
    rw[e,e2] at nd all;have h1:=all a (by simp);have h2:=all b (by simp);rw[Vu] at nd;exact nd.1 (by rw[h1,h2];simp)
 cases e:(S.near v).foldl (ZN S p v) none with
|none=>
  obtain⟨w,hw,hwp⟩:=other;exact absurd ((i2 e).2 w hw) hwp
|some g=>
  obtain⟨⟨jg,hgp⟩,_,h3⟩:=i1 g e
  have nep:S.next p v≠p:=by
   intro h;have:=hm g jg;rw[h] at this;have bg:0<=rk S.pts.length (cx S) (cy S) (JJ S) v g/\rk S.pts.length (cx S) (cy S) (JJ S) v g<=S.pts.length:=⟨zHu,zF8⟩
   unfold YV at this;rw[Wc rfl,Wb hgp] at this;split at this <;> lia
  have k1:=h3 (S.next p v) ((Z5 O).mpr jm) nep;have k2:=hm g jg;rw[zO3 O jp jg jm (by lia)];exact⟨rfl,nep⟩
def zAk (S:Plan):List zf:=(List.range S.pts.length).flatMap λi=>(S.near i).map λj=>(i,j)
def Y7 (S:Plan)(e:zf):List Nat:=S.round (2*S.lines.length+1) e e
def zAl (S:Plan)(e:zf):List zf:=(Y7 S e).zip ((Y7 S e).drop 1++(Y7 S e).take 1)
def yq (S:Plan)(st:List zf×List (List Nat))(e:zf):List zf×List (List Nat):=
 if e∈st.1 then st else (st.1++zAl S e,if 0<twiceArea S (Y7 S e) then st.2++[Y7 S e] else st.2)
def YN (S:Plan):List zf×List (List Nat):=(zAk S).foldl (yq S) ([],[])
theorem zCP{S:Plan}(O:yC S)(e:zf):e∈zAk S↔JJ S e.1 e.2:=by
 unfold zAk;rw[U9];constructor
 .rintro⟨i,hi,h⟩;obtain⟨j,hj,rfl⟩:=Wp.mp h;exact (Z5 O).mp hj
 .intro h;exact⟨e.1,VD.mpr (O.jlt h).1,Wp.mpr ⟨e.2,(Z5 O).mpr h,rfl⟩⟩
theorem zCH{S:Plan}(O:yC S){e:zf}(j:JJ S e.1 e.2):∃ k,Zs S.next k e/\Y7 S e=(zU S.next k e).map Prod.fst/\zAl S e=zU S.next k e:=by
 obtain⟨k,P,h⟩:=O.round j;refine⟨k,P,h,?_⟩;unfold zAl;rw[show Y7 S e=_ from h,zDR P]
theorem zE4{S:Plan}(O:yC S){e x:zf}(j:JJ S e.1 e.2)(h:x∈zAl S e):JJ S x.1 x.2/\∀ y,y∈zAl S x↔y∈zAl S e:=by
 have D:=O.dr;obtain⟨k,P,_,hw⟩:=zCH O j;rw[hw] at h;obtain⟨i,hi,rfl⟩:=zo.mp h;have jx:=Zu D.hnx i j;refine⟨jx,λy=>?_⟩;obtain⟨k',P',_,hw'⟩:=zCH O jx;have Px:=P.shift D j (i:=i)
 have ek:k'=k:=by
  rcases VO k k' with q|q|q
  .exact absurd Px.back (P'.least k Px.pos q)
  .exact q.symm
  .exact absurd P'.back (Px.least k' P'.pos q)
 rw[hw,hw',ek];exact Zo D j P (by lia) y
theorem zFa{S:Plan}(O:yC S){e:zf}(j:JJ S e.1 e.2):e∈zAl S e:=by
 obtain⟨k,P,_,hw⟩:=zCH O j;rw[hw];exact zo.mpr ⟨0,P.pos,rfl⟩
structure zIU(S:Plan)(done:List zf)(st:List zf×List (List Nat)):Prop where
 walked:∀ x,x∈st.1↔∃ e∈done,x∈zAl S e
 outs:∀ l,l∈st.2↔∃ e∈done,∃ k e',zA2 S k e'/\e∈zU S.next k e'/\l=(zU S.next k e').map Prod.fst/\0<twiceArea S l
 nd:st.2.Nodup
theorem zQz{S:Plan}(O:yC S){pre suf:List zf}{e x:zf}(h:zAk S=pre++e::suf)(jx:JJ S x.1 x.2)(hlt:x.1<e.1):x∈pre:=by
 have hm:x∈zAk S:=(zCP O x).mpr jx
 have srt:(zAk S).Pairwise (λa b=>a.1<=b.1):=by
  unfold zAk;rw[List.pairwise_flatMap];refine⟨λi _=>?_,?_⟩
  .rw[Ui];exact Ul (λ_=>We _) (zDr O i)
  .refine Ul ?_ XD;intro a b hab x hx y hy;obtain⟨_,_,rfl⟩:=Wp.mp hx;obtain⟨_,_,rfl⟩:=Wp.mp hy;exact Vi hab
 rw[h] at hm srt;rcases Wv.mp hm with q|q
 .exact q
 .exfalso
  rw[List.pairwise_append,Vy] at srt;rcases Wd.mp q with e1|e1
  .subst e1;lia
  .have:=srt.2.1.1 x e1
   lia
theorem zMB{S:Plan}(O:yC S){pre suf:List zf}{e:zf}(h:zAk S=pre++e::suf){st:List zf×List (List Nat)}(I:zIU S pre st):zIU S (pre++[e]) (yq S st e)/\(e∉st.1->∃ k,zA2 S k e/\Y7 S e=(zU S.next k e).map Prod.fst):=by
 have D:=O.dr;have je:JJ S e.1 e.2:=(zCP O e).mp (by rw[h];simp);have hpre:∀ x∈pre,JJ S x.1 x.2:=λx hx=>(zCP O x).mp (by rw[h];simp[hx])
 obtain⟨k,P,hr,hw⟩:=zCH O je;by_cases c:e∈st.1
 .refine⟨?_,λhn=>absurd c hn⟩;unfold yq;rw[Wc c];obtain⟨e0,he0,hx0⟩:=(I.walked e).mp c;have s0:=zE4 O (hpre e0 he0) hx0;refine⟨λx=>?_,λl=>?_,I.nd⟩
  .rw[I.walked];constructor
   .rintro⟨y,hy,hxy⟩;exact⟨y,by simp[hy],hxy⟩
   .rintro⟨y,hy,hxy⟩;rcases Wv.mp hy with q|q
    .exact⟨y,q,hxy⟩
    .rw[Wl.mp q] at hxy;exact⟨e0,he0,(s0.2 x).mp hxy⟩
  .rw[I.outs];constructor
   .rintro⟨y,hy,r⟩;exact⟨y,by simp[hy],r⟩
   .rintro⟨y,hy,k',e',F,hm,hl,ha⟩;rcases Wv.mp hy with q|q
    .exact⟨y,q,k',e',F,hm,hl,ha⟩
    .rw[Wl.mp q] at hm;refine⟨e0,he0,k',e',F,?_,hl,ha⟩;have h1:e0∈zAl S e:=(s0.2 e0).mpr (zFa O (hpre e0 he0));rw[hw] at h1;obtain⟨i,hi,ei⟩:=zo.mp hm;obtain⟨i2,hi2,ei2⟩:=zo.mp h1;have Pe:Zs S.next k' e:=by rw[ei];exact F.P.shift D F.j
     have ek:k=k':=by
      rcases VO k k' with q|q|q
      .exact absurd P.back (Pe.least k P.pos q)
      .exact q
      .exact absurd Pe.back (P.least k' Pe.pos q)
     subst ek;rw[<-Zo D F.j F.P (i:=i) (by lia),<-ei];exact h1
 .have fresh:∀ x∈zU S.next k e,e.1<=x.1:=by
   intro x hx;apply Ur;intro hlt;have hx':x∈zAl S e:=by rw[hw];exact hx
   have sx:=zE4 O je hx';have hp:=zQz O h sx.1 hlt;exact c ((I.walked e).mpr ⟨x,hp,(sx.2 e).mpr (zFa O je)⟩)
  have F:zA2 S k e:=⟨je,P,fresh⟩
  refine⟨?_,λ_=>⟨k,F,hr⟩⟩;unfold yq;rw[Wb c]
  have notIn:Y7 S e∉st.2:=by
   intro hm;obtain⟨y,hy,k',e',F',hm',hl,ha⟩:=(I.outs _).mp hm;rw[hr] at hl;have z1:=zDR P;have z2:=zDR F'.P;rw[hl,z2] at z1
   have e1:e∈zU S.next k' e':=by
    rw[z1];exact zo.mpr ⟨0,P.pos,rfl⟩
   have q:=F.unique O F' (zo.mpr ⟨0,P.pos,rfl⟩) e1;have hy1:y∈zAl S e:=by rw[hw,q.1,q.2];exact hm'
   have sy:=zE4 O je hy1;exact c ((I.walked e).mpr ⟨y,hy,(sy.2 e).mpr (zFa O je)⟩)
  refine⟨λx=>?_,λl=>?_,?_⟩
  .dsimp only;rw[Wv,I.walked];constructor
   .rintro (⟨y,hy,hxy⟩|hx)
    .exact⟨y,by simp[hy],hxy⟩
    .exact⟨e,by simp,hx⟩
   .rintro⟨y,hy,hxy⟩;rcases Wv.mp hy with q|q
    .exact .inl ⟨y,q,hxy⟩
    .rw[Wl.mp q] at hxy;exact .inr hxy
  .dsimp only
   have last:(∃ k' e',zA2 S k' e'/\e∈zU S.next k' e'/\l=(zU S.next k' e').map Prod.fst/\0<twiceArea S l)↔(l=Y7 S e/\0<twiceArea S (Y7 S e)):=by
    constructor
    .rintro⟨k',e',F',hm,hl,ha⟩;have q:=F.unique O F' (zo.mpr ⟨0,P.pos,rfl⟩) hm;rw[<-q.1,<-q.2,<-hr] at hl;exact⟨hl,by rw[<-hl];exact ha⟩
    .rintro⟨hl,ha⟩;exact⟨k,e,F,zo.mpr ⟨0,P.pos,rfl⟩,by rw[hl,hr],by rw[hl];exact ha⟩
   have spl:(∃ y∈pre++[e],∃ k' e',zA2 S k' e'/\y∈zU S.next k' e'/\l=(zU S.next k' e').map Prod.fst/\0<twiceArea S l)↔(l∈st.2\/(l=Y7 S e/\0<twiceArea S (Y7 S e))):=by
    rw[I.outs,<-last];constructor
    .rintro⟨y,hy,r⟩;rcases Wv.mp hy with q|q
     .exact .inl ⟨y,q,r⟩
     .rw[Wl.mp q] at r;exact .inr r
    .rintro (⟨y,hy,r⟩|r)
     .exact⟨y,by simp[hy],r⟩
     .exact⟨e,by simp,r⟩
   rw[spl];by_cases ha:0<twiceArea S (Y7 S e)
   .rw[Wc ha,Wv,Wl];exact⟨λq=>q.elim .inl λq=>.inr ⟨q,ha⟩,λq=>q.elim .inl λq=>.inr q.1⟩
   .rw[Wb ha];exact⟨.inl,λq=>q.elim id λq=>absurd q.2 ha⟩
  .dsimp only;by_cases ha:0<twiceArea S (Y7 S e)
   .rw[Wc ha,XE];refine⟨I.nd,by simp,λx hx y hy hxy=>?_⟩;rw[Wl.mp hy] at hxy;rw[hxy] at hx;exact notIn hx
   .rw[Wb ha];exact I.nd
theorem zFb{S:Plan}(O:yC S):∀ (suf pre:List zf) (st:List zf×List (List Nat)),zAk S=pre++suf->zIU S pre st->zIU S (zAk S) (suf.foldl (yq S) st)
|[],pre,st,h,I=>by rw[VU] at h;rw[h];exact I
|e::suf,pre,st,h,I=>by
  rw[Vm];exact zFb O suf (pre++[e]) _ (by rw[h];simp) (zMB O h I).1
theorem zIV(S:Plan):zIU S [] ([],[]):=⟨λx=>by simp,λl=>by simp,VY⟩
theorem zBs{S:Plan}(O:yC S)(l:List Nat):l∈(YN S).2↔l∈S.outlines:=by
 have I:=zFb O (zAk S) [] _ rfl (zIV S);unfold YN;rw[I.outs,zDq O];constructor
 .rintro⟨e,_,k,e',F,_,hl,ha⟩;exact⟨k,e',F,hl,ha⟩
 .rintro⟨k,e,F,hl,ha⟩;exact⟨e,(zCP O e).mpr F.j,k,e,F,zo.mpr ⟨0,F.P.pos,rfl⟩,hl,ha⟩
theorem zFP{S:Plan}(O:yC S):(YN S).2.Nodup:=(zFb O (zAk S) [] _ rfl (zIV S)).nd
theorem zMC{S:Plan}(O:yC S):(YN S).2.length=S.outlines.length:=by
 have a:=zAi _ S.outlines (zFP O) λx hx=>(zBs O x).mp hx
 have b:=zAi _ (YN S).2 (zKo S) λx hx=>(zBs O x).mpr hx
 lia
theorem zJr{S:Plan}(O:yC S){z:Pt}(hc:clear S z=true):∃ (i:Nat) (l:List Nat),(YN S).2[i]?=some l/\insideOf S l z=true/\(∀ (j:Nat) (l':List Nat),j<i->(YN S).2[j]?=some l'->insideOf S l' z=false)/\S.among S.outlines z=some l/\∀ j:Nat,(YN S).2[j]?=some l->j=i:=by
 obtain⟨l,hl,hin,hu⟩:=zKq O hc;have hl2:=(zBs O l).mpr hl;obtain⟨i,hi⟩:=VZ.mp hl2;have nd:=zFP O
 have inj:∀ j:Nat,(YN S).2[j]?=some l->j=i:=by
  intro j hj;obtain⟨h1,e1⟩:=yG hi;obtain⟨h2,e2⟩:=yG hj;rcases VO j i with q|q|q
  .exact absurd (e2.trans e1.symm) (Xt.mp (Ud.mp nd) j i h2 h1 q)
  .exact q
  .exact absurd (e1.trans e2.symm) (Xt.mp (Ud.mp nd) i j h1 h2 q)
 refine⟨i,l,hi,hin,λj l' hj hj'=>?_,?_,inj⟩
 .cases h:insideOf S l' z with
 |false=>rfl
 |true=>
   have:=hu l' ((zBs O l').mp (ZM hj')) h;subst this;have:=inj j hj'
   lia
 .unfold Plan.among;rw[Wc hc];cases h:S.outlines.find? λ(l:List Nat)=>insideOf S l z with
 |none=>
   rw[Ue] at h;exact absurd hin (h l hl)
 |some l'=>
   have m:=List.mem_of_find?_eq_some h;have p:=List.find?_some h;rw[hu l' m p]
end Kt
namespace Kx
open PySem PySem.Spec PyProof.Rows
open PySem.Sem (wp)
def DI (a:Addr)(d:Option Addr)(h:Heap):Prop:=∃ o,h.get? a=some o/\o.dict=d
theorem DI.push{a:Addr}{d:Option Addr}{h:Heap}(x:DI a d h)(o:Obj):DI a d (h.push o):=let ⟨u,e,q⟩:=x;⟨u,Wf _ e,q⟩
theorem DI.upd{a b:Addr}{d:Option Addr}{h:Heap}(x:DI a d h)(f:Obj->Obj)(hf:∀ o,(f o).dict=o.dict)(hz:∀ o,o.isFreed=false->(f o).isFreed=false):DI a d (h.update b f):=by
 obtain⟨u,e,q⟩:=x;by_cases hb:b=a
 .subst hb;refine⟨f u,UK f e (hz u (Heap.get?_some_iff.mp e).2),?_⟩;rw[hf,q]
 .exact⟨u,(UE h f hb).trans e,q⟩
theorem zGs(o:Obj)(f:Array Value->Array Value):(Obj.mapFields f o).dict=o.dict:=by
 unfold Obj.mapFields;split <;> rfl
theorem zGJ(o:Obj)(f:Array Value->Array Value)(h:o.isFreed=false):(Obj.mapFields f o).isFreed=false:=by
 unfold Obj.mapFields;split
 .rfl
 .exact h
structure KD(a:Addr)(d:Option Addr){α:Type}(t:Sem α):Prop where
 out:∀ (M:Model) (Γ:PySem.Ctx) (P:α->Pos->Shared->Prop) (Ee:Value->Pos->Shared->Prop) (p:Pos) (s:Shared),DI a d s.heap->wp M Γ t P Ee p s->
  wp M Γ t (λx p' s'=>P x p' s'/\DI a d s'.heap) (λx p' s'=>Ee x p' s') p s
namespace KD
variable {α β:Type}{a:Addr}{d:Option Addr}
theorem pure(x:α):KD a d (Pure.pure x:Sem α):=⟨λ_ _ _ _ _ _ hd h=>⟨h,hd⟩⟩
theorem unsupported(z:String):KD a d (PySem.unsupported z:Sem α):=⟨λ_ _ _ _ _ _ _ h=>h⟩
theorem bind{m:Sem α}{f:α->Sem β}(hm:KD a d m)(hf:∀ x,KD a d (f x)):KD a d (m >>= f):=⟨λM Γ P Ee p s hd h=>by
 rw[Sem.wp_bind'] at h ⊢;exact Sem.wp_mono M Γ m (λx p' s' h'=>(hf x).out M Γ P Ee p' s' h'.2 h'.1) (λ_ _ _ z=>z) p s (hm.out M Γ _ Ee p s hd h)⟩
theorem ite{c:Prop}[Decidable c]{t u:Sem α}(ht:KD a d t)(hu:KD a d u):KD a d (if c then t else u):=by split <;> assumption
theorem load(b:Addr):KD a d (PySem.load b):=⟨λM Γ P Ee p s hd h=>by
 unfold PySem.load at h ⊢;rw[Sem.wp_load] at h ⊢;obtain⟨o,ho,hp⟩:=h;exact⟨o,ho,hp,hd⟩⟩
theorem stack:KD a d PySem.stack:=⟨λM Γ P Ee p s hd h=>by
 unfold PySem.stack at h ⊢;rw[Sem.wp_stack] at h ⊢;exact⟨h,hd⟩⟩
theorem alloc(o:Obj):KD a d (PySem.alloc o):=⟨λM Γ P Ee p s hd h=>by
 unfold PySem.alloc at h ⊢;rw[Sem.wp_alloc] at h ⊢;exact⟨h,hd.push o⟩⟩
theorem update(b:Addr)(f:Obj->Obj)(hf:∀ o,(f o).dict=o.dict)(hz:∀ o,o.isFreed=false->(f o).isFreed=false):KD a d (PySem.update b f):=⟨λM Γ P Ee p s hd h=>by
 unfold PySem.update at h ⊢;exact⟨h.1,h.2,hd.upd f hf hz⟩⟩
theorem field(v:Value)(i:Nat):KD a d (PySem.field v i):=⟨λM Γ P Ee p s hd h=>by
 rw[wp_field_iff] at h ⊢;obtain⟨b,o,vs,x,h1,h2,h3,h4,h5⟩:=h;exact⟨b,o,vs,x,h1,h2,h3,h4,h5,hd⟩⟩
theorem setField(v:Value)(i:Nat)(x:Value):KD a d (PySem.setField v i x):=⟨λM Γ P Ee p s hd h=>by
 rw[wp_setField_iff] at h ⊢;obtain⟨b,o,vs,h1,h2,h3,h4,h5⟩:=h;exact⟨b,o,vs,h1,h2,h3,h4,h5,hd.upd _ (λo=>zGs o _) (λo ho=>zGJ o _ ho)⟩⟩
end KD
section
variable {a:Addr}{d:Option Addr}
theorem zQ0(env:Env)(outer:List Env):KD a d (behindIsImport env outer):=by
 unfold behindIsImport
 (repeat' with_reducible first|assumption|exact KD.pure _|exact KD.unsupported _|exact KD.field _ _|exact KD.setField _ _ _|exact KD.load _|exact KD.stack|exact KD.alloc _|apply KD.ite|apply KD.bind|intro _|split)
theorem zMD:KD a d underTheClaimsCaller:=by
 unfold underTheClaimsCaller
 (repeat' with_reducible first|assumption|exact KD.pure _|exact KD.unsupported _|exact KD.field _ _|exact KD.setField _ _ _|exact KD.load _|exact KD.stack|exact KD.alloc _|apply KD.ite|apply KD.bind|intro _|split)
theorem zO5(env:Env)(i:Bool)(l:List Env):KD a d (keptBack env i l):=by
 have:=zMD (a:=a) (d:=d);cases l <;> unfold keptBack <;> (repeat' with_reducible first|assumption|exact KD.pure _|exact KD.unsupported _|exact KD.field _ _|exact KD.setField _ _ _|exact KD.load _|exact KD.stack|exact KD.alloc _|apply KD.ite|apply KD.bind|intro _|split)
theorem zIW:∀ l:List Env,KD a d (readyFrames l)
|[]=>KD.pure _
|env::outer=>by
  have ih:=zIW outer;have h1:=zQ0 (a:=a) (d:=d) env outer;have h2:=λi=>zO5 (a:=a) (d:=d) env i outer
  unfold readyFrames
  (repeat' with_reducible first|assumption|exact KD.pure _|exact KD.unsupported _|exact KD.field _ _|exact KD.setField _ _ _|exact KD.load _|exact KD.stack|exact KD.alloc _|apply KD.ite|apply KD.bind|intro _|split)
  all_goals first|exact h2 _|skip
  all_goals
   refine KD.update _ _ (λo=>rfl) (λo ho=>?_);obtain⟨_,_,dt,_⟩:=o;cases dt <;> first|rfl|exact ho
theorem zME(l:List Env):KD a d (frameObject l):=by
 cases l with
|nil=>exact KD.pure _
|cons env outer=>
  have:=zIW (a:=a) (d:=d) (env::outer);unfold frameObject
  (repeat' with_reducible first|assumption|exact KD.pure _|exact KD.unsupported _|exact KD.field _ _|exact KD.setField _ _ _|exact KD.load _|exact KD.stack|exact KD.alloc _|apply KD.ite|apply KD.bind|intro _|split)
theorem zO6:KD a d frameEnvs:=by
 unfold frameEnvs
 (repeat' with_reducible first|assumption|exact KD.pure _|exact KD.unsupported _|exact KD.field _ _|exact KD.setField _ _ _|exact KD.load _|exact KD.stack|exact KD.alloc _|apply KD.ite|apply KD.bind|intro _|split)
theorem zKr(env:Env):KD a d (PySem.frameOf env):=by
 have h1:=zO6 (a:=a) (d:=d);have h2:=zME (a:=a) (d:=d);unfold PySem.frameOf
 (repeat' with_reducible first|assumption|exact KD.pure _|exact KD.unsupported _|exact KD.field _ _|exact KD.setField _ _ _|exact KD.load _|exact KD.stack|exact KD.alloc _|apply KD.ite|apply KD.bind|intro _|split)
 all_goals first|exact h2 _|skip
theorem zNU(f:Addr)(b:Bool):KD a d (entryPlaceOf f b):=by
 unfold entryPlaceOf
 (repeat' with_reducible first|assumption|exact KD.pure _|exact KD.unsupported _|exact KD.field _ _|exact KD.setField _ _ _|exact KD.load _|exact KD.stack|exact KD.alloc _|apply KD.ite|apply KD.bind|intro _|split)
theorem zNV(n fr l fl la:Value)(pl:List Value):KD a d (EntryCells.newEntry n fr l fl la pl):=by
 unfold EntryCells.newEntry newFields newObj newObjAsIs
 (repeat' with_reducible first|assumption|exact KD.pure _|exact KD.unsupported _|exact KD.field _ _|exact KD.setField _ _ _|exact KD.load _|exact KD.stack|exact KD.alloc _|apply KD.ite|apply KD.bind|intro _|split)
theorem zJs(e:Value)(env:Env):KD a d (noteFrame e env):=by
 have h1:=zKr (a:=a) (d:=d) env;have h2:=λf b=>zNU (a:=a) (d:=d) f b
 have h3:=λn fr l fl la pl=>zNV (a:=a) (d:=d) n fr l fl la pl
 unfold noteFrame
 (repeat' with_reducible first|assumption|exact KD.pure _|exact KD.unsupported _|exact KD.field _ _|exact KD.setField _ _ _|exact KD.load _|exact KD.stack|exact KD.alloc _|apply KD.ite|apply KD.bind|intro _|split)
 all_goals first|exact h2 _ _|exact h3 _ _ _ _ _ _|skip
theorem zEW(e:Value)(f:Option Addr):KD a d (setFlight e f):=by
 unfold setFlight
 (repeat' with_reducible first|assumption|exact KD.pure _|exact KD.unsupported _|exact KD.field _ _|exact KD.setField _ _ _|exact KD.load _|exact KD.stack|exact KD.alloc _|apply KD.ite|apply KD.bind|intro _|split)
theorem zGK(env:Env)(e:Value):KD a d (leaving env e):=by
 have h1:=zJs (a:=a) (d:=d) e env;have h2:=zEW (a:=a) (d:=d) e none;unfold leaving
 (repeat' with_reducible first|assumption|exact KD.pure _|exact KD.unsupported _|exact KD.field _ _|exact KD.setField _ _ _|exact KD.load _|exact KD.stack|exact KD.alloc _|apply KD.ite|apply KD.bind|intro _|split)
theorem KD.any{α:Type}{M:Model}{A:Around}{t:Sem α}{Q:α->Shared->Prop}{E:Qs}{s:Shared}(k:KD a d t)(hd:DI a d s.heap)(h:wpAny M A t Q E s):wpAny M A t (λx s'=>Q x s'/\DI a d s'.heap) E s:=
 λΓ p hΓ=>k.out M Γ _ _ p s hd (h Γ p hΓ)
end
open PySem PySem.Spec PyProof.Rows L2
def zTF (base:Heap)(l:List Env)(a T C:Addr)(dx:Option Addr)(h:Heap):Prop:=
 base.StaysIn h/\base.get? a=none/\base.get? T=none/\h.FunFrames base l/\
  ∃ oe vs oT ts,h.get? a=some oe/\oe.cls=.ref C/\oe.dict=dx/\oe.data=.fields vs/\(∃ a0,vs[0]?=some a0)/\vs[1]?=some (.ref T)/\T≠a/\h.get? T=some oT/\oT.data=.fields ts/\ts[3]?=some .none
def CXN (P:Program)(w:World)(base:Heap):CXT:=λouter H s E e s'=>∃ (a T C:Addr) (dx:Option Addr) (H':Hp),e=.ref a/\s'.os=s.os/\AllBare s'.gens/\Un (ym outer) [] H H' s.heap s'.heap/\ZO P w H' s'.heap/\
 s.heap.get? a=none/\s.heap.get? T=none/\H' a=none/\H' T=none/\zTF base outer a T C dx s'.heap/\E (.ref C) dx H'
theorem zIX{P:Program}{w:World}{H:Hp}{h:Heap}{a:Addr}{o:HO}(x:yT P w H h a o):∃ u,h.get? a=some u:=by
 cases o with
|lst xs=>obtain⟨_,_,_,_,e⟩:=x;exact⟨_,e⟩
|tup xs=>obtain⟨_,_,_,o,e,_⟩:=x;exact⟨_,e⟩
|dK kvs=>obtain⟨_,_,_,_,o,_,_,e,_⟩:=x;exact⟨_,e⟩
|dT kvs=>obtain⟨_,_,_,_,o,_,_,e,_⟩:=x;exact⟨_,e⟩
|set S n=>obtain⟨o,_,_,_,e,_⟩:=x;exact⟨_,e⟩
|ins C dx fs=>obtain⟨_,_,_,e,_⟩:=x;exact⟨_,e⟩
|own y=>obtain⟨_,e⟩:=x;exact⟨_,e⟩
|xd fs=>obtain⟨_,⟨_,_,_,e,_⟩,_⟩:=x;exact⟨_,e⟩
|rng lo hi=>obtain⟨_,_,_,e⟩:=x;exact⟨_,e⟩
|frz ob u=>obtain⟨e,_⟩:=x;exact⟨_,e⟩
|tbl ps=>exact⟨_,show h.get? a=some _ from x⟩
|met f y=>exact⟨_,show h.get? a=some _ from x⟩
|ext φ=>obtain⟨_,⟨_,e⟩,_⟩:=x;exact⟨_,e⟩
section
variable {P:Program}{w:World}{K:Qf}{mg:Qm}{base:Heap}{N:List Str}{qual:Str}{scope:Scope}{f:Addr}{cd:Value}{A:Around}{outer:List Env}{s:Shared}{H:Hp}{E:XK}
 {pins:Qp}{σ:L2.St}{H1:Hp}{s1:Shared}{a C:Addr}{dx:Option Addr}{a0:Value}
theorem zJt{h':Heap}{hid:List Addr}(J:zK (ZR (CXN P w base) P w K mg base N qual scope f cd A outer s H E) pins σ H1 s1)(ha:a∈hid)(hfs:∀ b∈ym (envOfC qual scope s.heap.objs.size f cd::outer),b∈hid)
  (hh:∀ b∈hid,b∉ym (envOfC qual scope s.heap.objs.size f cd::outer)->s.heap.get? b=none/\H1 b=none)
  (hL:Heap.LeftW (PySem.W.hideAll s1.heap hid) (envOfC qual scope s.heap.objs.size f cd::outer) a (.ref C) a0 s1.heap h')(hdi:DI a dx h')(hE:E (.ref C) dx H1) :
  CXN P w base outer H s E (.ref a) {s1 with heap:=h'}:=by
 obtain⟨l1,l2,⟨oe,vs,T,oT,ts,t1,t2,t3,t4,t5,t6,t7,t8,t9⟩,l4⟩:=hL
 have hnofr:∀ b u vs,h'.get? b=some u->u.data=.fields vs->b∉ym (envOfC qual scope s.heap.objs.size f cd::outer):=λb u vs e1 e2 hm=>by
  obtain⟨_,o,ho,hn⟩:=l2.mem hm;rw[e1] at ho;cases ho;exact hn vs e2
 have afr:=hnofr a oe vs t1 t3;have Tfr:=hnofr T oT ts t7 t8;have hsa:=hh a ha afr;have keep:∀ b u,s1.heap.get? b=some u->b∉hid->h'.get? b=some u:=λb u e n=>l1 b u (Xv hid e n)
 have trk:∀ b u,H1 b=some u->b∉hid:=λb u e hm=>by
  by_cases hb:b∈ym (envOfC qual scope s.heap.objs.size f cd::outer)
  .rw[J.stkFree b hb] at e;cases e
  .rw[(hh b hm hb).2] at e;cases e
 have hT:s.heap.get? T=none/\H1 T=none:=by
  by_cases hm:T∈hid
  .exact hh T hm Tfr
  .have e1:s1.heap.get? T=none:=by
    cases q:s1.heap.get? T with
   |none=>rfl
   |some u=>rw[Xv hid q hm] at t5;cases t5
   refine⟨?_,?_⟩
   .cases q:s.heap.get? T with
   |none=>rfl
   |some u=>
     obtain⟨o',q'⟩:=J.base.there T u q (by intro z;cases z);rw[e1] at q';cases q'
   .cases q:H1 T with
   |none=>rfl
   |some u=>
     obtain⟨o',q'⟩:=zIX (J.hok T u q);rw[e1] at q';cases q'
 have bst:base.StaysIn (PySem.W.hideAll s1.heap hid):=λb o e=>by
  refine Xv hid (J.bk b o e) λhm=>?_
  by_cases hb:b∈ym (envOfC qual scope s.heap.objs.size f cd::outer)
  .have q:base.get? b=none:=(J.stack.mem hb).1;rw[e] at q;cases q
  .have q:s.heap.get? b=some o:=(J.ok.bs b o e).1;have z:=(hh b hm hb).1;rw[q] at z;cases z
 have bT:base.get? T=none:=by
  cases q:base.get? T with
 |none=>rfl
 |some u=>
   have z:s.heap.get? T=some u:=(J.ok.bs T u q).1;rw[hT.1] at z;cases z
 have ba:base.get? a=none:=by
  cases q:base.get? a with
 |none=>rfl
 |some u=>
   have z:s.heap.get? a=some u:=(J.ok.bs a u q).1;rw[hsa.1] at z;cases z
 obtain⟨oe',d1,d2⟩:=hdi;rw[t1] at d1;cases d1;refine⟨a,T,C,dx,H1,rfl,J.os,J.bare,?_,λb u e=>?_,hsa.1,hT.1,hsa.2,hT.2,⟨λb o e=>l1 b o (bst b o e),ba,bT,?_,oe,vs,oT,ts,t1,t2.1,d2,t3,⟨_,t2.2⟩,t4,t6,t7,t8,t9⟩,hE⟩
 .have B:Un (ym outer) [] H H1 s.heap s1.heap:=J.base
  have old:∀ b o,s.heap.get? b=some o->b∉ym outer->b∉hid:=λb o e hn hm=>by
   by_cases hb:b∈ym (envOfC qual scope s.heap.objs.size f cd::outer)
   .have hb':b=s.heap.objs.size\/b∈ym outer:=by
     have:ym (envOfC qual scope s.heap.objs.size f cd::outer)=s.heap.objs.size::ym outer:=rfl;rw[this] at hb;exact Wd.mp hb
    rcases hb' with q|q
    .exact absurd (Wj e) (by rw[q];exact VB _)
    .exact hn q
   .have:=(hh b hm hb).1;rw[e] at this;cases this
  refine⟨λb o e n hn hx=>keep b o (B.keep b o e n hn hx) (old b o e hn),λb o e n hm hx=>?_,λb o e n hx=>B.free b o e n hx,λb o e hx=>?_,B.tups,B.frzs,B.tbls⟩
  .obtain⟨sl,q⟩:=B.slot b o e n hm hx
   have nf:∀ vs,o.data≠.fields vs:=by
    obtain⟨_,o',ho',hn'⟩:=J.ok.funs.mem hm;have:s.heap.get? b=some o':=ho';rw[e] at this;cases this;exact hn'
   obtain⟨sl',q'⟩:=l4 b _ q (λvs z=>nf vs z);exact⟨sl',q'⟩
  .obtain⟨o1,q⟩:=B.there b o e hx;by_cases hm:b∈hid
   .by_cases hb:b∈ym (envOfC qual scope s.heap.objs.size f cd::outer)
    .obtain⟨_,o',ho',_⟩:=l2.mem hb;exact⟨o',ho'⟩
    .have:=(hh b hm hb).1;rw[e] at this;cases this
   .exact⟨o1,keep b o1 q hm⟩
 .refine (J.hok b u e).stay (λc v hc q=>keep c v q ?_) (λ_ q=>q) λ_ _ q=>q
  rcases hc with rfl|hc
  .exact trk c u e
  .exact trk c _ hc
 .exact PySem.W.funFrames_base bst (show h'.FunFrames _ (envOfC qual scope s.heap.objs.size f cd::outer) from l2).2.2
theorem zSI:Yb (CXN P w base) (ZR (CXN P w base) P w K mg base N qual scope f cd A outer s H E) E:=by
 intro pins σ H1 s1 e s2 I h;obtain⟨a,T,C,dx,H2,rfl,os,bare,un,hok,fa,fT,na,nT,⟨b1,b2,b3,b4,oe,vs,oT,ts,t1,t2,t3,t4,⟨a0,t5⟩,t6,t7,t8,t9,t10⟩,hE⟩:=h;have J:zK (ZR (CXN P w base) P w K mg base N qual scope f cd A outer s H E) pins σ H2 s2:=I.call' os un hok bare (λb z=>by cases z)
 have old:∀ b,s1.heap.get? b=none->s.heap.get? b=none:=λb q=>by
  cases r:s.heap.get? b with
 |none=>rfl
 |some u=>
   obtain⟨o',q'⟩:=I.base.there b u r (by intro z;cases z);rw[q] at q';cases q'
 have hin:∀ env∈(envOfC qual scope s.heap.objs.size f cd::outer),∀ b,env.frame=some b->b∈a::T::ym (envOfC qual scope s.heap.objs.size f cd::outer):=λenv he b hb=>.tail _ (.tail _ (VI.mpr ⟨env,he,hb⟩))
 refine W9 ((zGK (a:=a) (d:=dx) _ (.ref a)).any ⟨oe,t1,t3⟩ (wpAny_leaving_nextW (base:=PySem.W.hideAll s2.heap (a::T::ym (envOfC qual scope s.heap.objs.size f cd::outer))) (cls:=.ref C) (a0:=a0) J.ok.frames (Uy b4 hin) rfl
  ⟨oe,vs,T,oT,ts,t1,⟨t2,t5⟩,t4,t6,V2 _ (.tail _ (.head _)),t7,t8,t9,t10⟩ (λb o q=>Ub _ q) (V2 _ (.head _))
  (Q:=λ_ s3=>Heap.LeftW (PySem.W.hideAll s2.heap (a::T::ym (envOfC qual scope s.heap.objs.size f cd::outer))) (envOfC qual scope s.heap.objs.size f cd::outer) a (.ref C) a0 s2.heap s3.heap/\s3={s2 with heap:=s3.heap}) λh' hL=>⟨hL,rfl⟩)) (λ_ s3 h3=>?_) (λ_ _ z=>z)
 obtain⟨⟨hL,es⟩,hdi⟩:=h3;rw[es];refine zJt (hid:=a::T::ym (envOfC qual scope s.heap.objs.size f cd::outer)) J (.head _) (λb hb=>.tail _ (.tail _ hb)) (λb hb hn=>?_) hL hdi hE;rcases Wd.mp hb with q|q
 .rw[q];exact⟨old a fa,na⟩
 .rcases Wd.mp q with q|q
  .rw[q];exact⟨old T fT,nT⟩
  .exact absurd q hn
theorem zO7{oe:Obj}{vs:Array Value}(J:zK (ZR (CXN P w base) P w K mg base N qual scope f cd A outer s H E) pins σ H1 s1)(t1:s1.heap.get? a=some oe)(t2:oe.cls=.ref C)(t3:oe.dict=dx)(t4:oe.data=.fields vs)(t5:vs[0]?=some a0)(t6:vs[1]?=some .none)
  (fa:s.heap.get? a=none)(na:H1 a=none)(hE:E (.ref C) dx H1):(ZR (CXN P w base) P w K mg base N qual scope f cd A outer s H E).xe (.ref a) s1:=by
 have hin:∀ env∈(envOfC qual scope s.heap.objs.size f cd::outer),∀ b,env.frame=some b->b∈a::ym (envOfC qual scope s.heap.objs.size f cd::outer):=λenv he b hb=>.tail _ (VI.mpr ⟨env,he,hb⟩)
 refine W9 ((zGK (a:=a) (d:=dx) _ (.ref a)).any ⟨oe,t1,t3⟩ (wpAny_leaving_firstW (base:=PySem.W.hideAll s1.heap (a::ym (envOfC qual scope s.heap.objs.size f cd::outer))) J.ok.frames (Uy J.stack hin) rfl
  t1 (λb o q=>Ub _ q) (V2 _ (.head _)) t4 t6 t5
  (Q:=λ_ s3=>Heap.LeftW (PySem.W.hideAll s1.heap (a::ym (envOfC qual scope s.heap.objs.size f cd::outer))) (envOfC qual scope s.heap.objs.size f cd::outer) a oe.cls a0 s1.heap s3.heap/\s3={s1 with heap:=s3.heap}) λh' hL=>⟨hL,rfl⟩)) (λ_ s3 h3=>?_) (λ_ _ z=>z)
 obtain⟨⟨hL,es⟩,hdi⟩:=h3;rw[es];rw[t2] at hL;refine zJt (hid:=a::ym (envOfC qual scope s.heap.objs.size f cd::outer)) J (.head _) (λb hb=>.tail _ hb) (λb hb hn=>?_) hL hdi hE;rcases Wd.mp hb with q|q
 .rw[q];exact⟨fa,na⟩
 .exact absurd q hn
end
open Builtin Builtin.ObjectAttr
abbrev VE:List Value:=[.type "ValueError",.type "Exception",.type "BaseException",.type "object"]
section
variable {prog:Program}{w:World}{A:Around}{E:Qs}{h:Heap}{g:Array GenState}{d:Drawn}{t:Nat}{os:OsState}
variable {nm q:Str}{C N x:Addr}{bs:List Value}{sn:List Str}{sub:List Value}{ab:Bool}{col:Option Bool}{dd:Option Addr}{k0 k1 k2 k3 k5:Option Value}{newId:String}
 {mN:Qm}{name:Str}{v:Value}
theorem zJK{tk:Tok}{Q:Fin->Shared->Prop}{o:Obj}
  (hC:h.get? C=some (excClassObj nm q C N bs VE true sn sub ab col dd k0 k1 k2 k3 k5 newId))(hn:h.Ns N mN)(hna:mN name=none)
  (hB:typeLookup (.type "ValueError") name=pure none)(hx:h.get? x=some o)(hc:o.cls=.ref C)(hdn:o.dict=none)(hnc:∀ c,o.data≠.cls c)
  (hq:∀ h' tk',h'.Ns1 h.objs.size (λy=>if y=name then some v else none)->h'.get? x=some {o with dict:=some h.objs.size}->(∀ b u,b≠x->h.get? b=some u->h'.get? b=some u)->Q (.done (.ret .none)) ⟨h',g,d,tk',os⟩) :
  wpAny (model prog w) A (Builtin.«object.__setattr__» ⟨[.ref x,.str name tk,v],[]⟩) Q E ⟨h,g,d,t,os⟩:=by
 have SF:=Um;have hpass:refuseLoop (.ref x) "__setattr__" VE=pure ():=SF.passes (.ref x);have hmro:mroOf (.type "ValueError")=pure VE:=SF.mro;unfold Builtin.«object.__setattr__»
 repeat (first
 |(with_reducible refine VN hx ?_;rw[hc])
 |with_reducible refine wpAny_mroOf_exc hC ?_
 |(with_reducible refine Xn hC hn hmro hB ?_;rw[hna])
 |(rw[refuseLoop_ref,hpass])
 |rw[refuse_eq]
 |wp_step)
 rw[hdn,Wb (by simp[typeHasDict])];split
 .rename_i hcd
  cases hcd
 split
 .rename_i c hcd
  exact absurd hcd (hnc c)
 .have e1:(h.push {cls:=.type "dict",data:=.dict #[]}).get? x=some o:=Wf _ hx;have ne:x≠h.objs.size:=Wx (Wj hx);refine Wh (wpAny_alloc' (Wh (wpAny_update' e1 (WI ?_))));have eD:=(VV (h.push {cls:=.type "dict",data:=.dict #[]}) h.objs.size x (λo=>{o with dict:=some h.objs.size}) ne.symm).trans (Heap.get?_push_at (o:={cls:=.type "dict",data:=.dict #[]}) rfl rfl);have eN:((h.push {cls:=.type "dict",data:=.dict #[]}).update x λo=>{o with dict:=some h.objs.size}).Ns h.objs.size (λ_=>none):=⟨_,#[],_,eD,rfl,λz hz=>absurd hz (by simp),λ_=>rfl⟩
  show wpAny _ _ (storeInDict h.objs.size (.str name tk) name v) _ _ _;unfold storeInDict newKeyGuard;refine Wh (WI (Wh (wpAny_nsSet1 (Heap.Ns1.of_empty eN) λh' n' sb=>?_)));obtain⟨oD,esD,epD,y1,y2,y3⟩:=n'.count (Within.cons name v Within.nil);refine Wh (wpAny_lookBehind y1 (by rw[y2];exact pastItsLine_dict (WT y3 (by rw[Wn,VS,XV];omega))) ?_)
  wp_walk
  refine hq h' _ n' ?_ λb u hb e=>?_
  .refine (sb.2 x ne).trans (UK _ e1 ?_);have fr:=(Heap.get?_some_iff.mp hx).2;obtain⟨_,_,dt,_⟩:=o;cases dt <;> first|rfl|exact fr
  .exact (sb.2 b (Wx (Wj e))).trans ((VV _ _ _ _ hb).trans (Wf _ e))
theorem zKs{tk:Tok}{R:Result->Shared->Prop}{o:Obj}{sa owner:String}(SF:StoreFacts "ValueError" VE sa owner)
  (hC:h.get? C=some (excClassObj nm q C N bs VE true sn sub ab col dd k0 k1 k2 k3 k5 newId))(hn:h.Ns N mN)(hna:mN name=none)
  (hB:typeLookup (.type "ValueError") name=pure none)(hx:h.get? x=some o)(hc:o.cls=.ref C)(hdn:o.dict=none)(hnc:∀ c,o.data≠.cls c)
  (hq:∀ h' tk',h'.Ns1 h.objs.size (λy=>if y=name then some v else none)->h'.get? x=some {o with dict:=some h.objs.size}->(∀ b u,b≠x->h.get? b=some u->h'.get? b=some u)->R (.ok (.ret .none)) ⟨h',g,d,tk',os⟩) :
  codeAny (model prog w) A (.call (.builtin sa) ⟨[.ref x,.str name tk,v],[]⟩) R ⟨h,g,d,t,os⟩:=by
 exact codeAny_call_builtin SF.slot.plain SF.entry (wpAny_check_sa SF hC hx hc (zJK hC hn hna hB hx hc hdn hnc hq))
theorem zKt{Q:Unit->Shared->Prop}{o:Obj}
  (hC:h.get? C=some (excClassObj nm q C N bs VE true sn sub ab col dd k0 k1 k2 k3 k5 newId))(hn:h.Ns N mN)(hns:mN "__setattr__" = none)(hna:mN name=none)
  (hB:typeLookup (.type "ValueError") name=pure none)(hx:h.get? x=some o)(hc:o.cls=.ref C)(hdn:o.dict=none)(hnc:∀ c,o.data≠.cls c)
  (hq:∀ h' tk',h'.Ns1 h.objs.size (λy=>if y=name then some v else none)->h'.get? x=some {o with dict:=some h.objs.size}->(∀ b u,b≠x->h.get? b=some u->h'.get? b=some u)->Q () ⟨h',g,d,tk',os⟩) :
  wpAny (model prog w) A (setAttr (.ref x) name v) Q E ⟨h,g,d,t,os⟩:=by
 have SF:=Um;have hmro:mroOf (.type "ValueError")=pure VE:=SF.mro;have f3:=SF.slot.bind (.ref x);unfold setAttr callSpecial? specialOf
 repeat (any_goals (first
 |assumption
 |(with_reducible refine Xn hC hn hmro SF.slot.lookup ?_;rw[hns])
 |(with_reducible refine VN hx ?_;rw[hc])
 |wp_step))
 refine zKs SF hC hn hna hB hx hc hdn hnc λh' tk' a b c=>?_
 repeat (any_goals (first|assumption|wp_step))
 exact hq h' tk' a b c
end
theorem zGt:typeLookup (.type "ValueError") "rule" = pure none:=by rw[typeLookup_type,builtinLookup_eq_fast];kernel_rfl
theorem zFc:typeLookup (.type "ValueError") "place" = pure none:=by rw[typeLookup_type,builtinLookup_eq_fast];kernel_rfl
structure zCQ(K:Qf)(mg:Qm)(C N fI:Addr):Prop where
 mgC:mg "NoCartoon" = some (.ref C)
 kp:PySem.W.keepIn K (.ref C)=true
 cls:∃ nm q bs sn sub ab col dd k0 k1 k2 k3 k5,K.lookup C=some (excClassObj nm q C N bs VE true sn sub ab col dd k0 k1 k2 k3 k5 "ValueError.__new__")
 ns:∃ mN:Qm,(∀ h:Heap,K.In h->h.Ns N mN)/\mN "__init__" = some (.ref fI)/\mN "__setattr__" = none/\mN "rule" = none/\mN "place" = none/\mN "__getattribute__" = none/\mN "__getattr__" = none
def XO (a C t:Addr)(od:Option Addr):Heap->Prop:=λh=>h.get? a=some ⟨.ref C,od,.fields #[.ref t,.none,.none,.none,.bool false,.none],#[]⟩
theorem zKu{P:Program}{w:World}{H:Hp}{h:Heap}{a C t:Addr}{od:Option Addr}(e:h.get? a=some ⟨.ref C,od,.fields #[.ref t,.none,.none,.none,.bool false,.none],#[]⟩):yT P w H h a (.ext (XO a C t od)):=
 ⟨e,⟨_,e⟩,λh1 h2 p k=>k _ p⟩
section
variable {X:Cx}{o value:Expr}{f:Str}{pos pos':Pos}{ta tv:TE}{C N fI:Addr}
def sX0 (C:Addr)(ta tv:TE)(f:Str):TS:=λD σ H=>tv σ H λy H1=>ta σ H1 λx H2=>∃ a t,x=.ref a/\H2 a=some (.ext (XO a C t none))/\∀ dx,H2 dx=none->D.nx σ (upd (upd H2 dx (.xd [(f,y)])) a (.ext (XO a C t (some dx))))
def sX1 (C:Addr)(ta tv:TE)(f:Str):TS:=λD σ H=>tv σ H λy H1=>ta σ H1 λx H2=>∃ a t dx fs,x=.ref a/\H2 a=some (.ext (XO a C t (some dx)))/\H2 dx=some (.xd fs)/\fs.length<1000/\D.nx σ (upd H2 dx (.xd (yk f y fs)))
theorem zSJ(T:zCQ X.K X.mg C N fI)(hf:f = "rule"\/f = "place")(ha:PE X o ta)(hv:PE X value tv)(hs:swapsWith value (some (.Attribute o f pos')) pos.line X.env=pure false):PS X (.Assign [.Attribute o f pos'] value pos) (sX0 C ta tv f):=by
 intro pins s σ H D I h;refine XH (zr (hv pins s σ H _ I h) λu s1 ⟨y,H1,I1,ry,q⟩=>zr (ha pins s1 σ H1 _ I1 q) λov s2 ⟨x,H2,I2,rx,a,t,ex,ea,q2⟩=>?_) hs;subst ex;obtain rfl:ov=Value.ref a:=rx;obtain⟨nm,qq,bs,sn,sub,ab,col,dd,k0,k1,k2,k3,k5,lk⟩:=T.cls;obtain⟨mN,hN,n1,n2,n3,n4,n5,n6⟩:=T.ns;have eo:s2.heap.get? a=some ⟨.ref C,none,.fields #[.ref t,.none,.none,.none,.bool false,.none],#[]⟩:=(I2.hok a _ ea).1
 have hfn:mN f=none/\typeLookup (.type "ValueError") f=pure none:=by
  rcases hf with rfl|rfl
  .exact⟨n3,zGt⟩
  .exact⟨n4,zFc⟩
 obtain⟨hh,gg,dg,tt,oo⟩:=s2;refine zKt (I2.kIn _ _ lk) (hN _ I2.kIn) n2 hfn.1 hfn.2 eo rfl rfl (λc z=>by cases z) λh' tk' w1 w2 w3=>?_
 have hfr:H2 hh.objs.size=none:=I2.hok.fresh (We _);have ne:hh.objs.size≠a:=Ne.symm (Wx (Wj eo));refine⟨σ,_,?_,q2 hh.objs.size hfr⟩;have k1':∀ b u,b≠a->hh.get? b=some u->h'.get? b=some u:=w3
 have Uu:Un X.fs [] H2 (upd (upd H2 hh.objs.size (.xd [(f,y)])) a (.ext (XO a C t (some hh.objs.size)))) hh h':=by
  have na:∀ b u,H2 b=some u->¬ Mut (some u)->b≠a:=λb u e nm z=>by rw[z,ea] at e;cases e;exact nm True.intro
  have ns:∀ b u,hh.get? b=some u->b≠hh.objs.size:=λb u e=>Wx (Wj e)
  have nu:∀ b u,H2 b=some u->b≠hh.objs.size:=λb u e z=>by rw[z,hfr] at e;cases e
  refine⟨λb u e n _ _=>k1' b u (λz=>by rw[z,ea] at n;cases n) e,λb u e n _ _=>⟨u.slots,k1' b u (λz=>by rw[z,ea] at n;cases n) e⟩,λb u e n _=>?_,λb u e _=>?_,λb xs e=>?_,λb ob u e=>?_,λb ps e=>?_⟩
  .rw[zD (λz=>by rw[z,ea] at n;cases n),zD (ns b u e)];exact n
  .by_cases hb:b=a
   .rw[hb];exact⟨_,w2⟩
   .exact⟨u,k1' b u hb e⟩
  .rw[zD (na b _ e λz=>z),zD (nu b _ e)];exact e
  .rw[zD (na b _ e λz=>z),zD (nu b _ e)];exact e
  .exact⟨#[],by rw[zD (na b _ e λz=>z),zD (nu b _ e),e];simp⟩
 refine I2.un (t':=tk') Uu λb u e=>?_
 by_cases hb:b=a
 .subst hb;rw[zE] at e;cases e;exact zKu w2
 .rw[zD hb] at e;by_cases hb2:b=hh.objs.size
  .subst hb2;rw[zE] at e;cases e;refine⟨_,w1,λg=>?_⟩;show Yn (List.lookup g [(f,y)]) (if g=f then some u else none);by_cases q:g=f
   .subst q;rw[Wc rfl];have:List.lookup g [(g,y)]=some y:=by simp[List.lookup]
    rw[this];exact ry
   .rw[Wb q]
    have:List.lookup g [(f,y)]=none:=by
     have hb:(g==f)=false:=W8.mpr q;simp[List.lookup,hb]
    rw[this];exact True.intro
  .rw[zD hb2] at e
   have nt:∀ c,c=b\/H2 c=some (.own b)->c≠a:=λc hc z=>by
    rcases hc with r|r
    .exact hb (r ▸ z)
    .rw[z,ea] at r;cases r
   refine (I2.hok b u e).stay (λc v hc r=>k1' c v (nt c hc) r) (λc r=>?_) λc xs r=>?_
   .rw[zD (nt c (.inr r)),zD (λz=>by rw[z,hfr] at r;cases r)];exact r
   .rw[zD (λz=>by rw[z,ea] at r;cases r),zD (λz=>by rw[z,hfr] at r;cases r)];exact r
theorem zSK(T:zCQ X.K X.mg C N fI)(hf:f = "rule"\/f = "place")(ha:PE X o ta)(hv:PE X value tv)(hs:swapsWith value (some (.Attribute o f pos')) pos.line X.env=pure false):PS X (.Assign [.Attribute o f pos'] value pos) (sX1 C ta tv f):=by
 intro pins s σ H D I h;refine XH (zr (hv pins s σ H _ I h) λu s1 ⟨y,H1,I1,ry,q⟩=>zr (ha pins s1 σ H1 _ I1 q) λov s2 ⟨x,H2,I2,rx,a,t,dx,fs,ex,ea,ed,hl,q2⟩=>?_) hs;subst ex;obtain rfl:ov=Value.ref a:=rx;obtain⟨nm,qq,bs,sn,sub,ab,col,dd,k0,k1,k2,k3,k5,lk⟩:=T.cls;obtain⟨mN,hN,n1,n2,n3,n4,n5,n6⟩:=T.ns;have eo:s2.heap.get? a=some ⟨.ref C,some dx,.fields #[.ref t,.none,.none,.none,.bool false,.none],#[]⟩:=(I2.hok a _ ea).1;obtain⟨mA,hA,rA⟩:=(show ∃ mA,s2.heap.Ns1 dx mA/\∀ f,Yn (fs.lookup f) (mA f) from I2.hok dx _ ed)
 have ne:dx≠a:=λz=>by rw[z,ea] at ed;cases ed
 have hfn:mN f=none/\typeLookup (.type "ValueError") f=pure none:=by
  rcases hf with rfl|rfl
  .exact⟨n3,zGt⟩
  .exact⟨n4,zFc⟩
 have hw:Within mA (fs.map (·.1)):=λz hz=>by
  cases e:fs.lookup z with
 |none=>
   have:=rA z;rw[e] at this;exact absurd (Yn.none_of this) hz
 |some v=>exact Wp.mpr ⟨(z,v),WU e,rfl⟩
 obtain⟨hh,gg,dg,tt,oo⟩:=s2
 have hCa:a≠C:=λz=>by
  have e1:=I2.kIn _ _ lk;rw[<-z,eo] at e1;cases e1
 refine store_attr (ns:=fs.map (·.1)) Um (I2.kIn _ _ lk) (hN _ I2.kIn) n2 hfn.1 hfn.2 hCa ⟨_,eo,rfl,(λc z=>by cases z),.inr ⟨dx,rfl,ne,hA⟩⟩ (λh' tk' w1 w2 w3=>?_) hw (by rw[zX,XV];omega);obtain⟨o1,e1,c1,c2,c3,c4⟩:=w3 _ eo;obtain⟨oc1,od1,ot1,os1⟩:=o1;dsimp only at c1 c2 c3 c4;obtain rfl:=c1;obtain rfl:=c2;obtain rfl:=c3;obtain rfl:=c4 dx rfl
 have hns:h'.Ns1 dx (λz=>if z=f then some u else mA z):=by
  obtain⟨o2,p1,p2,p3,p4⟩:=w1;rw[e1] at p1;cases p1;rcases p4 with ⟨z,_⟩|⟨dz,z1,z2,z3⟩
  .cases z
  .cases z1;exact z3
 have kp:∀ b u,b≠a->b≠dx->hh.get? b=some u->h'.get? b=some u:=λb u hb hd e=>w2 b u hb (λo0 d0 e0 f0 z=>by
  rw[eo] at e0;cases e0;cases f0;exact hd z) e
 refine⟨σ,_,?_,q2⟩;have nd:∀ b u,H2 b=some u->(∀ gs,u≠.xd gs)->b≠dx:=λb u e n z=>by rw[z,ed] at e;cases e;exact n _ rfl
 have keepA:∀ b u,H2 b=none->hh.get? b=some u->h'.get? b=some u:=λb u n e=>kp b u (λz=>by rw[z,ea] at n;cases n) (λz=>by rw[z,ed] at n;cases n) e
 have Uu:Un X.fs [] H2 (upd H2 dx (.xd (yk f y fs))) hh h':=by
  refine⟨λb u e n _ _=>keepA b u n e,λb u e n _ _=>⟨u.slots,keepA b u n e⟩,λb u e n _=>?_,λb u e _=>?_,λb xs e=>?_,λb ob v e=>?_,λb ps e=>?_⟩
  .rw[zD (λz=>by rw[z,ed] at n;cases n)];exact n
  .by_cases hb:b=a
   .rw[hb];exact⟨_,e1⟩
   .by_cases hd:b=dx
    .obtain⟨od,_,_,z,_⟩:=hns;rw[hd];exact⟨od,z⟩
    .exact⟨u,kp b u hb hd e⟩
  .rw[zD (nd b _ e λgs z=>by cases z)];exact e
  .rw[zD (nd b _ e λgs z=>by cases z)];exact e
  .exact⟨#[],by rw[zD (nd b _ e λgs z=>by cases z),e];simp⟩
 refine I2.un (t':=tk') Uu λb v e=>?_
 by_cases hd:b=dx
 .subst hd;rw[zE] at e;cases e;refine⟨_,hns,λg=>?_⟩;show Yn ((yk f y fs).lookup g) (if g=f then some u else mA g);rw[yS];by_cases q:g=f
  .rw[Wc q,Wc q];exact ry
  .rw[Wb q,Wb q];exact rA g
 .rw[zD hd] at e;by_cases hb:b=a
  .subst hb;rw[ea] at e;cases e;exact zKu e1
  .have nt:∀ c,c=b\/H2 c=some (.own b)->c≠a/\c≠dx:=λc hc=>by
    rcases hc with r|r
    .subst r;exact⟨hb,hd⟩
    .exact⟨(λz=>by rw[z,ea] at r;cases r),(λz=>by rw[z,ed] at r;cases r)⟩
   refine (I2.hok b v e).stay (λc v hc r=>kp c v (nt c hc).1 (nt c hc).2 r) (λc r=>?_) λc xs r=>?_
   .rw[zD (nt c (.inr r)).2];exact r
   .rw[zD (λz=>by rw[z,ed] at r;cases r)];exact r
theorem zO8{pins:Qp}{σ:L2.St}{H:Hp}{s:Shared}{h':Heap}{a:Addr}{u:HO}(I:zK X pins σ H s)(k:∀ b o,s.heap.get? b=some o->h'.get? b=some o)(hn:s.heap.get? a=none)(new:yT X.prog X.w (upd H a u) h' a u) :
  zK X pins σ (upd H a u) {s with heap:=h'}/\H a=none:=by
 have hH:H a=none:=by
  cases q:H a with
 |none=>rfl
 |some v=>
   obtain⟨o',e⟩:=zIX (I.hok a v q);rw[hn] at e;cases e
 have ne:∀ b o,s.heap.get? b=some o->b≠a:=λb o e z=>by rw[z,hn] at e;cases e
 refine⟨I.un (t':=s.toks) ⟨λb o e _ _ _=>k b o e,λb o e _ _ _=>⟨o.slots,k b o e⟩,λb o e n _=>by rw[zD (ne b o e)];exact n,λb o e _=>⟨o,k b o e⟩,λb xs e=>by rw[zD (zJ e hH)];exact e,λb ob v e=>by rw[zD (zJ e hH)];exact e,
  λb ps e=>⟨#[],by rw[zD (zJ e hH),e];simp⟩⟩ λb v e=>?_,hH⟩
 by_cases hb:b=a
 .subst hb;rw[zE] at e;cases e;exact new
 .rw[zD hb] at e;exact (I.hok b v e).stay (λc v _ r=>k c v r) (λc r=>by rw[zD (zJ r hH)];exact r) λc xs r=>by rw[zD (zJ r hH)];exact r
def drop (H:Hp)(a:Addr):Hp:=λb=>if b=a then none else H b
theorem zAK{H:Hp}{a b:Addr}(h:b≠a):drop H a b=H b:=Wb h
theorem zEX{H:Hp}{a:Addr}:drop H a a=none:=Wc rfl
theorem zNW{pins:Qp}{σ:L2.St}{H:Hp}{s:Shared}{a:Addr}{φ:Heap->Prop}(I:zK X pins σ H s)(ea:H a=some (.ext φ)):zK X pins σ (drop H a) s:=by
 have nn:∀ b,H b=none->drop H a b=none:=λb n=>by
  by_cases hb:b=a
  .rw[hb];exact zEX
  .rw[zAK hb];exact n
 refine⟨I.ok,I.os,I.bare,⟨I.base.keep,I.base.slot,λb o e n hx=>nn b (I.base.free b o e n hx),I.base.there,λb xs e=>?_,λb ob v e=>?_,λb ps e=>?_⟩,I.loc,I.cell,nn _ I.free,λx c e=>nn c (I.freeC x c e),λp hp=>⟨(I.pin p hp).1,nn _ (I.pin p hp).2.1,(I.pin p hp).2.2⟩,λb v e=>?_,I.len⟩
 .have q:=I.base.tups b xs e;rw[zAK (λz=>by rw[z,ea] at q;cases q)];exact q
 .have q:=I.base.frzs b ob v e;rw[zAK (λz=>by rw[z,ea] at q;cases q)];exact q
 .obtain⟨m,q⟩:=I.base.tbls b ps e;exact⟨m,by rw[zAK (λz=>by rw[z,ea] at q;cases q)];exact q⟩
 .have hb:b≠a:=λz=>by rw[z,zEX] at e;cases e
  rw[zAK hb] at e;exact (I.hok b v e).stay (λ_ _ _ r=>r) (λc r=>by rw[zAK (λz=>by rw[z,ea] at r;cases r)];exact r) λc xs r=>by rw[zAK (λz=>by rw[z,ea] at r;cases r)];exact r
def zDS (C:Addr):Sp:=λvs H Q _=>∃ (a t:Addr) (v1 v2:V),vs=[.ref a,v1,v2]/\H a=some (.ext (XO a C t none))/\
 ∀ dx,H dx=none->Q .non (upd (upd (upd H dx (.xd [("rule",v1)])) a (.ext (XO a C t (some dx)))) dx (.xd (yk "place" v2 [("rule",v1)])))
end
section
variable {M:Model}{A:Around}{E:Qs}{env:Env}
variable {nm q:Str}{C N:Addr}{bs:List Value}{hdct:Bool}{sn:List Str}{sub:List Value}{ab:Bool}{col:Option Bool}{dd:Option Addr}{k0 k1 k2 k3 k5:Option Value}{newId:String}
theorem zJL{s:Shared}{x:Sem Value}{Q:Flow->Shared->Prop}(hh:A.handled=none)
  (h:wpAny M A x (λv s1=>∃ e t dx,v=.ref e/\s1.heap.get? C=some (excClassObj nm q C N bs VE hdct sn sub ab col dd k0 k1 k2 k3 k5 newId)/\
   s1.heap.get? e=some ⟨.ref C,some dx,.fields #[.ref t,.none,.none,.none,.bool false,.none],#[]⟩/\E (.ref e) s1) E s):wpAny M A (raiseStmt env (some x) none) Q E s:=by
 have hb:(Value.ref C::VE).contains (.type "BaseException")=true:=by rw[List.contains_cons,show VE.contains (.type "BaseException")=true by decide,U7]
 unfold raiseStmt;refine Wh (W9 h (λv s1 h1=>?_) λ_ _ z=>z);obtain⟨e,t,dx,rfl,hC,he,hE⟩:=h1;obtain⟨hp,g,d,tk,os⟩:=s1
 repeat (first
 |(with_reducible refine wpAny_isSubtype_exc hC ?_;rw[hb])
 |with_reducible refine VN he ?_
 |with_reducible refine VN hC ?_
 |wp_step)
 exact wpAny_raiseNew_none hh hE
end
def xHp (H1:Hp)(a t dx C:Addr)(v1 v2:V):Hp:=upd (upd (upd (upd H1 a (.ext (XO a C t none))) dx (.xd [("rule",v1)])) a (.ext (XO a C t (some dx)))) dx (.xd (yk "place" v2 [("rule",v1)]))
def zMF (C:Addr)(t:TA):TE:=λσ H Q=>t σ H λvs H1=>∃ v1 v2,vs=[v1,v2]/\∀ a t dx,H1 a=none->H1 dx=none->dx≠a->Q (.ref a) (xHp H1 a t dx C v1 v2)
section
variable {X:Cx}{C N fI:Addr}{k:Nat}{fd:FuncData}{ps:List Str}{p pos:Pos}{e:Expr}{es:List Expr}{t:TA}
theorem zNX(T:zCQ X.K X.mg C N fI)(hfi:∃ oI,X.K.lookup fI=some oI/\oI.cls=.type "function")(F:Y2 X.prog X.w X.K X.mg X.base CX0 k fI fd ps (zDS C))(hr:zn (k+1) X.A)(hg:Gl X "NoCartoon")(hb:ZK X.K fd ps [])
  (ha:PA X (e::es) t)(he:starEach (e::es) X.env=(false,eval e X.env)::starEach es X.env:=by rfl)(hpl:(backTo pos (starEach es X.env)).any (·.1)=false:=by rfl) :
  PE X (.Call (.Name "NoCartoon" p) (e::es) [] pos) (zMF C t):=by
 intro pins s σ H Q I h;refine Vx (zAn I hg T.mgC ?_ (by decide));refine XB (h₀:=X.base) I.ok.mod.kin T.kp (zr (ha pos pins s σ H _ I h) λus s1 ⟨vs,H1,I1,r,v1,v2,ev,q⟩=>⟨I1.kIn,?_⟩) he hpl;obtain⟨nm,qq,bs,sn,sub,ab,col,dd,k0,k1,k2,k3,k5,lk⟩:=T.cls;obtain⟨mN,hN,n1,n2,n3,n4,n5,n6⟩:=T.ns;obtain⟨oI,lI,cI⟩:=hfi;obtain⟨hh,gg,dg,tt,oo⟩:=s1
 have hlen:us.length<=sizeLine:=by
  have:=r.length;rw[ev] at this;rw[<-this];show 2<=sizeLine;decide
 refine wpAny_call_exc_init PySem.F.excBase_ValueError (I1.kIn _ _ lk) (hN _ I1.kIn) n1 (I1.kIn _ _ lI) cI (λh' x hm=>?_) hlen;obtain⟨t0,m1,m2,m3⟩:=hm.there;have m1':h'.get? x=some ⟨.ref C,none,.fields #[.ref t0,.none,.none,.none,.bool false,.none],#[]⟩:=m1;obtain⟨I2,hx⟩:=zO8 (s:=⟨hh,gg,dg,tt,oo⟩) (u:=.ext (XO x C t0 none)) I1 hm.keeps hm.new (zKu m1');have r2:zY (V.ref x::vs) (Value.ref x::us):=.cons rfl r
 have hsp:zDS C (V.ref x::vs) (upd H1 x (.ext (XO x C t0 none))) (λv H3=>v=.non/\Q (.ref x) H3) E0:=by
  refine⟨x,t0,v1,v2,by rw[ev],zE,λdx hd=>⟨rfl,?_⟩⟩;have ne:dx≠x:=λz=>by rw[z,zE] at hd;cases hd
  rw[zD ne] at hd;exact q x t0 dx hx hd ne
 have hl:(Value.ref x::us++[]).length=ps.length:=by
  rw[VU,<-r2.length];exact F.len _ _ _ _ hsp
 have bnd:=hb _ (Value.ref x::us) I2.kIn hl;rw[VU] at bnd;refine Ux (Xq (F.run _ X.stack _ _ ⟨Value.ref x::us,[]⟩ (Value.ref x::us) _ _ E0 (hr.make C us []) (I2.env0.make C us []) bnd r2 hsp) λrr s' hq=>?_);cases rr with
|error z=>exact hq.elim
|ok fl=>
  cases fl with
 |ret u=>
   obtain⟨v,H3,I3,rv,ev3,q3⟩:=I2.after hq;subst ev3;exact⟨rv,V.ref x,H3,I3,rfl,q3⟩
 |next=>exact False.elim hq
 |brk=>exact False.elim hq
 |cont=>exact False.elim hq
end
def zGL (C:Addr)(E:XK)(H0:Hp):VK:=λv H3=>∃ a t0 dx fs,v=.ref a/\H3 a=some (.ext (XO a C t0 (some dx)))/\H3 dx=some (.xd fs)/\H0 a=none/\E (.ref C) (some dx) (drop H3 a)
def zJu (C:Addr)(E:XK)(H0:Hp)(t:TA):TS:=λD σ H=>zMF C t σ H (zGL C E H0)
theorem zNY{H1:Hp}{a t dx C:Addr}{v1 v2:V}(ha:H1 a=none)(hd:H1 dx=none):zH H1 (drop (xHp H1 a t dx C v1 v2) a):=λb o e=>by
 have n1:b≠a:=λz=>by rw[z,ha] at e;cases e
 have n2:b≠dx:=λz=>by rw[z,hd] at e;cases e
 rw[zAK n1];unfold xHp;rw[zD n2,zD n1,zD n2,zD n1];exact e
theorem zO9{C:Addr}{E:XK}{H0 H1:Hp}{v1 v2:V}(s0:∀ b,H1 b=none->H0 b=none)(hE:∀ (H':Hp) (dx:Addr),zH H1 H'->H' dx=some (.xd (yk "place" v2 [("rule",v1)]))->E (.ref C) (some dx) H') :
  ∀ a t dx,H1 a=none->H1 dx=none->dx≠a->zGL C E H0 (.ref a) (xHp H1 a t dx C v1 v2):=λa t dx ha hd ne=>by
 refine⟨a,t,dx,_,rfl,?_,zE,s0 a ha,hE _ dx (zNY ha hd) ?_⟩
 .unfold xHp;rw[zD ne.symm,zE]
 .rw[zAK ne];exact zE
section
variable {P:Program}{w:World}{K:Qf}{mg:Qm}{base:Heap}{Nm:List Str}{qual:Str}{scope:Scope}{f:Addr}{cd:Value}{A:Around}{outer:List Env}{s:Shared}{H:Hp}{E:XK}
 {C N fI:Addr}{k:Nat}{fd:FuncData}{ps:List Str}{p pos cpos:Pos}{e:Expr}{es:List Expr}{t:TA}
theorem zMG(T:zCQ K mg C N fI)(hfi:∃ oI,K.lookup fI=some oI/\oI.cls=.type "function")(F:Y2 P w K mg base CX0 k fI fd ps (zDS C))(hr:zn (k+1) (ZR (CXN P w base) P w K mg base Nm qual scope f cd A outer s H E).A)(hg:Gl (ZR (CXN P w base) P w K mg base Nm qual scope f cd A outer s H E) "NoCartoon")(hb:ZK K fd ps [])
  (ha:PA (ZR (CXN P w base) P w K mg base Nm qual scope f cd A outer s H E) (e::es) t)
  (he:starEach (e::es) (envOfC qual scope s.heap.objs.size f cd)=(false,eval e (envOfC qual scope s.heap.objs.size f cd))::starEach es (envOfC qual scope s.heap.objs.size f cd):=by rfl)
  (hpl:(backTo cpos (starEach es (envOfC qual scope s.heap.objs.size f cd))).any (·.1)=false:=by rfl) :
  PS (ZR (CXN P w base) P w K mg base Nm qual scope f cd A outer s H E) (.Raise (some (.Call (.Name "NoCartoon" p) (e::es) [] cpos)) none pos) (zJu C E H t):=by
 intro pins s1 σ H1 D I h;have mk:=zNX (X:=ZR (CXN P w base) P w K mg base Nm qual scope f cd A outer s H E) (p:=p) (pos:=cpos) T hfi F hr hg hb ha he hpl;obtain⟨nm,qq,bs,sn,sub,ab,col,dd,k0,k1,k2,k3,k5,lk⟩:=T.cls;rw[arm_exec_Raise];refine Wh (XT ?_);refine zJL (C:=C) (nm:=nm) (q:=qq) (N:=N) (bs:=bs) (hdct:=true) (sn:=sn) (sub:=sub) (ab:=ab) (col:=col) (dd:=dd) (k0:=k0) (k1:=k1) (k2:=k2) (k3:=k3) (k5:=k5) (newId:="ValueError.__new__") (I.ok.hd rfl) ?_;refine Wh (zr (mk pins s1 σ H1 (zGL C E H) I h) λu s2 hu=>Wh (XT (WI ?_)));obtain⟨v,H3,I3,rv,a,t0,dx,fs,rfl,ea,ed,h0,hE⟩:=hu;obtain rfl:u=Value.ref a:=rv;have eo:=(I3.hok a _ ea).1;refine⟨a,t0,dx,rfl,I3.kIn _ _ lk,eo,?_⟩
 have fa:s.heap.get? a=none:=by
  cases q:s.heap.get? a with
 |none=>rfl
 |some o=>
   have z:=I3.base.free a o q h0 (by intro z;cases z);rw[ea] at z;cases z
 exact zO7 (zNW I3 ea) eo rfl rfl rfl rfl rfl fa zEX hE
end
section
variable {prog:Program}{w:World}{A:Around}{E:Qs}{h:Heap}{g:Array GenState}{d:Drawn}{t:Nat}{os:OsState}{a dx:Addr}{o:Obj}{mA mN:Qm}{name:Str}{v:Value}
variable {nm q:Str}{C N:Addr}{bs:List Value}{sn:List Str}{sub:List Value}{ab:Bool}{col:Option Bool}{dd:Option Addr}{k0 k1 k2 k3 k5:Option Value}{newId:String}
theorem zNZ{tk:Tok}{Q:Fin->Shared->Prop}(hC:h.get? C=some (excClassObj nm q C N bs VE true sn sub ab col dd k0 k1 k2 k3 k5 newId))(hN:h.Ns N mN)(hna:mN name=none)(hB:typeLookup (.type "ValueError") name=pure none)
  (hx:h.get? a=some o)(hc:o.cls=.ref C)(hnc:∀ c,o.data≠.cls c)(hd:o.dict=some dx)(hs:h.Ns1 dx mA)(hv:mA name=some v)(hq:Q (.done (.ret v)) ⟨h,g,d,t,os⟩) :
  wpAny (model prog w) A (Builtin.«object.__getattribute__» ⟨[.ref a,.str name tk],[]⟩) Q E ⟨h,g,d,t,os⟩:=by
 have hmro:mroOf (.type "ValueError")=pure VE:=PySem.F.store_ValueError.mro;unfold Builtin.«object.__getattribute__»
 repeat (first
 |(with_reducible refine Xn hC hN hmro hB ?_;rw[hna])
 |(with_reducible refine VN hx ?_;rw[hc])
 |wp_step)
 split
 .rename_i c hcd
  exact absurd hcd (hnc c)
 unfold instanceDict
 repeat (first
 |with_reducible refine VN hC ?_
 |(with_reducible refine VN hx ?_;rw[hc])
 |wp_step)
 rw[hd]
 repeat (first
 |(with_reducible refine wpAny_nsGet hs.ns ?_;rw[hv])
 |wp_step)
 exact hq
theorem zPA{tk:Tok}{R:Result->Shared->Prop}{bm:List Value}(FB:ExcAttrBase "ValueError" bm)(hbm:bm=VE)(hC:h.get? C=some (excClassObj nm q C N bs VE true sn sub ab col dd k0 k1 k2 k3 k5 newId))(hN:h.Ns N mN)(hna:mN name=none)(hB:typeLookup (.type "ValueError") name=pure none)
  (hx:h.get? a=some o)(hc:o.cls=.ref C)(hnc:∀ c,o.data≠.cls c)(hd:o.dict=some dx)(hs:h.Ns1 dx mA)(hv:mA name=some v)(hq:R (.ok (.ret v)) ⟨h,g,d,t,os⟩) :
  codeAny (model prog w) A (.call (.builtin "BaseException.__getattribute__") ⟨[.ref a,.str name tk],[]⟩) R ⟨h,g,d,t,os⟩:=by
 subst hbm;exact codeAny_call_builtin FB.ga.plain PySem.F.entry_bexc_ga (wpAny_check_ga_own FB hC .base hx hc (zNZ hC hN hna hB hx hc hnc hd hs hv hq))
theorem zSL{tk:Tok}{fill expr:Bool}{Q:Qs}(hC:h.get? C=some (excClassObj nm q C N bs VE true sn sub ab col dd k0 k1 k2 k3 k5 newId))(hN:h.Ns N mN)(hn1:mN "__getattribute__" = none)(hn2:mN "__getattr__" = none)(hna:mN name=none)(hB:typeLookup (.type "ValueError") name=pure none)
  (hx:h.get? a=some o)(hc:o.cls=.ref C)(hnc:∀ c,o.data≠.cls c)(hd:o.dict=some dx)(hs:h.Ns1 dx mA)(hv:mA name=some v)(hh:handedOut v=pure v)(hq:Q v ⟨h,g,d,t,os⟩) :
  wpAny (model prog w) A (getAttrBy (.ref a) (.str name tk) fill expr) Q E ⟨h,g,d,t,os⟩:=by
 have FB:=PySem.F.attrBase_ValueError;have hmro:mroOf (.type "ValueError")=pure VE:=PySem.F.store_ValueError.mro;have b3:=FB.ga.bind (.ref a);have y0:(expr&&onTheHeap (Value.builtin "BaseException.__getattribute__"))=false:=by cases expr <;> rfl
 have y2:(Value.builtin "BaseException.__getattribute__" == Value.builtin "object.__getattribute__")=false:=by decide +kernel
 have y1:(onTheHeap (Value.ref C)&&Value.builtin "BaseException.__getattribute__" == Value.builtin "object.__getattribute__")=false:=by rw[y2];rfl
 repeat (any_goals (first
 |assumption
 |(with_reducible refine VN hx ?_;rw[hc])
 |(with_reducible refine Xn hC hN hmro FB.ga.lookup ?_;rw[hn1])
 |(with_reducible refine Xn hC hN hmro FB.noGetattr ?_;rw[hn2])
 |wp_step))
 refine zPA FB rfl hC hN hna hB hx hc hnc hd hs hv ?_
 repeat (any_goals (first
 |assumption
 |(rw[hh];refine WI ?_)
 |wp_step))
theorem zPB{expr:Bool}{Q:Qs}(hC:h.get? C=some (excClassObj nm q C N bs VE true sn sub ab col dd k0 k1 k2 k3 k5 newId))(hN:h.Ns N mN)(hn1:mN "__getattribute__" = none)(hn2:mN "__getattr__" = none)(hna:mN name=none)(hB:typeLookup (.type "ValueError") name=pure none)
  (hx:h.get? a=some o)(hc:o.cls=.ref C)(hnc:∀ c,o.data≠.cls c)(hd:o.dict=some dx)(hs:h.Ns1 dx mA)(hv:mA name=some v)(hh:handedOut v=pure v)(hq:Q v ⟨h,g,d,t+1,os⟩) :
  wpAny (model prog w) A (getAttr (.ref a) name expr) Q E ⟨h,g,d,t,os⟩:=by
 unfold getAttr;refine Wh (wpAny_mkText ?_);exact zSL hC hN hn1 hn2 hna hB hx hc hnc hd hs hv hh hq
end
section
variable {X:Cx}{pins:Qp}{σ:L2.St}{H:Hp}{s:Shared}{h':Heap}
theorem zMH{hid:List Addr}(J:zK X pins σ H s)(hst:X.stack=X.env::X.outer)(hfr:X.env.frame=some X.env.locals)(hex:X.ex=[])(keep:∀ b u,s.heap.get? b=some u->b∉hid->h'.get? b=some u)(ups:s.heap.UpToSlots h')
  (hh:∀ b∈hid,b∉ym X.stack->X.s_0.heap.get? b=none/\H b=none/\∀ p∈X.pn++pins,p.1≠b)(thr:∀ b∈ym X.stack,∃ o,h'.get? b=some o):zK X pins σ H {s with heap:=h'}:=by
 have efs:ym X.stack=X.env.locals::X.fs:=by
  rw[hst];show List.filterMap _ _=_;rw[V6,hfr];rfl
 have trk:∀ b u,H b=some u->b∉hid:=λb u e hm=>by
  by_cases hb:b∈ym X.stack
  .rw[J.stkFree b hb] at e;cases e
  .rw[(hh b hm hb).2.1] at e;cases e
 have old:∀ b o,X.s_0.heap.get? b=some o->b∉X.fs->b∉hid:=λb o e hn hm=>by
  by_cases hb:b∈ym X.stack
  .rw[efs] at hb;rcases Wd.mp hb with q|q
   .have l1:=Wj e;have l2:=J.ok.above;rw[q] at l1;exact absurd (yR l1 l2) (VB _)
   .exact hn q
  .rw[(hh b hm hb).1] at e;cases e
 obtain⟨m,hn,hl⟩:=J.loc
 have cellK:∀ c v,s.heap.IsCell c v->h'.IsCell c v:=λc v hc=>by
  obtain⟨o,e,q⟩:=hc;obtain⟨sl,e'⟩:=ups c o e (λvs z=>by rw[q] at z;cases z);exact⟨_,e',q⟩
 refine⟨J.ok,J.os,J.bare,⟨λb o e n hf hx=>keep b o (J.base.keep b o e n hf hx) (old b o e hf),λb o e n hf hx=>?_,J.base.free,λb o e hx=>?_,J.base.tups,J.base.frzs,J.base.tbls⟩,⟨m,ups.ns hn,λi x v e1 e2 e3=>?_⟩,λx c e=>?_,J.free,J.freeC,λp hp=>?_,λb u e=>?_,J.len⟩
 .obtain⟨sl,q⟩:=J.base.slot b o e n hf hx;obtain⟨_,o',ho',hn'⟩:=J.ok.funs.mem hf;rw[e] at ho';cases ho';obtain⟨sl',q'⟩:=ups b _ q (λvs z=>hn' vs z);exact⟨sl',q'⟩
 .obtain⟨o1,q⟩:=J.base.there b o e hx;by_cases hm:b∈hid
  .by_cases hb:b∈ym X.stack
   .exact thr b hb
   .rw[(hh b hm hb).1] at e;cases e
  .exact⟨o1,keep b o1 q hm⟩
 .obtain⟨u,r,lk⟩:=hl i x v e1 e2 e3;refine⟨u,r,?_⟩;rcases lk with z|⟨z,c,c1,c2⟩
  .exact .inl z
  .exact .inr ⟨z,c,c1,cellK c _ c2⟩
 .obtain⟨v,hc⟩:=J.cell x c e;exact⟨v,cellK c v hc⟩
 .obtain⟨p1,p2,p3,p4,p5⟩:=J.pin p hp;refine⟨keep p.1 p.2 p1 λhm=>?_,p2,p3,p4,p5⟩;by_cases hb:p.1∈ym X.stack
  .rw[efs] at hb;rcases Wd.mp hb with q|q
   .exact p3 q
   .exact p4 q
  .exact (hh p.1 hm hb).2.2 p hp rfl
 .refine (J.hok b u e).stay (λc v hc q=>keep c v q ?_) (λ_ q=>q) λ_ _ q=>q
  rcases hc with rfl|hc
  .exact trk c u e
  .exact trk c _ hc
theorem zKv{m':Qm}{tk:Nat}(J:zK X pins σ H s)(hex:X.ex=[])(hn:h'.Ns X.env.locals m')(sb:Heap.SameBut X.env.locals s.heap h'):zK X pins (List.replicate X.N.length none) H {s with heap:=h',toks:=tk}:=by
 have nl:∀ b u,X.s_0.heap.get? b=some u->b≠X.env.locals:=λb u e z=>by
  have l1:=Wj e;have l2:=J.ok.above;rw[z] at l1;exact absurd (yR l1 l2) (VB _)
 refine⟨J.ok,J.os,J.bare,⟨λb o e n hf hx=>(sb.2 b (nl b o e)).trans (J.base.keep b o e n hf hx),λb o e n hf hx=>?_,J.base.free,λb o e hx=>?_,J.base.tups,J.base.frzs,J.base.tbls⟩,⟨m',hn,λi x v e1 e2 e3=>?_⟩,λx c e=>?_,J.free,J.freeC,λp hp=>?_,λb u e=>?_,by simp⟩
 .obtain⟨sl,q⟩:=J.base.slot b o e n hf hx;exact⟨sl,(sb.2 b (nl b o e)).trans q⟩
 .obtain⟨o1,q⟩:=J.base.there b o e hx;exact⟨o1,(sb.2 b (nl b o e)).trans q⟩
 .rw[V8] at e2;split at e2 <;> cases e2
 .obtain⟨v,o,e',q⟩:=J.cell x c e;exact⟨v,o,(sb.2 c (J.cne x c e)).trans e',q⟩
 .obtain⟨p1,p2,p3,p4,p5⟩:=J.pin p hp;exact⟨(sb.2 _ p3).trans p1,p2,p3,p4,p5⟩
 .refine (J.hok b u e).stay (λc v hc q=>(sb.2 c ?_).trans q) (λ_ q=>q) λ_ _ q=>q
  rcases hc with rfl|hc
  .intro z;rw[z,J.free] at e;cases e
  .intro z;rw[z,J.free] at hc;cases hc
end
def tXF (a dx:Addr)(te:TE)(f:Str):TE:=λσ H Q=>te σ H λx H1=>x=.ref a/\∃ fs v,H1 dx=some (.xd fs)/\fs.lookup f=some v/\Q v H1
theorem zJv{X:Cx}{C N fI a dx:Addr}{oe:Obj}{e:Expr}{te:TE}{f:Str}{pos:Pos}(T:zCQ X.K X.mg C N fI)(hp:(a,oe)∈X.pn)(h1:oe.cls=.ref C)(h2:oe.dict=some dx)(h3:∀ c,oe.data≠.cls c)(hf:f = "rule"\/f = "place")(he:PE X e te)
  (hb:attributeBase e f X.env (eval e X.env)=eval e X.env):PE X (.Attribute e f pos) (tXF a dx te f):=by
 intro pins s σ H Q I h;refine zJX hb (zr (he pins s σ H _ I h) λu s1 ⟨x,H1,I1,rx,ex,fs,v,ed,ev,q⟩=>?_);subst ex;obtain rfl:u=Value.ref a:=rx;obtain⟨nm,qq,bs,sn,sub,ab,col,dd,k0,k1,k2,k3,k5,lk⟩:=T.cls;obtain⟨mN,hN,n1,n2,n3,n4,n5,n6⟩:=T.ns;obtain⟨mA,hA,rA⟩:=(show ∃ mA,s1.heap.Ns1 dx mA/\∀ f,Yn (fs.lookup f) (mA f) from I1.hok dx _ ed)
 obtain⟨p1,_⟩:=I1.pin (a,oe) (XZ _ hp)
 have hfn:mN f=none/\typeLookup (.type "ValueError") f=pure none:=by
  rcases hf with rfl|rfl
  .exact⟨n3,zGt⟩
  .exact⟨n4,zFc⟩
 obtain⟨u2,hu,ru⟩:=Yn.some_of (v:=v) (o:=mA f) (by rw[<-ev];exact rA f);obtain⟨hh,gg,dg,tt,oo⟩:=s1
 have hand:handedOut u2=pure u2:=by
  cases v with
 |non=>cases (show u2=Value.none from ru);rfl
 |bl b=>cases (show u2=Value.bool b from ru);rfl
 |int i=>obtain⟨t,e⟩:=(show ∃ t,u2=Value.int i t from ru);cases e;rfl
 |str x=>obtain⟨t,e⟩:=(show ∃ t,u2=Value.str x t from ru);cases e;rfl
 |byt b=>obtain⟨t,e⟩:=(show ∃ t,u2=Value.bytes b t from ru);cases e;rfl
 |flt b=>obtain⟨t,e⟩:=(show ∃ t,u2=Value.float b t from ru);cases e;rfl
 |ref c=>cases (show u2=Value.ref c from ru);rfl
 |ty n=>cases (show u2=Value.type n from ru);rfl
 exact zPB (I1.kIn _ _ lk) (hN _ I1.kIn) n5 n6 hfn.1 hfn.2 p1 h1 h3 h2 hA hu hand ⟨v,H1,I1.tok _,ru,q⟩
theorem zDT{X:Cx}{pins pins':Qp}{σ:L2.St}{H:Hp}{s:Shared}{A':Around}{c':Bool}{pn':Qp}{xe':Qs}(I:zK X pins σ H s)(hA:A'.frames=X.A.frames)(hc:c'=true->A'.handled=none)
  (hp:∀ p∈pn'++pins',s.heap.get? p.1=some p.2/\H p.1=none/\p.1≠X.env.locals/\p.1∉X.fs/\∀ v,p.2.data≠.cell v):zK {X with A:=A',calm:=c',pn:=pn',xe:=xe'} pins' σ H s:=
 ⟨⟨I.ok.mod,I.ok.kind,I.ok.glob,I.ok.blt,I.ok.above,I.ok.inj,I.ok.has,I.ok.cab,hc,hA.trans I.ok.frames,I.ok.stk,I.ok.exf,I.ok.bs,I.ok.bsz,I.ok.noex,I.ok.exfs,I.ok.funs,I.ok.frf⟩,I.os,I.bare,I.base,I.loc,I.cell,I.free,I.freeC,hp,I.hok,I.len⟩
end Kx
namespace Kq
open PySem PySem.Spec PyProof.Rows L2
structure Zk(k:Nat)(A:Around):Prop where
 dp:A.depth+3*k+5<recursionLimit
 un:A.units+16*k+200<cLine
theorem Zk.of{k:Nat}{A:Around}(r:zn k A):Zk k A:=⟨r.dp,r.un⟩
theorem Zk.mark{k:Nat}{A:Around}(r:Zk k A)(v:Option Value):Zk k (A.mark v):=⟨r.dp,r.un⟩
theorem Zk.dpr{k:Nat}{A:Around}(r:Zk (k+1) A)(env:Env):Zk k (A.deeper env):=
 ⟨by have:=r.dp;show A.depth+1+3*k+5<_;lia,by have:=r.un;show A.units+3+16*k+200<_;lia⟩
theorem Zk.mk1{k:Nat}{A:Around}(r:Zk (k+1) A)(C:Addr)(us:List Value)(kw:List (Str×Value)):Zk k (A.under (.builtin "type.__call__" ⟨.ref C::us,kw⟩)):=
 ⟨by have:=r.dp;rw[zFy];lia,by have:=r.un;rw[zFz];lia⟩
structure FnQ(P:Program)(w:World)(K:Qf)(mg:Qm)(base:Heap)(CX:CXT)(k:Nat)(f:Addr)(fd:FuncData)(ps:List Str)(sp:Sp):Prop where
 len:∀ vs H Q E,sp vs H Q E->vs.length=ps.length
 run:∀ (A:Around) (outer:List Env) (s:Shared) (H:Hp) (args:Args) (us:List Value) (vs:List V) (Q:VK) (E:XK),Zk k A->zCz P w K mg base A outer s H->BindsTo s fd args (ps.zip us)->zY vs us->sp vs H Q E->
  codeAny (model P w) A (.call (.ref f) args) (CR CX outer P w H s Q E) s
theorem FnQ.ok{P:Program}{w:World}{K:Qf}{mg:Qm}{base:Heap}{CX:CXT}{k:Nat}{f:Addr}{fd:FuncData}{ps:List Str}{sp:Sp}(F:FnQ P w K mg base CX k f fd ps sp):Y2 P w K mg base CX k f fd ps sp:=
 ⟨F.len,λA outer s H args us vs Q E hr=>F.run A outer s H args us vs Q E (.of hr)⟩
def cxQ (CX:CXT)(P:Program)(w:World)(K:Qf)(mg:Qm)(base:Heap)(N:List Str)(qual:Str)(scope:Scope)(f:Addr)(cd:Value)(A:Around)(outer:List Env)(s:Shared)(H:Hp)(E:XK):Cx:=
 {ZR CX P w K mg base N qual scope f cd A outer s H E with calm:=false}
theorem zPC{CX:CXT}{P:Program}{w:World}{K:Qf}{mg:Qm}{base:Heap}{N ps:List Str}{qual:Str}{scope:Scope}{f:Addr}{cd:Value}{A:Around}{outer:List Env}{s s1:Shared}{H:Hp}{E:XK}{us:List Value}{vs:List V}
  (S:zO N ps scope)(e0:zCz P w K mg base A outer s H)(hl:vs.length=ps.length)(r:zY vs us)
  (x:InCallC s s.heap.objs.size (bindL (envOfC qual scope s.heap.objs.size f cd).kindOf (ps.zip us) λ_=>none) (cellsFrom (s.heap.objs.size+1) scope.names []) (bindC (envOfC qual scope s.heap.objs.size f cd).kindOf (ps.zip us) λ_=>none) s1) :
  zK (cxQ CX P w K mg base N qual scope f cd A outer s H E) [] (YW N vs) H s1:=by
 have e1:zCz P w K mg base {A with handled:=none} outer s H:=⟨e0.frames,e0.mod,e0.bs,e0.bsz,e0.funs,e0.frf,e0.hok,e0.bare⟩
 have I:=zHI (CX:=CX) (A:={A with handled:=none}) (qual:=qual) (f:=f) (cd:=cd) (E:=E) S rfl e1 hl r x;have J:=Kx.zDT (pins':=[]) (A':=A.deeper (envOfC qual scope s.heap.objs.size f cd)) (c':=false) (pn':=[]) (xe':=(ZR CX P w K mg base N qual scope f cd A outer s H E).xe) I rfl (λz=>by cases z) (λp hp=>by simp at hp);exact J
theorem zQ1{CX:CXT}{P:Program}{w:World}{K:Qf}{mg:Qm}{base:Heap}{k:Nat}{f:Addr}{name qual:Str}{params:Arguments}{body:List Stmt}{scope:Scope}{dV kV doc pm cdv ct oc:Value}{an od:Option Addr}
  {osl:Array (Option Value)}{N ps:List Str}{sp:Sp}(lk:K.lookup f=some ⟨oc,od,.func (PySem.W.fnOf name qual params body scope dV kV doc pm an cdv ct),osl⟩) (hcd:PySem.W.codeIn K cdv qual=true) (S:zO N ps scope)
  (len:∀ vs H Q E,sp vs H Q E->vs.length=ps.length)
  (hbody:∀ (A:Around) (outer:List Env) (s:Shared) (H:Hp) (vs:List V) (Q:VK) (E:XK),Zk k (A.deeper (envOfC qual scope s.heap.objs.size f cdv))->sp vs H Q E->
   ∃ t,PSs (cxQ CX P w K mg base N qual scope f cdv A outer s H E) body t/\t {nx:=λ_ H'=>Q .non H',rt:=Q} (YW N vs) H) :
  FnQ P w K mg base CX (k+1) f (PySem.W.fnOf name qual params body scope dV kV doc pm an cdv ct) ps sp:=by
 refine⟨len,λA outer s H args us vs Q E hr e0 hb r hsp=>?_⟩;have hl:=len _ _ _ _ hsp;have KX:K.In s.heap:=e0.mod.kin.keeps λb o e=>(e0.bs b o e).1
 have lim:s.heap.NoLimit:=e0.mod.nolimit.keeps λb o e=>(e0.bs b o e).1
 have hkind:∀ y∈ps.zip us,scope.names.lookup y.1=some .local\/(scope.names.lookup y.1=some .cell/\((cellsFrom (s.heap.objs.size+1) scope.names []).lookup y.1).isSome=true):=λ⟨n,v⟩ hy=>by
  rcases S.par n (X8 hy).1 with q|q
  .exact .inl q
  .exact .inr ⟨q,Uz _ _ _ (.inl q)⟩
 refine codeAny_call_function (by have:=hr.dp;lia) (KX _ _ lk) rfl S.co S.gen rfl (PySem.W.codeRec_of KX hcd) (hb _ _ _ _ ?_);refine Jk S.kind hkind λenv he s1 x=>?_
 subst he;refine⟨lim.keeps x.toInCall.keep,codeAny_func ?_⟩;obtain⟨t,ht,hq⟩:=hbody A outer s H vs Q E (hr.dpr _) hsp;have I:zK (cxQ CX P w K mg base N qual scope f cdv A outer s H E) [] (YW N vs) H s1:=zPC S e0 hl r x;refine W9 (ht [] s1 (YW N vs) H _ I hq) (λfl s' hs=>?_) λe s' hs=>hs
 have fin:∀ {σ':L2.St}{H':Hp}{v:V}{u:Value},zK (cxQ CX P w K mg base N qual scope f cdv A outer s H E) [] σ' H' s'->zp v u->Q v H'->CE outer P w H s Q u s':=
  λ{σ' H' v u} J rv q=>⟨v,H',J.os,J.bare,J.base,J.hok,rv,q⟩
 cases fl with
|ret u=>
  obtain⟨v,σ',H',J,rv,q⟩:=hs;exact fin J rv q
|next=>
  obtain⟨σ',H',J,q⟩:=hs;exact fin (v:=V.non) (u:=Value.none) J rfl q
|brk=>
  obtain⟨_,_,_,q⟩:=hs;exact False.elim q
|cont=>
  obtain⟨_,_,_,q⟩:=hs;exact False.elim q
section
variable {X:Cx}{CX:CXT}{k:Nat}{f C:Addr}{fd:FuncData}{ps:List Str}{sp:Sp}{dvs:List V}{ds:List Value}{E:XK}{x m:Str}{p pos apos:Pos}{e o:Expr}{es:List Expr}{ta:TE}{t:TA}
theorem zSM{pins:Qp}{σ:L2.St}{H:Hp}{s:Shared}{Q:VK}{us:List Value}{vs:List V}(F:FnQ X.prog X.w X.K X.mg X.base CX k f fd ps sp)(hr:Zk k X.A)(hb:ZK X.K fd ps ds)(hd:zY dvs ds)(hx:Yb CX X E)
  (I:zK X pins σ H s)(r:zY vs us)(h:sp (vs++dvs) H Q E):wpAny (model X.prog X.w) X.A (call (.ref f) us) (EP X pins σ Q) X.xe s:=by
 have r2:zY (vs++dvs) (us++ds):=r.append hd;have hl:(us++ds).length=ps.length:=by rw[<-r2.length];exact F.len _ _ _ _ h
 refine Ux (Xq (F.run X.A X.stack s H ⟨us,[]⟩ (us++ds) (vs++dvs) Q E hr I.env0 (hb s us I.kIn hl) r2 h) λr s' hq=>?_);cases r with
|error e=>exact hx pins σ H s e s' I hq
|ok fl=>
  cases fl with
 |ret u=>exact I.after hq
 |next=>exact False.elim hq
 |brk=>exact False.elim hq
 |cont=>exact False.elim hq
theorem zNa(F:FnQ X.prog X.w X.K X.mg X.base CX k f fd ps sp)(hr:Zk k X.A)(hg:Gl X x)(hm:X.mg x=some (.ref f))(hk:PySem.W.keepIn X.K (.ref f)=true)(hb:ZK X.K fd ps ds)(hd:zY dvs ds)(hx:Yb CX X E)
  (ha:PA X (e::es) t)(hdb:(x==("__debug__" : Str))=false:=by decide)(he:starEach (e::es) X.env=(false,eval e X.env)::starEach es X.env:=by rfl)(hpl:(backTo pos (starEach es X.env)).any (·.1)=false:=by rfl) :
  PE X (.Call (.Name x p) (e::es) [] pos) (zHp sp dvs E t):=by
 intro pins s σ H Q I h;refine Vx (zAn I hg hm ?_ hdb);refine XB (h₀:=X.base) I.ok.mod.kin hk (zr (ha pos pins s σ H _ I h) λus s1 ⟨vs,H1,I1,r,q⟩=>⟨I1.kIn,?_⟩) he hpl;exact zSM F hr hb hd hx I1 r q
theorem zQ2{pins:Qp}{σ:L2.St}{H:Hp}{s:Shared}{Q:VK}{us:List Value}{vs:List V}(M:Mk X.K C f)(F:FnQ X.prog X.w X.K X.mg X.base CX k f fd ps sp)(hr:Zk (k+1) X.A)(hb:ZK X.K fd ps ds)(hd:zY dvs ds)
  (hx:Yb CX X E)(I:zK X pins σ H s)(r:zY vs us)
  (h:∀ x dx,H x=none->H dx=none->dx≠x->sp (.ref x::(vs++dvs)) (upd (upd H dx (.own x)) x (.ins C dx [])) (λv H2=>v=.non/\Q (.ref x) H2) E) :
  wpAny (model X.prog X.w) X.A (call (.ref C) us) (EP X pins σ Q) X.xe s:=by
 have hq:=h (s.heap.objs.size+1) s.heap.objs.size (I.hok.fresh (Jc _)) (I.hok.fresh (We _)) (Wx (XN _));have I2:=zK.made (C:=C) I;have r2:zY (V.ref (s.heap.objs.size+1)::(vs++dvs)) (Value.ref (s.heap.objs.size+1)::(us++ds)):=.cons rfl (r.append hd)
 have hl:(Value.ref (s.heap.objs.size+1)::us++ds).length=ps.length:=by
  have e:=r2.length;rw[F.len _ _ _ _ hq] at e;exact e.symm
 refine Ux (zH3 (f:=f) I.kIn M.makes M.init (Vj.mp M.fn) (Xq (F.run _ X.stack _ _ ⟨Value.ref (s.heap.objs.size+1)::us,[]⟩ (Value.ref (s.heap.objs.size+1)::(us++ds)) _ _ E (hr.mk1 C us [])
  (I2.env0.make C us []) (hb _ (Value.ref (s.heap.objs.size+1)::us) I2.kIn hl) r2 hq) λr s' hq'=>?_))
 cases r with
|error e=>exact hx pins σ _ _ e s' I2 hq'
|ok fl=>
  cases fl with
 |ret u=>
   obtain⟨v,H',I3,rv,ev,q3⟩:=I2.after hq';subst ev;exact⟨rv,⟨V.ref (s.heap.objs.size+1),H',I3,rfl,q3⟩⟩
 |next=>exact False.elim hq'
 |brk=>exact False.elim hq'
 |cont=>exact False.elim hq'
theorem zNb(M:Mk X.K C f)(F:FnQ X.prog X.w X.K X.mg X.base CX k f fd ps sp)(hr:Zk (k+1) X.A)(hg:Gl X x)(hm:X.mg x=some (.ref C))(hb:ZK X.K fd ps ds)(hd:zY dvs ds)(hx:Yb CX X E)
  (ha:PA X (e::es) t)(hdb:(x==("__debug__" : Str))=false:=by decide)(he:starEach (e::es) X.env=(false,eval e X.env)::starEach es X.env:=by rfl)(hpl:(backTo pos (starEach es X.env)).any (·.1)=false:=by rfl) :
  PE X (.Call (.Name x p) (e::es) [] pos) (zHq C sp dvs E t):=by
 intro pins s σ H Q I h;refine Vx (zAn I hg hm ?_ hdb);refine XB (h₀:=X.base) I.ok.mod.kin M.kp (zr (ha pos pins s σ H _ I h) λus s1 ⟨vs,H1,I1,r,q⟩=>⟨I1.kIn,?_⟩) he hpl;exact zQ2 M F hr hb hd hx I1 r q
end
open PySem PySem.Spec PyProof.Rows L2 Kx
def hE (C:Addr)(sp:Sp)(D:Y0):XK:=λcls dx H'=>cls=.ref C/\∃ d i j,dx=some d/\H' d=some (.xd (yk "place" (.int j) [("rule",.int i)]))/\∀ q,H' q=none->sp [.ref q] (upd H' q (.lst [.int (-5),.int i,.int j])) D.rt E0
def zSN (C:Addr)(sp:Sp)(tb:XK->TS):TS:=λD σ H=>tb (hE C sp D) D σ H
section
variable {X:Cx}{C N fI:Addr}{i:Nat}{st:Stmt}{tb:XK->TS}{np p0 p1 p2 p3 p4 p5 p6 p7 q0 q1 hpos pos:Pos}{fR:Addr}{fdR:FuncData}{sp:Sp}
theorem zNc{D:Y0}{pins:Qp}{σ:L2.St}{H:Hp}{s:Shared}{a d:Addr}{oe:Obj}{ri pj:Int}{A':Around}(T:zCQ X.K X.mg C N fI)(hi:X.N[i]?=some "broken")(hloc:X.env.scope.names.lookup ("broken" : Str)=some .local)
  (J:zK X pins σ H s)(hA:A'.frames=X.A.frames)(hσ:σ[i]?=some (some (.ref a)))(e1:s.heap.get? a=some oe)(h1:oe.cls=.ref C)(h2:oe.dict=some d)(h3:∃ vs,oe.data=.fields vs)(na:H a=none)(nl:a≠X.env.locals)(nf:a∉X.fs)
  (ed:H d=some (.xd (yk "place" (.int pj) [("rule",.int ri)])))(hD:∀ q,H q=none->sp [.ref q] (upd H q (.lst [.int (-5),.int ri,.int pj])) D.rt E0)(FR:FnQ X.prog X.w X.K X.mg X.base CX0 3 fR fdR ["numbers"] sp)(hrQ:Zk 3 A')(hgR:Gl X "refused")(hmR:X.mg "refused" = some (.ref fR))(hkR:PySem.W.keepIn X.K (.ref fR)=true)(hbR:ZK X.K fdR ["numbers"] []){j0:Nat}{E:Qs} :
  wpAny (model X.prog X.w) A' (execs [.Return (some (.Call (.Name "refused" q0) [.List [.UnaryOp .USub (.Constant (.int 5) j0 p0) p1,.Attribute (.Name "broken" p2) "rule" p3,.Attribute (.Name "broken" p4) "place" p5] p6] [] q1)) p7] X.env)
   (λf s'=>∃ u v H' σ',f=.ret u/\zp v u/\D.rt v H'/\zK X pins σ' H' s') E s:=by
 obtain⟨vs,h3⟩:=h3
 have hpin:∀ p∈((a,oe)::X.pn)++pins,s.heap.get? p.1=some p.2/\H p.1=none/\p.1≠X.env.locals/\p.1∉X.fs/\∀ v,p.2.data≠.cell v:=λp hp=>by
  rcases Wd.mp (show p∈(a,oe)::(X.pn++pins) from hp) with q|q
  .subst q;exact⟨e1,na,nl,nf,λv z=>by rw[h3] at z;cases z⟩
  .exact J.pin p q
 have JS:zK {X with A:=A',calm:=false,pn:=(a,oe)::X.pn,xe:=λ_ _=>False} pins σ H s:=zDT J hA (λz=>by cases z) hpin;have pb:∀ p:Pos,PE {X with A:=A',calm:=false,pn:=(a,oe)::X.pn,xe:=λ_ _=>False} (.Name "broken" p) (zM6 i):=λp=>zLm hi (Or.inl hloc)
 have q:=zG (X:={X with A:=A',calm:=false,pn:=(a,oe)::X.pn,xe:=λ_ _=>False}) (zS (pos:=p7) (zNa (p:=q0) (pos:=q1) FR hrQ hgR hmR hkR hbR .nil zF2 (zA (yZ (pos:=p6) (zA (zDj (pos:=p1) zCJ (zL (i:=5) (j:=j0) (pos:=p0)))
  (zA (zJv (pos:=p3) (f:="rule") T (.head _) h1 h2 (λc z=>by rw[h3] at z;cases z) (.inl rfl) (pb p2) rfl) (zA (zJv (pos:=p5) (f:="place") T (.head _) h1 h2 (λc z=>by rw[h3] at z;cases z) (.inr rfl) (pb p4) rfl) zC)))) zC)))
  pins s σ H {nx:=λ_ _=>False,rt:=D.rt} JS ?_
 .refine W9 q (λf s' hf=>?_) (λ_ _ z=>z.elim);cases f with
 |next=>obtain⟨_,_,_,z⟩:=hf;exact z.elim
 |brk=>obtain⟨_,_,_,z⟩:=hf;exact z.elim
 |cont=>obtain⟨_,_,_,z⟩:=hf;exact z.elim
 |ret u=>
   obtain⟨v,σ',H',J',rv,z⟩:=hf;refine⟨u,v,H',σ',rfl,rv,z,?_⟩;exact zDT (X:={X with A:=A',calm:=false,pn:=(a,oe)::X.pn,xe:=λ_ _=>False}) (A':=X.A) (c':=X.calm) (pn':=X.pn) (xe':=X.xe) J' hA.symm J.ok.hd λp hp=>J'.pin p (Wg _ hp)
 .refine⟨_,rfl,.ref a,hσ,rfl,_,_,ed,?_,.ref a,hσ,rfl,_,_,ed,?_,(by show 3<=sizeLine;decide),λq hq=>hD q hq⟩
  .rw[yS,Wb (by decide +kernel)];rfl
  .rw[yS,Wc rfl]
end
section
variable {X:Cx}{C N fI:Addr}{i:Nat}{st:Stmt}{tb:XK->TS}{np p0 p1 p2 p3 p4 p5 p6 p7 q0 q1 hpos pos:Pos}{j0:Nat}{fR:Addr}{fdR:FuncData}{sp:Sp}
theorem zQ3{D:Y0}{pins pins0:Qp}{σ:L2.St}{H1:Hp}{s1 s2:Shared}{e:Value}(T:zCQ X.K X.mg C N fI)(hst:X.stack=X.env::X.outer)(hfr:X.env.frame=some X.env.locals)(hex:X.ex=[])(hnd:X.N.Nodup)(hi:X.N[i]?=some "broken")(hloc:X.env.scope.names.lookup ("broken" : Str)=some .local)(hg:Gl X "NoCartoon")(FR:FnQ X.prog X.w X.K X.mg X.base CX0 3 fR fdR ["numbers"] sp)(hrQ:Zk 3 X.A)(hgR:Gl X "refused")(hmR:X.mg "refused" = some (.ref fR))(hkR:PySem.W.keepIn X.K (.ref fR)=true)(hbR:ZK X.K fdR ["numbers"] [])
  (I:zK X pins σ H1 s1)(h:CXN X.prog X.w X.base X.stack H1 s1 (hE C sp D) e s2){X0:Cx}(hX0:∀ (σ':L2.St) (H':Hp) (s':Shared),zK X pins σ' H' s'->zK X0 pins0 σ' H' s'){E0':Qs} :
  wpAny (model X.prog X.w) X.A (noteFrame e X.env) (λ_ s₂=>wpAny (model X.prog X.w) X.A (setFlight e none) (λ_ s₃=>wpAny (model X.prog X.w) X.A (handleBy e X.env [.ExceptHandler (some (.Name "NoCartoon" np)) (some "broken")
   [.Return (some (.Call (.Name "refused" q0) [.List [.UnaryOp .USub (.Constant (.int 5) j0 p0) p1,.Attribute (.Name "broken" p2) "rule" p3,.Attribute (.Name "broken" p4) "place" p5] p6] [] q1)) p7] hpos]) (SP X0 pins0 D) E0' s₃) E0' s₂) E0' s2:=by
 obtain⟨a,T1,C1,dx,H2,rfl,os,bare,un,hok,fa,fT,na,nT,⟨b1,b2,b3,b4,oe,vs,oT,ts,t1,t2,t3,t4,⟨a0,t5⟩,t6,t7,t8,t9,t10⟩,hc1,d,ri,pj,hdx,ed,hD⟩:=h;cases hc1;subst hdx;obtain⟨nm,qq,bs,sn,sub,ab,col,dd,k0,k1,k2,k3,k5,lk⟩:=T.cls;have J:zK X pins σ H2 s2:=I.call' os un hok bare (λb z=>by cases z)
 have old:∀ b,s1.heap.get? b=none->X.s_0.heap.get? b=none:=λb q=>by
  cases r:X.s_0.heap.get? b with
 |none=>rfl
 |some u=>
   obtain⟨o',q'⟩:=I.base.there b u r (by rw[hex];intro z;cases z);rw[q] at q';cases q'
 have npin:∀ b,s1.heap.get? b=none->∀ p∈X.pn++pins,p.1≠b:=λb q p hp z=>by
  have:=(I.pin p hp).1;rw[z,q] at this;cases this
 have hin:∀ env∈X.stack,∀ b,env.frame=some b->b∈a::T1::ym X.stack:=λenv he b hb=>.tail _ (.tail _ (VI.mpr ⟨env,he,hb⟩))
 have hh:∀ b∈a::T1::ym X.stack,b∉ym X.stack->X.s_0.heap.get? b=none/\H2 b=none/\∀ p∈X.pn++pins,p.1≠b:=λb hb hn=>by
  rcases Wd.mp hb with q|q
  .rw[q];exact⟨old a fa,na,npin a fa⟩
  .rcases Wd.mp q with q|q
   .rw[q];exact⟨old T1 fT,nT,npin T1 fT⟩
   .exact absurd q hn
 have fl:Heap.FlyingW (PySem.W.hideAll s2.heap (a::T1::ym X.stack)) X.stack a (.ref C) a0 s2.heap:=⟨λb o q=>Ub _ q,V2 _ (.head _),Uy b4 hin,oe,vs,T1,oT,ts,t1,⟨t2,t5⟩,t4,t6,V2 _ (.tail _ (.head _)),t7,t8,t9,t10⟩
 have bk:∀ h3:Heap,(PySem.W.hideAll s2.heap (a::T1::ym X.stack)).StaysIn h3->h3.FunFrames (PySem.W.hideAll s2.heap (a::T1::ym X.stack)) X.stack->s2.heap.UpToSlots h3->zK X pins σ H2 {s2 with heap:=h3}:=λh3 st3 ff ups=>
  zMH (hid:=a::T1::ym X.stack) J hst hfr hex (λb u q n=>st3 b u (Xv _ q n)) ups hh (λb hb=>let ⟨_,o,ho,_⟩:=ff.mem hb;⟨o,ho⟩)
 have hframes:X.A.frames=some (X.env::X.outer):=by rw[<-hst];exact J.ok.frames
 generalize PySem.W.hideAll s2.heap (a::T1::ym X.stack)=B at fl bk;rw[hst] at fl;refine W9 ((zJs (a:=a) (d:=some d) (.ref a) X.env).any ⟨oe,t1,t3⟩ (wpAny_looks_onW (Q:=λ_ s3=>Heap.HeldW B (X.env::X.outer) a (.ref C) a0 X.env.locals s3.heap/\s2.heap.UpToSlots s3.heap/\s3={s2 with heap:=s3.heap}) hframes hfr fl λh3 hl ups=>⟨hl,ups,rfl⟩)) (λ_ s3 q3=>?_) (λ_ _ z=>z);obtain⟨⟨held3,ups3,es3⟩,di3⟩:=q3;refine W9 ((zEW (a:=a) (d:=some d) (.ref a) none).any di3 (wpAny_landsW (Q:=λ_ s4=>Heap.FlyingW B (X.env::X.outer) a (.ref C) a0 s4.heap/\s3.heap.UpToSlots s4.heap/\s4={s3 with heap:=s4.heap}) held3 λh4 hl ups=>⟨hl,ups,rfl⟩)) (λ_ s4 q4=>?_) (λ_ _ z=>z);obtain⟨⟨fl4,ups4,es4⟩,di4⟩:=q4
 have J4:zK X pins σ H2 s4:=by
  have:=bk s4.heap fl4.1 (by rw[hst];exact fl4.2.2.1) (ups3.trans ups4);rw[es3] at es4;rw[es4];exact this
 refine wpAny_handleBy_cons (codeAny_handlers_test ?_) (by intro q;cases q);have JM:zK {X with A:=X.A.mark (some (.ref a)),calm:=false,pn:=X.pn,xe:=λ_ _=>False} pins σ H2 s4:=zDT J4 rfl (λz=>by cases z) J4.pin;refine W9 (zAn (E:=λ_ _=>False) (Q:=λc s5=>c=.ref C/\s5=s4) JM hg T.mgC ⟨rfl,rfl⟩ (by decide)) (λc s5 q5=>?_) (λ_ _ z=>z.elim);obtain⟨rfl,rfl⟩:=q5;obtain⟨oe5,g1,g2⟩:=fl4.there;obtain⟨hh5,gg5,dg5,tt5,oo5⟩:=s5;refine wpAny_excMatches_sub_self (J4.kIn _ _ lk) g1 g2 (by decide) ?_;refine codeAny_handlers_suite_as ?_;refine W9 ((zEW (a:=a) (d:=some d) (.ref a) none).any di4 (lands_againW (E:=λ_ _=>False) (Q:=λ_ s6=>Heap.FlyingW B (X.env::X.outer) a (.ref C) a0 s6.heap/\hh5.UpToSlots s6.heap/\s6={(⟨hh5,gg5,dg5,tt5,oo5⟩:Shared) with heap:=s6.heap}) fl4 λh6 hl ups=>⟨hl,ups,rfl⟩)) (λ_ s6 q6=>?_) (λ_ _ z=>z.elim);obtain⟨⟨fl6,ups6,es6⟩,⟨oe6,m1,m2⟩⟩:=q6
 have J6:zK X pins σ H2 s6:=by
  have q:=bk s6.heap fl6.1 (by rw[hst];exact fl6.2.2.1) ((ups3.trans ups4).trans ups6);rw[es3] at es4;rw[es4] at es6;rw[es6];exact q
 obtain⟨_,_,ff6,oe7,vs7,T7,oT7,ts7,w1,⟨w2,w3⟩,w4,_⟩:=fl6;rw[m1] at w1;cases w1
 have afr:a∉ym X.stack:=λhm=>by
  rw[hst] at hm;obtain⟨_,o,ho,hn⟩:=ff6.mem hm;rw[m1] at ho;cases ho;exact hn _ w4
 have efs:ym X.stack=X.env.locals::X.fs:=by
  rw[hst];show List.filterMap _ _=_;rw[V6,hfr];rfl
 rw[efs] at afr;have anl:a≠X.env.locals:=λz=>afr (by rw[z];exact .head _)
 have anf:a∉X.fs:=λz=>afr (.tail _ z)
 refine zEE (E:=_) (v:=.ref a) J6 hnd hi (Or.inl hloc) rfl (λs7 J7 sb=>?_) (.inr hloc)
 have e7:s7.heap.get? a=some oe6:=by
  obtain⟨x,sb,hx⟩:=sb;refine (sb.2 a λz=>?_).trans m1;rcases hx with r|r
  .exact anl (z.trans r)
  .have hk:X.env.kindOf "broken" = some .local:=hloc;obtain⟨v,o,eo,co⟩:=J6.cell _ _ r;rw[<-z,m1] at eo;cases eo;rw[w4] at co;cases co
 have hi':i<σ.length:=by rw[J6.len];exact (yG hi).1
 refine W9 (zNc (E:=λ_ _=>False) (A':=X.A.mark (some (.ref a))) (D:=D) T hi hloc J7 rfl (by rw[VF hi']) e7 w2 m2 ⟨_,w4⟩ na anl anf ed hD FR (hrQ.mark _) hgR hmR hkR hbR) (λf s8 q8=>?_) (λ_ _ z=>z.elim);obtain⟨u,v,H8,σ8,rfl,rv,hr8,J8⟩:=q8;obtain⟨m,hn8,_⟩:=id J8.loc;have hp:(X.env.scope.kind==.class||(X.env.scope.kind==.module&&X.env.locals != X.env.globals))=false:=by rw[J8.ok.kind];rfl
 exact wpAny_nameGoes hloc hn8 hp λh9 m9 n9 sb9=>⟨v,_,H8,hX0 _ _ _ (zKv J8 hex n9 sb9),rv,hr8⟩
theorem zPD(T:zCQ X.K X.mg C N fI)(hst:X.stack=X.env::X.outer)(hfr:X.env.frame=some X.env.locals)(hex:X.ex=[])(hnd:X.N.Nodup)(hi:X.N[i]?=some "broken")(hloc:X.env.scope.names.lookup ("broken" : Str)=some .local)(hg:Gl X "NoCartoon")(FR:FnQ X.prog X.w X.K X.mg X.base CX0 3 fR fdR ["numbers"] sp)(hrQ:Zk 3 X.A)(hgR:Gl X "refused")(hmR:X.mg "refused" = some (.ref fR))(hkR:PySem.W.keepIn X.K (.ref fR)=true)(hbR:ZK X.K fdR ["numbers"] [])
  (hb:∀ E' xe' pn',Yb (CXN X.prog X.w X.base) {X with xe:=xe',pn:=pn'} E'->PS {X with xe:=xe',pn:=pn'} st (tb E')) :
  PS X (.Try [st] [.ExceptHandler (some (.Name "NoCartoon" np)) (some "broken") [.Return (some (.Call (.Name "refused" q0) [.List [.UnaryOp .USub (.Constant (.int 5) j0 p0) p1,.Attribute (.Name "broken" p2) "rule" p3,.Attribute (.Name "broken" p4) "place" p5] p6] [] q1)) p7] hpos] [] [] pos) (zSN C sp tb):=by
 intro pins s σ H D I h
 have back:∀ (xe':Qs) (pins2:Qp) (σ':L2.St) (H':Hp) (s':Shared),zK {X with xe:=xe',pn:=X.pn++pins} pins2 σ' H' s'->zK X pins σ' H' s':=λxe' pins2 σ' H' s' J=>
  zDT (X:={X with xe:=xe',pn:=X.pn++pins}) (A':=X.A) (c':=X.calm) (pn':=X.pn) (xe':=X.xe) J rfl I.ok.hd λp hp=>J.pin p (XZ _ hp)
 refine wpAny_Try_except ?_;generalize hx:(λ(e:Value) (s₁:Shared)=>wpAny (model X.prog X.w) X.A (noteFrame e X.env) (λ_ s₂=>wpAny (model X.prog X.w) X.A (setFlight e none) (λ_ s₃=>wpAny (model X.prog X.w) X.A (handleBy e X.env [.ExceptHandler (some (.Name "NoCartoon" np)) (some "broken") [.Return (some (.Call (.Name "refused" q0) [.List [.UnaryOp .USub (.Constant (.int 5) j0 p0) p1,.Attribute (.Name "broken" p2) "rule" p3,.Attribute (.Name "broken" p4) "place" p5] p6] [] q1)) p7] hpos]) (SP X pins D) X.xe s₃) X.xe s₂) X.xe s₁)=xeT
 have P:Yb (CXN X.prog X.w X.base) {X with xe:=xeT,pn:=X.pn++pins} (hE C sp D):=λpins2 σ2 H1 s1 e s2 I1 h1=>by
  show xeT e s2;rw[<-hx];exact zQ3 (X:={X with xe:=xeT,pn:=X.pn++pins}) (X0:=X) (pins0:=pins) T hst hfr hex hnd hi hloc hg FR hrQ hgR hmR hkR hbR I1 h1 (λσ' H' s' J=>back _ _ σ' H' s' J)
 have I':zK {X with xe:=xeT,pn:=X.pn++pins} [] σ H s:=zDT (A':=X.A) (c':=X.calm) I rfl I.ok.hd (by rw[VU];exact I.pin);refine W9 (zG (hb _ xeT (X.pn++pins) P) [] s σ H D I' h) (λf s1 hf=>?_) (λe s1 he=>he);cases f with
|next=>obtain⟨σ',H',J,q⟩:=hf;exact X7 ⟨σ',H',back _ _ _ _ _ J,q⟩
|brk=>obtain⟨σ',H',J,q⟩:=hf;exact⟨σ',H',back _ _ _ _ _ J,q⟩
|cont=>obtain⟨σ',H',J,q⟩:=hf;exact⟨σ',H',back _ _ _ _ _ J,q⟩
|ret u=>obtain⟨v,σ',H',J,r,q⟩:=hf;exact⟨v,σ',H',back _ _ _ _ _ J,r,q⟩
end
end Kq
namespace Ky
open PySem PySem.Spec PyProof.Rows L2
def leI:List Int->List Int->Bool
|p::ps,q::qs=>if p=q then leI ps qs else decide (p<=q)
|_,_=>true
section
open PySem.SeqAt
open PySem.AutoSeq1 (wpAny_loadPart')
open PySem.MeetsSeq PySem.MeetsSeq2 PySem.MeetsSeq3
theorem zNd(l b:Addr)(xs ys:Array Value)(n n2:Nat)(dd dd2:Option Addr)(sl sl2:Array (Option Value))(ps qs:List Int)(hi:IntsAre xs.toList ps)(hj:IntsAre ys.toList qs)(hlen:ps.length=qs.length) :
  Meets (Builtin.«tuple.__le__» ⟨[.ref l,.ref b],[]⟩)
   (λ_ R s=>s.heap.get? l=some {cls:=.type "tuple",dict:=dd,data:=.seq xs n,slots:=sl}/\s.heap.get? b=some {cls:=.type "tuple",dict:=dd2,data:=.seq ys n2,slots:=sl2}/\R (.ok (.ret (.bool (leI ps qs)))) s):=
 .of_wp λprog w A R s h=>by
  obtain⟨hp,gg,dt,tk,os⟩:=s;obtain⟨hl,hb,h⟩:=h;have f2:=AutoSeq1.sub_tuple_tuple
  have zz:xs.size=ys.size:=by
   have e1:xs.size=ps.length:=by rw[<-hi.length];simp
   have e2:ys.size=qs.length:=by rw[<-hj.length];simp
   omega
  wp_walk using Jd hl,Jd hb,wpAny_forIn_list _ (λZt b s'=>b.1=none/\s'=⟨hp,gg,dt,tk,os⟩/\∃ (us vs:List Value) (p' q':List Int),Zt=us.zip vs/\IntsAre us p'/\IntsAre vs q'/\p'.length=q'.length/\R (.ok (.ret (.bool (leI p' q')))) ⟨hp,gg,dt,tk,os⟩) _
  case turn=>
   rintro⟨y,x⟩ Zt b s' ⟨hb',rfl,us,vs,p',q',hz,hu,hv,hl',hR⟩;cases hu with
  |nil=>rw[List.zip_nil_left] at hz;cases hz
  |cons a t hu'=>
    cases hv with
   |nil=>cases hl'
   |cons c u hv'=>
     rw[Uc] at hz;injection hz with hyx hrest
     injection hyx with hy hx
     subst hy hx;have hl2:=Nat.succ.inj hl';obtain⟨e,he,hiff⟩:=HT.eqAt_int A.in1 ⟨hp,gg,dt,tk,os⟩ a t c u;refine Wh (he prog w _ _ ?_);unfold leI at hR;cases e with
    |true=>
      rw[Wc (hiff.mp rfl)] at hR
      wp_walk
      exact⟨rfl,rfl,_,_,_,_,hrest,hu',hv',hl2,hR⟩
    |false=>
      rw[Wb (λq=>absurd (hiff.mpr q) Wr)] at hR
      have hri:∀ (E:Qs) (Q:Qs),Q (.bool (decide (a<=c))) ⟨hp,gg,dt,tk,os⟩->wpAny (model prog w) A.in1 (richCompare .LtE (.int a t) (.int c u)) Q E ⟨hp,gg,dt,tk,os⟩:=
       λE Q hq=>(PyProof.Rows.le_int hq:wpAny (model prog w) A.in1 (compareOp .LtE (.int a t) (.int c u)) Q E _)
      wp_walk using hri
      exact⟨_,rfl,by simpa using hR⟩
  case fin=>
   rintro⟨b1,b2⟩ s' ⟨hb',rfl,us,vs,p',q',hz,hu,hv,hl',hR⟩;simp only at hb';subst hb'
   have hT:leI p' q'=true:=by
    cases hu with
   |nil=>rfl
   |cons a t hu'=>
     cases hv with
    |nil=>rfl
    |cons c u hv'=>rw[Uc] at hz;cases hz
   rw[hT] at hR
   wp_walk
   exact⟨_,rfl,by simpa[Builtin.Tuple.tupleCompareSizes,zz] using hR⟩
  case h=>exact⟨rfl,rfl,xs.toList,ys.toList,ps,qs,rfl,hi,hj,hlen,h⟩
end
section
variable {prog:Program}{w:World}{A:Around}{E:Qs}{s:Shared}
theorem zPE{l b:Addr}{xs ys:Array Value}{ps qs:List Int}{Q:Qs}(hl:IsTup s.heap l xs)(hb:IsTup s.heap b ys)(hi:IntsAre xs.toList ps)(hj:IntsAre ys.toList qs)(hn:ps.length=qs.length)
  (hu:A.units<cLine)(h:Q (.bool (leI ps qs)) s):wpAny (model prog w) A (compareOp .LtE (.ref l) (.ref b)) Q E s:=by
 obtain⟨⟨c1,d1,t1,o1⟩,k1,e1,n1,r1⟩:=id hl;obtain⟨⟨c2,d2,t2,o2⟩,k2,e2,n2,r2⟩:=id hb;simp only at e1 r1 e2 r2;subst e1 r1 e2 r2
 exact richCompare_meets_room (op:=.LtE) ⟨_,k1,rfl⟩ ⟨_,k2,rfl⟩ PySem.F.slot_tuple_le PySem.F.entry_tuple_le (PySem.F.args_tuple_le_2 _ _) (zNd l b xs ys n1 n2 d1 d2 o1 o2 ps qs hi hj hn)
  ⟨k1,k2,show Value.bool (leI ps qs)≠Value.notImplemented/\Q (.bool (leI ps qs)) s from ⟨(λz=>nomatch z),h⟩⟩ hu
end
section
variable {X:Cx}
def zTG (K:Qf):R2:=λx y H Q=>∃ a b ps qs,x=.ref a/\y=.ref b/\yJ K H a (ps.map V.int)/\yJ K H b (qs.map V.int)/\ps.length=qs.length/\Q (.bl (leI ps qs)) H
theorem zQ4(hu:X.A.units<cLine):Y5 X (compareOp .LtE) (zTG X.K):=by
 intro pins s σ H x y v u Q I rx ry h;obtain⟨a,b,ps,qs,rfl,rfl,ha,hb,hn,q⟩:=h;cases rx;cases ry;obtain⟨i1,r1,p1,_⟩:=I.tuple ha;obtain⟨i2,r2,p2,_⟩:=I.tuple hb;have t1:IntsAre i1.toArray.toList ps:=zF0 r1;have t2:IntsAre i2.toArray.toList qs:=zF0 r2;exact zPE p1 p2 t1 t2 hn hu ⟨.bl (leI ps qs),H,I,rfl,q⟩
end
abbrev TK:=List yD×Addr×Value
def zE5 (acc more:List TK):List TK:=more.foldl (λa q=>storedH a q.1 q.2.1 q.2.2) acc
theorem zJM{acc:List TK}{k:List yD}{a:Addr}{v:Value}{q:TK}(h:q∈storedH acc k a v):q.2.1=a\/∃ q'∈acc,q'.2.1=q.2.1:=by
 unfold storedH at h;split at h
 .obtain⟨z,hz,rfl⟩:=Wp.mp h;refine .inr ⟨z,hz,?_⟩;unfold putAt;split <;> rfl
 .rcases Wv.mp h with h|h
  .exact .inr ⟨q,h,rfl⟩
  .rw[Wl.mp h];exact .inl rfl
theorem zJN{acc:List TK}{k:List yD}{a:Addr}{v:Value}:(storedH acc k a v).length<=acc.length+1:=by
 unfold storedH;split
 .rw[zX];lia
 .rw[Wi];exact We _
section
variable {prog:Program}{w:World}{A:Around}{E:Qs}
theorem zHU{S I:Addr}{h h':Heap}{acc:List TK}(hm:h.DictOfH (tupleKind (yP prog w)) S acc)(x:Heap.ExtBut I h h')(hS:S≠I)(ha:∀ q∈acc,q.2.1≠I):h'.DictOfH (tupleKind (yP prog w)) S acc:=by
 obtain⟨o,es,ep,h1,h2,h3,h4,h5,h6⟩:=hm;refine⟨o,es,ep,x _ _ hS h1,h2,h3,h4,λq hq=>?_,h6⟩;obtain⟨o',its,n,e1,r⟩:=h5 q hq;exact⟨o',its,n,x _ _ (ha q hq) e1,r⟩
theorem zGu{I a:Addr}{h h':Heap}{k:List yD}(hk:(tupleKind (yP prog w)).is h k a)(x:Heap.ExtBut I h h')(ha:a≠I):(tupleKind (yP prog w)).is h' k a:=by
 obtain⟨o',its,n,e1,r⟩:=hk;exact⟨o',its,n,x _ _ ha e1,r⟩
theorem zSO{R:Result->Shared->Prop}{S I l:Addr}{items:Array Value}{res:Value}(hu:A.in1.units<cLine)(hh:A.handled=none)(n1:l≠I)(n2:S≠I)(n3:S≠l) :
  ∀ (Zt:List TK) (i:Nat) (acc:List TK) (ix:Int) (t:Tok) (s:Shared),items.size=i+Zt.length->acc.length+Zt.length<=sizeLine->
   (∀ (j:Nat) (q:TK),Zt[j]?=some q->q.2.1≠S/\q.2.1≠I/\(tupleKind (yP prog w)).is s.heap q.1 q.2.1/\∃ b:Addr,items[i+j]?=some (.ref b)/\b≠S/\b≠I/\IsTup s.heap b #[.ref q.2.1,q.2.2])->
   (∀ q∈acc,q.2.1≠S/\q.2.1≠I)->s.heap.IsListIter I l i->s.heap.IsList l items->s.heap.DictOfH (tupleKind (yP prog w)) S acc->
   (∀ h' tk,h'.DictOfH (tupleKind (yP prog w)) S (zE5 acc Zt)->(∀ b o,b≠S->b≠I->s.heap.get? b=some o->h'.get? b=some o)->R (.ok (.ret res)) {s with heap:=h',toks:=tk})->
   codeAny (model prog w) A (.builtin "dict.update.loop" ⟨[.ref S,.ref I,.int ix t,res],[]⟩) R s:=by
 intro Zt
 induction Zt with
|nil=>
  intro i acc ix t s hsz hln ht ha hit hl hm hR;refine UI zID ?_;rw[X6 zCM _];show wpAny _ A.in1 (pyNext (.ref I) >>= _) _ _ s;refine Wh (wpAny_pyNext_list_end (A:=A.in1) hh hit hl (UF (UA hsz)) λh' he=>?_);show wpAny _ A.in1 (Builtin.Dict.addKeywords S [] >>= _) _ _ _;exact Wh (WI (WI (hR h' s.toks (zHU hm he n2 λq hq=>(ha q hq).2) λb o _ hb e=>he b o hb e)))
|cons q Zt ih=>
  intro i acc ix t s hsz hln ht ha hit hl hm hR;obtain⟨k1,k2,k3,b,hb,hbS,hbI,htup⟩:=ht 0 q rfl;rw[Wn] at hsz hln;refine UI zID ?_;rw[X6 zCM _];show wpAny _ A.in1 (pyNext (.ref I) >>= _) _ _ s;refine Wh (wpAny_pyNext_list_item (x:=.ref b) hit hl (by simpa using hb) λh1 it1 s1=>?_);have t1:IsTup h1 b #[.ref q.2.1,q.2.2]:=htup.extBut s1.extBut hbI;have l1:h1.IsList l items:=hl.extBut s1.extBut n1;have m1:=zHU hm s1.extBut n2 λq hq=>(ha q hq).2
  have y1:=zGu k3 s1.extBut k2;obtain⟨o,ho,hc,n,hd⟩:=id t1;show wpAny _ A.in1 (holding [Value.ref b] _ >>= _) _ _ _;refine Wh (Xw (Wh (wpAny_tryCatch ?_)));unfold Builtin.Dict.pairItems;refine Wh (wpAny_typeOf (T:="tuple") ⟨o,ho,hc⟩ ?_);rw[Wc (by first|decide|rfl|simp)];refine Wh (wpAny_seqItems ho hd (WI ?_));show wpAny _ A.in1 (holding [.ref q.2.1,q.2.2] (dictSet S (.ref q.2.1) q.2.2)) _ _ _;refine Xw (wpAny_dictSet_heap (knd:=tupleKind (yP prog w)) (hsz:=by lia) hu y1 m1 λh2 m2 s2=>?_);refine WI ⟨UQ zCM _,ih (i+1) (storedH acc q.1 q.2.1 q.2.2) (ix+1) 0 _ (show items.size=i+1+Zt.length by lia) ?_ (λj q' e=>?_) (λq' hq=>?_) ?_ ?_ m2 λh' tk hd' k=>?_⟩
  .have z:=zJN (acc:=acc) (k:=q.1) (a:=q.2.1) (v:=q.2.2)
   lia
  .obtain⟨j1,j2,j3,b',hb',hbS',hbI',htup'⟩:=ht (j+1) q' (by simpa using e);refine⟨j1,j2,zGu (zGu j3 s1.extBut j2) s2.extBut j1,b',?_,hbS',hbI',(htup'.extBut s1.extBut hbI').extBut s2.extBut hbS'⟩;rw[show i+1+j=i+(j+1) by lia];exact hb'
  .rcases zJM hq with e|⟨z,hz,e⟩
   .rw[e];exact⟨k1,k2⟩
   .rw[<-e];exact ha z hz
  .exact it1.at λo' e=>s2.extBut I o' (Ne.symm n2) e
  .exact l1.extBut s2.extBut (Ne.symm n3)
  .exact hR h' tk hd' λc oc h3 h4 e=>k c oc h3 h4 (s2.extBut c oc h3 (s1.extBut c oc h4 e))
theorem zJO{s:Shared}{l:Addr}{ol:Obj}{items:Array Value}{n:Nat}{prs:List TK}{Q:Qs}(hu:A.units+2<cLine)(hh:A.handled=none)(hl:s.heap.get? l=some ol)(hc:ol.cls=.type "list")(hd:ol.dict=none)
  (hdat:ol.data=.seq items n)(hsz:items.size=prs.length)(hln:prs.length<=sizeLine)
  (ht:∀ (j:Nat) (q:TK),prs[j]?=some q->(tupleKind (yP prog w)).is s.heap q.1 q.2.1/\∃ b:Addr,items[j]?=some (.ref b)/\IsTup s.heap b #[.ref q.2.1,q.2.2])
  (h:∀ h' tk,h'.DictOfH (tupleKind (yP prog w)) s.heap.objs.size (zE5 [] prs)->(∀ b o,s.heap.get? b=some o->h'.get? b=some o)->Q (.ref s.heap.objs.size) {s with heap:=h',toks:=tk}) :
  wpAny (model prog w) A (call (.type "dict") [.ref l]) Q E s:=by
 refine callType_codes (Q₁:=λobj s₁=>obj=.ref s.heap.objs.size/\s₁={s with heap:=s.heap.push {cls:=.type "dict",data:=.dict #[]}}) PySem.F.kt_called_dict (PySem.F.kt_typeCall_dict_1 _) PySem.F.entry_dict_init (kt_code_dict_new _ ⟨rfl,rfl⟩) ?_;rintro obj s₁ ⟨rfl,rfl⟩;have d0:(s.heap.push {cls:=.type "dict",data:=.dict #[]}).DictOfH (tupleKind (yP prog w)) s.heap.objs.size []:=Heap.DictOfH.new s.heap;have dT:({s with heap:=s.heap.push {cls:=.type "dict",data:=.dict #[]}}:Shared).TypeIs (.ref s.heap.objs.size) "dict":=Heap.DictOfH.typeIs d0;have k0:∀ b o,s.heap.get? b=some o->(s.heap.push {cls:=.type "dict",data:=.dict #[]}).get? b=some o:=λb o e=>Wf _ e
 refine⟨dT,PySem.F.args_dict_init_2 _ _,?_⟩;unfold Builtin.«dict.__init__»;refine Wh ?_;unfold Builtin.Dict.selfAndRest;refine Wh (wpAny_notOrdered_dict dT ?_);show wpAny _ _ (pure (s.heap.objs.size,[Value.ref l])) _ _ _;refine WI ?_;show wpAny _ _ (Builtin.Dict.updateFrom "dict.__init__" s.heap.objs.size (.ref l) [] .none) _ _ _;unfold Builtin.Dict.updateFrom;refine Wh (wpAny_typeOf (T:="list") ⟨ol,k0 _ _ hl,hc⟩ ?_);rw[Wc (by first|decide|rfl|simp)];refine Wh (zL2 (k0 _ _ hl) hc hdat hd hh λh1 tk1 hk1=>?_);rw[Wc (show (none:Option Value).isNone=true from rfl)];refine Wh (wpAny_rule ?_);have l1:h1.IsList l items:=⟨ol,hk1 _ _ (k0 _ _ hl),hc,n,hdat⟩
 have S1:s.heap.objs.size<h1.objs.size:=by
  have e:(s.heap.push {cls:=.type "dict",data:=.dict #[]}).get? s.heap.objs.size=some {cls:=.type "dict",data:=.dict #[]}:=Wz _ rfl;exact Wj (hk1 _ _ e)
 refine Wh (wpAny_pyIter_list l1 ?_);have k2:∀ b o,h1.get? b=some o->(h1.push {cls:=.type "list_iterator",data:=.fields #[.ref l,.int 0 0]}).get? b=some o:=λb o e=>Wf _ e
 have k3:∀ b o,s.heap.get? b=some o->(h1.push {cls:=.type "list_iterator",data:=.fields #[.ref l,.int 0 0]}).get? b=some o:=λb o e=>k2 _ _ (hk1 _ _ (k0 _ _ e))
 have lS:l<s.heap.objs.size:=Wj hl
 have key:=zSO (prog:=prog) (w:=w) (A:=A.in1) (R:=wants (λr s₂=>r=.none/\Q (.ref s.heap.objs.size) s₂) E) (S:=s.heap.objs.size) (I:=h1.objs.size) (l:=l) (items:=items) (res:=Value.none) hu hh
  (Wx (VW lS S1)) (Wx S1) (U0 lS) prs 0 [] 0 0
  {s with heap:=h1.push {cls:=.type "list_iterator",data:=.fields #[.ref l,.int 0 0]},toks:=tk1} (by rw[hsz,WA]) (by rw[VS,WA];exact hln)
  (λj q e=>by
   obtain⟨⟨o',its,nn,z1,z2⟩,b,e1,e2⟩:=ht j q e;have hb:b<s.heap.objs.size:=e2.lt;have hq:q.2.1<s.heap.objs.size:=Wj z1;exact⟨Wx hq,Wx (VW hq S1),⟨o',its,nn,k3 _ _ z1,z2⟩,b,by rw[WA];exact e1,Wx hb,Wx (VW hb S1),e2.keeps λc o z=>k3 _ _ z⟩)
  (λq hq=>nomatch hq) ⟨_,Wz _ rfl,rfl,rfl⟩ (l1.at λo e=>k2 _ _ e)
  (by
   obtain⟨o,es,ep,g1,g2,g3,g4,g5,g6⟩:=d0;exact⟨o,es,ep,k2 _ _ (hk1 _ _ g1),g2,g3,g4,(λq hq=>nomatch hq),g6⟩)
  (λh' tk hd' k=>⟨rfl,h h' tk hd' λb o e=>k b o (Wx (Wj e)) (Wx (VW (Wj e) S1)) (k3 _ _ e)⟩)
 first
 |exact WI ⟨UQ zCM _,key⟩
 |exact Wh (WI (WI ⟨UQ zCM _,key⟩))
end
def Yx (kvs more:List (List yD×V)):List (List yD×V):=more.foldl (λacc kv=>YE acc kv.1 kv.2) kvs
theorem zGM:∀ (more kvs:List (List yD×V)),(Yx kvs more).length<=kvs.length+more.length
|[],kvs=>We _
|p::r,kvs=>by
  have h1:=zGM r (YE kvs p.1 p.2);have h2:=zC5 kvs p.1 p.2;rw[Wn];exact WT h1 (by lia)
theorem zNe{H:Hp}{more:List (List yD×V)}{rs:List TK}(r:KT H more rs):∀ {kvs:List (List yD×V)}{vs:List TK},KT H kvs vs->KT H (Yx kvs more) (zE5 vs rs):=by
 unfold KT at r
 induction r with
|nil=>intro kvs vs q;exact q
|@cons p q ps qs h t ih=>
  intro kvs vs z;obtain⟨e1,e2,e3⟩:=h;have:=KT.put z p.1 e2 e3;rw[show storedH vs p.1 q.2.1 q.2.2=storedH vs q.1 q.2.1 q.2.2 by rw[e1]] at this;exact ih this
section
variable {X:Cx}
theorem zMI{pins:Qp}{σ:L2.St}{H:Hp}{s:Shared}(I:zK X pins σ H s):∀ {ps:List Addr}{kvs:List (List yD×V)},Paired (λp kv=>∃ t,yJ X.K H p [.ref t,kv.2]/\H t=some (.tup (kv.1.map kV))) ps kvs->
  ∃ prs:List TK,KT H kvs prs/\prs.length=ps.length/\∀ (j:Nat) (q:TK),prs[j]?=some q->(tupleKind (yP X.prog X.w)).is s.heap q.1 q.2.1/\∃ b:Addr,ps[j]?=some b/\IsTup s.heap b #[.ref q.2.1,q.2.2]
|_,_,.nil=>⟨[],.nil,rfl,λj q e=>by simp at e⟩
|_,_,.cons (a:=p) (b:=kv) ⟨t,h,eb⟩ r=>by
  obtain⟨prs,rr,hl,hp⟩:=zMI I r;obtain⟨its,rv,ht,_⟩:=I.tuple h;obtain⟨u,y,ei,ru,ry⟩:=zKY rv;subst ei;cases ru;refine⟨(kv.1,t,y)::prs,.cons ⟨rfl,eb,ry⟩ rr,by rw[Wn,Wn,hl],λj q e=>?_⟩;cases j with
 |zero=>
   have e':(kv.1,t,y)=q:=Wu e;subst e';exact⟨zEN I.hok eb,p,rfl,ht⟩
 |succ j=>
   obtain⟨e0,b,e1,e2⟩:=hp j q (by simpa using e);exact⟨e0,b,by simpa using e1,e2⟩
theorem zKw(hu:X.A.units+2<cLine)(hcalm:X.calm=true):zB8 X (.type "dict") (λxs H Q=>∃ (a:Addr) (ps:List Addr) (kvs:List (List yD×V)),xs=[.ref a]/\zN X.K H a (ps.map V.ref)/\Paired (λp kv=>∃ t,yJ X.K H p [.ref t,kv.2]/\H t=some (.tup (kv.1.map kV))) ps kvs/\
  ∀ p,H p=none->Q (.ref p) (upd H p (.dT (Yx [] kvs)))):=by
 intro pins s σ H xs us Q I r q;obtain⟨a,ps,kvs,ex,hq,hp,q⟩:=q;subst ex;obtain⟨u,eu,rx⟩:=zKX r;subst eu;cases rx;obtain⟨its,rv,pl,hz⟩:=I.list hq;have ei:=zJd rv;subst ei;rw[zX] at hz;obtain⟨prs,rel,hl,hpr⟩:=zMI I hp;obtain⟨o,n,ho,hc,hd,hdat⟩:=pl;refine zJO (prs:=prs) hu (I.ok.hd hcalm) ho hc hd hdat (by simp[hl]) (by rw[hl];exact hz) (λj q' e=>?_) λh' tk hd' k=>?_
 .obtain⟨e0,b,e1,e2⟩:=hpr j q' e;exact⟨e0,b,by simp[e1],e2⟩
 .have hm:(s.heap.objs.size==sysModules)=false:=W8.mpr (U0 I.big);have hn:=I.hok.fresh (We s.heap.objs.size)
  have hlen:(Yx [] kvs).length<=sizeLine:=by
   refine WT (zGM kvs []) ?_;rw[VS,WA,US rel,hl];exact hz
  obtain⟨q',es,ep,g1,g2,g3,g4,_,g5⟩:=hd'
  have rel2:KT (upd H s.heap.objs.size (.dT (Yx [] kvs))) (Yx [] kvs) (zE5 [] prs):=(zNe rel .nil).keeps λc ys ec=>by
   rw[zD (zJ ec hn)];exact ec
  exact⟨.ref s.heap.objs.size,upd H s.heap.objs.size (.dT (Yx [] kvs)),I.laid (t':=tk) k (We _) (show yT X.prog X.w _ _ _ (.dT (Yx [] kvs)) from ⟨hlen,hm,_,rel2,q',es,ep,g1,g2,g3,g4,g5⟩),rfl,q _ hn⟩
end
end Ky
namespace Kl
open PySem PySem.Spec PyProof.Rows L2
theorem zMJ{P:Program}{w:World}{H:Hp}{h h':Heap}{a:Addr}{o:HO}(ok:ZO P w H h)(hn:H a=none)(k:∀ b u,b≠a->h.get? b=some u->h'.get? b=some u)(new:yT P w (upd H a o) h' a o):ZO P w (upd H a o) h':=λb u e=>by
 by_cases hb:b=a
 .subst hb;rw[zE] at e;cases e;exact new
 .rw[zD hb] at e;refine (ok b u e).stay (λc v hc q=>k c v ?_ q) (λc q=>by rw[zD (zJ q hn)];exact q) λc xs q=>by rw[zD (zJ q hn)];exact q
  rcases hc with rfl|hc
  .exact hb
  .exact zJ hc hn
theorem zMK{X:Cx}{pins:Qp}{σ:L2.St}{H:Hp}{s:Shared}{h':Heap}{t':Nat}{a:Addr}{o:HO}(I:zK X pins σ H s)(f:zAN X pins H a)(k:∀ b u,b≠a->s.heap.get? b=some u->h'.get? b=some u)(new:yT X.prog X.w (upd H a o) h' a o) :
  zK X pins σ (upd H a o) {s with heap:=h',toks:=t'}:=by
 obtain⟨f0,f1,f2,f3,f4,f5⟩:=f
 refine I.step (g':=s.gens) (d':=s.drawn) (ch:=[a]) (λb hb=>?_) (λb o _ _ hc e _=>k b o (λz=>hc (by simp[z])) e) (λb o _ _ hc e _=>⟨o.slots,k b o (λz=>hc (by simp[z])) e⟩) (λb o hc _ n=>by rw[zD (λz=>hc (by simp[z]))];exact n)
  (λb o hc e=>⟨o,k b o (λz=>hc (by simp[z])) e⟩) (λb xs e=>by rw[zD (zJ e f0)];exact e) (λb o u e=>by rw[zD (zJ e f0)];exact e) (λb ps e=>⟨#[],by rw[zD (zJ e f0),e];simp⟩) (λm hm=>?_) (zMJ I.hok f0 k new) I.bare
 .have e:b=a:=by simpa using hb
  subst e;exact⟨f3,f1,f4,f5⟩
 .obtain⟨o,es,ep,ho,r⟩:=hm;exact⟨o,es,ep,k _ o (Ne.symm f1) ho,r⟩
def leK (g:Int->Int)(x y:Int):Prop:=g x<g y\/(g x=g y/\x<=y)
def zEY (g:Int->Int)(n:Int):List (Int ⊕ List Nat):=[Sum.inl (g n),Sum.inl n]
theorem zPF{g:Int->Int}{x y:Int}(h:(listOrd itemOrd).blt (zEY g y) (zEY g x)=false):leK g x y:=by
 have h1:lexLt itemOrd (zEY g y) (zEY g x)=false:=h;unfold zEY at h1;obtain⟨a1,a2⟩:=lex_false.mp h1;have b1:decide (g y<g x)=false:=a1;have b1:=WJ b1;by_cases e:g x=g y
 .refine .inr ⟨e,?_⟩;rcases a2 with a2|a2
  .have:=WG (show decide (g x<g y)=true from a2)
   lia
  .obtain⟨c1,_⟩:=lex_false.mp a2;have:=WJ (show decide (y<x)=false from c1)
   lia
 .exact .inl (by lia)
def zGN (h:Heap)(g:Int->Int)(p:Keyed)(n:Int):Prop:=G.tupKeyC h (λ_=>false) p.1=some (zEY g n)/\∃ t,p.2=.int n t
theorem zCR{ns:List Int}{us:List Value}(r:zY (ns.map V.int) us){j:Nat}{u:Value}(e:us[j]?=some u):∃ n t,ns[j]?=some n/\u=.int n t:=by
 have hl:=r.length;rw[zX] at hl;have hj:=(yG e).1;have e2:ns[j]?=some ns[j]:=yQ (by lia);obtain⟨v,h1,t,h2⟩:=r.get (x:=V.int ns[j]) (i:=j) (by rw[WQ,e2];rfl);rw[e] at h1;cases h1;exact⟨_,t,e2,h2⟩
theorem zFQ:∀ {xs:List V}{us:List Value},xs.length=us.length->(∀ (j:Nat) (u:Value),us[j]?=some u->∃ v,xs[j]?=some v/\zp v u)->zY xs us
|[],[],_,_=>.nil
|[],_::_,e,_=>by cases e
|_::_,[],e,_=>by cases e
|x::xs,u::us,e,h=>by
  obtain⟨v,h1,h2⟩:=h 0 u rfl;cases h1;exact .cons h2 (zFQ (by simpa using e) λj z hz=>by simpa using h (j+1) z (by simpa using hz))
theorem zHV:∀ {ts:List Addr}{us:List Value},zY (ts.map V.ref) us->us=ts.map Value.ref
|[],_,.nil=>rfl
|t::ts,_,.cons r rr=>by
  have e:_=Value.ref t:=r;rw[e,zHV rr];rfl
theorem zML{h:Heap}{g:Int->Int}:∀ (l:List Keyed),(∀ p∈l,∃ n,zGN h g p n)->∃ ns':List Int,zY (ns'.map V.int) (l.map (·.2))/\l.length=ns'.length/\(∀ (i:Nat) (p:Keyed) (n:Int),l[i]?=some p->ns'[i]?=some n->zGN h g p n)/\ns'=l.map λp=>numOf p.2
|[],_=>⟨[],.nil,rfl,λi p n e=>by simp at e,rfl⟩
|p::l,hp=>by
  obtain⟨n,hn⟩:=hp p Wm;obtain⟨ns',h1,h2,h3,h4⟩:=zML l λq hq=>hp q (Wg _ hq)
  obtain⟨t,ht⟩:=hn.2;refine⟨n::ns',.cons ⟨t,ht⟩ h1,by rw[Wn,Wn,h2],λi q m e1 e2=>?_,?_⟩
  .cases i with
  |zero=>simp at e1 e2;subst e1 e2;exact hn
  |succ i=>exact h3 i q m (by simpa using e1) (by simpa using e2)
  .rw[Wo,<-h4,ht];rfl
theorem zKx{h:Heap}{g:Int->Int}{arr:Array Keyed}{ns':List Int}(hp:∀ (i:Nat) (p:Keyed) (n:Int),arr.toList[i]?=some p->ns'[i]?=some n->zGN h g p n)(hl:arr.toList.length=ns'.length)(hs:SortedToK (G.tupKindC h (λ_=>false)) arr arr.size):ns'.Pairwise (leK g):=by
 rw[Xt];intro i j hi hj hij
 have key:∀ k (hk:k<ns'.length),KK (G.tupKindC h (λ_=>false)) arr k=zEY g ns'[k]:=λk hk=>by
  have e1:arr.toList[k]?=some arr.toList[k]:=yQ (by lia);have e2:=hp k _ _ e1 (yQ hk);have e3:arr[k]?=some arr.toList[k]:=by rw[<-e1];simp
  unfold KK;rw[e3];show (G.tupKeyC h (λ_=>false) _).getD []=_;rw[e2.1];rfl
 have q:=hs i j (Vi hij) (by rw[<-Vo];lia);rw[key i hi,key j hj] at q;exact zPF q
section
variable {X:Cx}{pins:Qp}{σ:L2.St}{H:Hp}{s:Shared}
def zIY (K:Qf)(H:Hp)(l:Addr)(ns:List Int):Prop:=(zN K H l (ns.map V.int)/\ns.length<=sizeLine)\/∃ n:Nat,H l=some (.rng 0 (n:Int))/\ns=(List.range n).map (λ(i:Nat)=>(i:Int))/\n<=10000
theorem zGO{prog:Program}{w:World}{A:Around}{s:Shared}{R:Result->Shared->Prop}{r S:Addr}{n:Nat}{t u v:Tok}(hh:A.handled=none)(hr:IsRange s.heap r 0 (n:Int) 1 t u v)(hn:n<=10000)(hS:s.heap.get? S=some {cls:=.type "list",data:=.seq #[] 0})
  (hR:∀ h' tk acc' c',(∀ b o,b≠S->s.heap.get? b=some o->h'.get? b=some o)->h'.get? S=some {cls:=.type "list",dict:=none,data:=.seq acc' c',slots:=#[]}->ItemsOf (λi v=>∃ t,v=.int (0+i*1) t) acc' n->R (.ok (.ret (.ref S))) {s with heap:=h',toks:=tk}) :
  codeAny (model prog w) A (.builtin "list.__iadd__" ⟨[.ref S,.ref r],[]⟩) R s:=by
 refine UI F.entry_list_iadd ?_;rw[X6 F.plain_list_iadd _];exact wpAny_extend_range hh hr (small_one (by lia) (by lia) (by lia) (by lia)) (by rw[rangeSize_one];split <;> lia) (by lia) S _ 0 hS hR
theorem zNf{A:Around}{E:Qs}{l:Addr}{ns:List Int}{Q:List Value->Shared->Prop}(hh:A.handled=none)(I:zK X pins σ H s)(hc:zIY X.K H l ns)
  (h:∀ us h' tk,zY (ns.map V.int) us->us.length<=sizeLine->(∀ b o,s.heap.get? b=some o->h'.get? b=some o)->s.heap.objs.size<=h'.objs.size->Q us {s with heap:=h',toks:=tk}):wpAny (model X.prog X.w) A (collect (.ref l)) Q E s:=by
 rcases hc with ⟨hq,hz⟩|⟨n,hr,rfl,hn⟩
 .obtain⟨its,rv,hl,hlen⟩:=I.list hq;have hlen':its.length<=sizeLine:=by rw[<-rv.length,zX];exact hz
  refine collect_list hl.isList (h its _ s.toks rv hlen' (λb o e=>?_) ?_) hlen'
  .rw[VV _ _ _ _ (Wx (Wj e)),Heap.get?_push_ne _ _ _ (Wx (Wj e))];exact e
  .rw[Heap.size_update,size_push'];exact Jc _
 .obtain⟨t,u,v,ho⟩:=I.hok l _ hr;have hR:IsRange s.heap l 0 (n:Int) 1 t u v:=ho;unfold collect;refine Wh (wpAny_runValue (UI F.entry_proto_collect ?_));rw[X6 F.plain_proto_collect _];show wpAny _ A.in1 (newList [] >>= λl'=>again (.builtin "list.__iadd__" ⟨[l',.ref l],[]⟩)) _ _ s;refine Wh (wpAny_newObj_type ?_);have hS₁:(s.heap.push {cls:=.type "list",data:=.seq ([]:List Value).toArray}).get? s.heap.objs.size=some {cls:=.type "list",data:=.seq #[] 0}:=Wz _ rfl;refine WI ⟨UQ F.plain_list_iadd _,zGO (s:={s with heap:=s.heap.push {cls:=.type "list",data:=.seq ([]:List Value).toArray}}) hh (Wf _ hR) hn hS₁ λh' tk acc' c' hk hS' hacc=>?_⟩;show wpAny _ A (load s.heap.objs.size >>= _) _ _ _;refine Wh (wpAny_load hS' (WI ?_));have hb:=Wj hS';refine h acc'.toList h' tk ?_ (by rw[Vo,hacc.1,XV];lia) (λb o e=>hk b o (Wx (Wj e)) (Wf _ e)) (Vi hb);rw[Vf];refine zFQ (by rw[zX,VP,Vo,hacc.1]) λj u hu=>?_
  have hu':acc'[j]?=some u:=by simpa using hu
  obtain⟨tk',rfl⟩:=hacc.2 j u hu'
  have hj:j<n:=by
   have:=(Array.getElem?_eq_some_iff.mp hu').1;rw[hacc.1] at this;exact this
  refine⟨.int ((j:Nat):Int),by simp[hj],tk',?_⟩;rw[Int.mul_one,VL]
theorem zMM{h:Heap}{g:Int->Int}{n:Int}{P:Program}{w:World}{t:Addr}(ho:yT P w H h t (.tup [.int (g n),.int n])):G.tupKeyC h (λ_=>false) (.ref t)=some (zEY g n)/\∃ f,TupOf h (λ_=>false) (.ref t) f:=by
 obtain⟨_,its,r,ob,e,c,m,d⟩:=ho;cases r with
|cons r1 r=>
  cases r with
 |cons r2 r=>
   cases r;obtain⟨t1,rfl⟩:=r1;obtain⟨t2,rfl⟩:=r2;refine⟨?_,.int (g n) t1,t,ob,_,m,rfl,e,c,d,by simp,λ_=>⟨_,_,rfl⟩,λz=>by cases z⟩;unfold G.tupKeyC G.isTupObj tupKey;simp only[e,c,d];rfl
theorem zPG{A:Around}{E:Qs}{P:PySem.Fin->Shared->Prop}{st:SortSt}{D kS:Addr}{e1:Nat}{xs:List V}{ns':List Int}(I:zK X ((D,seqObj "list" #[] e1)::pins) σ H s)(fD:zAN X pins H D)(hk:H kS=some (.lst xs))(hfl:failedOf st=none)
  (ho:zY (ns'.map V.int) ((arrOf st).map (·.2)).toList)(hz:ns'.length<=sizeLine)
  (h:∀ h' tk,zK X pins σ (upd (upd H kS (.lst [])) D (.lst (ns'.map V.int))) {s with heap:=h',toks:=tk}->P (.done (.ret .none)) {s with heap:=h',toks:=tk}):wpAny (model X.prog X.w) A (ksk_tail D false e1 (.ref kS) st) P E s:=by
 obtain⟨hz0,its,n,rv,hob⟩:=I.hok kS _ hk;have pD:=I.pin (D,seqObj "list" #[] e1) (WN _ Wm);have nDk:D≠kS:=λe=>by rw[e] at pD;rw[hk] at pD;cases pD.2.1
 have hsz:its.toArray.size<=sizeLine:=by rw[Wk,<-rv.length];exact hz0
 have e1':=UH (c:="list") hob (λ_=>(#[]:Array Value));have I1:zK X ((D,seqObj "list" #[] e1)::pins) σ (upd H kS (.lst [])) {s with heap:=s.heap.update kS (Obj.mapSeq λ_=>(#[]:Array Value))}:=I.write (e:=kS) (t':=s.toks) (by rw[hk];trivial) (.inl rfl) (λb u hb hu=>by rw[VV _ _ _ _ hb];exact hu) ⟨_,e1'⟩ ⟨Ww _,[],_,.nil,e1'⟩;have na1:=(I1.pin (D,seqObj "list" #[] e1) (WN _ Wm)).1;have e2':=UH (c:="list") na1 (λ_=>(arrOf st).map (·.2));have hlen:(arrOf st).size=ns'.length:=by have:=ho.length;simp at this;lia
 have I2:=zMK (h':=((s.heap.update kS (Obj.mapSeq λ_=>(#[]:Array Value))).update D (Obj.mapSeq λ_=>(arrOf st).map (·.2)))) (t':=s.toks) (o:=.lst (ns'.map V.int)) (I1.pins_of (pins':=pins) λp hp=>I1.pin p (WN _ (Wg _ hp)))
  (a:=D) ⟨by rw[zD nDk];exact fD.1,fD.2⟩ (λb u hb hu=>by rw[VV _ _ _ _ hb];exact hu) ⟨by rw[zX];exact hz,((arrOf st).map (·.2)).toList,_,ho,by rw[Array.toArray_toList];exact e2'⟩
 unfold ksk_tail
 try dsimp only
 refine Wh (UR hob rfl ?_ hsz (Ww _));refine Wh (wpAny_letGo ?_);refine Wh (seqEpoch_at na1 rfl ?_);refine Wh (UR na1 rfl ?_ (Ww _) ?_)
 .rw[hfl];simp only[bne_self_eq_false,UU,Uq];exact WI (h _ s.toks I2)
 .show (if (false:Bool)=true then ((arrOf st).map (·.2)).reverse else (arrOf st).map (·.2)).size<=_;rw[Wb Wr,Array.size_map]
  lia
theorem zQ5{A:Around}{E:Qs}{P:PySem.Fin->Shared->Prop}{b:Bool}{g:Int->Int}{D kS:Addr}{e1:Nat}{ts:List Addr}{us:List Value}{ns:List Int}(hb:b=false)(I:zK X ((D,seqObj "list" #[] e1)::pins) σ H s)(fD:zAN X pins H D)(hk:H kS=some (.lst (ts.map V.ref)))
  (ht:∀ (j:Nat) (t:Addr) (n:Int),ts[j]?=some t->ns[j]?=some n->H t=some (.tup [.int (g n),.int n]))(hl:ts.length=ns.length)(ru:zY (ns.map V.int) us)(hz:us.length<=sizeLine)
  (h:∀ (ns':List Int) h' tk,zK X pins σ (upd (upd H kS (.lst [])) D (.lst (ns'.map V.int))) {s with heap:=h',toks:=tk}->ns'.Perm ns->ns'.Pairwise (leK g)->P (.done (.ret .none)) {s with heap:=h',toks:=tk}):wpAny (model X.prog X.w) A (ksk_end D b us.toArray e1 (.ref kS) (ts.map Value.ref).toArray) P E s:=by
 have hul:=ru.length;rw[zX] at hul;have hzip:((ts.map Value.ref).toArray.zip us.toArray).toList=(ts.map Value.ref).zip us:=by simp
 have hpair:∀ p∈(ts.map Value.ref).zip us,∃ n,zGN s.heap g p n:=λp hp=>by
  obtain⟨j,hj⟩:=WY hp;rw[Xu] at hj;obtain⟨h1,h2⟩:=hj;obtain⟨n,t,hn,hu⟩:=zCR ru h2;rw[WQ] at h1;cases hT:ts[j]? with
 |none=>rw[hT] at h1;cases h1
 |some a=>
   rw[hT] at h1;have e:=Wu h1;refine⟨n,?_,t,hu⟩;rw[<-e];exact (zMM (I.hok a _ (ht j a n hT hn))).1
 have hsnd:((ts.map Value.ref).zip us).map (λp=>numOf p.2)=ns:=by
  have e1:((ts.map Value.ref).zip us).map (λp=>numOf p.2)=(((ts.map Value.ref).zip us).map Prod.snd).map numOf:=by rw[Vf];rfl
  rw[e1,List.map_snd_zip (by rw[zX];lia)];refine Uj λj=>?_
  rw[WQ];cases hu:us[j]? with
 |none=>
   have:ns.length<=j:=by have:=List.getElem?_eq_none_iff.mp hu;lia
   rw[Vq this];rfl
 |some u=>
   obtain⟨n,t,hn,rfl⟩:=zCR ru hu;rw[hn];rfl
 have done:∀ st:SortSt,(arrOf st).Perm ((ts.map Value.ref).toArray.zip us.toArray)->SortedToK (G.tupKindC s.heap (λ_=>false)) (arrOf st) (arrOf st).size->failedOf st=none->wpAny (model X.prog X.w) A (ksk_tail D false e1 (.ref kS) st) P E s:=λst hp hs hf=>by
  have hpl:(arrOf st).toList.Perm ((ts.map Value.ref).zip us):=by rw[<-hzip];exact Array.perm_iff_toList_perm.mp hp
  obtain⟨ns',q1,q2,q3,q4⟩:=zML (h:=s.heap) (g:=g) (arrOf st).toList λp hp'=>hpair p (hpl.mem_iff.mp hp')
  have hP:ns'.Perm ns:=by rw[q4,<-hsnd];exact hpl.map _
  refine zPG (ns':=ns') I fD hk hf (by rw[Array.toList_map];exact q1) (by rw[hP.length_eq];lia) λh' tk J=>h ns' h' tk J hP (zKx q3 q2 hs)
 have step:∀ t:Sem PySem.Fin,wpAny (model X.prog X.w) A t P E s->wpAny (model X.prog X.w) A (if b=true then (do let _ <-rule "list.sort.reverse";t) else t) P E s:=by
  intro t ht;split
  .exact Wh (wpAny_rule ht)
  .exact ht
 have hks:(ts.map Value.ref).toArray.size=us.length:=by rw[Wk,zX];lia
 have hzs:((ts.map Value.ref).toArray.zip us.toArray).size=us.length:=by rw[Array.size_zip,hks,Wk,Nat.min_self]
 unfold ksk_end
 try dsimp only
 refine step _ ?_;subst hb;by_cases h2:us.toArray.size<2
 .rw[Wc h2,Wc h2];refine Wh (WI ?_);rw[StateT.run_pure];refine Wh (WI ?_)
  try dsimp only
  refine done (SortSt.mk' general' ((ts.map Value.ref).toArray.zip us.toArray) #[] 7 none) (Array.Perm.refl _) ?_ rfl;intro i j hij hj;have hj2:j<((ts.map Value.ref).toArray.zip us.toArray).size:=hj;rw[hzs] at hj2;rw[Wk] at h2;have:i=j:=by lia
  subst this;exact KeyOrd.kle_refl _
 .rw[Wb h2,Wb h2];rw[Wk] at h2
  have htu:∃ fs,TupsOf s.heap (λ_=>false) (ts.map Value.ref) fs/\fs.length=ts.length:=by
   have:∀ l:List Addr,(∀ a∈l,∃ f,TupOf s.heap (λ_=>false) (.ref a) f)->∃ fs,TupsOf s.heap (λ_=>false) (l.map Value.ref) fs/\fs.length=l.length:=by
    intro l
    induction l with
   |nil=>exact λ_=>⟨[],.nil,rfl⟩
   |cons a l ih=>
     intro hl;obtain⟨f,hf⟩:=hl a Wm;obtain⟨fs,h1,h2⟩:=ih λb hb=>hl b (Wg _ hb)
     exact⟨f::fs,.cons hf h1,by rw[Wn,Wn,h2]⟩
   refine this ts λa ha=>?_
   obtain⟨j,hj⟩:=WY ha;have hjl:=(yG hj).1;exact (zMM (I.hok a _ (ht j a _ hj (yQ (by lia))))).2
  obtain⟨fs,hts,hfl⟩:=htu;refine Wh (tup_kind (by lia) hts ?_)
  refine Wh (W9 (G.wpS_sortRunsSt (κ:=G.tupKindC s.heap (λ_=>false)) (kd:=tuples' true) (a₀:=(ts.map Value.ref).toArray.zip us.toArray) (st:=SortSt.mk' (tuples' true) ((ts.map Value.ref).toArray.zip us.toArray) #[] 7 none)
   (Q:=λ_ st'=>(arrOf st').Perm ((ts.map Value.ref).toArray.zip us.toArray)/\failedOf st'=none/\SortedToK (G.tupKindC s.heap (λ_=>false)) (arrOf st') ((ts.map Value.ref).toArray.zip us.toArray).size)
   (G.tupC_ltAt true (G.KeepsTups.refl _)) (λp hp=>?_) ⟨Array.Perm.refl _,rfl,rfl⟩ rfl (Stable.refl _) (by rw[hzs];lia) λst' a1 a2 a3 _=>⟨a1,a2,a3⟩) ?_ λ_ _ e=>e)
  .rw[hzip] at hp;obtain⟨n,h1,_⟩:=hpair p hp;exact⟨_,h1⟩
  .rintro⟨⟨⟩,st'⟩ s' ⟨rfl,hp,hf,hs⟩
   try dsimp only
   exact done st' hp (by rw[hp.size_eq];exact hs) hf
theorem zPH{A:Around}{E:Qs}{P:PySem.Fin->Shared->Prop}{g:Int->Int}{f:Value}{D kS:Addr}{e1:Nat}{us:List Value}{ns:List Int}{H1:Hp}(I:zK X ((D,seqObj "list" #[] e1)::pins) σ H1 s)(fD:zAN X pins H1 D)(hk:H1 kS=some (.lst []))(S0:zH H H1)(ru:zY (ns.map V.int) us)(hz:us.length<=sizeLine)(nk:H kS=none)
  (turn:∀ (pins':Qp) (s':Shared) (H':Hp) (n:Int) (t:Tok) (Q:VK),(∀ p∈pins,p∈pins')->zK X pins' σ H' s'->zH H H'->n∈ns->(∀ p,H' p=none->Q (.ref p) (upd H' p (.tup [.int (g n),.int n])))->wpAny (model X.prog X.w) A (call f [.int n t]) (EP X pins' σ Q) (λ_ _=>False) s')
  (h:∀ (ns':List Int) (s':Shared) H',zK X pins σ H' s'->zH H H'->H' D=some (.lst (ns'.map V.int))->ns'.Perm ns->ns'.Pairwise (leK g)->P (.done (.ret .none)) s')(nD:H D=none):wpAny (model X.prog X.w) A (ksk_rest D f false us.toArray e1 (.ref kS)) P E s:=by
 have hul:=ru.length;rw[zX] at hul;unfold ksk_rest;refine Wh (wpAny_rule ?_)
 first
 |rw[List.forIn_toArray]
 |(rw[<-Array.forIn_toList];simp only[List.toList_toArray])
 |rw[<-Array.forIn_toList]
 refine Wh (ksk_fold (λi s'=>∃ (ts:List Addr) (H':Hp),zK X ((D,seqObj "list" #[] e1)::pins) σ H' s'/\zH H H'/\H' kS=some (.lst (ts.map V.ref))/\ts.length=i/\∀ (j:Nat) (t:Addr) (n:Int),ts[j]?=some t->ns[j]?=some n->H' t=some (.tup [.int (g n),.int n])) us 0 s
  ⟨[],H1,I,S0,hk,rfl,λj t n e=>by simp at e⟩ ?step ?done)
 case step=>
  rintro j x s' hx ⟨ts,H',I',S',hk',hl,ht⟩;rw[WA] at hl;obtain⟨n,t,hn,rfl⟩:=zCR ru hx;have hj:=(yG hx).1;refine Wh (wpAny_attempt (W9 (turn _ s' H' n t (λv H2=>∃ p,v=.ref p/\H' p=none/\H2=upd H' p (.tup [.int (g n),.int n])) (λp hp=>Wg _ hp) I' S' (ZM hn) λp np=>⟨p,rfl,np,rfl⟩) (λv s2 he=>?_) λ_ _ hF=>hF.elim));obtain⟨v',H2,I2,rv,p,rfl,np,rfl⟩:=he;have ev:v=.ref p:=rv;subst ev
  try dsimp only
  have pk:kS≠p:=λe=>by rw[e,np] at hk';cases hk'
  have hk2:upd H' p (.tup [.int (g n),.int n]) kS=some (.lst (ts.map V.ref)):=by rw[zD pk];exact hk'
  obtain⟨hz0,its,m,rv',hob⟩:=I2.hok kS _ hk2;have hil:=rv'.length;rw[zX] at hil;have e3:=UH (c:="list") hob (·.push (.ref p));have sl:=XV;refine Wh (UR hob rfl ?_ (by rw[Wk];lia) (by rw[Array.size_push,Wk];lia));refine WI ⟨rfl,ts++[p],upd (upd H' p (.tup [.int (g n),.int n])) kS (.lst ((ts++[p]).map V.ref)),?_,?_,zE,by rw[Wi,hl,WA];rfl,λi t' n' e1 e2=>?_⟩
  .exact I2.write (e:=kS) (t':=s2.toks) (by rw[hk2];trivial) (.inl rfl) (λb u hb hu=>by rw[VV _ _ _ _ hb];exact hu) ⟨_,e3⟩ ⟨by rw[zX,Wi,W6];lia,its++[.ref p],_,by rw[Wq];exact rv'.append (.cons rfl .nil),by simpa using e3⟩
  .intro b o e;rw[zD (zJ e nk),zD (zJ (S' b o e) np)];exact S' b o e
  .by_cases hi:i<ts.length
   .rw[WP hi] at e1;have q:=ht i t' n' e1 e2;rw[zD (λe=>by rw[e,hk'] at q;cases q),zD (zJ q np)];exact q
   .have hi2:i=ts.length:=by
     have:=(yG e1).1;rw[Wi,W6] at this
     lia
    subst hi2;rw[W5 (We _),Xa] at e1;cases e1;rw[hl,hn] at e2;cases e2;rw[zD (Ne.symm pk),zE]
 case done=>
  rintro s' ⟨ts,H',I',S',hk',hl,ht⟩;rw[WA] at hl;obtain⟨hz0,its,m,rv',hob⟩:=I'.hok kS _ hk';have e:=zHV rv';subst e;have pD:=I'.pin (D,seqObj "list" #[] e1) (WN _ Wm);refine Wh (listItems_at hob rfl ?_);refine zQ5 (g:=g) rfl I' ⟨pD.2.1,fD.2⟩ hk' ht (by lia) ru hz λns' h' tk J hP hS=>h ns' _ _ J (λb o e=>?_) zE hP hS
  rw[zD (zJ e nD),zD (zJ e nk)];exact S' b o e
theorem zMN{E:Qs}{g:Int->Int}{l f:Addr}{ns:List Int}{Q:VK}(hc:X.calm=true)(I:zK X pins σ H s)(hl:zIY X.K H l ns)
  (turn:∀ (pins':Qp) (s':Shared) (H':Hp) (n:Int) (t:Tok) (Q:VK),(∀ p∈pins,p∈pins')->zK X pins' σ H' s'->zH H H'->n∈ns->(∀ p,H' p=none->Q (.ref p) (upd H' p (.tup [.int (g n),.int n])))->wpAny (model X.prog X.w) X.A.in1.in1 (call (.ref f) [.int n t]) (EP X pins' σ Q) (λ_ _=>False) s')
  (h:∀ (ns':List Int) p H',zH H H'->H p=none->H' p=some (.lst (ns'.map V.int))->ns'.Perm ns->ns'.Pairwise (leK g)->Q (.ref p) H'):wpAny (model X.prog X.w) X.A (call (.builtin "sorted") [.ref l] [(Str.ofString "key",.ref f)]) (EP X pins σ Q) E s:=by
 have sl:=XV;refine call_function_entry_kw kind_sorted plain_sorted entry_sorted (ksk_s1 _ _) ?_;unfold Builtin.«sorted»;refine Wh (m:=checkCount "sorted" 1 1 _) (WI ?_);refine Wh (zNf (show X.A.in1.handled=none from I.ok.hd hc) I hl λus h1 tk1 ru hz k1 sz1=>?_);refine Wh (wpAny_newList ?_ hz);have I1:zK X pins σ H {s with heap:=h1,toks:=tk1}:=I.kept k1;have I2:zK X pins σ H {s with heap:=h1.push (seqObj "list" us.toArray 0),toks:=tk1}:=I1.kept (t':=tk1) λb o e=>Wf _ e
 have nD:H h1.objs.size=none:=I1.hok.fresh (We _);have fD:zAN X pins H h1.objs.size:=I1.fpOk (We _) nD;have hoD:(h1.push (seqObj "list" us.toArray 0)).get? h1.objs.size=some (seqObj "list" us.toArray 0):=Wz _ rfl;show wpAny _ _ _ _ _ {s with heap:=h1.push (seqObj "list" us.toArray 0),toks:=tk1};refine Wh (Xw (wpAny_call_entry_kw slot_list_sort ⟨_,hoD,rfl⟩ entry_list_sort ?body (ksk_l1 _ _)))
 case body=>
  show wpAny (model X.prog X.w) X.A.in1.in1 (Builtin.«list.sort» ⟨[.ref h1.objs.size],[(Str.ofString "key",.ref f)]⟩) _ _ _;rw[ksk_t1];generalize h1.objs.size=D at *
  generalize h1.push (seqObj "list" us.toArray 0)=h2 at *
  have e1':=UH hoD (λ_=>(#[]:Array Value))
  have I3:zK X pins σ H {s with heap:=h2.update D (Obj.mapSeq λ_=>(#[]:Array Value)),toks:=tk1}:=by
   obtain⟨f0,f1,f2,f3,f4,f5⟩:=fD;exact I2.turned (t':=tk1) (λb o hb e=>by rw[VV _ _ _ _ hb];exact e) f0 f1 f3 f4 f5
  unfold ksk_tree;refine Wh (listItems_at hoD rfl ?_);refine Wh (UR hoD rfl ?_ (by rw[Wk];lia) (Ww _));generalize h2.update D (Obj.mapSeq λ_=>(#[]:Array Value))=h3 at *
  refine Wh (seqEpoch_at e1' rfl ?_);generalize (if ((#[]:Array Value).size==us.toArray.size)=true then 0 else 0+1)=ep at *
  refine Wh (wpAny_newTuple ?_ (by show us.toArray.toList.length<=_;simpa using hz));have I4:zK X pins σ H {s with heap:=h3.push {cls:=.type "tuple",data:=.seq us.toArray.toList.toArray},toks:=tk1}:=I3.kept (t':=tk1) λb o e=>Wf _ e
  have e4:=Wf {cls:=.type "tuple",data:=.seq us.toArray.toList.toArray} e1';show wpAny _ _ _ _ _ {s with heap:=h3.push {cls:=.type "tuple",data:=.seq us.toArray.toList.toArray},toks:=tk1};generalize h3.push {cls:=.type "tuple",data:=.seq us.toArray.toList.toArray}=h4 at *
  refine Wh (wpAny_newList ?_ (Ww _));refine Xw ?_;have nk:H h4.objs.size=none:=I4.hok.fresh (We _);have I5:zK X pins σ (upd H h4.objs.size (.lst [])) {s with heap:=h4.push {cls:=.type "list",data:=.seq ([]:List Value).toArray},toks:=tk1}:=I4.laid (t':=tk1) (λb u e=>Wf _ e) (We _) ⟨Ww _,[],0,.nil,Wz _ rfl⟩;have e5:=Wf {cls:=.type "list",data:=.seq ([]:List Value).toArray} e4;have Dk:D≠h4.objs.size:=Wx (Wj e4)
  have I6:zK X ((D,seqObj "list" #[] ep)::pins) σ (upd H h4.objs.size (.lst [])) {s with heap:=h4.push {cls:=.type "list",data:=.seq ([]:List Value).toArray},toks:=tk1}:=I5.pins_of λp hp=>by
   rcases Wd.mp hp with rfl|hp
   .exact⟨e5,by rw[zD Dk];exact nD,fD.2.1,fD.2.2.1,λv z=>by cases z⟩
   .exact I5.pin p (WN _ hp)
  show wpAny _ _ (ksk_rest D (.ref f) false us.toArray ep (.ref h4.objs.size)) _ _ {s with heap:=h4.push {cls:=.type "list",data:=.seq ([]:List Value).toArray},toks:=tk1};refine zPH (g:=g) (H:=H) (ns:=ns) I6 ⟨by rw[zD Dk];exact nD,fD.2⟩ zE (λb o e=>by rw[zD (zJ e nk)];exact e) ru hz nk turn (λns' s' H' J S hD hP hS=>⟨_,rfl,?_⟩) nD;exact WI ⟨_,rfl,.ref D,H',J,rfl,h ns' D H' S nD hD hP hS⟩
end
open PySem.W (kla_fn kla_obj CodeHd tabObj envX)
def zE6 (c:Addr)(q:Str):Heap->Prop:=λh=>h.CodeRec (.ref c) q
theorem zMO{P:Program}{w:World}{H:Hp}{h:Heap}{c:Addr}{q:Str}(x:h.CodeRec (.ref c) q):yT P w H h c (.ext (zE6 c q)):=by
 refine⟨x,?_,λh1 h2 p k=>?_⟩
 .obtain⟨c',o,vs,t,e,ho,_⟩:=x;cases e;exact⟨o,ho⟩
 .obtain⟨c',o,vs,t,e,ho,r⟩:=p;cases e;exact⟨c,o,vs,t,rfl,k o ho,r⟩
def ZT (H:Hp)(P:Addr)(pos:Pos)(q:Str):Prop:=H P=some (.tbl #[])\/∃ c,H P=some (.tbl #[rawInt pos.line,rawInt pos.col,.ref c])/\H c=some (.ext (zE6 c q))
structure zIZ(mg:Qm)(base:Heap)(c P:Addr):Prop where
 hd:CodeHd base c P
 bm:∃ bm ob,mg "__builtins__" = some (.ref bm)/\bm≠builtinsNs/\base.get? bm=some ob/\ob.cls=.type "module"/\ob.dict=some builtinsNs/\ob.data=.plain
def zBc (P:Addr)(H H':Hp):Prop:=∀ b o,b≠P->H b=some o->H' b=some o
theorem zBc.tab{P:Addr}{H H':Hp}{ps:Array Value}{b:Addr}{o:HO}(s:zBc P H H')(h:H P=some (.tbl ps))(e:H b=some o)(n:o≠.tbl ps):H' b=some o:=s b o (λz=>by rw[z,h] at e;exact n (Wu e).symm) e
section
variable {X:Cx}{pins:Qp}{σ:L2.St}{H:Hp}{s:Shared}{c P:Addr}{params:Arguments}{body:Expr}{scL:Scope}{pos:Pos}{cl:List (Str×Addr)}
theorem zJw{H':Hp}{h':Heap}{tk:Nat}{fo:Obj}{g':Array GenState}{d':Drawn}(J:zK X pins σ H' {s with heap:=h',gens:=g',drawn:=d',toks:=tk})(hd:∀ v,fo.data≠.cell v)(hfr:fo.isFreed=false:=by rfl):zK X ((h'.objs.size,fo)::pins) σ H' {s with heap:=h'.push fo,gens:=g',drawn:=d',toks:=tk}:=by
 have J2:zK X pins σ H' {s with heap:=h'.push fo,gens:=g',drawn:=d',toks:=tk}:=J.kept (t':=tk) λb o e=>Wf _ e
 have f:=J.fpOk (b:=h'.objs.size) (We _) (J.hok.fresh (We _));refine J2.pins_of λp hp=>?_
 rcases Wd.mp hp with rfl|hp
 .exact⟨Wz _ hfr,f.1,f.2.1,f.2.2.1,hd⟩
 .exact J2.pin p (WN _ hp)
theorem zNg(I:zK X pins σ H s)(hcode:X.env.code=.ref c)(L:zIZ X.mg X.base c P)(hT:ZT H P pos (X.env.qual++"<lambda>"))(hdef:PySem.defaultsOf params X.env=([],[]))(hcl:closureFor scL X.env=pure cl) :
  wpAny (model X.prog X.w) X.A (eval (.Lambda params body scL pos) X.env) (λv s'=>∃ f c' pm ctv H',v=.ref f/\zK X ((f,kla_obj "<lambda>" (X.env.qual++"<lambda>") params body scL cl pm c' ctv)::pins) σ H' s'/\H' c'=some (.ext (zE6 c' (X.env.qual++"<lambda>")))/\ZT H' P pos (X.env.qual++"<lambda>")/\zBc P H H') X.xe s:=by
 have hgs:s.heap.Ns mainGlobals X.mg:=I.mod.glob.keeps I.bk;have C:CodeHd s.heap c P:=L.hd.keeps I.bk;obtain⟨bm,ob,b1,b2,b3,b4,b5,b6⟩:=L.bm;have b3':=I.bk _ _ b3
 have bad:∀ {ps:Array Value},s.heap.get? P=some (tabObj ps)->mainGlobals≠P/\s.heap.BuiltinsAt X.mg P:=λ{ps} hP=>by
  have hgP:mainGlobals≠P:=λq=>by
   obtain⟨o,es,ep,e,hd,_⟩:=hgs;rw[q,hP] at e;cases e;cases hd
  have hbP:bm≠P:=λq=>by rw[q,hP] at b3';cases b3';cases b4
  have hbG:bm≠mainGlobals:=λq=>by
   obtain⟨o,es,ep,e,hd,_⟩:=hgs;rw[q,e] at b3';cases b3';rw[hd] at b6;cases b6
  exact⟨hgP,bm,ob,b1,b2,hbG,hbP,b3',b4,b5,b6⟩
 refine PySem.W.kla_eval hdef ?_;rcases hT with hT|⟨c',hT,hc'⟩
 .have hP:s.heap.get? P=some (tabObj #[]):=I.hok P _ hT;obtain⟨hgP,hB⟩:=bad hP;refine PySem.W.kla_makeFunction (mg:=X.mg) hcl I.ok.glob hgs hcode C hP trivial rfl hgP hB λc' ctv h' tk hx hge hlt hrec htb=>?_
  have nc:H c'=none:=I.hok.fresh hge;have Pc:P≠c':=Wx (yR (Wj hP) hge);have htb':h'.get? P=some (tabObj #[rawInt pos.line,rawInt pos.col,.ref c']):=by rw[htb];rfl
  have LP:X.env.locals≠P:=λe=>by rw[<-e,I.free] at hT;cases hT
  have J:zK X pins σ (upd (upd H P (.tbl #[rawInt pos.line,rawInt pos.col,.ref c'])) c' (.ext (zE6 c' (X.env.qual++"<lambda>")))) {s with heap:=h',toks:=tk}:=by
   refine I.step (g':=s.gens) (d':=s.drawn) (ch:=[]) (λ_ z=>nomatch z) (λb o _ _ _ e n=>hx b o (λz=>by rw[z,hT] at n;cases n) e) (λb o _ _ _ e n=>⟨o.slots,hx b o (λz=>by rw[z,hT] at n;cases n) e⟩)
    (λb o _ e n=>?_) (λb o _ e=>?_) (λb xs e=>?_) (λb o u e=>?_) (λb ps e=>?_) (λm hm=>hm.extBut hx LP) (λb u e=>?_) I.bare
   .rw[zD (Wx (yR (Wj e) hge)),zD (λz=>by rw[z,hT] at n;cases n)];exact n
   .by_cases hb:b=P
    .exact⟨_,by rw[hb];exact htb'⟩
    .exact⟨o,hx b o hb e⟩
   .rw[zD (zJ e nc),zD (λz=>by rw[z,hT] at e;cases e)];exact e
   .rw[zD (zJ e nc),zD (λz=>by rw[z,hT] at e;cases e)];exact e
   .by_cases hb:b=P
    .subst hb;rw[hT] at e;cases e;exact⟨#[rawInt pos.line,rawInt pos.col,.ref c'],by rw[zD Pc,zE];simp⟩
    .exact⟨#[],by rw[zD (zJ e nc),zD hb,e];simp⟩
   .by_cases hb:b=c'
    .subst hb;rw[zE] at e;cases e;exact zMO hrec
    .rw[zD hb] at e;by_cases hp:b=P
     .subst hp;rw[zE] at e;cases e;exact htb'
     .rw[zD hp] at e
      have st:∀ d y,H d=some (.own y)->upd (upd H P (.tbl #[rawInt pos.line,rawInt pos.col,.ref c'])) c' (.ext (zE6 c' (X.env.qual++"<lambda>"))) d=some (.own y):=λd y q=>by
       rw[zD (zJ q nc),zD (λz=>by rw[z,hT] at q;cases q)];exact q
      refine (I.hok b u e).stay (λd v hd q=>hx d v (λz=>?_) q) (λd q=>st d b q) λd xs q=>?_
      .rcases hd with hd|hd
       .exact hp (hd.symm.trans z)
       .rw[z,hT] at hd;cases hd
      .rw[zD (zJ q nc),zD (λz=>by rw[z,hT] at q;cases q)];exact q
  refine⟨_,c',_,ctv,_,rfl,zJw (s:=s) (g':=s.gens) (d':=s.drawn) J (λv z=>by cases z),zE,.inr ⟨c',by rw[zD Pc,zE],zE⟩,λb o nb e=>?_⟩;rw[zD (zJ e nc),zD nb];exact e
 .have hP:s.heap.get? P=some (tabObj #[rawInt pos.line,rawInt pos.col,.ref c']):=I.hok P _ hT;obtain⟨hgP,hB⟩:=bad hP
  have hit:codeAmong pos (#[rawInt pos.line,rawInt pos.col,.ref c']:Array Value).toList=some (.ref c'):=by
   show codeAmong pos [rawInt pos.line,rawInt pos.col,.ref c']=some (.ref c');unfold codeAmong;simp[rawInt]
  refine PySem.W.kla_makeFunctionHit (mg:=X.mg) hcl I.ok.glob hgs hcode C hP ?_ hit hB λctv h' tk hk hsz=>?_
  .trivial
  .have J:zK X pins σ H {s with heap:=h',toks:=tk}:=I.kept hk;exact⟨_,c',_,ctv,H,rfl,zJw (s:=s) (g':=s.gens) (d':=s.drawn) J (λv z=>by cases z),hc',.inr ⟨c',hT,hc'⟩,λb o _ e=>e⟩
def cxL (X:Cx)(A:Around)(s:Shared)(H:Hp)(f c':Addr)(q x y:Str)(scL:Scope)(cl:List (Str×Addr)):Cx where
 prog:=X.prog
 w:=X.w
 K:=X.K
 mg:=X.mg
 base:=X.base
 A:=A.deeper (envX q scL s.heap.objs.size f (.ref c') cl)
 N:=[x,y]
 s_0:=s
 H_0:=H
 env:=envX q scL s.heap.objs.size f (.ref c') cl
 outer:=X.stack
 stack:=envX q scL s.heap.objs.size f (.ref c') cl::X.stack
 ex:=[]
 fn:=λ_=>false
 calm:=true
 pn:=[]
 xe:=λ_ _=>False
theorem zNh{A:Around}{f c':Addr}{pm ctv:Value}{q x y:Str}{cy:Addr}{n:Value}{vn vy:V}{iy:Nat}{t:TE}{Q:VK}(hA:A.frames=some X.stack)(hd:A.handled=none)(hroom:A.depth<recursionLimit)(I:zK X pins σ H s)
  (hf:(f,kla_obj "<lambda>" q params body scL [(y,cy)] pm c' ctv)∈pins)(hc:s.heap.CodeRec (.ref c') q)
  (hb:bindArgs (kla_fn "<lambda>" q params body scL [(y,cy)] pm (.ref c') ctv) ⟨[n],[]⟩=pure [(x,n)])(hsc:scL.names=[(x,.local),(y,.free)])(hxy:x≠y)(hco:scL.isCoroutine=false)(hgen:scL.isGenerator=false)(hki:scL.kind=.function)
  (hcy:X.env.cells.lookup y=some cy)(hN:X.N[iy]?=some y)(hσ:σ[iy]?=some (some vy))(hv:X.env.kindOf y=some .cell)(rn:zp vn n)
  (ht:PE (cxL X A s H f c' q x y scL [(y,cy)]) body t)(hq:t [some vn,some vy] H Q):wpAny (model X.prog X.w) A (call (.ref f) [n]) (EP X pins σ Q) (λ_ _=>False) s:=by
 have ho:=(I.pin _ (WN _ hf)).1;have lx:scL.names.lookup x=some .local:=by rw[hsc];simp
 have ly:scL.names.lookup y=some .free:=by rw[hsc,VJ,Je (Ne.symm hxy)];simp
 have cyc:∃ w,zp vy w/\s.heap.IsCell cy (some w):=by
  obtain⟨m,_,hl⟩:=I.loc;obtain⟨w,r,l⟩:=hl iy y vy hN hσ (.inr (.inl hv));rcases l with ⟨k,_⟩|⟨_,c2,e,z⟩
  .rw[hv] at k;cases k
  .rw[hcy] at e;cases e;exact⟨w,r,z⟩
 obtain⟨wy,ry,zy⟩:=cyc;refine Ux (Xq (R:=CR CX0 X.stack X.prog X.w H s Q (λ_ _ _=>False)) (PySem.W.kla_callFunE hroom ho rfl hco hgen rfl hc ?_) λr s' hr=>?_)
 .rw[hb];refine WI (wpAny_newFunctionEnv (λz hz=>?_) (λz hz=>?_) (λh₁ hns hsb=>⟨(I.nolimit).fresh _ hsb,?_⟩) hki)
  .rw[hsc] at hz;rcases Wd.mp hz with rfl|hz
   .intro e;cases e
   .rw[Wl.mp hz];intro e;cases e
  .rw[Wl.mp hz];exact lx
  show codeAny _ _ (.expr body (envX q scL s.heap.objs.size f (.ref c') [(y,cy)])) _ _;have hk₁:∀ b o,s.heap.get? b=some o->h₁.get? b=some o:=λb o e=>hsb.extBut b o (Wx (Wj e)) (Wf _ e)
  have e0:=I.env0;have noA:∀ b:Addr,b∉(cxL X A s H f c' q x y scL [(y,cy)]).ex:=λb z=>absurd (show b∈([]:List Addr) from z) (by simp)
  have one:∀ z c,([(y,cy)]:List (Str×Addr)).lookup z=some c->z=y/\c=cy:=λz c e=>by
   rw[VJ] at e;split at e
   .rename_i hz
    cases e;exact⟨eq_of_beq hz,rfl⟩
   .cases e
  have kinds:∀ z:Str,(scL.names.lookup z=some .cell\/scL.names.lookup z=some .free)->z=y:=λz hz=>by
   by_cases h1:z=x
   .subst h1;rw[lx] at hz;rcases hz with hz|hz <;> cases hz
   .by_cases h2:z=y
    .exact h2
    .rw[hsc] at hz;simp[List.lookup,Je h1,Je h2] at hz
  have J:zK (cxL X A s H f c' q x y scL [(y,cy)]) [] [some vn,some vy] H {s with heap:=h₁,toks:=s.toks+([(x,n)]:List (Str×Value)).length}:=by
   refine⟨⟨e0.mod,hki,rfl,rfl,We _,λa b c h1 h2=>?_,λz hz=>?_,λz c h _=>(by cases h),λ_=>hd,Around.frames_deeper hA,.inr ⟨rfl,rfl⟩,λb z=>absurd z (noA b),e0.bs,e0.bsz,λb _ _=>noA b,λb z=>absurd z (noA b),e0.funs,e0.frf⟩,
    rfl,e0.bare,Un.kept hk₁,⟨_,hns,λi z v h1 h2 h3=>?_⟩,λz c h=>?_,e0.hok.fresh (We _),λz c h=>?_,λp hp=>absurd (show p∈([]:Qp) from hp) (by simp),e0.hok.kept hk₁,rfl⟩
   .rw[(one a c h1).1,(one b c h2).1]
   .rw[kinds z hz];exact⟨cy,by show List.lookup y [(y,cy)]=_;simp⟩
   .match i,h1,h2 with
   |0,h1,h2=>
     cases h1;cases h2;refine⟨n,rn,.inl ⟨lx,?_⟩⟩;show ([(x,n)]:List (Str×Value)).reverse.lookup x=some n;simp
   |1,h1,h2=>
     cases h1;cases h2;refine⟨wy,ry,.inr ⟨.inr ly,cy,by show List.lookup y [(y,cy)]=_;simp,?_⟩⟩;obtain⟨o,h4,h5⟩:=zy;exact⟨o,hk₁ _ _ h4,h5⟩
   |i+2,h1,h2=>cases h1
   .obtain⟨_,rfl⟩:=one z c h;obtain⟨o,h4,h5⟩:=zy;exact⟨_,o,hk₁ _ _ h4,h5⟩
   .obtain⟨_,rfl⟩:=one z c h;exact I.freeC y c hcy
  refine PySem.W.kla_codeExpr (W9 (ht [] _ _ H Q J hq) (λv s' hl=>?_) λ_ _ z=>z.elim);obtain⟨v',H',J',rv,qv⟩:=hl;exact⟨v',H',J'.os,J'.bare,J'.base,J'.hok,rv,qv⟩
 .cases r with
 |error e=>exact hr
 |ok fl=>
   cases fl with
  |ret u=>exact I.after hr
  |next=>exact False.elim hr
  |brk=>exact False.elim hr
  |cont=>exact False.elim hr
end
theorem zCS{H:Hp}{P:Addr}{pos:Pos}{q:Str}(h:ZT H P pos q):∃ ps,H P=some (.tbl ps):=by
 rcases h with h|⟨c,h,_⟩
 .exact⟨_,h⟩
 .exact⟨_,h⟩
theorem zQ6{K:Qf}{H H':Hp}{l P:Addr}{ns:List Int}{ps:Array Value}(h:zIY K H l ns)(hT:H P=some (.tbl ps))(s:zBc P H H'):zIY K H' l ns:=by
 rcases h with ⟨(h|⟨o,h⟩)|h,z⟩|⟨n,h,r⟩
 .exact .inl ⟨.inl (.inl (s.tab hT h λz=>by cases z)),z⟩
 .exact .inl ⟨.inl (.inr ⟨o,s.tab hT h λz=>by cases z⟩),z⟩
 .exact .inl ⟨.inr h,z⟩
 .exact .inr ⟨n,s.tab hT h (λz=>by cases z),r⟩
theorem Yr{H H':Hp}{P:Addr}{pos:Pos}{q:Str}(h:ZT H P pos q)(s:zH H H'):ZT H' P pos q:=by
 rcases h with h|⟨c,h1,h2⟩
 .exact .inl (s _ _ h)
 .exact .inr ⟨c,s _ _ h1,s _ _ h2⟩
section
variable {X:Cx}{e a:Expr}{te tb:TE}{ta:TA}{p pos lpos kpos:Pos}{c P cy:Addr}{params:Arguments}{body:Expr}{scL:Scope}{x y:Str}{iy:Nat}
theorem zMP(hg:Gl X "range")(hm:X.mg "range" = none)(ha:PA X [a] ta)(hs:starEach [a] X.env=[(false,eval a X.env)]:=by rfl):PE X (.Call (.Name "range" p) [a] [] pos) (λσ H Q=>ta σ H λvs H1=>∃ j:Int,vs=[.int j]/\∀ r,H1 r=none->Q (.ref r) (upd H1 r (.rng 0 j))):=by
 intro pins s σ H Q I h;refine Call_ (zAy I hg hm Jm (Vh (zr (ha pos pins s σ H _ I h) λus s1 ⟨vs,H1,I1,r1,q1⟩=>?_) hs rfl));obtain⟨j,e,q⟩:=q1;subst e;cases r1 with
|cons r rr=>
  cases rr;obtain⟨t,rfl⟩:=r;refine call_range_1 ⟨.ref s1.heap.objs.size,upd H1 s1.heap.objs.size (.rng 0 j),I1.laid (λb u e=>Wf _ e) (We _) ⟨_,_,_,Wz _ rfl⟩,rfl,q _ (I1.hok.fresh (We _))⟩
def zMQ (K:Qf)(tb:TE)(P:Addr)(lpos:Pos)(q:Str)(iy:Nat)(σ:L2.St)(Q:VK):VK:=λx H1=>∃ (l:Addr) (ns:List Int) (g:Int->Int) (vy:V),x=.ref l/\zIY K H1 l ns/\ZT H1 P lpos q/\σ[iy]?=some (some vy)/\
 (∀ (H':Hp) (n:Int),zBc P H1 H'->n∈ns->∀ R:VK,(∀ p,H' p=none->R (.ref p) (upd H' p (.tup [.int (g n),.int n])))->tb [some (.int n),some vy] H' R)/\
 ∀ (ns':List Int) (p:Addr) (H':Hp),zBc P H1 H'->ZT H' P lpos q->H1 p=none->H' p=some (.lst (ns'.map V.int))->ns'.Perm ns->ns'.Pairwise (leK g)->Q (.ref p) H'
def zQ7 (K:Qf)(te tb:TE)(P:Addr)(lpos:Pos)(q:Str)(iy:Nat):TE:=λσ H Q=>te σ H (zMQ K tb P lpos q iy σ Q)
theorem zIa(hm:X.mg "sorted" = none)(he:PE X e te)(hr:zn 1 X.A)(hcalm:X.calm=true)(hcode:X.env.code=.ref c)(L:zIZ X.mg X.base c P)(hcl:closureFor scL X.env=pure [(y,cy)])
  (hb:∀ (q:Str) (pm ctv:Value) (c':Addr) (n:Value),bindArgs (kla_fn "<lambda>" q params body scL [(y,cy)] pm (.ref c') ctv) ⟨[n],[]⟩=pure [(x,n)])(hsc:scL.names=[(x,.local),(y,.free)])(hxy:x≠y)(hco:scL.isCoroutine=false)(hgen:scL.isGenerator=false)(hki:scL.kind=.function)
  (hcy:X.env.cells.lookup y=some cy)(hN:X.N[iy]?=some y)(hv:X.env.kindOf y=some .cell)
  (ht:∀ (A:Around) (s:Shared) (H:Hp) (f c':Addr),A.handled=none->PE (cxL X A s H f c' (X.env.qual++"<lambda>") x y scL [(y,cy)]) body tb)
  (hg:Gl X "sorted":=by rfl)(hdef:PySem.defaultsOf params X.env=([],[]):=by rfl)(hs:starEach [e] X.env=(false,eval e X.env)::starEach [] X.env:=by rfl) :
  PE X (.Call (.Name "sorted" p) [e] [⟨some "key",.Lambda params body scL lpos,kpos⟩] pos) (zQ7 X.K te tb P lpos (X.env.qual++"<lambda>") iy):=by
 intro pins s σ H Q I h;refine Vx (zAy I hg hm boot_sorted ?_);refine callWith_kw (zr (zA he zC hs pos pins s σ H (λvs H1=>match vs with |[x]=>zMQ X.K tb P lpos (X.env.qual++"<lambda>") iy σ Q x H1|_=>False) I h) λus s1 ⟨vs,H1,I1,r1,q1⟩=>?_) (by rw[hs];rfl) (by rw[hs];rfl);cases r1 with
|nil=>exact q1.elim
|cons r rr=>
  cases rr with
 |cons _ _=>exact q1.elim
 |nil=>
  obtain⟨l,ns,g,vy,e1,hC,hT,hσ,hkey,hQ⟩:=q1;subst e1;have er:_=Value.ref l:=r;subst er;show wpAny _ _ (evalAll [do let v <-eval (.Lambda params body scL lpos) X.env;standAt pos;pure v]) _ _ s1;refine wpAny_evalAll_cons (Wh (zr (zNg I1 hcode L hT hdef hcl) λv s2 ⟨f,c',pm,ctv,H2,ev,I2,hc2,hT2,S2⟩=>Wh (XT (WI (wpAny_evalAll_nil ?_)))));subst ev;show wpAny _ _ (call (.builtin "sorted") [.ref l] [(Str.ofString "key",.ref f)]) _ _ s2;refine zr (zMN (g:=g) (ns:=ns) (Q:=Q) hcalm I2 (zQ6 hC (zCS hT).choose_spec S2) (λpins' s' H' n t Q' hp I' S' hn hq=>?_) λns' p H' S' np hp hP hS=>?_) λv s3 ⟨v',H3,I3,r3,q3⟩=>⟨v',H3,I3.pins_of λp hp=>I3.pin p (WN _ (Wg _ hp)),r3,q3⟩
  .obtain⟨hrec,_⟩:=I'.hok c' _ (S' _ _ hc2);refine zNh (q:=X.env.qual++"<lambda>") (A:=X.A.in1.in1) I'.ok.frames (show X.A.handled=none from hr.hd) ?_ I' (hp _ Wm) hrec (hb _ _ _ _ _) hsc hxy hco hgen hki hcy hN hσ hv (vn:=.int n) ⟨t,rfl⟩ (ht _ _ _ _ _ (show X.A.handled=none from hr.hd)) (hkey H' n (λb o nb e=>S' b o (S2 b o nb e)) hn Q' hq);have:=hr.dp;show X.A.depth<_;omega
  .refine hQ ns' p H' (λb o nb e=>S' b o (S2 b o nb e)) (Yr hT2 S') ?_ hp hP hS;cases z:H1 p with
  |none=>rfl
  |some o=>
    by_cases hp:p=P
    .obtain⟨ps,e⟩:=zCS hT2;rw[hp,e] at np;cases np
    .rw[S2 p o hp z] at np;cases np
end
theorem okC{P:Program}{w:World}{K:Qf}{mg:Qm}{base:Heap}{x:Str}{st:Stmt}{N ps:List Str}{k:Nat}{sp:Sp}{T:Addr}(D:Kn.zV K mg x st ps)(hT:∀ f o fd,mg x=some (.ref f)->K.lookup f=some o->o.data=.func fd->∃ c,fd.code=.ref c/\zIZ mg base c T)(S:zO N ps (zI st))(len:∀ vs H Q E,sp vs H Q E->vs.length=ps.length)
  (hbody:∀ (f c:Addr) (A:Around) (outer:List Env) (s:Shared) (H:Hp) (vs:List V) (Q:VK) (E:XK),zIZ mg base c T->zn k (A.deeper (envOfC x (zI st) s.heap.objs.size f (.ref c)))->sp vs H Q E->
   ∃ t,PSs (ZR CX0 P w K mg base N x (zI st) f (.ref c) A outer s H E).nox (ZG st) t/\t {nx:=λ_ H'=>Q .non H',rt:=Q} (YW N vs) H):Kn.Ok P w K mg base (k+1) x ps sp:=by
 obtain⟨f,fd,D⟩:=D;refine⟨f,fd,?_,D.at_,D.fn.kp,D.bi⟩;obtain⟨oc,od,kV,doc,pm,an,cdv,ct,osl,rfl,lk,hcd⟩:=D.fn.ex;obtain⟨c,hc,L⟩:=hT f _ _ D.at_ lk rfl;have hc':cdv=.ref c:=hc;subst hc';refine zKb lk hcd S len λA outer s H vs Q E hr hsp=>?_
 obtain⟨t,h,q⟩:=hbody f c A outer s H vs Q E L hr hsp;exact⟨t,h.nox,q⟩
theorem uniq{α:Type}{R:α->α->Prop}(anti:∀ a b,R a b->R b a->a=b):∀ {l l':List α},l.Perm l'->l.Pairwise R->l'.Pairwise R->l=l'
|[],l',p,_,_=>p.nil_eq
|a::l,[],p,_,_=>by have:=p.length_eq;simp at this
|a::l,b::l',p,h,h'=>by
  obtain⟨h1,h2⟩:=Vy.mp h;obtain⟨h3,h4⟩:=Vy.mp h'
  have e:a=b:=by
   rcases Wd.mp (p.mem_iff.mp Wm) with e|ha
   .exact e
   .rcases Wd.mp (p.mem_iff.mpr Wm) with e|hb
    .exact e.symm
    .exact anti _ _ (h1 b hb) (h3 a ha)
  subst e;rw[uniq anti (List.Perm.cons_inv p) h2 h4]
theorem zIb{g:Int->Int}(a b:Int)(h1:leK g a b)(h2:leK g b a):a=b:=by
 unfold leK at h1 h2;omega
section
variable {α:Type}{bf:α->α->Bool}{le:α->α->Prop}
theorem zDs{x:α}:∀ (l:List α),(Gla.putIn bf x l).Perm (x::l)
|[]=>Jo _
|y::r=>by
  unfold Gla.putIn;split
  .exact Jo _
  .exact ((zDs r).cons y).trans (List.Perm.swap x y r)
theorem zA3:∀ (l:List α),(Gla.inOrder bf l).Perm l
|[]=>Jo _
|x::l=>by
  show (Gla.putIn bf x (Gla.inOrder bf l)).Perm _;exact (zDs _).trans ((zA3 l).cons x)
theorem zHW(h1:∀ x y,bf x y=true->le x y)(h2:∀ x y,bf x y=false->le y x)(tr:∀ x y z,le x y->le y z->le x z){x:α}:∀ (l:List α),l.Pairwise le->(Gla.putIn bf x l).Pairwise le
|[],_=>List.pairwise_singleton _ _
|y::r,h=>by
  obtain⟨a,b⟩:=Vy.mp h;unfold Gla.putIn;split
  .rename_i e
   refine Vy.mpr ⟨λz hz=>?_,h⟩;rcases Wd.mp hz with rfl|hz
   .exact h1 _ _ e
   .exact tr _ _ _ (h1 _ _ e) (a z hz)
  .rename_i e
   refine Vy.mpr ⟨λz hz=>?_,zHW h1 h2 tr r b⟩;rcases Wd.mp ((zDs r).mem_iff.mp hz) with rfl|hz
   .exact h2 _ _ (by simpa using e)
   .exact a z hz
theorem zC6(h1:∀ x y,bf x y=true->le x y)(h2:∀ x y,bf x y=false->le y x)(tr:∀ x y z,le x y->le y z->le x z):∀ (l:List α),(Gla.inOrder bf l).Pairwise le
|[]=>List.Pairwise.nil
|x::l=>by
  show (Gla.putIn bf x (Gla.inOrder bf l)).Pairwise le;exact zHW h1 h2 tr _ (zC6 h1 h2 tr l)
end
open PySem.W (CodeHd tabObj WData Codec OpenSpec WellAll ReadsW)
def zDt (K:Qf)(mg:Qm)(base:Heap)(x:Str)(T:Addr):Prop:=∀ f o fd,mg x=some (.ref f)->K.lookup f=some o->o.data=.func fd->∃ c,fd.code=.ref c/\zIZ mg base c T
def zE7 (mg:Qm)(h:Heap)(x:Str)(T:Addr):Prop:=∃ f o fd c,mg x=some (.ref f)/\h.get? f=some o/\o.data=.func fd/\fd.code=.ref c/\CodeHd h c T/\h.TableAt c T #[]
theorem zGP{K:Qf}{P:Addr}{o:Obj}(nt:PySem.W.noTabs K=true)(e:K.lookup P=some o):∀ ps,o≠tabObj ps:=λps z=>by
 have h2:=WW.mp nt (P,o) (PySem.W.mem_of_lookupK e);subst z;exact absurd (show false=true from h2) Wr
theorem zKy{P:Program}{w:World}{K:Qf}{mg mb:Qm}{CX:CXT}{k:Nat}{fa T1 T2:Addr}{x1 x2:Str}{fd:FuncData}{ps:List Str}{sp:Sp}{s₁:Shared}{vals:List Value}{ds:List WData}{R:PySem.W.WRecords}{cl:Str->Option Addr}{d0:WData}
  (KX:K.In s₁.heap)(hns:s₁.heap.Ns mainGlobals mg)(hb:s₁.heap.Ns builtinsNs mb)(hbb:∀ x:Str,x≠"__name__"->mb x=bootBuiltins x)(hlim:s₁.heap.NoLimit)(hg:s₁.gens=#[])
  (hwl:WellAll w.params s₁.heap vals ds)(hpl:zBx ds=true)(hwt:∀ d∈ds,d.weight<=1048576)(hr:zn k callerA)(nt:PySem.W.noTabs K=true)(ht1:zE7 mg s₁.heap x1 T1)(ht2:zE7 mg s₁.heap x2 T2)
  (hbm:∃ bm ob,mg "__builtins__" = some (.ref bm)/\bm≠builtinsNs/\s₁.heap.get? bm=some ob/\ob.cls=.type "module"/\ob.dict=some builtinsNs/\ob.data=.plain)
  (F:∀ base:Heap,K.In base->base.Ns mainGlobals mg->zDt K mg base x1 T1->zDt K mg base x2 T2->Y2 P w K mg base CX k fa fd ps sp)(hbind:∀ (s:Shared) (us:List Value),us.length=ps.length->BindsTo s fd ⟨us,[]⟩ (ps.zip us))(hlen:ds.length=ps.length)
  (hsp:∀ (H H2:Hp) (xs:List V),zHs H->zA0 K H xs ds->zH H H2->H2 T1=some (.tbl #[])->H2 T2=some (.tbl #[])->sp xs H2 (λv H'=>Dw K H' v d0) λ_ _ _=>False)
  (hCX:∀ H e s',CX [] H s₁ (λ_ _ _=>False) e s'->False) :
  codeAny (model P w) callerA (.call (.ref fa) ⟨vals,[]⟩) (λr s'=>∃ u as,r=.ok (.ret u)/\ReadsW R cl s'.heap u d0 as/\OldK s₁.heap s'.heap/\s'.os=s₁.os/\AllBare s'.gens) s₁:=by
 obtain⟨A,ho,ar⟩:=zDn ds vals hwl hpl hwt;have hO:zHs (Yp K s₁.heap A):=zL5 ar;have hok:ZO P w (Yp K s₁.heap A) s₁.heap:=zOy ar;have hS:=zF4 KX ar ds vals hwl hpl ho;have hV:=zBF ho;have hK:∀ b u,Yp K s₁.heap A b=some u->K.lookup b=none:=λb u q=>(zEw ar q).1
 have noA:∀ {b:Addr}{o:Obj},s₁.heap.get? b=some o->(∀ vs n,o.data≠.seq vs n)->Yp K s₁.heap A b=none:=λ{b o} e d=>by
  cases q:Yp K s₁.heap A b with
 |none=>rfl
 |some u=>
   obtain⟨_,vs,_,_,⟨e2,_⟩|⟨e2,_⟩⟩:=zEw ar q
   .rw[e2] at e;cases e;exact absurd rfl (d _ _)
   .rw[e2] at e;cases e;exact absurd rfl (d _ _)
 generalize Yp K s₁.heap A=H at hO hok hS hK noA;have hP1:s₁.heap.get? T1=some (tabObj #[]):=let ⟨_,_,_,_,_,_,_,_,_,z⟩:=ht1;z.2;have hP2:s₁.heap.get? T2=some (tabObj #[]):=let ⟨_,_,_,_,_,_,_,_,_,z⟩:=ht2;z.2;have n1:H T1=none:=noA hP1 (λ_ _ z=>by cases z);have n2:H T2=none:=noA hP2 (λ_ _ z=>by cases z);generalize eH:upd (upd H T1 (.tbl #[])) T2 (.tbl #[])=H2
 have g1:H2 T1=some (.tbl #[]):=by
  rw[<-eH];by_cases z:T1=T2
  .rw[z,zE]
  .rw[zD z,zE]
 have g2:H2 T2=some (.tbl #[]):=by rw[<-eH,zE]
 have gn:∀ b,b≠T1->b≠T2->H2 b=H b:=λb z1 z2=>by rw[<-eH,zD z2,zD z1]
 have S2:zH H H2:=λb o e=>by rw[gn b (zJ e n1) (zJ e n2)];exact e
 have hok2:ZO P w H2 s₁.heap:=λb u e=>by
  by_cases z1:b=T1
  .subst z1;rw[g1] at e;cases e;exact hP1
  .by_cases z2:b=T2
   .subst z2;rw[g2] at e;cases e;exact hP2
   .rw[gn b z1 z2] at e;exact (hok b u e).stay (λ_ _ _ q=>q) (λc q=>S2 _ _ q) λc xs q=>S2 _ _ q
 have no2:∀ {b:Addr}{o:Obj},s₁.heap.get? b=some o->(∀ vs n,o.data≠.seq vs n)->o≠tabObj #[]->H2 b=none:=λ{b o} e d t=>by
  rw[gn b (λz=>by rw[z,hP1] at e;exact t (Wu e).symm) (λz=>by rw[z,hP2] at e;exact t (Wu e).symm)];exact noA e d
 have base_of:∀ {b:Addr}{o:Obj},s₁.heap.get? b=some o->H2 b=none->(zCx s₁.heap H2).get? b=some o:=λe n=>zM5 e n
 have nsK:∀ {b:Addr}{m:Qm},s₁.heap.Ns b m->(zCx s₁.heap H2).Ns b m:=λ{b m} ⟨o,es,ep,e,d,r⟩=>⟨o,es,ep,base_of e (no2 e (λ_ _ z=>by rw[d] at z;cases z) (λz=>by rw[z] at d;cases d)),d,r⟩
 have nK:∀ b o,K.lookup b=some o->H2 b=none:=λb o e=>by
  rw[gn b (λz=>by
   have:=KX b o e;rw[z,hP1] at this;exact zGP nt e _ (Wu this).symm) (λz=>by
   have:=KX b o e;rw[z,hP2] at this;exact zGP nt e _ (Wu this).symm)]
  cases q:H b with
 |none=>rfl
 |some u=>
   rw[hK b u q] at e;cases e
 have hKb:K.In (zCx s₁.heap H2):=λb o e=>base_of (KX b o e) (nK b o e)
 have hM:Mod K mg (zCx s₁.heap H2):=⟨hKb,nsK hns,⟨mb,nsK hb,hbb⟩,let ⟨mc,h1,h2⟩:=hlim;⟨mc,nsK h1,h2⟩⟩
 have lam:∀ {x:Str}{T:Addr},zE7 mg s₁.heap x T->zDt K mg (zCx s₁.heap H2) x T:=λ{x T} ⟨f,o,fd',c,e1,e2,e3,e4,C,_⟩ f' o' fd'' m1 m2 m3=>by
  rw[e1] at m1;cases m1;have e5:=KX _ _ m2;rw[e2] at e5;cases e5;rw[e3] at m3;cases m3;refine⟨c,e4,?_,?_⟩
  .obtain⟨oc,vs,file,tf,flags,tg,inF,text,tt,q1,q2,q3,r⟩:=C;exact⟨oc,vs,file,tf,flags,tg,inF,text,tt,base_of q1 (no2 q1 (λ_ _ z=>by rw[q3] at z;cases z) (λz=>by rw[z] at q2;cases q2)),q2,q3,r⟩
  .obtain⟨bm,ob,b1,b2,b3,b4,b5,b6⟩:=hbm;exact⟨bm,ob,b1,b2,base_of b3 (no2 b3 (λ_ _ z=>by rw[b6] at z;cases z) (λz=>by rw[z] at b4;cases b4)),b4,b5,b6⟩
 have e0:zCz P w K mg (zCx s₁.heap H2) callerA [] s₁ H2:=⟨rfl,hM,λb o e=>zOg e,UA (zLl _ _),trivial,λb hb=>absurd (show b∈([]:List Addr) from hb) (by simp),hok2,.of_eq hg⟩
 have hl:vals.length=ps.length:=by rw[zBa hwl];exact hlen
 refine Xq ((F _ hKb (nsK hns) (lam ht1) (lam ht2)).run callerA [] s₁ H2 ⟨vals,[]⟩ vals (vals.map toV) _ _ hr e0 (hbind s₁ vals hl) hV (hsp H H2 _ hO hS S2 g1 g2)) λr s' x=>?_
 cases r with
|error e=>exact (hCX H2 e s' x).elim
|ok fl=>
  cases fl with
 |next=>exact False.elim x
 |brk=>exact False.elim x
 |cont=>exact False.elim x
 |ret u=>
   obtain⟨v,H',os,bare,un,hok',r',q⟩:=x
   have kept:∀ b o,s₁.heap.get? b=some o->b≠T1->b≠T2->s'.heap.get? b=some o:=λb o e z1 z2=>by
    cases q2:H b with
   |none=>exact un.keep b o e (by rw[gn b z1 z2];exact q2) (by intro z;exact absurd (show b∈([]:List Addr) from z) (by simp)) (by simp)
   |some u2=>
     rcases hO b with z|⟨ob,u3,z⟩
     .rw[q2] at z;cases z
     .have z2:=un.frzs b ob _ (S2 _ _ z);obtain⟨e1,_⟩:=hok b _ z;obtain⟨e2,_⟩:=hok' b _ z2;rw[e] at e1;cases e1;exact e2
   have tabs:∀ T,H2 T=some (.tbl #[])->s₁.heap.get? T=some (tabObj #[])->isCodeTable s₁.heap T->∀ o,s₁.heap.get? T=some o->asItWas s₁.heap s'.heap T o/\∃ o',s'.heap.get? T=some o':=λT e hP ic o eo=>by
    obtain⟨more,q2⟩:=un.tbls T #[] e;have q3:s'.heap.get? T=some (tabObj (#[]++more)):=hok' T _ q2;rw[hP] at eo;cases eo;exact⟨.inr (.inl ⟨ic,rfl,#[],more,rfl,q3⟩),_,q3⟩
   have ic1:isCodeTable s₁.heap T1:=let ⟨_,_,_,_,_,_,_,_,_,z⟩:=ht1;z.isCodeTable;have ic2:isCodeTable s₁.heap T2:=let ⟨_,_,_,_,_,_,_,_,_,z⟩:=ht2;z.isCodeTable
   have old:OldK s₁.heap s'.heap:=⟨λb o e=>by
    by_cases z1:b=T1
    .subst z1;exact (tabs b g1 hP1 ic1 o e).1
    .by_cases z2:b=T2
     .subst z2;exact (tabs b g2 hP2 ic2 o e).1
     .exact .inl (kept b o e z1 z2),λb o e=>by
    by_cases z1:b=T1
    .subst z1;exact (tabs b g1 hP1 ic1 o e).2
    .by_cases z2:b=T2
     .subst z2;exact (tabs b g2 hP2 ic2 o e).2
     .exact⟨o,kept b o e z1 z2⟩⟩
   have KX':K.In s'.heap:=λb o e=>un.keep b o (KX b o e) (nK b o e) (by intro z;exact absurd (show b∈([]:List Addr) from z) (by simp)) (by simp)
   obtain⟨as,hrd⟩:=Dw.reads (R:=R) (cl:=cl) hok' KX' d0 v u q r';exact⟨u,as,rfl,hrd,old,os,bare⟩
theorem zIc{p:Program}{loose:List Str}{mean:ExcName->Option Value}{mg mb:Qm}{h:Heap}{K:Qf}{x:Str}{T f c:Addr}{o oc:Obj}{fd:FuncData}{vs:Array Value}(G:Top p loose mean mg mb h)(X:K.In h)(hd:(recsOf p).any (λe=>e.name==x)=true)(m:mg x=some (.ref f))(l:K.lookup f=some o)(e1:o.data=.func fd)(e2:fd.code=.ref c)(lc:K.lookup c=some oc)(e3:oc.data=.fields vs)(e4:vs[11]?=some (.ref T)):zE7 mg h x T:=by
 obtain⟨d,hd1,yI⟩:=Vn.mp hd;obtain⟨a,o',fd',c',P',h1,h2,h3,h4,h5,h6⟩:=G.tab d hd1;rw[eq_of_beq yI,m] at h1;cases h1;have h2':=X _ _ l;rw[h2] at h2';cases h2';rw[e1] at h3;cases h3;rw[e2] at h4;cases h4;have C:=CodeHd.of h5 h6;obtain⟨⟨o2,vs2,q1,q2,q3,q4⟩,q5⟩:=id h6;have q1':=X _ _ lc;rw[q1] at q1';cases q1';rw[e3] at q3;cases q3;rw[e4] at q4;cases q4;exact⟨f,o,fd,c,m,h2,e1,e2,C,h6⟩
theorem zKz{r:OpenSpec}{k:Nat}{q:Program}{loose:List Str}{XP:(Qm)->Heap->Prop}{YP:World->Heap->Prop}{d:DefRec}{K:Params->Qf}{CX:CXT}{ps:List Str}{x1 x2:Str}{sp:Qf->Addr->Addr->Sp}
  (hwell:r.wellSaid=true)(hdf:d.params.defaults=[])(hlen:r.args.length=ps.length)(hr:zn k callerA)
  (hY:∀ (w:World) (h:Heap),YP w h->(K w.params).In h)(nt:∀ p,PySem.W.noTabs (K p)=true)(hd1:(recsOf q).any (λe=>e.name==x1)=true)(yI:(recsOf q).any (λe=>e.name==x2)=true)
  (F:∀ (w:World) (mg:Qm) (fa:Addr) (h:Heap),YP w h->(K w.params).In h->h.Ns mainGlobals mg->mg d.name=some (.ref fa)->
   ∃ (fd:FuncData) (T1 T2:Addr),(∀ (s:Shared) (us:List Value),us.length=ps.length->BindsTo s fd ⟨us,[]⟩ (ps.zip us))/\
    (∃ f c o oc fd vs,mg x1=some (.ref f)/\(K w.params).lookup f=some o/\o.data=.func fd/\fd.code=.ref c/\(K w.params).lookup c=some oc/\oc.data=.fields vs/\vs[11]?=some (.ref T1))/\
    (∃ f c o oc fd vs,mg x2=some (.ref f)/\(K w.params).lookup f=some o/\o.data=.func fd/\fd.code=.ref c/\(K w.params).lookup c=some oc/\oc.data=.fields vs/\vs[11]?=some (.ref T2))/\
    ∀ base:Heap,(K w.params).In base->base.Ns mainGlobals mg->zDt (K w.params) mg base x1 T1->zDt (K w.params) mg base x2 T2->Y2 r.prog w (K w.params) mg base CX k fa fd ps (sp (K w.params) T1 T2))
  (hsp:∀ (K:Qf) (T1 T2:Addr) (H H2:Hp) (xs:List V) (a:Codec.denoteAll r.args),zHs H->Codec.withinAll r.args a=true->Codec.app r.args r.asked a=true->zA0 K H xs (Codec.encAll r.args a)->zH H H2->H2 T1=some (.tbl #[])->H2 T2=some (.tbl #[])->
   sp K T1 T2 xs H2 (λv H'=>Dw K H' v (r.ret.enc (Codec.app r.args r.f a))) λ_ _ _=>False)
  (hCX:∀ (H:Hp) (s:Shared) (e:Value) (s':Shared),CX [] H s (λ_ _ _=>False) e s'->False) :
  PySem.W.WalkOS q loose XP YP r d [] (λf vs=>PySem.call f vs):=by
 intro w s_0 s₁ mg mb G Y fa o pm cd doc dV kV ho hd hcd hD hmg hg args vals as hpre hlay hrd hwl hlo;obtain⟨a,e1,e2⟩:=PySem.W.os_pre_some hpre;obtain⟨e3,hwi⟩:=Codec.encAll_of_decAll r.args args a e1;subst e3;have KX:=hY w _ Y;obtain⟨fd,T1,T2,hb,⟨f1,c1,o1,oc1,fd1,vs1,a1,a2,a3,a4,a5,a6,a7⟩,⟨f2,c2,o2,oc2,fd2,vs2,b1,b2,b3,b4,b5,b6,b7⟩,hF⟩:=F w mg fa _ Y KX G.T.g hmg;have t1:zE7 mg s₁.heap x1 T1:=zIc G.T KX hd1 a1 a2 a3 a4 a5 a6 a7;have t2:zE7 mg s₁.heap x2 T2:=zIc G.T KX yI b1 b2 b3 b4 b5 b6 b7
 refine PySem.W.enter_call (Xq (zKy (R:=[]) (cl:=classAt s_0.heap) (d0:=r.ret.enc (Codec.app r.args r.f a)) KX G.T.g G.T.b G.T.builtins G.T.nolimit hg hwl (zHN _ _) (zGm hlay) hr (nt _) t1 t2 G.T.bmain hF hb (by rw[zF5];exact hlen)
  (λH H2 xs hO hS s12 g1 g2=>hsp (K w.params) T1 T2 H H2 xs a hO hwi e2 hS s12 g1 g2) λH e s'=>hCX H s₁ e s') λr' s' hq=>?_)
 obtain⟨u,as',rfl,h1,h2,h3,h4⟩:=hq;exact⟨.inl ⟨u,_,as',rfl,λ_=>rfl,h1,(OpenSpec.post_iff hwell hwi _ _).mpr rfl,λz=>Bool.noConfusion (show false=true from z)⟩,h2,h3,h4⟩
end Kl
namespace Kn
open PySem PySem.Spec PyProof.Rows L2
def top (i:Nat):Stmt:=PySem.Challenge.pw_kilnloads_s04_loads.main.body.getD i (.Pass ⟨0,0,0,0⟩)
abbrev zC7:Stmt:=top 1
abbrev zC8:Stmt:=Yy (top 5) 0
abbrev zEZ:Stmt:=top 6
abbrev zCT:Stmt:=Yy (top 9) 0
abbrev zC9:Stmt:=Yy (top 10) 0
abbrev Z6:Stmt:=top 11
abbrev zAF:Stmt:=top 12
abbrev zDu:Stmt:=top 13
abbrev zBd:Stmt:=top 14
abbrev zAO:Stmt:=top 15
abbrev Y8:Stmt:=top 16
abbrev YO:Stmt:=top 17
abbrev zDv:Stmt:=top 18
abbrev zDw:Stmt:=top 19
abbrev zBH:Stmt:=top 20
abbrev zCU:Stmt:=Yy (top 22) 0
abbrev zId:Stmt:=top 23
abbrev zGv:Stmt:=top 24
abbrev zEa:Stmt:=top 25
abbrev zDA:Stmt:=top 26
abbrev ZA:Stmt:=Yy (top 34) 0
abbrev zDB:Stmt:=Yy (top 35) 0
abbrev zBI:Stmt:=Yy (top 36) 0
abbrev zDC:Stmt:=top 37
abbrev zBy:Stmt:=top 38
abbrev zCV:Stmt:=top 39
abbrev zCW:Stmt:=top 40
abbrev zCX:Stmt:=top 41
abbrev zCY:Stmt:=top 42
abbrev zDD:Stmt:=top 43
abbrev zCZ:Stmt:=top 44
abbrev zDx:Stmt:=top 45
abbrev zEb:Stmt:=top 46
abbrev zEc:Stmt:=top 47
abbrev zAt:Stmt:=top 48
abbrev zBJ:Stmt:=top 49
abbrev zBz:Stmt:=top 50
abbrev zA4:Stmt:=Yy (top 55) 0
abbrev zDE:Stmt:=top 56
abbrev zCA:Stmt:=top 57
abbrev zBK:Stmt:=top 58
abbrev zCa:Stmt:=top 59
abbrev zB0:Stmt:=top 60
abbrev zA5:Stmt:=top 61
abbrev zAc:Stmt:=top 64
abbrev zDy:Stmt:=top 65
abbrev zDF:Stmt:=top 66
abbrev zAd:Stmt:=top 67
abbrev Y3:Stmt:=top 68
abbrev zCb:Stmt:=top 69
abbrev zAP:Stmt:=top 70
abbrev Y9:Stmt:=top 71
abbrev zAL:Stmt:=top 72
abbrev zCc:Stmt:=top 73
abbrev zCd:Stmt:=top 74
abbrev zBL:Stmt:=top 75
abbrev zA6:Stmt:=top 76
abbrev zDG:Stmt:=Yy (top 78) 0
abbrev zBM:Stmt:=top 79
abbrev zDz:Stmt:=top 80
abbrev zBN:Stmt:=top 81
abbrev zAQ:Stmt:=top 82
abbrev zAe:Stmt:=top 83
abbrev zD0:Stmt:=top 84
abbrev zA7:Stmt:=top 85
abbrev zBO:Stmt:=top 86
abbrev zAR:Stmt:=top 87
abbrev zB1:Stmt:=top 88
abbrev zBP:Stmt:=top 89
abbrev zD1:Stmt:=top 90
abbrev zDH:Stmt:=Yy (top 92) 0
abbrev zEd:Stmt:=top 93
abbrev zEe:Stmt:=top 94
abbrev zGw:Stmt:=top 96
def yj (K:Qf)(C:Addr)(qual:Str)(st:Stmt)(ps:List Str):Prop:=∃ f fd,Mk K C f/\Fun K "__init__" qual st f fd/\ZK K fd ps []
theorem Zv{K:Qf}{h:Heap}{C:Addr}{qual:Str}{st:Stmt}{ps:List Str}{f:Addr}{oc:Value}{od an:Option Addr}{osl:Array (Option Value)}{kV doc pm cdv ct:Value}
  (X:K.In h)(mk:PySem.W.makesIn K C=true)(a:PySem.W.findIn K (.ref C) "__init__" = some (some (.ref f)))(i:PySem.W.isFn K (.ref f)=true)(kc:PySem.W.keepIn K (.ref C)=true)
  (l:K.lookup f=some ⟨oc,od,.func (PySem.W.fnOf "__init__" qual (Zz st) (ZG st) (zI st) .none kV doc pm an cdv ct),osl⟩)
  (c:PySem.W.codeIn K cdv qual=true)(k:PySem.W.keepIn K (.ref f)=true)
  (b:∀ (kV doc pm:Value) (an:Option Addr) (cdv ct:Value) (us:List Value),us.length=ps.length->bindArgs (PySem.W.fnOf "__init__" qual (Zz st) (ZG st) (zI st) .none kV doc pm an cdv ct) ⟨us,[]⟩=pure (ps.zip us)):yj K C qual st ps:=
 ⟨f,_,⟨mk,a,i,kc⟩,zBo l c k,(zBo l c k).binds b⟩
def Ys (P:Program)(w:World)(K:Qf)(mg:Qm)(base:Heap)(k:Nat)(C:Addr)(ps:List Str)(sp:Sp):Prop:=
 ∃ f fd,Mk K C f/\Y2 P w K mg base CX0 k f fd ps sp/\ZK K fd ps []
theorem yj.ok{P:Program}{w:World}{K:Qf}{mg:Qm}{base:Heap}{C:Addr}{qual:Str}{st:Stmt}{N ps:List Str}{k:Nat}{sp:Sp}(D:yj K C qual st ps)(S:zO N ps (zI st))(len:∀ vs H Q E,sp vs H Q E->vs.length=ps.length)
  (hbody:∀ (f:Addr) (cdv:Value) (A:Around) (outer:List Env) (s:Shared) (H:Hp) (vs:List V) (Q:VK) (E:XK),zn k (A.deeper (envOfC qual (zI st) s.heap.objs.size f cdv))->sp vs H Q E->
   ∃ t,PSs (ZR CX0 P w K mg base N qual (zI st) f cdv A outer s H E).nox (ZG st) t/\t {nx:=λ_ H'=>Q .non H',rt:=Q} (YW N vs) H):Ys P w K mg base (k+1) C ps sp:=by
 obtain⟨f,fd,M,F,b⟩:=D;exact⟨f,fd,M,F.ok S len (λcdv A outer s H vs Q E=>hbody f cdv A outer s H vs Q E),b⟩
theorem zBt{X:Cx}{C:Addr}{k:Nat}{x:Str}{ps:List Str}{sp:Sp}{p pos:Pos}{e:Expr}{es:List Expr}{t:TA}(O:Ys X.prog X.w X.K X.mg X.base k C ps sp)(hr:zn (k+1) X.A)(hm:X.mg x=some (.ref C))(ha:PA X (e::es) t)
  (hg:Gl X x:=by rfl)(hdb:(x==("__debug__" : Str))=false:=by decide)(he:starEach (e::es) X.env=(false,eval e X.env)::starEach es X.env:=by rfl)(hpl:(backTo pos (starEach es X.env)).any (·.1)=false:=by rfl) :
  PE X (.Call (.Name x p) (e::es) [] pos) (zHq C sp [] E0 t):=by
 obtain⟨f,fd,M,F,b⟩:=O;exact zOl M F hr hg hm b .nil zF2 ha hdb he hpl
def zB2 (f1 f2:Str)(v1 v2:V):List (Str×V):=yk f2 v2 (yk f1 v1 [])
def zAX (C:Addr)(f1 f2:Str):Sp:=λvs H Q _=>∃ (p dx:Addr) (v1 v2:V),vs=[.ref p,v1,v2]/\H p=some (.ins C dx [])/\
 ∀ H':Hp,H' p=some (.ins C dx (zB2 f1 f2 v1 v2))->(∀ b o,H b=some o->b≠p->H' b=some o)->Q .non H'
theorem zBu{f1 f2:Str}{v1 v2:V}(h2:f1≠f2):(zB2 f1 f2 v1 v2).lookup f1=some v1:=by
 unfold zB2;rw[yS,Wb h2,yS,Wc rfl]
theorem zDU{f1 f2:Str}{v1 v2:V}:(zB2 f1 f2 v1 v2).lookup f2=some v2:=by
 unfold zB2;rw[yS,Wc rfl]
theorem yO{f:Str}{v:V}{fs:List (Str×V)}{n:Nat}(h:fs.length<n):(yk f v fs).length<n+1:=by
 have:=zCy f v fs;omega
section
variable {P:Program}{w:World}{K:Qf}{mg:Qm}{base:Heap}
def zBQ:Sp:=λvs H Q _=>∃ n lo hi:Int,vs=[.int n,.int lo,.int hi]/\Q (.bl (YM n lo hi)) H
theorem zMR:zO ["number","least","greatest"] ["number","least","greatest"] (zI zC7):=yE
theorem zMS(D:zV K mg "is_within" zC7 ["number","least","greatest"]):Ok P w K mg base 1 "is_within" ["number","least","greatest"] zBQ:=by
 refine D.ok zMR (λvs H Q E h=>?_) (λf cdv A outer s H vs Q E hr h=>?_)
 .obtain⟨n,lo,hi,rfl,_⟩:=h;rfl
 .obtain⟨n,lo,hi,rfl,k⟩:=h;refine⟨_,zG (zS (zAA (yg zFw (pv 1) (pv 0) (zZ _)) (zAT (yg zFw (pv 0) (pv 2) (zZ _))))),?_⟩;refine⟨_,rfl,_,rfl,_,_,rfl,rfl,_,rfl,?_⟩;refine yA (λh1=>⟨_,rfl,_,rfl,_,_,rfl,rfl,?_⟩) (λh1=>?_)
  .exact ZF k (by unfold YM;rw[h1];rfl)
  .exact ZF k (by unfold YM;rw[h1];rfl)
theorem zAm{α:Type}{f:α->Bool}{l:List α}{i:Nat}{x:α}(h:(l.take i).all f=true)(e:l[i]?=some x)(hx:f x=true):(l.take (i+1)).all f=true:=by
 rw[zv e,List.all_append,h,XU,Xx,hx];rfl
theorem zBR{α:Type}{f:α->Bool}{l:List α}{i:Nat}{x:α}(e:l[i]?=some x)(hx:f x=false):l.all f=false:=by
 rw[Bool.eq_false_iff];intro h;have:=WW.mp h x (ZM e);rw[hx] at this;cases this
end
abbrev P2:=Int×Int
def XY (K:Qf)(H:Hp)(a:Addr)(p:P2):Prop:=∃ C dx fs,H a=some (.ins C dx fs)/\Yl K C/\zg K C "x"/\zg K C "y"/\fs.lookup ("x" : Str)=some (.int p.1)/\fs.lookup ("y" : Str)=some (.int p.2)
theorem XY.same{K:Qf}{H H':Hp}{a:Addr}{p:P2}(h:XY K H a p)(s:zH H H'):XY K H' a p:=let ⟨C,dx,fs,e,r⟩:=h;⟨C,dx,fs,s _ _ e,r⟩
def Sm (n:Int)(p:P2):Prop:=0<=p.1/\p.1<=n/\0<=p.2/\p.2<=n
def YQ (p q r:P2):Int:=(q.1-p.1)*(r.2-q.2)-(q.2-p.2)*(r.1-q.1)
def zDI (i j:Int):Int:=if j<i then j else i
def zDJ (i j:Int):Int:=if j>i then j else i
def onI (r p q:P2):Bool:=YM r.2 (zDI p.2 q.2) (zDJ p.2 q.2)&&(YM r.1 (zDI p.1 q.1) (zDJ p.1 q.1)&&decide (YQ p q r=0))
def zGQ (p q r s:P2):Bool:=decide (YQ p q r*YQ p q s<0)&&decide (YQ r s p*YQ r s q<0)
def Yz (p q:P2):Bool:=decide (q.2<p.2)||(decide (p.2=q.2)&&decide (q.1<p.1))
section
variable {P:Program}{w:World}{K:Qf}{mg:Qm}{base:Heap}
def zEf (K:Qf):Sp:=λvs H Q _=>∃ (a b c:Addr) (p q r:P2),vs=[.ref a,.ref b,.ref c]/\XY K H a p/\XY K H b q/\XY K H c r/\Sm 4294967296 p/\Sm 4294967296 q/\Sm 4294967296 r/\Q (.int (YQ p q r)) H
theorem zPI:zO ["p","q","r"] ["p","q","r"] (zI zId):=yE
theorem zPJ(D:zV K mg "turn" zId ["p","q","r"]):Ok P w K mg base 1 "turn" ["p","q","r"] (zEf K):=by
 refine D.ok zPI (λvs H Q E h=>?_) (λf cdv A outer s H vs Q E hr h=>?_)
 .obtain⟨a,b,c,p,q,r,rfl,_⟩:=h;rfl
 .obtain⟨a,b,c,p,q,r,rfl,⟨C1,d1,f1,a1,a2,a3,a4,a5,a6⟩,⟨C2,d2,f2,b1,b2,b3,b4,b5,b6⟩,⟨C3,d3,f3,c1,c2,c3,c4,c5,c6⟩,s1,s2,s3,k⟩:=h;obtain⟨s11,s12,s13,s14⟩:=s1;obtain⟨s21,s22,s23,s24⟩:=s2;obtain⟨s31,s32,s33,s34⟩:=s3;refine⟨_,zG (zS (zk ZP (zk YH (zk ZP (zP (pv 1) rfl) (zP (pv 0) rfl)) (zk ZP (zP (pv 2) rfl) (zP (pv 1) rfl))) (zk YH (zk ZP (zP (pv 1) rfl) (zP (pv 0) rfl)) (zk ZP (zP (pv 2) rfl) (zP (pv 1) rfl))))),?_⟩
  refine⟨_,rfl,b,C2,d2,_,_,rfl,b1,b2,b3,b5,_,rfl,a,C1,d1,_,_,rfl,a1,a2,a3,a5,_,_,rfl,rfl,_,rfl,c,C3,d3,_,_,rfl,c1,c2,c4,c6,_,rfl,b,C2,d2,_,_,rfl,b1,b2,b4,b6,_,_,rfl,rfl,_,_,rfl,rfl,.inl ⟨by lia,by lia⟩,
   _,rfl,b,C2,d2,_,_,rfl,b1,b2,b4,b6,_,rfl,a,C1,d1,_,_,rfl,a1,a2,a4,a6,_,_,rfl,rfl,_,rfl,c,C3,d3,_,_,rfl,c1,c2,c3,c5,_,rfl,b,C2,d2,_,_,rfl,b1,b2,b3,b5,_,_,rfl,rfl,_,_,rfl,rfl,.inl ⟨by lia,by lia⟩,_,_,rfl,rfl,k⟩
def zNi (K:Qf):Sp:=λvs H Q _=>∃ (a b c:Addr) (r p q:P2),vs=[.ref a,.ref b,.ref c]/\XY K H a r/\XY K H b p/\XY K H c q/\Sm 4294967296 r/\Sm 4294967296 p/\Sm 4294967296 q/\Q (.bl (onI r p q)) H
theorem zSP:zO ["r","p","q"] ["r","p","q"] (zI zGv):=yE
theorem zSQ(D:zV K mg "is_on" zGv ["r","p","q"])(OW:Ok P w K mg base 1 "is_within" ["number","least","greatest"] zBQ)(OT:Ok P w K mg base 1 "turn" ["p","q","r"] (zEf K))(mi:mg "min" = none)(ma:mg "max" = none):Ok P w K mg base 2 "is_on" ["r","p","q"] (zNi K):=by
 refine D.ok zSP (λvs H Q E h=>?_) (λf cdv A outer s H vs Q E hr h=>?_)
 .obtain⟨a,b,c,p,q,r,rfl,_⟩:=h;rfl
 .obtain⟨a,b,c,r,p,q,rfl,X1,X2,X3,s1,s2,s3,k⟩:=h;obtain⟨C1,d1,f1,a1,a2,a3,a4,a5,a6⟩:=id X1;obtain⟨C2,d2,f2,b1,b2,b3,b4,b5,b6⟩:=id X2;obtain⟨C3,d3,f3,c1,c2,c3,c4,c5,c6⟩:=id X3
  refine⟨_,zF (zu (Zq (yY (zR OW hr (zA (zP (pv 0) rfl) (zA (YS (zHD rfl) rfl mi XI (zA (zP (pv 1) rfl) (zA (zP (pv 2) rfl) zC))) (zA (YS (zHC rfl) rfl ma Xk (zA (zP (pv 1) rfl) (zA (zP (pv 2) rfl) zC))) zC)))))) (zG (zS yz)) zc)
   (zG (zS (zAA (zR OW hr (zA (zP (pv 0) rfl) (zA (YS (zHD rfl) rfl mi XI (zA (zP (pv 1) rfl) (zA (zP (pv 2) rfl) zC))) (zA (YS (zHC rfl) rfl ma Xk (zA (zP (pv 1) rfl) (zA (zP (pv 2) rfl) zC))) zC))))
    (zAT (yg zBX (zR OT hr (zA (pv 1) (zA (pv 2) (zA (pv 0) zC)))) zL (zZ _)))))),?_⟩
  refine⟨_,rfl,a,C1,d1,_,_,rfl,a1,a2,a4,a6,_,rfl,b,C2,d2,_,_,rfl,b1,b2,b4,b6,_,rfl,c,C3,d3,_,_,rfl,c1,c2,c4,c6,_,_,rfl,_,rfl,b,C2,d2,_,_,rfl,b1,b2,b4,b6,_,rfl,c,C3,d3,_,_,rfl,c1,c2,c4,c6,_,_,rfl,_,_,_,rfl,_,rfl,yA (λh1=>?_) (λh1=>?_)⟩
  .refine ZF k ?_;rw[WE] at h1;unfold onI;rw[show YM r.2 (zDI p.2 q.2) (zDJ p.2 q.2)=false from h1];rfl
  .rw[WD] at h1;have h1':YM r.2 (zDI p.2 q.2) (zDJ p.2 q.2)=true:=h1
   try dsimp only[Zc,Y1,Zj,Yo,YZ,Ya]
   show zB7 _ _ _ _ _
   refine YU (c:=YM r.1 (zDI p.1 q.1) (zDJ p.1 q.1)) (d:=decide (YQ p q r=0)) (λR h=>⟨_,rfl,a,C1,d1,_,_,rfl,a1,a2,a3,a5,_,rfl,b,C2,d2,_,_,rfl,b1,b2,b3,b5,_,rfl,c,C3,d3,_,_,rfl,c1,c2,c3,c5,_,_,rfl,_,rfl,b,C2,d2,_,_,rfl,b1,b2,b3,b5,_,rfl,c,C3,d3,_,_,rfl,c1,c2,c3,c5,_,_,rfl,_,_,_,rfl,h⟩)
    (λ_ R h=>⟨_,rfl,_,rfl,_,rfl,b,c,a,p,q,r,rfl,X2,X3,X1,s2,s3,s1,rfl,?_⟩) ?_
   .refine ZF h ?_;rw[Ws];constructor
    .intro z;rw[z]
    .intro z;exact V.int.inj z
   .refine ZF k ?_;unfold onI;rw[h1',XU]
theorem zGR{p q r:P2}(h1:Sm 1048576 p)(h2:Sm 1048576 q)(h3:Sm 1048576 r) : -2^64<YQ p q r/\YQ p q r<2^64:=by
 obtain⟨a1,a2,a3,a4⟩:=h1;obtain⟨b1,b2,b3,b4⟩:=h2;obtain⟨c1,c2,c3,c4⟩:=h3
 have key:∀ x y:Int,-1048576<=x->x<=1048576->-1048576<=y->y<=1048576->-1099511627776<=x*y/\x*y<=1099511627776:=by
  intro x y h1 h2 h3 h4;have k1:0<=(x+1048576)*(1048576-y):=Vs (by lia) (by lia);have k2:0<=(1048576-x)*(y+1048576):=Vs (by lia) (by lia);have k3:0<=(x+1048576)*(y+1048576):=Vs (by lia) (by lia);have k4:0<=(1048576-x)*(1048576-y):=Vs (by lia) (by lia);have e1:(x+1048576)*(1048576-y)=1048576*x-x*y+1048576*1048576-1048576*y:=by grind
  have e2:(1048576-x)*(y+1048576)=1048576*y-x*y+1048576*1048576-1048576*x:=by grind
  have e3:(x+1048576)*(y+1048576)=x*y+1048576*x+1048576*y+1048576*1048576:=by grind
  have e4:(1048576-x)*(1048576-y)=x*y-1048576*x-1048576*y+1048576*1048576:=by grind
  lia
 have m1:=key (q.1-p.1) (r.2-q.2) (by lia) (by lia) (by lia) (by lia);have m2:=key (q.2-p.2) (r.1-q.1) (by lia) (by lia) (by lia) (by lia);unfold YQ
 lia
theorem Sm.mono{m n:Int}{p:P2}(h:Sm m p)(hm:m<=n):Sm n p:=⟨h.1,Int.le_trans h.2.1 hm,h.2.2.1,Int.le_trans h.2.2.2 hm⟩
def zJx (K:Qf):Sp:=λvs H Q _=>∃ (a b c d:Addr) (p q r s:P2),vs=[.ref a,.ref b,.ref c,.ref d]/\XY K H a p/\XY K H b q/\XY K H c r/\XY K H d s/\Sm 1048576 p/\Sm 1048576 q/\Sm 1048576 r/\Sm 1048576 s/\Q (.bl (zGQ p q r s)) H
theorem zNj:zO ["p","q","r","s"] ["p","q","r","s"] (zI zEa):=yE
theorem zNk(D:zV K mg "crosses" zEa ["p","q","r","s"])(OT:Ok P w K mg base 1 "turn" ["p","q","r"] (zEf K)):Ok P w K mg base 2 "crosses" ["p","q","r","s"] (zJx K):=by
 refine D.ok zNj (λvs H Q E h=>?_) (λf cdv A outer s H vs Q E hr h=>?_)
 .obtain⟨a,b,c,d,p,q,r,s,rfl,_⟩:=h;rfl
 .obtain⟨a,b,c,d,p,q,r,s,rfl,X1,X2,X3,X4,s1,s2,s3,s4,k⟩:=h;have t1:=s1.mono (n:=4294967296) (by decide);have t2:=s2.mono (n:=4294967296) (by decide);have t3:=s3.mono (n:=4294967296) (by decide);have t4:=s4.mono (n:=4294967296) (by decide)
  refine⟨_,zG (zS (zAA (yg YI (zk YH (zR OT hr (zA (pv 0) (zA (pv 1) (zA (pv 2) zC)))) (zR OT hr (zA (pv 0) (zA (pv 1) (zA (pv 3) zC))))) zL (zZ _))
   (zAT (yg YI (zk YH (zR OT hr (zA (pv 2) (zA (pv 3) (zA (pv 0) zC)))) (zR OT hr (zA (pv 2) (zA (pv 3) (zA (pv 1) zC))))) zL (zZ _))))),?_⟩
  try dsimp only[Zc,Y1,Zj,Yo,YZ,Ya]
  show zB7 _ _ _ _ _
  exact YU (λR h=>⟨_,rfl,_,rfl,_,rfl,a,b,c,p,q,r,rfl,X1,X2,X3,t1,t2,t3,_,rfl,_,rfl,_,rfl,a,b,d,p,q,s,rfl,X1,X2,X4,t1,t2,t4,_,_,rfl,rfl,.inl (zGR s1 s2 s3),_,_,rfl,rfl,h⟩)
   (λ_ R h=>⟨_,rfl,_,rfl,_,rfl,c,d,a,r,s,p,rfl,X3,X4,X1,t3,t4,t1,_,rfl,_,rfl,_,rfl,c,d,b,r,s,q,rfl,X3,X4,X2,t3,t4,t2,_,_,rfl,rfl,.inl (zGR s3 s4 s1),_,_,rfl,rfl,h⟩) k
def zEg (K:Qf):Sp:=λvs H Q _=>∃ (a b:Addr) (p q:P2),vs=[.ref a,.ref b]/\XY K H a p/\XY K H b q/\Q (.bl (Yz p q)) H
theorem zK0:zO ["point","other"] ["point","other"] (zI zDA):=yE
theorem zPK{ta tb:TE}{σ:L2.St}{H:Hp}{Q:VK}{c d:Bool}(ht:∀ R:VK,R (.bl c) H->ta σ H R)(hu:c=false->∀ R:VK,R (.bl d) H->tb σ H R)(h:Q (.bl (c||d)) H):zM8 ta tb σ H Q:=by
 refine ht _ ⟨_,rfl,yA (λhc=>?_) λhc=>hu hc _ ?_⟩
 .rw[hc,U6] at h;exact h
 .rw[hc,Xj] at h;exact h
theorem deq{i j:Int}:decide (V.int i=V.int j)=decide (i=j):=by
 rw[Ws];exact⟨λz=>V.int.inj z,λz=>by rw[z]⟩
theorem zK1(D:zV K mg "is_behind" zDA ["point","other"]):Ok P w K mg base 1 "is_behind" ["point","other"] (zEg K):=by
 refine D.ok zK0 (λvs H Q E h=>?_) (λf cdv A outer s H vs Q E hr h=>?_)
 .obtain⟨a,b,p,q,rfl,_⟩:=h;rfl
 .obtain⟨a,b,p,q,rfl,⟨C1,d1,f1,a1,a2,a3,a4,a5,a6⟩,⟨C2,d2,f2,b1,b2,b3,b4,b5,b6⟩,k⟩:=h;refine⟨_,zG (zS (zRx (yg YJ (zP (pv 0) rfl) (zP (pv 1) rfl) (zZ _)) (zAT (zAA (yg zBX (zP (pv 0) rfl) (zP (pv 1) rfl) (zZ _)) (zAT (yg YJ (zP (pv 0) rfl) (zP (pv 1) rfl) (zZ _))))))),?_⟩
  try dsimp only[Zc,Y1,Zj,Yo,YZ,Ya]
  show zM8 _ _ _ _ _;refine zPK (λR h=>⟨_,rfl,a,C1,d1,_,_,rfl,a1,a2,a4,a6,_,rfl,b,C2,d2,_,_,rfl,b1,b2,b4,b6,_,_,rfl,rfl,h⟩) (λ_ R h=>?_) k;show zB7 _ _ _ _ _;exact YU (λR h=>⟨_,rfl,a,C1,d1,_,_,rfl,a1,a2,a4,a6,_,rfl,b,C2,d2,_,_,rfl,b1,b2,b4,b6,rfl,ZF h deq.symm⟩) (λ_ R h=>⟨_,rfl,a,C1,d1,_,_,rfl,a1,a2,a3,a5,_,rfl,b,C2,d2,_,_,rfl,b1,b2,b3,b5,_,_,rfl,rfl,h⟩) h
end
theorem zPL{K:Qf}{a:Addr}{xs:List V}{g:TG}{tb:TS}{D:Y0}{σ:L2.St}{H:Hp}(Pv:Nat->L2.St->Hp->Prop)(h0:Pv 0 σ H)(hl:∀ i σ H,i<=xs.length->Pv i σ H->zN K H a xs)
  (hs:∀ i x σ H,i<xs.length->xs[xs.length-1-i]?=some x->Pv i σ H->g x σ H λσ2 H2=>tb {D with nx:=Pv (i+1),ct:=Pv (i+1),bk:=D.nx} σ2 H2)(hd:∀ σ H,Pv xs.length σ H->D.nx σ H) :
  ∃ W:Nat->Nat->L2.St->Hp->Prop,(∃ m,W 0 m σ H)/\∀ i m σ H,W i m σ H->
   ((Itv K a xs.length).stop i H/\D.nx σ H)\/((Itv K a xs.length).go i H/\∃ N:L2.St->Hp->Prop,(∀ σ' H',N σ' H'->∃ m',m'<m/\W (i+1) m' σ' H')/\∀ x H',(Itv K a xs.length).yld i H x H'->g x σ H' λσ2 H2=>tb {D with nx:=N,ct:=N,bk:=D.nx} σ2 H2):=by
 refine⟨λi m σ H=>m=xs.length-i/\i<=xs.length/\Pv i σ H,⟨xs.length,by simp,Ww _,h0⟩,?_⟩;rintro i m σ H ⟨rfl,hi,p⟩;have q:=hl i σ H hi p;by_cases hlt:i<xs.length
 .refine .inr ⟨⟨hlt,xs,xs[xs.length-1-i],q,yQ (by grind)⟩,Pv (i+1),λσ' H' p'=>⟨xs.length-(i+1),by grind,rfl,hlt,p'⟩,λv H' y=>?_⟩;obtain⟨e,y⟩:=y;subst e;exact hs i v σ _ hlt (y xs q) p
 .have e:i=xs.length:=by grind
  subst e;exact .inl ⟨We _,hd σ H p⟩
def zFd:List Int->Int
|[]=>0
|c::r=>c+256*zFd r
def numAt(d:List Int)(p w:Nat):Int:=zFd ((d.drop p).take w)
theorem zMT{l:List Int}{i:Nat}(hi:i<l.length)(h:∃ x,l[l.length-1-i]?=some x):∀ x,l[l.length-1-i]?=some x->zFd (l.drop (l.length-1-i))=zFd (l.drop (l.length-i))*256+x:=by
 intro x hx;obtain⟨h1,h2⟩:=yG hx;rw[Ug h1,h2,show l.length-1-i+1=l.length-i by grind];show x+256*_=_
 grind
theorem zJy{l:List Int}{p w:Nat}:zC0 (l.map V.int) (some (p:Int)) (some ((p:Int)+(w:Int)))=((l.drop p).take w).map V.int:=by
 unfold zC0;rw[show (p:Int)+(w:Int)=((p+w:Nat):Int) from (Jj p w).symm,HT.sIx_nat,HT.sIx_nat,zX,<-Uo,<-Xh]
 congr 1
 by_cases h:p<=l.length
 .rw[XA h];by_cases h2:p+w<=l.length
  .rw[XA h2,show p+w-p=w by grind]
  .rw[XL (by grind),WK (by rw[Xs];grind),WK (by rw[Xs];grind)]
 .rw[XL (by grind),XL (by grind),List.drop_of_length_le (We _),List.drop_of_length_le (by grind)];simp
section
variable {P:Program}{w:World}{K:Qf}{mg:Qm}{base:Heap}
def zCB (K:Qf):Sp:=λvs H Q _=>∃ (a:Addr) (d:List Int) (p w:Nat),vs=[.ref a,.int (p:Int),.int (w:Int)]/\zN K H a (d.map V.int)/\∀ H':Hp,zH H H'->Q (.int (numAt d p w)) H'
theorem zGS:zO ["data","place","size","number","byte"] ["data","place","size"] (zI zDC):=yE
theorem zQ8(D:zV K mg "number_at" zDC ["data","place","size"])(mr:mg "reversed" = none):Ok P w K mg base 1 "number_at" ["data","place","size"] (zCB K):=by
 refine D.ok zGS (λvs H Q E h=>?_) (λf cdv A outer s H vs Q E hr h=>?_)
 .obtain⟨a,d,p,w,rfl,_⟩:=h;rfl
 .obtain⟨a,d,p,w,rfl,hS,k⟩:=h
  refine⟨_,zF (za (i:=3) zGS.nd rfl (Or.inl rfl) zL) (zF (yF Wt rfl (zJJ rfl mr (zA (zFV zGh (pv 0) (zDM (pv 1)) (zDM (zk ZH (pv 1) (pv 2)))) zC)) (zT (i:=4) zGS.nd rfl (Or.inl rfl))
   (zG (za (i:=3) zGS.nd rfl (Or.inl rfl) (zk ZH (zk YH (pv 3) zL) (pv 4))))) (zG (zS (pv 3)))),?_⟩
  refine⟨_,rfl,_,rfl,_,rfl,_,rfl,_,rfl,_,_,rfl,rfl,_,rfl,a,_,rfl,hS,λq hq=>?_⟩;rw[zJy];have s0:zH H (upd H q (.lst (((d.drop p).take w).map V.int))):=zQ (zH.refl H) hq;refine⟨q,_,rfl,zN.of zE,?_⟩;generalize hl:(d.drop p).take w=l;rw[hl] at s0;refine zPL (K:=K) (a:=q) (xs:=l.map V.int) (λi σ H'=>∃ v:Option V,σ=[some (.ref a),some (.int (p:Int)),some (.int (w:Int)),some (.int (zFd (l.drop (l.length-i)))),v]/\H'=upd H q (.lst (l.map V.int))) ⟨none,?_,rfl⟩ (λi σ H' _ hh=>hh.elim λ_ hh=>by rw[hh.2];exact zN.of zE) ?_ ?_
  .rw[Nat.sub_zero,List.drop_length];rfl
  .rintro i y σ H' hi hx ⟨v,rfl,rfl⟩;rw[zX] at hi hx;obtain⟨x,hx',rfl⟩:=yV hx;refine⟨_,rfl,_,_,rfl,rfl,.inr ⟨by decide,by decide⟩,_,rfl,_,_,rfl,rfl,?_⟩;refine⟨some (.int x),?_,rfl⟩;rw[show l.length-(i+1)=l.length-1-i by grind,zMT hi ⟨x,hx'⟩ x hx'];rfl
  .rintro σ H' ⟨v,rfl,rfl⟩;rw[zX,Xa,List.drop_zero];refine⟨_,rfl,?_⟩;have:=k _ s0;unfold numAt at this;rw[hl] at this;exact this
end
def Ym (P:Program)(w:World)(K:Qf)(mg:Qm)(base:Heap)(k:Nat)(x:Str)(ps:List Str)(sp:Sp):Prop:=
 ∃ f fd,Y2 P w K mg base (Kx.CXN P w base) k f fd ps sp/\mg x=some (.ref f)/\PySem.W.keepIn K (.ref f)=true/\ZK K fd ps []
theorem zV.okN{P:Program}{w:World}{K:Qf}{mg:Qm}{base:Heap}{x:Str}{st:Stmt}{N ps:List Str}{k:Nat}{sp:Sp}(D:zV K mg x st ps)(S:zO N ps (zI st))(len:∀ vs H Q E,sp vs H Q E->vs.length=ps.length)
  (hbody:∀ (f:Addr) (cdv:Value) (A:Around) (outer:List Env) (s:Shared) (H:Hp) (vs:List V) (Q:VK) (E:XK),zn k (A.deeper (envOfC x (zI st) s.heap.objs.size f cdv))->sp vs H Q E->
   ∃ t,PSs (ZR (Kx.CXN P w base) P w K mg base N x (zI st) f cdv A outer s H E) (ZG st) t/\t {nx:=λ_ H'=>Q .non H',rt:=Q} (YW N vs) H):Ym P w K mg base (k+1) x ps sp:=by
 obtain⟨f,fd,D⟩:=D;obtain⟨oc,od,kV,doc,pm,an,cdv,ct,osl,efd,lk,hcd⟩:=D.fn.ex;subst efd;exact⟨f,_,zKb lk hcd S len (λA outer s H vs Q E hr h=>hbody f cdv A outer s H vs Q E hr h),D.at_,D.fn.kp,D.bi⟩
section
variable {P:Program}{w:World}{K:Qf}{mg:Qm}{base:Heap}{N:List Str}{qual:Str}{scope:Scope}{f:Addr}{cd:Value}{A:Around}{outer:List Env}{s:Shared}{H:Hp}{E:XK}{k:Nat}{x:Str}{ps:List Str}{sp:Sp}{p pos cpos:Pos}{e:Expr}{es:List Expr}{t:TA}{C:Addr}
theorem zAG(O:Ym P w K mg base k x ps sp)(hr:zn k (A.deeper (envOfC qual scope s.heap.objs.size f cd)))(ha:PA (ZR (Kx.CXN P w base) P w K mg base N qual scope f cd A outer s H E) (e::es) t)(hg:Gl (ZR (Kx.CXN P w base) P w K mg base N qual scope f cd A outer s H E) x:=by rfl)(hdb:(x==("__debug__" : Str))=false:=by decide)
  (he:starEach (e::es) (envOfC qual scope s.heap.objs.size f cd)=(false,eval e (envOfC qual scope s.heap.objs.size f cd))::starEach es (envOfC qual scope s.heap.objs.size f cd):=by rfl)(hpl:(backTo pos (starEach es (envOfC qual scope s.heap.objs.size f cd))).any (·.1)=false:=by rfl) :
  PE (ZR (Kx.CXN P w base) P w K mg base N qual scope f cd A outer s H E) (.Call (.Name x p) (e::es) [] pos) (zHp sp [] E t):=by
 obtain⟨g,fd,F,m,kp,b⟩:=O;exact zGg F hr hg m kp b .nil Kx.zSI ha hdb he hpl
def XR (P:Program)(w:World)(K:Qf)(mg:Qm)(base:Heap)(C:Addr):Prop:=
 ∃ Nn fI fd,Kx.zCQ K mg C Nn fI/\(∃ oI,K.lookup fI=some oI/\oI.cls=.type "function")/\Y2 P w K mg base CX0 1 fI fd ["self","rule","place"] (Kx.zDS C)/\ZK K fd ["self","rule","place"] []
theorem YB(R:XR P w K mg base C)(hr:zn 2 (A.deeper (envOfC qual scope s.heap.objs.size f cd)))(ha:PA (ZR (Kx.CXN P w base) P w K mg base N qual scope f cd A outer s H E) (e::es) t)(hg:Gl (ZR (Kx.CXN P w base) P w K mg base N qual scope f cd A outer s H E) "NoCartoon":=by rfl)
  (he:starEach (e::es) (envOfC qual scope s.heap.objs.size f cd)=(false,eval e (envOfC qual scope s.heap.objs.size f cd))::starEach es (envOfC qual scope s.heap.objs.size f cd):=by rfl)(hpl:(backTo cpos (starEach es (envOfC qual scope s.heap.objs.size f cd))).any (·.1)=false:=by rfl) :
  PS (ZR (Kx.CXN P w base) P w K mg base N qual scope f cd A outer s H E) (.Raise (some (.Call (.Name "NoCartoon" p) (e::es) [] cpos)) none pos) (Kx.zJu C E H t):=by
 obtain⟨Nn,fI,fd,T,hfi,F,b⟩:=R;exact Kx.zMG T hfi F hr hg b ha he hpl
end
def Rz (C:Addr)(E:XK)(H:Hp)(r p:Int):Prop:=∀ (H':Hp) (dx:Addr),zH H H'->H' dx=some (.xd (yk "place" (.int p) [("rule",.int r)]))->E (.ref C) (some dx) H'
theorem Rz.same{C:Addr}{E:XK}{H H1:Hp}{r p:Int}(z:Rz C E H r p)(s:zH H H1):Rz C E H1 r p:=λH' dx s' e=>z H' dx (s.trans s') e
theorem zAu{H H1:Hp}(s:zH H H1):∀ b,H1 b=none->H b=none:=λb n=>by
 cases q:H b with
|none=>rfl
|some o=>rw[s b o q] at n;cases n
theorem Yf{C:Addr}{E:XK}{H H1:Hp}{r p:Int}(z:Rz C E H r p)(s:zH H H1):∀ a t dx,H1 a=none->H1 dx=none->dx≠a->Kx.zGL C E H (.ref a) (Kx.xHp H1 a t dx C (.int r) (.int p)):=
 Kx.zO9 (zAu s) λH' dx s' e=>z H' dx (s.trans s') e
section
variable {P:Program}{w:World}{K:Qf}{mg:Qm}{base:Heap}{C Nn fI:Addr}{fd:FuncData}
theorem zNl:zO ["self","rule","place"] ["self","rule","place"] (zI ZA):=yE
theorem zNm(F:Fun K "__init__" "NoCartoon.__init__" ZA fI fd)(T:Kx.zCQ K mg C Nn fI):Y2 P w K mg base CX0 1 fI fd ["self","rule","place"] (Kx.zDS C):=by
 refine F.ok zNl (λvs H Q E h=>?_) (λcdv A outer s H vs Q E hr h=>?_)
 .obtain⟨a,t,v1,v2,rfl,_⟩:=h;rfl
 .obtain⟨a,t,v1,v2,rfl,ha,k⟩:=h;refine⟨_,zF (Kx.zSJ T (.inl rfl) (pv 0) (pv 1) rfl) (zG (Kx.zSK T (.inr rfl) (pv 0) (pv 2) rfl)),?_⟩;refine⟨_,rfl,_,rfl,a,t,rfl,ha,λdx hd=>?_⟩;have ne:dx≠a:=λz=>by rw[z,ha] at hd;cases hd
  exact⟨_,rfl,_,rfl,a,t,dx,_,rfl,zE,by rw[zD ne,zE],by show 1<1000;decide,k dx hd⟩
end
def zQ9 (K:Qf)(mg:Qm)(x:Str)(xs:List V):Prop:=∃ a,mg x=some (.ref a)/\∀ H:Hp,yJ K H a xs
theorem zOB{X:Cx}{x:Str}{xs:List V}{a:Addr}{pos:Pos}(hm:X.mg x=some (.ref a))(hg:Gl X x:=by rfl)(hd:(x==("__debug__" : Str))=false:=by decide):PE X (.Name x pos) (tC (.ref a)):=zJS hg hm rfl hd
section
variable {P:Program}{w:World}{K:Qf}{mg:Qm}{base:Heap}
def zAv:Sp:=λvs H Q _=>∃ n:Int,vs=[.int n]/\Q (.int (20+8*n)) H
theorem zK2:zO ["number"] ["number"] (zI zBy):=yE
theorem zK3(D:zV K mg "point_place" zBy ["number"])(g1:yl mg "HEAD_SIZE" 20)(g2:yl mg "POINT_SIZE" 8):Ok P w K mg base 1 "point_place" ["number"] zAv:=by
 refine D.ok zK2 (λvs H Q E h=>?_) (λf cdv A outer s H vs Q E hr h=>?_)
 .obtain⟨n,rfl,_⟩:=h;rfl
 .obtain⟨n,rfl,k⟩:=h;refine⟨_,zG (zS (zk ZH (y8 g1) (zk YH (y8 g2) (pv 0)))),?_⟩;exact⟨_,rfl,_,_,rfl,rfl,.inl ⟨by decide,by decide⟩,_,_,rfl,rfl,k⟩
def zFe (d:List Int):Int:=20+8*numAt d 12 2
def zFf (d:List Int):Int:=zFe d+4*numAt d 14 2
def zEh (d:List Int):Int:=zFf d+12*numAt d 16 2
def zA8 (K:Qf)(g:List Int->Int):Sp:=λvs H Q _=>∃ (a:Addr) (d:List Int),vs=[.ref a]/\zN K H a (d.map V.int)/\∀ H':Hp,zH H H'->Q (.int (g d)) H'
theorem zIe:zO ["data"] ["data"] (zI zCX):=yE
theorem zIf(D:zV K mg "lines_from" zCX ["data"])(ON:Ok P w K mg base 1 "number_at" ["data","place","size"] (zCB K))(g1:yl mg "HEAD_SIZE" 20)(g2:yl mg "POINT_SIZE" 8):Ok P w K mg base 2 "lines_from" ["data"] (zA8 K zFe):=by
 refine D.ok zIe (λvs H Q E h=>?_) (λf cdv A outer s H vs Q E hr h=>?_)
 .obtain⟨a,d,rfl,_⟩:=h;rfl
 .obtain⟨a,d,rfl,hS,k⟩:=h;refine⟨_,zG (zS (zk ZH (y8 g1) (zk YH (y8 g2) (zR ON hr (zA (pv 0) (zA zL (zA zL zC))))))),?_⟩;exact⟨_,rfl,a,d,12,2,rfl,hS,λH' s'=>⟨_,_,rfl,rfl,.inl ⟨by decide,by decide⟩,_,_,rfl,rfl,k H' s'⟩⟩
theorem zIg:zO ["data"] ["data"] (zI zCY):=yE
theorem zIh(D:zV K mg "marks_from" zCY ["data"])(OL:Ok P w K mg base 2 "lines_from" ["data"] (zA8 K zFe))(ON:Ok P w K mg base 1 "number_at" ["data","place","size"] (zCB K))(g2:yl mg "LINE_SIZE" 4):Ok P w K mg base 3 "marks_from" ["data"] (zA8 K zFf):=by
 refine D.ok zIg (λvs H Q E h=>?_) (λf cdv A outer s H vs Q E hr h=>?_)
 .obtain⟨a,d,rfl,_⟩:=h;rfl
 .obtain⟨a,d,rfl,hS,k⟩:=h;refine⟨_,zG (zS (zk ZH (zR OL hr (zA (pv 0) zC)) (zk YH (y8 g2) (zR ON (hr.mono (by decide)) (zA (pv 0) (zA zL (zA zL zC))))))),?_⟩;exact⟨_,rfl,a,d,rfl,hS,λH1 s1=>⟨_,rfl,a,d,14,2,rfl,s1.seq hS,λH2 s2=>⟨_,_,rfl,rfl,.inl ⟨by decide,by decide⟩,_,_,rfl,rfl,k H2 (s1.trans s2)⟩⟩⟩
theorem zJP:zO ["data"] ["data"] (zI zDD):=yE
theorem zJQ(D:zV K mg "marks_end" zDD ["data"])(OL:Ok P w K mg base 3 "marks_from" ["data"] (zA8 K zFf))(ON:Ok P w K mg base 1 "number_at" ["data","place","size"] (zCB K))(g2:yl mg "MARK_SIZE" 12):Ok P w K mg base 4 "marks_end" ["data"] (zA8 K zEh):=by
 refine D.ok zJP (λvs H Q E h=>?_) (λf cdv A outer s H vs Q E hr h=>?_)
 .obtain⟨a,d,rfl,_⟩:=h;rfl
 .obtain⟨a,d,rfl,hS,k⟩:=h;refine⟨_,zG (zS (zk ZH (zR OL hr (zA (pv 0) zC)) (zk YH (y8 g2) (zR ON (hr.mono (by decide)) (zA (pv 0) (zA zL (zA zL zC))))))),?_⟩;exact⟨_,rfl,a,d,rfl,hS,λH1 s1=>⟨_,rfl,a,d,16,2,rfl,s1.seq hS,λH2 s2=>⟨_,_,rfl,rfl,.inl ⟨by decide,by decide⟩,_,_,rfl,rfl,k H2 (s1.trans s2)⟩⟩⟩
end
def HN:List (Nat×Nat×Int×Int):=[(4,4,16,1048575),(8,4,16,1048575),(12,2,4,4096),(14,2,4,8192),(16,2,1,2048),(18,2,0,0)]
def zBS (d:List Int)(e:Nat×Nat×Int×Int):Bool:=YM (numAt d e.1 e.2.1) e.2.2.1 e.2.2.2
def zBe (d:List Int):Option (Int×Int):=
 if d.length<20 then some (1,(d.length:Int)) else if d.take 4≠[71,76,65,49] then some (1,0) else match HN.find? (λe=>!zBS d e) with
 |some e=>some (2,(e.1:Int))
 |none=>if (d.length:Int)≠zEh d then some (3,20) else none
def Res (C:Addr)(E:XK)(H:Hp)(Q:VK):Option (Int×Int)->Prop
|some z=>Rz C E H z.1 z.2
|none=>∀ H':Hp,zH H H'->Q .non H'
theorem zTH{l:List Int}(h:l.length=4):(!PyData.eqv (.tuple (l.map .int)) (.tuple [.int 71,.int 76,.int 65,.int 49]))=decide (l≠[71,76,65,49]):=by
 match l,h with
|[a,b,c,e],_=>
  simp only[List.map,PyData.eqv,PyData.eqvAll,Xy];rw[WB];simp only[WE,yr,ne_eq,List.cons.injEq,and_true];by_cases h1:a=71 <;> by_cases h2:b=76 <;> by_cases h3:c=65 <;> by_cases h4:e=49 <;> simp[h1,h2,h3,h4]
theorem zPM{l:List Int}(h:l.length=4):SeqAt.shaped (.tuple (l.map .int))=true:=by
 match l,h with
|[a,b,c,e],_=>rfl
theorem zGx{K:Qf}{H:Hp}:∀ l:List Int,zB9 K H (l.map V.int) (l.map PyData.int)
|[]=>.nil
|a::l=>.cons (.int a) (zGx l)
theorem zMU{l:List Int}{w:Nat}:zC0 (l.map V.int) none (some (w:Int))=(l.take w).map V.int:=by
 unfold zC0;rw[HT.sIx_none,HT.sIx_nat,List.drop_zero,Nat.sub_zero,zX,<-Xh]
 congr 1
 by_cases h:w<=l.length
 .rw[XA h]
 .rw[XL (by omega),WK (We _),WK (by omega)]
def GHN (K:Qf)(mg:Qm):Prop:=∃ (a:Addr) (ts:List Addr),mg "HEAD_NUMBERS" = some (.ref a)/\(∀ H:Hp,yJ K H a (ts.map V.ref))/\ts.length=6/\∀ (i:Nat) (t:Addr) (e:Nat×Nat×Int×Int),ts[i]?=some t->HN[i]?=some e->∀ H:Hp,yJ K H t [.int (e.1:Int),.int (e.2.1:Int),.int e.2.2.1,.int e.2.2.2]
section
variable {P:Program}{w:World}{K:Qf}{mg:Qm}{base:Heap}{C:Addr}
def zMV (K:Qf)(C:Addr):Sp:=λvs H Q E=>∃ (a:Addr) (d:List Int),vs=[.ref a]/\zN K H a (d.map V.int)/\Res C E H Q (zBe d)
theorem zDV:zO ["data","place","size","least","greatest"] ["data"] (zI zCZ):=yE
theorem zPN(D:zV K mg "judge_head" zCZ ["data"])(R:XR P w K mg base C)(ON:Ok P w K mg base 1 "number_at" ["data","place","size"] (zCB K))(OW:Ok P w K mg base 1 "is_within" ["number","least","greatest"] zBQ)(OE:Ok P w K mg base 4 "marks_end" ["data"] (zA8 K zEh))
  (g1:yl mg "HEAD_SIZE" 20)(g2:zQ9 K mg "FIRST_BYTES" [.int 71,.int 76,.int 65,.int 49])(g3:GHN K mg)(ml:mg "len" = none)(mt:mg "tuple" = none):Ym P w K mg base 5 "judge_head" ["data"] (zMV K C):=by
 obtain⟨fa,g2a,g2b⟩:=g2;obtain⟨ha,hts,g3a,g3b,g3c,g3d⟩:=g3;refine D.okN zDV (λvs H Q E h=>?_) (λf cdv A outer s H vs Q E hr h=>?_)
 .obtain⟨a,d,rfl,_⟩:=h;rfl
 .obtain⟨a,d,rfl,hS,k⟩:=h;have hr1:zn 1 _:=hr.mono (by decide);have hr2:zn 2 _:=hr.mono (by decide)
  refine⟨_,zF (zu (zj YI (yH ml (zA (pv 0) zC)) (y8 g1) (zZ _)) (zG (YB R hr2 (zA zL (zA (yH ml (zA (pv 0) zC)) zC)))) zc)
   (zF (zu (zj (zQj hr.units) (zHJ zHn rfl mt PyProof.Rows.boot_tuple (zA (zFV zGh (pv 0) zOn (zDM zL)) zC)) (zOB (xs:=[]) g2a) (zZ _)) (zG (YB R hr2 (zA zL (zA zL zC)))) zc)
   (zF (yF Vp rfl (zH1 (zOB (xs:=[]) g3a)) (Z1 rfl (zt (zT (i:=1) zDV.nd rfl (Or.inl rfl)) (zt (zT (i:=2) zDV.nd rfl (Or.inl rfl)) (zt (zT (i:=3) zDV.nd rfl (Or.inl rfl)) (zt (zT (i:=4) zDV.nd rfl (Or.inl rfl)) ZV)))))
    (zG (zu (Zq (yY (zR OW hr1 (zA (zR ON hr1 (zA (pv 0) (zA (pv 1) (zA (pv 2) zC)))) (zA (pv 3) (zA (pv 4) zC)))))) (zG (YB R hr2 (zA zL (zA (pv 1) zC)))) zc)))
   (zG (zu (zj zDk (yH ml (zA (pv 0) zC)) (zR OE hr (zA (pv 0) zC)) (zZ _)) (zG (YB R hr2 (zA zL (zA (y8 g1) zC)))) zc)))),?_⟩
  refine⟨_,rfl,a,_,rfl,.inl hS,_,_,rfl,rfl,_,rfl,yA (λh1=>?_) (λh1=>?_)⟩
  .have h1':d.length<20:=by
    have:=WG h1;rw[zX] at this;omega
   refine⟨_,rfl,a,_,rfl,.inl hS,_,_,rfl,?_⟩;unfold zBe at k;rw[Wc h1'] at k;rw[zX];exact Yf k (zH.refl H)
  .have h1':¬ d.length<20:=by
    have:=WJ h1;rw[zX] at this;omega
   refine⟨_,rfl,_,rfl,a,_,rfl,hS,λq hq=>?_⟩;rw[show (4:Int)=((4:Nat):Int) from rfl,zMU];have s1:zH H (upd H q (.lst ((d.take 4).map V.int))):=zQ (zH.refl H) hq;refine⟨q,_,rfl,.inl ⟨zN.of zE,λq2 hq2=>?_⟩⟩;have s2:zH H (upd (upd H q (.lst ((d.take 4).map V.int))) q2 (.tup ((d.take 4).map V.int))):=zQ s1 hq2;have l4:(d.take 4).length=4:=by rw[WF];omega
   refine⟨_,_,.tup (yJ.of zE) (zGx _),.tup (g2b _) (zGx [71,76,65,49]),zPM l4,by decide +kernel,?_⟩;rw[show ([71,76,65,49]:List Int).map PyData.int=[.int 71,.int 76,.int 65,.int 49] from rfl,zTH l4];refine⟨_,rfl,yA (λh2=>?_) (λh2=>?_)⟩
   .have h2':=WG h2;unfold zBe at k;rw[Wb h1',Wc h2'] at k;exact⟨_,_,rfl,Yf k s2⟩
   .have h2':=WJ h2;unfold zBe at k;rw[Wb h1',Wb h2'] at k;refine⟨ha,rfl,⟨_,g3b _⟩,zGe (K:=K) (a:=ha) (xs:=hts.map V.ref) (λi σ H'=>∃ v1 v2 v3 v4:Option V,σ=[some (.ref a),v1,v2,v3,v4]/\zH H H'/\(HN.take i).all (zBS d)=true) ⟨none,none,none,none,rfl,s2,rfl⟩ (λi σ H' _ _=>g3b _) ?_ ?_⟩
    .rintro i y σ H' hi ⟨v1,v2,v3,v4,rfl,s3,hall⟩;obtain⟨t,ht,rfl⟩:=yV hi;have hlt:i<6:=by rw[<-g3c];exact (yG ht).1
     have hlt':i<HN.length:=hlt;have he:HN[i]?=some HN[i]:=yQ hlt';generalize HN[i]=e at he;refine⟨t,_,rfl,g3d i t e ht he _,rfl,_,_,rfl,_,_,rfl,_,_,rfl,_,_,rfl,rfl,?_⟩;refine⟨_,rfl,_,rfl,_,rfl,a,d,e.1,e.2.1,rfl,s3.seq hS,λH4 s4=>⟨_,rfl,_,rfl,_,_,_,rfl,_,rfl,yA (λh3=>?_) (λh3=>?_)⟩⟩
     .rw[WE] at h3
      have hf:HN.find? (λe=>!zBS d e)=some e:=by
       rw[List.find?_eq_some_iff_getElem];refine⟨by rw[show zBS d e=false from h3];rfl,i,hlt',(yG he).2,λj hj=>?_⟩;have:=WW.mp hall (HN[j]'(by omega)) (by rw[Jr];exact⟨j,by omega,rfl⟩);rw[this];rfl
      rw[hf] at k;exact⟨_,rfl,_,_,rfl,Yf k (s3.trans s4)⟩
     .rw[WD] at h3;refine⟨some (.int (e.1:Int)),some (.int (e.2.1:Int)),some (.int e.2.2.1),some (.int e.2.2.2),rfl,s3.trans s4,?_⟩;rw[zv he,List.all_append,hall,XU,Xx,List.all_nil,Xy];exact h3
    .rintro σ H' ⟨v1,v2,v3,v4,rfl,s3,hall⟩;rw[zX,g3c,show HN.take 6=HN from rfl] at hall
     have hf:HN.find? (λe=>!zBS d e)=none:=by
      rw[Ue];intro e he;rw[WW.mp hall e he];decide
     rw[hf] at k;dsimp only at k;refine⟨_,rfl,a,_,rfl,.inl (s3.seq hS),_,rfl,a,d,rfl,s3.seq hS,λH4 s4=>⟨rfl,_,rfl,yA (λh3=>?_) (λh3=>?_)⟩⟩
     .rw[deq,WE,VA,zX] at h3;rw[Wc h3] at k;exact⟨_,_,rfl,Yf k (s3.trans s4)⟩
     .rw[deq,WD,yr,zX] at h3;rw[Wb (λz=>z h3)] at k;exact k H4 (s3.trans s4)
end
theorem zCt{lo c:Int}{n:Nat}{g:TG}{tt:TT}{te:TE}{vs:List Nat}{σ:L2.St}{H1:Hp}{D:Addr}{Qd:Hp->Prop}(Pv:Nat->Hp->Prop)(h0:Pv 0 (upd H1 D (.lst [])))
  (hs:∀ i H,i<n->Pv i H->g (.int (lo+(i:Nat)*c)) (ZL σ vs) H λσ2 H2=>ZL σ2 vs=ZL σ vs/\tt σ2 H2 λb H3=>
   if b=true then te σ2 H3 λy H4=>∃ acc,H4 D=some (.lst acc)/\acc.length<sizeLine/\Pv (i+1) (upd H4 D (.lst (acc++[y]))) else Pv (i+1) H3) (hd:∀ H,Pv n H->Qd H) :
  ∃ W:Nat->Nat->Hp->Prop,(∃ m,W 0 m (upd H1 D (.lst [])))/\∀ i m H,W i m H->
   ((Itc lo c n).stop i H/\Qd H)\/((Itc lo c n).go i H/\∃ Nx:Hp->Prop,(∀ H',Nx H'->∃ m',m'<m/\W (i+1) m' H')/\∀ x H',(Itc lo c n).yld i H x H'->g x (ZL σ vs) H' λσ2 H2=>ZL σ2 vs=ZL σ vs/\tt σ2 H2 λb H3=>
    if b=true then te σ2 H3 λy H4=>∃ acc,H4 D=some (.lst acc)/\acc.length<sizeLine/\Nx (upd H4 D (.lst (acc++[y]))) else Nx H3):=by
 refine⟨λi m H=>m=n-i/\i<=n/\Pv i H,⟨n,by simp,Ww _,h0⟩,?_⟩;rintro i m H ⟨rfl,hi,p⟩;by_cases hlt:i<n
 .refine .inr ⟨hlt,Pv (i+1),λH' p'=>⟨n-(i+1),by lia,rfl,hlt,p'⟩,λx H' y=>?_⟩;obtain⟨e,y⟩:=y;subst e y;exact hs i _ hlt p
 .have e:i=n:=by lia
  subst e;exact .inl ⟨We _,hd H p⟩
theorem rgC{lo n c:Nat}(hc:0<c)(hc2:c<1000)(hn:n<1000000)(hl:lo<10000000):RgC (lo:Int) ((lo:Int)+(c:Int)*(n:Int)) (c:Int) n:=by
 have hm:(c:Int)*(n:Int)=((c*n:Nat):Int):=(Xg c n).symm;have hb:c*n<1000*1000000:=Yv (Nat.mul_le_mul_right n (Vi hc2)) (Nat.mul_lt_mul_of_pos_left hn (by decide))
 have e:Builtin.Range.rangeSize (lo:Int) ((lo:Int)+(c:Int)*(n:Int)) (c:Int)=(n:Int):=by
  unfold Builtin.Range.rangeSize;rw[Wc (by lia)];by_cases h0:n=0
  .subst h0;rw[Wb (by simp)];rfl
  .have hp:0<c*n:=Nat.mul_pos hc (by lia);rw[Wc (by lia)]
   have:((lo:Int)+(c:Int)*(n:Int)-(lo:Int)-1)/(c:Int)=(n:Int)-1:=by
    have e1:(lo:Int)+(c:Int)*(n:Int)-(lo:Int)-1=((c:Int)-1)+(c:Int)*((n:Int)-1):=by grind
    rw[e1,Int.add_mul_ediv_left _ _ (by lia),Int.ediv_eq_zero_of_lt (by lia) (by lia)]
    lia
   rw[this]
   lia
 refine⟨by lia,by lia,?_,e⟩;unfold Builtin.Range.small;rw[e];rw[Wc (by lia)];simp only[Builtin.Range.rangeFitsLong,y9,Vc,yr,Vj]
 lia
def Za {α:Type}(R:Hp->V->α->Prop)(H:Hp)(vs:List V)(xs:List α):Prop:=vs.length=xs.length/\∀ (j:Nat) (v:V) (x:α),vs[j]?=some v->xs[j]?=some x->R H v x
theorem Za.nil{α:Type}{R:Hp->V->α->Prop}{H:Hp}:Za R H [] []:=⟨rfl,λj v x h _=>by simp at h⟩
theorem Za.mono{α:Type}{R:Hp->V->α->Prop}{H H':Hp}{vs:List V}{xs:List α}(e:Za R H vs xs)(h:∀ v x,R H v x->R H' v x):Za R H' vs xs:=⟨e.1,λj v x h1 h2=>h v x (e.2 j v x h1 h2)⟩
theorem Za.snoc{α:Type}{R:Hp->V->α->Prop}{H:Hp}{vs:List V}{xs:List α}{v:V}{x:α}(e:Za R H vs xs)(h:R H v x):Za R H (vs++[v]) (xs++[x]):=by
 refine⟨by rw[Wi,Wi,e.1];rfl,λj v' x' h1 h2=>?_⟩;by_cases hj:j<vs.length
 .rw[WP hj] at h1;rw[WP (by rw[<-e.1];exact hj)] at h2;exact e.2 j v' x' h1 h2
 .have hl:j=vs.length:=by
   have:=(yG h1).1;rw[Wi,W6] at this
   lia
  subst hl;have e1:v=v':=by simpa using h1
  have e2:x=x':=by rw[e.1] at h2;simpa using h2
  subst e1 e2;exact h
theorem Za.get{α:Type}{R:Hp->V->α->Prop}{H:Hp}{vs:List V}{xs:List α}(e:Za R H vs xs){j:Nat}{x:α}(h:xs[j]?=some x):∃ v,vs[j]?=some v/\R H v x:=by
 have hj:j<vs.length:=by rw[e.1];exact (yG h).1
 exact⟨vs[j],yQ hj,e.2 j _ x (yQ hj) h⟩
theorem Za.get'{α:Type}{R:Hp->V->α->Prop}{H:Hp}{vs:List V}{xs:List α}(e:Za R H vs xs){j:Nat}{v:V}(h:vs[j]?=some v):∃ x,xs[j]?=some x/\R H v x:=by
 have hj:j<xs.length:=by rw[<-e.1];exact (yG h).1
 exact⟨xs[j],yQ hj,e.2 j v _ h (yQ hj)⟩
def yd (H H':Hp):Prop:=∀ b o,H b=some o->(∀ xs,o≠.lst xs)->H' b=some o
theorem yd.of{H H':Hp}(s:zH H H'):yd H H':=λb o e _=>s b o e
theorem yd.updL{H:Hp}{l:Addr}{xs ys:List V}(e:H l=some (.lst xs)):yd H (upd H l (.lst ys)):=λb o e' n=>by
 rw[zD (λz=>by rw[z,e] at e';cases e';exact n _ rfl)];exact e'
def RLn:Hp->V->P2->Prop:=λH v p=>∃ a,v=.ref a/\H a=some (.tup [.int p.1,.int p.2])
theorem RLn.mono{H H':Hp}{v:V}{p:P2}(s:yd H H')(h:RLn H v p):RLn H' v p:=let ⟨a,e,q⟩:=h;⟨a,e,s a _ q λxs z=>by cases z⟩
def Z7 (K:Qf):Hp->V->P2->Prop:=λH v p=>∃ a,v=.ref a/\XY K H a p
theorem XY.n{K:Qf}{H H':Hp}{a:Addr}{p:P2}(h:XY K H a p)(s:yd H H'):XY K H' a p:=let ⟨C,dx,fs,e,r⟩:=h;⟨C,dx,fs,s a _ e (λxs z=>by cases z),r⟩
theorem Z7.mono{K:Qf}{H H':Hp}{v:V}{p:P2}(s:yd H H')(h:Z7 K H v p):Z7 K H' v p:=let ⟨a,e,q⟩:=h;⟨a,e,q.n s⟩
def zFg (f1 f2 f3:Str)(v1 v2 v3:V):List (Str×V):=yk f3 v3 (yk f2 v2 (yk f1 v1 []))
def zEi (C:Addr)(f1 f2 f3:Str):Sp:=λvs H Q _=>∃ (p dx:Addr) (v1 v2 v3:V),vs=[.ref p,v1,v2,v3]/\H p=some (.ins C dx [])/\
 ∀ H':Hp,H' p=some (.ins C dx (zFg f1 f2 f3 v1 v2 v3))->(∀ b o,H b=some o->b≠p->H' b=some o)->Q .non H'
def zNn (f1 f2 f3 f4 f5:Str)(v1 v2 v3 v4 v5:V):List (Str×V):=yk f5 v5 (yk f4 v4 (yk f3 v3 (yk f2 v2 (yk f1 v1 []))))
def zMW (C:Addr)(f1 f2 f3 f4 f5:Str):Sp:=λvs H Q _=>∃ (p dx:Addr) (v1 v2 v3 v4 v5:V),vs=[.ref p,v1,v2,v3,v4,v5]/\H p=some (.ins C dx [])/\
 ∀ H':Hp,H' p=some (.ins C dx (zNn f1 f2 f3 f4 f5 v1 v2 v3 v4 v5))->(∀ b o,H b=some o->b≠p->H' b=some o)->Q .non H'
structure zK4(K:Qf)(mg:Qm)(C:Addr):Prop where
 cl:Yl K C
 n0:zg K C "x"
 n1:zg K C "y"
 mgC:mg "Point" = some (.ref C)
theorem zPO{K:Qf}{h:Heap}{mg:Qm}{C:Addr}(X:K.In h)(G:h.Ns mainGlobals mg)(aC:PySem.W.nsIn K mainGlobals "Point" = some (some (.ref C)))
  (pg:PySem.W.plainGet K C Str.empty=true)(hd:PySem.W.hasDictIn K C=true)(po:PySem.W.plainOver K C=true)(sa:PySem.W.findIn K (.ref C) "__setattr__" = some (some (.builtin "object.__setattr__")))
  (n0:PySem.W.findIn K (.ref C) "x" = some none)(n1:PySem.W.findIn K (.ref C) "y" = some none):zK4 K mg C:=⟨⟨pg,hd,po,sa⟩,n0,n1,Va X G aC⟩
structure zK5(K:Qf)(mg:Qm)(C:Addr):Prop where
 cl:Yl K C
 n0:zg K C "x"
 n1:zg K C "y"
 n2:zg K C "painting"
 mgC:mg "Mark" = some (.ref C)
theorem zPP{K:Qf}{h:Heap}{mg:Qm}{C:Addr}(X:K.In h)(G:h.Ns mainGlobals mg)(aC:PySem.W.nsIn K mainGlobals "Mark" = some (some (.ref C)))
  (pg:PySem.W.plainGet K C Str.empty=true)(hd:PySem.W.hasDictIn K C=true)(po:PySem.W.plainOver K C=true)(sa:PySem.W.findIn K (.ref C) "__setattr__" = some (some (.builtin "object.__setattr__")))
  (n0:PySem.W.findIn K (.ref C) "x" = some none)(n1:PySem.W.findIn K (.ref C) "y" = some none)(n2:PySem.W.findIn K (.ref C) "painting" = some none):zK5 K mg C:=⟨⟨pg,hd,po,sa⟩,n0,n1,n2,Va X G aC⟩
structure zK6(K:Qf)(mg:Qm)(C:Addr):Prop where
 cl:Yl K C
 n0:zg K C "width"
 n1:zg K C "height"
 n2:zg K C "points"
 n3:zg K C "lines"
 n4:zg K C "marks"
 mgC:mg "Cartoon" = some (.ref C)
theorem zPQ{K:Qf}{h:Heap}{mg:Qm}{C:Addr}(X:K.In h)(G:h.Ns mainGlobals mg)(aC:PySem.W.nsIn K mainGlobals "Cartoon" = some (some (.ref C)))
  (pg:PySem.W.plainGet K C Str.empty=true)(hd:PySem.W.hasDictIn K C=true)(po:PySem.W.plainOver K C=true)(sa:PySem.W.findIn K (.ref C) "__setattr__" = some (some (.builtin "object.__setattr__")))
  (n0:PySem.W.findIn K (.ref C) "width" = some none)(n1:PySem.W.findIn K (.ref C) "height" = some none)(n2:PySem.W.findIn K (.ref C) "points" = some none)(n3:PySem.W.findIn K (.ref C) "lines" = some none)(n4:PySem.W.findIn K (.ref C) "marks" = some none):zK6 K mg C:=
 ⟨⟨pg,hd,po,sa⟩,n0,n1,n2,n3,n4,Va X G aC⟩
section
variable {P:Program}{w:World}{K:Qf}{mg:Qm}{base:Heap}
theorem zK7:zO ["self","x","y"] ["self","x","y"] (zI zCU):=yE
theorem zK8{C:Addr}(D:yj K C "Point.__init__" zCU ["self","x","y"])(T:zK4 K mg C):Ys P w K mg base 1 C ["self","x","y"] (zAX C "x" "y"):=by
 refine D.ok zK7 (λvs H Q E h=>?_) (λf cdv A outer s H vs Q E hr h=>?_)
 .obtain⟨p,dx,v1,v2,rfl,_⟩:=h;rfl
 .obtain⟨p,dx,v1,v2,rfl,hp,k⟩:=h;refine⟨_,zF (yo (pv 0) (pv 1) rfl) (zG (yo (pv 0) (pv 2) rfl)),?_⟩;refine⟨_,rfl,_,rfl,p,C,dx,_,rfl,hp,T.cl,T.n0,(by show 0<1000;decide),?_⟩;refine⟨_,rfl,_,rfl,p,C,dx,_,rfl,zE,T.cl,T.n1,yR (yO (n:=1) (by show 0<1;decide)) (by decide),?_⟩;exact k _ zE λb o e hb=>by rw[zD hb,zD hb];exact e
theorem zK9:zO ["self","x","y","painting"] ["self","x","y","painting"] (zI zDB):=yE
theorem zLA{C:Addr}(D:yj K C "Mark.__init__" zDB ["self","x","y","painting"])(T:zK5 K mg C):Ys P w K mg base 1 C ["self","x","y","painting"] (zEi C "x" "y" "painting"):=by
 refine D.ok zK9 (λvs H Q E h=>?_) (λf cdv A outer s H vs Q E hr h=>?_)
 .obtain⟨p,dx,v1,v2,v3,rfl,_⟩:=h;rfl
 .obtain⟨p,dx,v1,v2,v3,rfl,hp,k⟩:=h;refine⟨_,zF (yo (pv 0) (pv 1) rfl) (zF (yo (pv 0) (pv 2) rfl) (zG (yo (pv 0) (pv 3) rfl))),?_⟩;refine⟨_,rfl,_,rfl,p,C,dx,_,rfl,hp,T.cl,T.n0,(by show 0<1000;decide),?_⟩;refine⟨_,rfl,_,rfl,p,C,dx,_,rfl,zE,T.cl,T.n1,yR (yO (n:=1) (by show 0<1;decide)) (by decide),?_⟩;refine⟨_,rfl,_,rfl,p,C,dx,_,rfl,zE,T.cl,T.n2,yR (yO (n:=2) (yO (n:=1) (by show 0<1;decide))) (by decide),?_⟩;exact k _ zE λb o e hb=>by rw[zD hb,zD hb,zD hb];exact e
theorem zLB:zO ["self","width","height","points","lines","marks"] ["self","width","height","points","lines","marks"] (zI zBI):=yE
theorem zLC{C:Addr}(D:yj K C "Cartoon.__init__" zBI ["self","width","height","points","lines","marks"])(T:zK6 K mg C):Ys P w K mg base 1 C ["self","width","height","points","lines","marks"] (zMW C "width" "height" "points" "lines" "marks"):=by
 refine D.ok zLB (λvs H Q E h=>?_) (λf cdv A outer s H vs Q E hr h=>?_)
 .obtain⟨p,dx,v1,v2,v3,v4,v5,rfl,_⟩:=h;rfl
 .obtain⟨p,dx,v1,v2,v3,v4,v5,rfl,hp,k⟩:=h;refine⟨_,zF (yo (pv 0) (pv 1) rfl) (zF (yo (pv 0) (pv 2) rfl) (zF (yo (pv 0) (pv 3) rfl) (zF (yo (pv 0) (pv 4) rfl) (zG (yo (pv 0) (pv 5) rfl))))),?_⟩;refine⟨_,rfl,_,rfl,p,C,dx,_,rfl,hp,T.cl,T.n0,(by show 0<1000;decide),?_⟩;refine⟨_,rfl,_,rfl,p,C,dx,_,rfl,zE,T.cl,T.n1,yR (yO (n:=1) (by show 0<1;decide)) (by decide),?_⟩;refine⟨_,rfl,_,rfl,p,C,dx,_,rfl,zE,T.cl,T.n2,yR (yO (n:=2) (yO (n:=1) (by show 0<1;decide))) (by decide),?_⟩;refine⟨_,rfl,_,rfl,p,C,dx,_,rfl,zE,T.cl,T.n3,yR (yO (n:=3) (yO (n:=2) (yO (n:=1) (by show 0<1;decide)))) (by decide),?_⟩;refine⟨_,rfl,_,rfl,p,C,dx,_,rfl,zE,T.cl,T.n4,yR (yO (n:=4) (yO (n:=3) (yO (n:=2) (yO (n:=1) (by show 0<1;decide))))) (by decide),?_⟩;exact k _ zE λb o e hb=>by rw[zD hb,zD hb,zD hb,zD hb,zD hb];exact e
end
def zl {α:Type}(R:Hp->V->α->Prop)(H:Hp)(l:Addr)(xs:List α):Prop:=∃ vs,H l=some (.lst vs)/\Za R H vs xs
def Nm {α:Type}(R:Hp->V->α->Prop):Prop:=∀ (H H':Hp) (v:V) (x:α),yd H H'->R H v x->R H' v x
theorem zl.same{α:Type}{R:Hp->V->α->Prop}{H H':Hp}{l:Addr}{xs:List α}(N:Nm R)(h:zl R H l xs)(s:zH H H'):zl R H' l xs:=let ⟨vs,e,q⟩:=h;⟨vs,s _ _ e,q.mono λv x r=>N H H' v x (yd.of s) r⟩
theorem zl.snoc{α:Type}{R:Hp->V->α->Prop}{H:Hp}{l:Addr}{vs:List V}{xs:List α}{y:V}{x:α}(N:Nm R)(e:H l=some (.lst vs))(q:Za R H vs xs)(r:R H y x):zl R (upd H l (.lst (vs++[y]))) l (xs++[x]):=
 ⟨_,zE,(q.mono λv x r=>N H _ v x (yd.updL e) r).snoc (N H _ y x (yd.updL e) r)⟩
theorem zCC{K:Qf}:Nm (Z7 K):=λ_ _ _ _ s r=>Z7.mono s r
theorem zCu:Nm RLn:=λ_ _ _ _ s r=>RLn.mono s r
def RMk (K:Qf):Hp->V->P2×Int->Prop:=λH v m=>∃ a C dx fs,v=.ref a/\H a=some (.ins C dx fs)/\Yl K C/\zg K C "x"/\zg K C "y"/\zg K C "painting"/\fs.lookup ("x" : Str)=some (.int m.1.1)/\fs.lookup ("y" : Str)=some (.int m.1.2)/\fs.lookup ("painting" : Str)=some (.int m.2)
theorem zE8{K:Qf}:Nm (RMk K):=λ_ _ _ _ s r=>let ⟨a,C,dx,fs,e1,e2,z⟩:=r;⟨a,C,dx,fs,e1,s a _ e2 (λxs z=>by cases z),z⟩
theorem RMk.xy{K:Qf}{H:Hp}{v:V}{m:P2×Int}(r:RMk K H v m):∃ a,v=.ref a/\XY K H a m.1:=let ⟨a,C,dx,fs,e1,e2,c,n1,n2,_,l1,l2,_⟩:=r;⟨a,e1,C,dx,fs,e2,c,n1,n2,l1,l2⟩
theorem zIi{f1 f2 f3:Str}{v1 v2 v3:V}(h2:f1≠f2)(h3:f1≠f3):(zFg f1 f2 f3 v1 v2 v3).lookup f1=some v1:=by
 unfold zFg;rw[yS,Wb h3,yS,Wb h2,yS,Wc rfl]
theorem zIj{f1 f2 f3:Str}{v1 v2 v3:V}(h3:f2≠f3):(zFg f1 f2 f3 v1 v2 v3).lookup f2=some v2:=by
 unfold zFg;rw[yS,Wb h3,yS,Wc rfl]
theorem zIk{f1 f2 f3:Str}{v1 v2 v3:V}:(zFg f1 f2 f3 v1 v2 v3).lookup f3=some v3:=by
 unfold zFg;rw[yS,Wc rfl]
theorem zGy{a:Addr}{i j:Int}(h:i=j):[V.ref a,V.int i]=[V.ref a,V.int j]:=by rw[h]
def ptI (d:List Int)(p:Nat):P2:=(numAt d p 4,numAt d (p+4) 4)
def lnI (d:List Int)(p:Nat):P2:=(numAt d p 2,numAt d (p+2) 2)
def mkI (d:List Int)(p:Nat):P2×Int:=((numAt d p 4,numAt d (p+4) 4),numAt d (p+10) 2)
def zBT {α:Type}(f:Nat->α)(lo c n:Nat):List α:=(List.range n).map λi=>f (lo+c*i)
theorem zPR{α:Type}{f:Nat->α}{lo c n i:Nat}(h:i<n):(zBT f lo c n)[i]?=some (f (lo+c*i)):=by
 unfold zBT;rw[WQ,List.getElem?_range h];rfl
theorem zFh{α:Type}{f:Nat->α}{lo c n:Nat}:(zBT f lo c n).length=n:=by
 unfold zBT;rw[zX,VP]
section
variable {P:Program}{w:World}{K:Qf}{mg:Qm}{base:Heap}
def zGz {α:Type}(K:Qf)(R:Hp->V->α->Prop)(g:List Int->Nat->α):Sp:=λvs H Q _=>∃ (a:Addr) (d:List Int) (p:Nat),vs=[.ref a,.int (p:Int)]/\zN K H a (d.map V.int)/\∀ (H':Hp) (v:V),zH H H'->R H' v (g d p)->Q v H'
theorem zPS:zO ["data","place"] ["data","place"] (zI zDx):=yE
theorem zPT{C:Addr}(D:zV K mg "point_at" zDx ["data","place"])(ON:Ok P w K mg base 1 "number_at" ["data","place","size"] (zCB K))(M:Ys P w K mg base 1 C ["self","x","y"] (zAX C "x" "y"))(T:zK4 K mg C):Ok P w K mg base 3 "point_at" ["data","place"] (zGz K (Z7 K) ptI):=by
 refine D.ok zPS (λvs H Q E h=>?_) (λf cdv A outer s H vs Q E hr h=>?_)
 .obtain⟨a,d,p,rfl,_⟩:=h;rfl
 .obtain⟨a,d,p,rfl,hS,k⟩:=h;have hr1:zn 1 _:=hr.mono (by decide);refine⟨_,zG (zS (zBt M hr T.mgC (zA (zR ON hr1 (zA (pv 0) (zA (pv 1) (zA zL zC)))) (zA (zR ON hr1 (zA (pv 0) (zA (zk ZH (pv 1) zL) (zA zL zC)))) zC)))),?_⟩;refine⟨_,rfl,_,rfl,a,d,p,4,rfl,hS,λH1 s1=>⟨_,rfl,_,rfl,_,_,rfl,rfl,a,d,p+4,4,rfl,s1.seq hS,λH2 s2=>?_⟩⟩;intro x dx nx ndx nex;refine⟨x,dx,_,_,rfl,zE,λH3 hx k1=>⟨rfl,k H3 _ ((s1.trans s2).trans (zH.made nx ndx k1)) ?_⟩⟩;exact⟨x,rfl,C,dx,_,hx,T.cl,T.n0,T.n1,zBu (by decide),zDU⟩
theorem zPU:zO ["data","place"] ["data","place"] (zI zEb):=yE
theorem zPV(D:zV K mg "line_at" zEb ["data","place"])(ON:Ok P w K mg base 1 "number_at" ["data","place","size"] (zCB K)):Ok P w K mg base 2 "line_at" ["data","place"] (zGz K RLn lnI):=by
 refine D.ok zPU (λvs H Q E h=>?_) (λf cdv A outer s H vs Q E hr h=>?_)
 .obtain⟨a,d,p,rfl,_⟩:=h;rfl
 .obtain⟨a,d,p,rfl,hS,k⟩:=h;refine⟨_,zG (zS (zAC (zA (zR ON hr (zA (pv 0) (zA (pv 1) (zA zL zC)))) (zA (zR ON hr (zA (pv 0) (zA (zk ZH (pv 1) zL) (zA zL zC)))) zC)))),?_⟩;refine⟨_,rfl,_,rfl,a,d,p,2,rfl,hS,λH1 s1=>⟨_,rfl,_,rfl,_,_,rfl,rfl,a,d,p+2,2,rfl,s1.seq hS,λH2 s2=>⟨(by show 2<=sizeLine;decide),λx nx=>?_⟩⟩⟩;exact k _ _ (zQ (s1.trans s2) nx) ⟨x,rfl,zE⟩
theorem zPW:zO ["data","place"] ["data","place"] (zI zEc):=yE
theorem zPX{C:Addr}(D:zV K mg "mark_at" zEc ["data","place"])(ON:Ok P w K mg base 1 "number_at" ["data","place","size"] (zCB K))(M:Ys P w K mg base 1 C ["self","x","y","painting"] (zEi C "x" "y" "painting"))(T:zK5 K mg C):Ok P w K mg base 3 "mark_at" ["data","place"] (zGz K (RMk K) mkI):=by
 refine D.ok zPW (λvs H Q E h=>?_) (λf cdv A outer s H vs Q E hr h=>?_)
 .obtain⟨a,d,p,rfl,_⟩:=h;rfl
 .obtain⟨a,d,p,rfl,hS,k⟩:=h;have hr1:zn 1 _:=hr.mono (by decide);refine⟨_,zG (zS (zBt M hr T.mgC (zA (zR ON hr1 (zA (pv 0) (zA (pv 1) (zA zL zC)))) (zA (zR ON hr1 (zA (pv 0) (zA (zk ZH (pv 1) zL) (zA zL zC)))) (zA (zR ON hr1 (zA (pv 0) (zA (zk ZH (pv 1) zL) (zA zL zC)))) zC))))),?_⟩;refine⟨_,rfl,_,rfl,a,d,p,4,rfl,hS,λH1 s1=>⟨_,rfl,_,rfl,_,_,rfl,rfl,a,d,p+4,4,rfl,s1.seq hS,λH2 s2=>⟨_,rfl,_,rfl,_,_,rfl,rfl,a,d,p+10,2,rfl,s2.seq (s1.seq hS),λH3 s3=>?_⟩⟩⟩;intro x dx nx ndx nex;refine⟨x,dx,_,_,_,rfl,zE,λH4 hx k1=>⟨rfl,k H4 _ (((s1.trans s2).trans s3).trans (zH.made nx ndx k1)) ?_⟩⟩;exact⟨x,C,dx,_,rfl,hx,T.cl,T.n0,T.n1,T.n2,zIi (by decide) (by decide),zIj (by decide),zIk⟩
end
structure Yg where
 wd:Int
 hg:Int
 pts:List P2
 lns:List P2
 mks:List (P2×Int)
def Yt (K:Qf)(H:Hp)(c:Addr)(Z:Yg):Prop:=∃ C dx fs pa la ma,H c=some (.ins C dx fs)/\Yl K C/\zg K C "width"/\zg K C "height"/\zg K C "points"/\zg K C "lines"/\zg K C "marks"/\
 fs.lookup ("width" : Str)=some (.int Z.wd)/\fs.lookup ("height" : Str)=some (.int Z.hg)/\fs.lookup ("points" : Str)=some (.ref pa)/\fs.lookup ("lines" : Str)=some (.ref la)/\fs.lookup ("marks" : Str)=some (.ref ma)/\
 zl (Z7 K) H pa Z.pts/\zl RLn H la Z.lns/\zl (RMk K) H ma Z.mks
theorem Yt.same{K:Qf}{H H':Hp}{c:Addr}{Z:Yg}(h:Yt K H c Z)(s:zH H H'):Yt K H' c Z:=by
 obtain⟨C,dx,fs,pa,la,ma,h1,h2,h3,h4,h5,h6,h7,h8,h9,h10,h11,h12,h13,h14,h15⟩:=h;exact⟨C,dx,fs,pa,la,ma,s _ _ h1,h2,h3,h4,h5,h6,h7,h8,h9,h10,h11,h12,h13.same zCC s,h14.same zCu s,h15.same zE8 s⟩
def zLD (d:List Int)(n m k:Nat):Yg:=⟨numAt d 4 4,numAt d 8 4,zBT (ptI d) 20 8 n,zBT (lnI d) (20+8*n) 4 m,zBT (mkI d) (20+8*n+4*m) 12 k⟩
theorem zNo{v1 v2 v3 v4 v5:V}:let fs:=zNn "width" "height" "points" "lines" "marks" v1 v2 v3 v4 v5
  fs.lookup ("width" : Str)=some v1/\fs.lookup ("height" : Str)=some v2/\fs.lookup ("points" : Str)=some v3/\fs.lookup ("lines" : Str)=some v4/\fs.lookup ("marks" : Str)=some v5:=by
 refine⟨?_,?_,?_,?_,?_⟩ <;> (unfold zNn;simp only[yS]) <;> first|rfl|decide
section
variable {P:Program}{w:World}{K:Qf}{mg:Qm}{base:Heap}
theorem zFi{α:Type}{R:Hp->V->α->Prop}{g:List Int->Nat->α}{H H':Hp}{D:Addr}{d:List Int}{lo c n i:Nat}(N:Nm R)(hD:H D=none)(hn:n<1000000)(hi:i<n)(s:zH H H')(h:zl R H' D ((zBT (g d) lo c n).take i)){H4:Hp}{v:V}(s4:zH H' H4)(r:R H4 v (g d (lo+c*i))) :
  ∃ acc,H4 D=some (.lst acc)/\acc.length<sizeLine/\zH H (upd H4 D (.lst (acc++[v])))/\zl R (upd H4 D (.lst (acc++[v]))) D ((zBT (g d) lo c n).take (i+1)):=by
 obtain⟨vs,e,q⟩:=h.same N s4;refine⟨vs,e,?_,λb o eb=>?_,?_⟩
 .rw[q.1,WF];exact Yv (Xf _ _) (yR hi (WT (Vi hn) (by decide)))
 .rw[zD (zJ eb hD)];exact s4 _ _ (s _ _ eb)
 .rw[zv (zPR hi)];exact zl.snoc N e q r
def zMX (K:Qf):Sp:=λvs H Q _=>∃ (a:Addr) (d:List Int) (n m k:Nat),vs=[.ref a]/\zN K H a (d.map V.int)/\numAt d 12 2=(n:Int)/\numAt d 14 2=(m:Int)/\numAt d 16 2=(k:Int)/\n<10000/\m<10000/\k<10000/\
 ∀ (H':Hp) (c:Addr),zH H H'->Yt K H' c (zLD d n m k)->Q (.ref c) H'
theorem zBU:zO ["data","points","lines","marks","place"] ["data"] (zI zAt):=yE
theorem zPY{C:Addr}(D:zV K mg "told_by" zAt ["data"])(ON:Ok P w K mg base 1 "number_at" ["data","place","size"] (zCB K))(OP:Ok P w K mg base 3 "point_at" ["data","place"] (zGz K (Z7 K) ptI))(OL:Ok P w K mg base 2 "line_at" ["data","place"] (zGz K RLn lnI))(OM:Ok P w K mg base 3 "mark_at" ["data","place"] (zGz K (RMk K) mkI))
  (O1:Ok P w K mg base 2 "lines_from" ["data"] (zA8 K zFe))(O2:Ok P w K mg base 3 "marks_from" ["data"] (zA8 K zFf))(O3:Ok P w K mg base 4 "marks_end" ["data"] (zA8 K zEh))(M:Ys P w K mg base 1 C ["self","width","height","points","lines","marks"] (zMW C "width" "height" "points" "lines" "marks"))(T:zK6 K mg C)
  (g1:yl mg "HEAD_SIZE" 20)(g2:yl mg "POINT_SIZE" 8)(g3:yl mg "LINE_SIZE" 4)(g4:yl mg "MARK_SIZE" 12)(mr:mg "range" = none):Ok P w K mg base 5 "told_by" ["data"] (zMX K):=by
 refine D.ok zBU (λvs H Q E h=>?_) (λf cdv A outer s H vs Q E hr h=>?_)
 .obtain⟨a,d,n,m,k,rfl,_⟩:=h;rfl
 .refine Wa λng=>?_
  obtain⟨a,d,n,m,k,rfl,hS,en,em,ek,hn,hm,hk,kk⟩:=h;refine ng ?_;have hr1:zn 1 _:=hr.mono (by decide);have hr2:zn 2 _:=hr.mono (by decide);have hr3:zn 3 _:=hr.mono (by decide);have el:zFe d=((20:Nat):Int)+((8:Nat):Int)*(n:Int):=by unfold zFe;rw[en];rfl
  have ef:zFf d=((20+8*n:Nat):Int)+((4:Nat):Int)*(m:Int):=by unfold zFf;rw[el,em];lia
  have ee:zEh d=((20+8*n+4*m:Nat):Int)+((12:Nat):Int)*(k:Int):=by unfold zEh;rw[ef,ek];lia
  refine⟨_,zF (YT (i:=1) (own:=[("place",4)]) rfl zBU.nd rfl rfl rfl (zBn rfl mr (zA (y8 g1) (zA (zR O1 hr2 (zA (pv 0) zC)) (zA (y8 g2) zC)))) (ZW (show zAg ["data","points","lines","marks","place"] (zI zAt) _ _=true by decide +kernel))
    (λ_ _ _ _ _=>zT (i:=4) zBU.nd rfl (Or.inl rfl)) (λ_ _ _ _ _=>YF) (λ_ _ _ _ _=>zR OP hr3 (zA (pv 0) (zA (pv 4) zC))))
   (zF (YT (i:=2) (own:=[("place",4)]) rfl zBU.nd rfl rfl rfl (zBn rfl mr (zA (zR O1 hr2 (zA (pv 0) zC)) (zA (zR O2 hr3 (zA (pv 0) zC)) (zA (y8 g3) zC)))) (ZW (show zAg ["data","points","lines","marks","place"] (zI zAt) _ _=true by decide +kernel))
    (λ_ _ _ _ _=>zT (i:=4) zBU.nd rfl (Or.inl rfl)) (λ_ _ _ _ _=>YF) (λ_ _ _ _ _=>zR OL hr2 (zA (pv 0) (zA (pv 4) zC))))
   (zF (YT (i:=3) (own:=[("place",4)]) rfl zBU.nd rfl rfl rfl (zBn rfl mr (zA (zR O2 hr3 (zA (pv 0) zC)) (zA (zR O3 hr (zA (pv 0) zC)) (zA (y8 g4) zC)))) (ZW (show zAg ["data","points","lines","marks","place"] (zI zAt) _ _=true by decide +kernel))
    (λ_ _ _ _ _=>zT (i:=4) zBU.nd rfl (Or.inl rfl)) (λ_ _ _ _ _=>YF) (λ_ _ _ _ _=>zR OM hr3 (zA (pv 0) (zA (pv 4) zC))))
   (zG (zS (zBt M hr2 T.mgC (zA (zR ON hr1 (zA (pv 0) (zA zL (zA zL zC)))) (zA (zR ON hr1 (zA (pv 0) (zA zL (zA zL zC)))) (zA (pv 1) (zA (pv 2) (zA (pv 3) zC)))))))))),?_⟩
  refine⟨_,rfl,a,d,rfl,hS,λH1 s1=>⟨_,_,_,n,rfl,(by rw[el];exact rgC (by decide) (by decide) (by lia) (by decide)),λL1 n1=>?_⟩⟩;refine zCt (λi H'=>zH H1 H'/\zl (Z7 K) H' L1 ((zBT (ptI d) 20 8 n).take i)) ⟨zQ (zH.refl H1) n1,_,zE,Za.nil⟩ ?_ ?_
  .rintro i H' hi ⟨s2,hl⟩;refine⟨rfl,?_⟩;refine⟨_,rfl,_,rfl,a,d,20+8*i,zGy (by lia),(s1.trans s2).seq hS,λH4 v s4 r=>?_⟩;exact zFi zCC n1 (by lia) hi s2 hl s4 r
  rintro H2 ⟨s2,hl1⟩;rw[WK (by rw[zFh];exact We _)] at hl1;have t2:=s1.trans s2;refine⟨_,rfl,a,d,rfl,t2.seq hS,λH3 s3=>⟨_,rfl,a,d,rfl,(t2.trans s3).seq hS,λH4 s4=>⟨_,_,_,m,rfl,(by rw[ef,el];exact rgC (lo:=20+8*n) (by decide) (by decide) (by lia) (by lia)),λL2 n2=>?_⟩⟩⟩;refine zCt (λi H'=>zH H4 H'/\zl RLn H' L2 ((zBT (lnI d) (20+8*n) 4 m).take i)) ⟨zQ (zH.refl H4) n2,_,zE,Za.nil⟩ ?_ ?_
  .rintro i H' hi ⟨s5,hl⟩;refine⟨rfl,?_⟩;refine⟨_,rfl,_,rfl,a,d,20+8*n+4*i,zGy (by rw[el];lia),(((t2.trans s3).trans s4).trans s5).seq hS,λH4 v s4 r=>?_⟩;exact zFi zCu n2 (by lia) hi s5 hl s4 r
  rintro H5 ⟨s5,hl2⟩;rw[WK (by rw[zFh];exact We _)] at hl2;have t5:=((t2.trans s3).trans s4).trans s5;refine⟨_,rfl,a,d,rfl,t5.seq hS,λH6 s6=>⟨_,rfl,a,d,rfl,(t5.trans s6).seq hS,λH7 s7=>⟨_,_,_,k,rfl,(by rw[ee,ef];exact rgC (lo:=20+8*n+4*m) (by decide) (by decide) (by lia) (by lia)),λL3 n3=>?_⟩⟩⟩;refine zCt (λi H'=>zH H7 H'/\zl (RMk K) H' L3 ((zBT (mkI d) (20+8*n+4*m) 12 k).take i)) ⟨zQ (zH.refl H7) n3,_,zE,Za.nil⟩ ?_ ?_
  .rintro i H' hi ⟨s8,hl⟩;refine⟨rfl,?_⟩;refine⟨_,rfl,_,rfl,a,d,20+8*n+4*m+12*i,zGy (by rw[ef];lia),(((t5.trans s6).trans s7).trans s8).seq hS,λH4 v s4 r=>?_⟩;exact zFi zE8 n3 (by lia) hi s8 hl s4 r
  rintro H8 ⟨s8,hl3⟩;rw[WK (by rw[zFh];exact We _)] at hl3;have t8:=((t5.trans s6).trans s7).trans s8;refine⟨_,rfl,a,d,4,4,rfl,t8.seq hS,λH9 s9=>⟨_,rfl,a,d,8,4,rfl,(t8.trans s9).seq hS,λH10 s10=>⟨_,rfl,_,rfl,_,rfl,?_⟩⟩⟩;intro x dx nx ndx nex;refine⟨x,dx,_,_,_,_,_,rfl,zE,λH11 hx k1=>⟨rfl,?_⟩⟩;have s11:=(s9.trans s10).trans (zH.made nx ndx k1);obtain⟨l1,l2,l3,l4,l5⟩:=zNo (v1:=.int (numAt d 4 4)) (v2:=.int (numAt d 8 4)) (v3:=.ref L1) (v4:=.ref L2) (v5:=.ref L3);refine kk H11 x (t8.trans s11) ⟨C,dx,_,L1,L2,L3,hx,T.cl,T.n0,T.n1,T.n2,T.n3,T.n4,l1,l2,l3,l4,l5,?_,?_,hl3.same zE8 s11⟩
  .exact hl1.same zCC ((((s3.trans s4).trans s5).trans ((s6.trans s7).trans s8)).trans s11)
  .exact hl2.same zCu (((s6.trans s7).trans s8).trans s11)
end
def prD (p:P2):PyData:=.tuple [.int p.1,.int p.2]
theorem zHX{K:Qf}{H:Hp}:∀ {vs:List V}{xs:List P2},Za RLn H vs xs->zB9 K H vs (xs.map prD)
|[],[],_=>.nil
|[],_::_,e=>by cases e.1
|_::_,[],e=>by cases e.1
|v::vs,x::xs,e=>by
  refine .cons ?_ (zHX ⟨Nat.succ.inj e.1,λj v' x' h1 h2=>e.2 (j+1) v' x' (by simpa using h1) (by simpa using h2)⟩);obtain⟨a,rfl,ha⟩:=e.2 0 v x rfl rfl;exact .tup (yJ.of ha) (.cons (.int _) (.cons (.int _) .nil))
theorem zJz:∀ xs:List P2,PyData.canLayAll0 (xs.map prD)=true
|[]=>rfl
|x::xs=>by
  rw[Wo];unfold PyData.canLayAll0;rw[zJz xs];rfl
theorem zJ0{p:P2}:∀ xs:List P2,((xs.map prD).any λy=>PyData.eqv y (prD p))=decide (p∈xs)
|[]=>rfl
|x::xs=>by
  rw[Wo,Xi,zJ0 xs,WB];simp only[prD,PyData.eqv,PyData.eqvAll,Xy,Vc,y9,yr,Wd,Vj];constructor
  .rintro (⟨h1,h2⟩|h)
   .exact .inl (Jn h1.symm h2.symm)
   .exact .inr h
  .rintro (rfl|h)
   .exact .inl ⟨rfl,rfl⟩
   .exact .inr h
def zPZ (K:Qf):R2:=λx y H Q=>∃ l vs p xs,RLn H x p/\y=.ref l/\zN K H l vs/\Za RLn H vs xs/\Q (.bl (!decide (p∈xs))) H
theorem zMY{X:Cx}(hu:X.A.units+64<cLine):Y5 X (compareOp .NotIn) (zPZ X.K):=by
 intro pins s σ H x y v u Q I rx ry h;obtain⟨l,vs,p,xs,⟨a,ex,ha⟩,ey,hq,he,q⟩:=h;subst ex ey;obtain⟨as,r1⟩:=Dp.reads I (prD p) (.ref a) v (.tup (yJ.of ha) (.cons (.int _) (.cons (.int _) .nil))) rx;obtain⟨bs,r2⟩:=Dp.reads I (.list (xs.map prD)) (.ref l) u (.lst hq (zHX he)) ry;refine SeqAt.notIn_list_reads r2 r1 (zJz xs) rfl ?_ ⟨.bl _,H,I,rfl,?_⟩
 .have:(prD p).depth=1:=rfl;rw[this];omega
 .rw[zJ0];exact q
def yX {α:Type}(g:Nat->α->Bool)(f:Nat->Int×Int):Nat->List α->Option (Int×Int)
|_,[]=>none
|i,x::xs=>if g i x=true then some (f i) else yX g f (i+1) xs
theorem Zd{α:Type}{g:Nat->α->Bool}{f:Nat->Int×Int}:∀ {l:List α}{k i:Nat}{x:α},(∀ j y,j<i->l[j]?=some y->g (k+j) y=false)->l[i]?=some x->g (k+i) x=true->yX g f k l=some (f (k+i))
|[],k,i,x,_,h,_=>by simp at h
|y::l,k,0,x,_,h,hg=>by
  have e:y=x:=by simpa using h
  subst e;unfold yX;rw[Wc (by simpa using hg)];rfl
|y::l,k,i+1,x,hb,h,hg=>by
  unfold yX;have h0:=hb 0 y (UZ _) rfl;rw[UB] at h0;rw[Wb (by rw[h0];decide),show k+(i+1)=k+1+i by omega];refine Zd (λj z hj hz=>?_) (by simpa using h) (by rw[show k+1+i=k+(i+1) by omega];exact hg);rw[show k+1+j=k+(j+1) by omega];exact hb (j+1) z (by omega) (by simpa using hz)
theorem Ze{α:Type}{g:Nat->α->Bool}{f:Nat->Int×Int}:∀ {l:List α}{k:Nat},(∀ j y,l[j]?=some y->g (k+j) y=false)->yX g f k l=none
|[],_,_=>rfl
|y::l,k,hb=>by
  unfold yX;have h0:=hb 0 y rfl;rw[UB] at h0;rw[Wb (by rw[h0];decide)];refine Ze λj z hz=>?_
  rw[show k+1+j=k+(j+1) by omega];exact hb (j+1) z (by simpa using hz)
section
variable {P:Program}{w:World}{K:Qf}{mg:Qm}{base:Heap}{C:Addr}
def zB3 (Z:Yg)(n:Int):Int:=20+8*(Z.pts.length:Int)+4*n
def zB4 (Z:Yg)(n:Int):Int:=zB3 Z (Z.lns.length:Int)+12*n
def zBV (K:Qf)(g:Yg->Int->Int):Sp:=λvs H Q _=>∃ (c:Addr) (Z:Yg) (n:Int),vs=[.ref c,.int n]/\Yt K H c Z/\Q (.int (g Z n)) H
theorem zPa:zO ["cartoon","number"] ["cartoon","number"] (zI zCV):=yE
theorem zPb(D:zV K mg "line_place" zCV ["cartoon","number"])(OP:Ok P w K mg base 1 "point_place" ["number"] zAv)(g2:yl mg "LINE_SIZE" 4)(ml:mg "len" = none):Ok P w K mg base 2 "line_place" ["cartoon","number"] (zBV K zB3):=by
 refine D.ok zPa (λvs H Q E h=>?_) (λf cdv A outer s H vs Q E hr h=>?_)
 .obtain⟨c,Z,n,rfl,_⟩:=h;rfl
 .obtain⟨c,Z,n,rfl,⟨Cc,dx,fs,pa,la,ma,h1,h2,h3,h4,h5,h6,h7,h8,h9,h10,h11,h12,⟨vs,hp,ep⟩,h14,h15⟩,k⟩:=h;refine⟨_,zG (zS (zk ZH (zR OP hr (zA (yH ml (zA (zP (pv 0) rfl) zC)) zC)) (zk YH (y8 g2) (pv 1)))),?_⟩;refine⟨_,rfl,c,Cc,dx,fs,_,rfl,h1,h2,h5,h10,pa,vs,rfl,.inl (zN.of hp),_,rfl,_,rfl,_,_,rfl,rfl,.inl ⟨by decide,by decide⟩,_,_,rfl,rfl,?_⟩;rw[ep.1];exact k
theorem zPc:zO ["cartoon","number"] ["cartoon","number"] (zI zCW):=yE
theorem zPd(D:zV K mg "mark_place" zCW ["cartoon","number"])(OL:Ok P w K mg base 2 "line_place" ["cartoon","number"] (zBV K zB3))(g2:yl mg "MARK_SIZE" 12)(ml:mg "len" = none):Ok P w K mg base 3 "mark_place" ["cartoon","number"] (zBV K zB4):=by
 refine D.ok zPc (λvs H Q E h=>?_) (λf cdv A outer s H vs Q E hr h=>?_)
 .obtain⟨c,Z,n,rfl,_⟩:=h;rfl
 .obtain⟨c,Z,n,rfl,CA,k⟩:=h;obtain⟨Cc,dx,fs,pa,la,ma,h1,h2,h3,h4,h5,h6,h7,h8,h9,h10,h11,h12,h13,⟨vs,hp,ep⟩,h15⟩:=id CA;refine⟨_,zG (zS (zk ZH (zR OL hr (zA (pv 0) (zA (yH ml (zA (zP (pv 0) rfl) zC)) zC))) (zk YH (y8 g2) (pv 1)))),?_⟩;refine⟨_,rfl,_,rfl,c,Cc,dx,fs,_,rfl,h1,h2,h6,h11,la,vs,rfl,.inl (zN.of hp),c,Z,_,rfl,CA,_,rfl,_,_,rfl,rfl,.inl ⟨by decide,by decide⟩,_,_,rfl,rfl,?_⟩;rw[ep.1];exact k
def zFj (Z:Yg)(i:Nat)(p:P2):Bool:=(decide (Z.wd<p.1)||decide (Z.hg<p.2))||(decide (0<i) && !(match Z.pts[i-1]? with |some q=>Yz p q|none=>true))
def r4 (Z:Yg):Option (Int×Int):=yX (zFj Z) (λi=>(4,20+8*(i:Int))) 0 Z.pts
def spJ (K:Qf)(C:Addr)(g:Yg->Option (Int×Int)):Sp:=λvs H Q E=>∃ (c:Addr) (Z:Yg),vs=[.ref c]/\Yt K H c Z/\Res C E H Q (g Z)
theorem zE9:zO ["cartoon","points","number","point"] ["cartoon"] (zI zBJ):=yE
theorem zPe(D:zV K mg "judge_points" zBJ ["cartoon"])(R:XR P w K mg base C)(OB:Ok P w K mg base 1 "is_behind" ["point","other"] (zEg K))(OP:Ok P w K mg base 1 "point_place" ["number"] zAv)(me:mg "enumerate" = none):Ym P w K mg base 3 "judge_points" ["cartoon"] (spJ K C r4):=by
 refine D.okN zE9 (λvs H Q E h=>?_) (λf cdv A outer s H vs Q E hr h=>?_)
 .obtain⟨c,Z,rfl,_⟩:=h;rfl
 .obtain⟨c,Z,rfl,CA,k⟩:=h;have hr1:zn 1 _:=hr.mono (by decide);refine Wa λng=>?_
  obtain⟨Cc,dx,fs,pa,la,ma,h1,h2,h3,h4,h5,h6,h7,h8,h9,h10,h11,h12,⟨pvs,hp,ep⟩,h14,h15⟩:=id CA;refine ng ?_
  refine⟨_,zF (za (i:=1) zE9.nd rfl (Or.inl rfl) (zP (pv 0) rfl))
   (zG (yF Vp rfl (YG rfl me (zA (pv 1) zC)) (Z1 rfl (zt (zT (i:=2) zE9.nd rfl (Or.inl rfl)) (zt (zT (i:=3) zE9.nd rfl (Or.inl rfl)) ZV)))
    (zF (zu (PW.pt (zCm (zj YJ (zP (pv 3) rfl) (zP (pv 0) rfl) (zZ _)) (zBj (zj YJ (zP (pv 3) rfl) (zP (pv 0) rfl) (zZ _))))) (zG (YB R hr (zA zL (zA (zR OP hr1 (zA (pv 2) zC)) zC)))) zc)
    (zG (zu (PW.pt (zBk (zj YJ (pv 2) zL (zZ _)) (zAo (Zq (yY (zR OB hr1 (zA (pv 3) (zA (zh zd (pv 1) (zk ZP (pv 2) zL) (λ_ _=>rfl)) zC)))))))) (zG (YB R hr (zA zL (zA (zR OP hr1 (zA (pv 2) zC)) zC)))) zc))))),?_⟩
  refine⟨_,rfl,c,Cc,dx,fs,_,rfl,h1,h2,h5,h10,?_⟩
  refine⟨_,rfl,pa,pvs,rfl,zN.of hp,Z4 (K:=K) (a:=pa) (xs:=pvs) (λi σ H'=>∃ v2 v3:Option V,σ=[some (.ref c),some (.ref pa),v2,v3]/\zH H H'/\∀ (j:Nat) (p:P2),j<i->Z.pts[j]?=some p->zFj Z (0+j) p=false)
   ⟨none,none,rfl,zH.refl H,λj z hj=>absurd hj (Vb _)⟩ (λi σ H' _ hh=>hh.elim λ_ hh=>hh.elim λ_ hh=>zN.of (hh.2.1 _ _ hp)) ?_ ?_⟩
  .rintro i y σ H' T hi ⟨v2,v3,rfl,s1,hno⟩ hT;have s2:zH H (upd H' T (.tup [.int (i:Nat),y])):=zQ s1 hT;obtain⟨p,hip,r⟩:=ep.get' hi;obtain⟨a,rfl,X⟩:=Z7.mono (yd.of s2) r;refine Wa λng=>?_
   obtain⟨C1,d1,f1,a1,a2,a3,a4,a5,a6⟩:=id X;refine ng ?_
   have hit:zFj Z (0+i) p=true->Rz C E H 4 (20+8*(i:Int)):=λhb=>by
    have e:=Zd (f:=λi=>((4:Int),20+8*(i:Int))) hno hip hb;unfold r4 at k;rw[e,WA] at k;exact k
   refine⟨T,_,rfl,yJ.of zE,rfl,_,_,rfl,_,_,rfl,rfl,?_⟩
   try dsimp only[Zc,Y1,Zj,Yo,YZ,Ya]
   show tOr _ _ _ _ _;refine zEP (λR h=>⟨_,rfl,a,C1,d1,_,_,rfl,a1,a2,a3,a5,_,rfl,c,Cc,dx,fs,_,rfl,s2 _ _ h1,h2,h3,h8,_,_,rfl,rfl,_,rfl,h⟩) (λ_ R h=>⟨_,rfl,a,C1,d1,_,_,rfl,a1,a2,a4,a6,_,rfl,c,Cc,dx,fs,_,rfl,s2 _ _ h1,h2,h4,h9,_,_,rfl,rfl,_,rfl,h⟩) (yA (λhb=>?_) λhb=>?_)
   .refine⟨_,rfl,_,rfl,_,_,rfl,Yf (hit ?_) s2⟩;unfold zFj;rw[hb];rfl
   .try dsimp only[Zc,Y1,Zj,Yo,YZ,Ya]
    show zEF _ _ _ _ _;refine zAq (c:=decide (0<i)) (d:=!(match Z.pts[i-1]? with |some q=>Yz p q|none=>true)) (λR h=>⟨_,rfl,_,_,rfl,rfl,_,rfl,?_⟩) (λhc R h=>?_) (yA (λhb2=>?_) λhb2=>?_)
    .rw[show decide ((i:Int)>0)=decide (0<i) by rw[Ws];omega];exact h
    .have hc':=WG hc
     have hlt:i-1<Z.pts.length:=by
      have:=(yG hip).1;omega
     have hq:Z.pts[i-1]?=some Z.pts[i-1]:=yQ hlt;generalize Z.pts[i-1]=q at hq;obtain⟨v,hv,r2⟩:=ep.get hq;obtain⟨b,rfl,Y⟩:=Z7.mono (yd.of s2) r2;rw[hq] at h;exact⟨_,rfl,_,rfl,_,rfl,_,_,rfl,rfl,pa,pvs,_,_,rfl,rfl,zN.of (s2 _ _ hp),y6 (j:=i-1) (by omega) hv,a,b,p,q,rfl,X,Y,_,rfl,h⟩
    .refine⟨_,rfl,_,rfl,_,_,rfl,Yf (hit ?_) s2⟩;unfold zFj;rw[WA,hb2,U7]
    .refine⟨some (.int (i:Nat)),some (.ref a),rfl,s2,λj q hj hq=>?_⟩;by_cases e:j=i
     .subst e;rw[hip] at hq;cases hq;unfold zFj;rw[WA,hb2,hb];rfl
     .exact hno j q (by omega) hq
  .rintro σ H' ⟨v2,v3,rfl,s1,hno⟩;unfold r4 at k;rw[Ze (λj y hy=>hno j y (by rw[ep.1];exact (yG hy).1) hy)] at k;exact k H' s1
def zFk (Z:Yg)(i:Nat)(l:P2):Bool:=(decide (l.2<=l.1)||decide ((Z.pts.length:Int)<=l.2))||(decide (0<i)&&(match Z.lns[i-1]? with |some q=>Ky.leI [l.1,l.2] [q.1,q.2]|none=>false))
def r5 (Z:Yg):Option (Int×Int):=yX (zFk Z) (λi=>(5,zB3 Z (i:Int))) 0 Z.lns
theorem zFA:zO ["cartoon","lines","number","line"] ["cartoon"] (zI zBz):=yE
theorem zPf(D:zV K mg "judge_lines" zBz ["cartoon"])(R:XR P w K mg base C)(OL:Ok P w K mg base 2 "line_place" ["cartoon","number"] (zBV K zB3))(me:mg "enumerate" = none)(ml:mg "len" = none):Ym P w K mg base 3 "judge_lines" ["cartoon"] (spJ K C r5):=by
 refine D.okN zFA (λvs H Q E h=>?_) (λf cdv A outer s H vs Q E hr h=>?_)
 .obtain⟨c,Z,rfl,_⟩:=h;rfl
 .obtain⟨c,Z,rfl,CA,k⟩:=h;have hr1:zn 1 _:=hr.mono (by decide);have hu:=hr.units;refine Wa λng=>?_
  obtain⟨Cc,dx,fs,pa,la,ma,h1,h2,h3,h4,h5,h6,h7,h8,h9,h10,h11,h12,⟨pvs,hp,ep⟩,⟨lvs,hl,el⟩,h15⟩:=id CA;refine ng ?_
  refine⟨_,zF (za (i:=1) zFA.nd rfl (Or.inl rfl) (zP (pv 0) rfl))
   (zG (yF Vp rfl (YG rfl me (zA (pv 1) zC)) (Z1 rfl (zt (zT (i:=2) zFA.nd rfl (Or.inl rfl)) (zt (zT (i:=3) zFA.nd rfl (Or.inl rfl)) ZV)))
    (zF (zu (PW.pt (zCm (zj zKW (zh zAz (pv 3) zL (λ_ _=>rfl)) (zh zAz (pv 3) zL (λ_ _=>rfl)) (zZ _)) (zBj (zj zKW (zh zAz (pv 3) zL (λ_ _=>rfl)) (yH ml (zA (zP (pv 0) rfl) zC)) (zZ _))))) (zG (YB R hr (zA zL (zA (zR OL hr (zA (pv 0) (zA (pv 2) zC))) zC)))) zc)
    (zG (zu (PW.pt (zBk (zj YJ (pv 2) zL (zZ _)) (zAo (zj (Ky.zQ4 (Yv (Us _ 64) hu)) (pv 3) (zh zd (pv 1) (zk ZP (pv 2) zL) (λ_ _=>rfl)) (zZ _))))) (zG (YB R hr (zA zL (zA (zR OL hr (zA (pv 0) (zA (pv 2) zC))) zC)))) zc))))),?_⟩
  refine⟨_,rfl,c,Cc,dx,fs,_,rfl,h1,h2,h6,h11,?_⟩
  refine⟨_,rfl,la,lvs,rfl,zN.of hl,Z4 (K:=K) (a:=la) (xs:=lvs) (λi σ H'=>∃ v2 v3:Option V,σ=[some (.ref c),some (.ref la),v2,v3]/\zH H H'/\∀ (j:Nat) (p:P2),j<i->Z.lns[j]?=some p->zFk Z (0+j) p=false)
   ⟨none,none,rfl,zH.refl H,λj z hj=>absurd hj (Vb _)⟩ (λi σ H' _ hh=>hh.elim λ_ hh=>hh.elim λ_ hh=>zN.of (hh.2.1 _ _ hl)) ?_ ?_⟩
  .rintro i y σ H' T hi ⟨v2,v3,rfl,s1,hno⟩ hT;have s2:zH H (upd H' T (.tup [.int (i:Nat),y])):=zQ s1 hT;obtain⟨p,hip,r⟩:=el.get' hi;obtain⟨a,rfl,X⟩:=RLn.mono (yd.of s2) r
   have hit:zFk Z (0+i) p=true->Rz C E H 5 (zB3 Z (i:Int)):=λhb=>by
    have e:=Zd (f:=λi=>((5:Int),zB3 Z (i:Int))) hno hip hb;unfold r5 at k;rw[e,WA] at k;exact k
   refine⟨T,_,rfl,yJ.of zE,rfl,_,_,rfl,_,_,rfl,rfl,?_⟩
   try dsimp only[Zc,Y1,Zj,Yo,YZ,Ya]
   show tOr _ _ _ _ _;refine zEP (c:=decide (p.2<=p.1)) (d:=decide ((Z.pts.length:Int)<=p.2)) (λR h=>⟨_,rfl,a,_,_,_,rfl,rfl,yJ.of X,rfl,_,rfl,a,_,_,_,rfl,rfl,yJ.of X,rfl,_,_,rfl,rfl,_,rfl,h⟩) (λ_ R h=>⟨_,rfl,a,_,_,_,rfl,rfl,yJ.of X,rfl,_,rfl,c,Cc,dx,fs,_,rfl,s2 _ _ h1,h2,h5,h10,pa,pvs,rfl,.inl (zN.of (s2 _ _ hp)),_,_,rfl,rfl,_,rfl,?_⟩) (yA (λhb=>?_) λhb=>?_)
   .rw[ep.1];exact h
   .refine⟨_,rfl,_,rfl,c,Z,_,rfl,CA.same s2,_,_,rfl,Yf (hit ?_) s2⟩;unfold zFk;rw[hb];rfl
   .try dsimp only[Zc,Y1,Zj,Yo,YZ,Ya]
    show zEF _ _ _ _ _;refine zAq (c:=decide (0<i)) (d:=(match Z.lns[i-1]? with |some q=>Ky.leI [p.1,p.2] [q.1,q.2]|none=>false)) (λR h=>⟨_,rfl,_,_,rfl,rfl,_,rfl,?_⟩) (λhc R h=>?_) (yA (λhb2=>?_) λhb2=>?_)
    .rw[show decide ((i:Int)>0)=decide (0<i) by rw[Ws];omega];exact h
    .have hc':=WG hc
     have hlt:i-1<Z.lns.length:=by
      have:=(yG hip).1;omega
     have hq:Z.lns[i-1]?=some Z.lns[i-1]:=yQ hlt;generalize Z.lns[i-1]=q at hq;obtain⟨v,hv,r2⟩:=el.get hq;obtain⟨b,rfl,Y⟩:=RLn.mono (yd.of s2) r2;rw[hq] at h;exact⟨_,rfl,_,rfl,_,rfl,_,_,rfl,rfl,la,lvs,_,_,rfl,rfl,zN.of (s2 _ _ hl),y6 (j:=i-1) (by omega) hv,a,b,[p.1,p.2],[q.1,q.2],rfl,rfl,yJ.of X,yJ.of Y,rfl,_,rfl,h⟩
    .refine⟨_,rfl,_,rfl,c,Z,_,rfl,CA.same s2,_,_,rfl,Yf (hit ?_) s2⟩;unfold zFk;rw[WA,hb2,U7]
    .refine⟨some (.int (i:Nat)),some (.ref a),rfl,s2,λj q hj hq=>?_⟩;by_cases e:j=i
     .subst e;rw[hip] at hq;cases hq;unfold zFk;rw[WA,hb2,hb];rfl
     .exact hno j q (by omega) hq
  .rintro σ H' ⟨v2,v3,rfl,s1,hno⟩;unfold r5 at k;rw[Ze (λj y hy=>hno j y (by rw[el.1];exact (yG hy).1) hy)] at k;exact k H' s1
end
theorem zFl{tc:TT}{tb t2:TS}{D:Y0}{σ:L2.St}{H:Hp}{c:Bool}(J:Hp->Prop)(hc:∀ R:Bool->Hp->Prop,R c H->tc σ H R)(hb:c=true->∀ D':Y0,(∀ H',J H'->D'.nx σ H')->tb D' σ H)(hn:c=false->J H)(h2:∀ H',J H'->t2 D σ H'):Yo (YZ tc tb Zj) t2 D σ H:=by
 refine hc _ (yA (λe=>hb e _ h2) λe=>h2 _ (hn e))
theorem zNp{tc:TT}{tb:TS}{D:Y0}{σ:L2.St}{H:Hp}{c:Bool}(J:Hp->Prop)(hc:∀ R:Bool->Hp->Prop,R c H->tc σ H R)(hb:c=true->∀ D':Y0,(∀ H',J H'->D'.nx σ H')->tb D' σ H)(hn:c=false->J H)(h2:∀ H',J H'->D.nx σ H'):YZ tc tb Zj D σ H:=by
 refine hc _ (yA (λe=>hb e _ h2) λe=>h2 _ (hn e))
theorem zAw{X:Cx}(K:Qf){e:Expr}{f:Str}{pos:Pos}{ta:TE}(he:PE X e ta)(hb:attributeBase e f X.env (eval e X.env)=eval e X.env:=by rfl)(hK:X.K=K:=by rfl):PE X (.Attribute e f pos) (zQb K ta f):=by
 subst hK;exact zP he hb
def Z8 (H0 H:Hp)(q:Addr)(ls:List (List Int)):Prop:=∃ as:List Addr,zH H0 H/\H0 q=none/\(∀ a∈as,H0 a=none)/\H q=some (.lst (as.map V.ref))/\as.Nodup/\q∉as/\as.length=ls.length/\∀ (j:Nat) (a:Addr) (l:List Int),as[j]?=some a->ls[j]?=some l->H a=some (.lst (l.map V.int))
def zA9 (H:Hp)(q:Addr)(ls:List (List Int)):Prop:=∃ as:List Addr,H q=some (.lst (as.map V.ref))/\as.length=ls.length/\∀ (j:Nat) (a:Addr) (l:List Int),as[j]?=some a->ls[j]?=some l->H a=some (.lst (l.map V.int))
theorem Z8.ok{H0 H:Hp}{q:Addr}{ls:List (List Int)}(h:Z8 H0 H q ls):zH H0 H/\zA9 H q ls:=let ⟨as,h1,_,_,h4,_,_,h7,h8⟩:=h;⟨h1,as,h4,h7,h8⟩
theorem zA9.same{H H':Hp}{q:Addr}{ls:List (List Int)}(h:zA9 H q ls)(s:zH H H'):zA9 H' q ls:=let ⟨as,h1,h2,h3⟩:=h;⟨as,s _ _ h1,h2,λj a l e1 e2=>s _ _ (h3 j a l e1 e2)⟩
theorem zA9.get{H:Hp}{q:Addr}{ls:List (List Int)}{j:Nat}{l:List Int}(h:zA9 H q ls)(e:ls[j]?=some l):∃ (as:List Addr) (a:Addr),H q=some (.lst (as.map V.ref))/\as[j]?=some a/\H a=some (.lst (l.map V.int)):=by
 obtain⟨as,h1,h2,h3⟩:=h;have hj:j<as.length:=by rw[h2];exact (yG e).1
 exact⟨as,as[j],h1,yQ hj,h3 j _ l (yQ hj) e⟩
theorem Z8.same{H0 H H':Hp}{q:Addr}{ls:List (List Int)}(h:Z8 H0 H q ls)(s:zH H H'):Z8 H0 H' q ls:=let ⟨as,h1,h2,h3,h4,h5,h6,h7,h8⟩:=h;⟨as,h1.trans s,h2,h3,s _ _ h4,h5,h6,h7,λj a l e1 e2=>s _ _ (h8 j a l e1 e2)⟩
theorem Z8.app{H0 H:Hp}{q:Addr}{ls:List (List Int)}{j:Nat}{l:List Int}(h:Z8 H0 H q ls)(e:ls[j]?=some l)(x:Int):∃ (as:List Addr) (a:Addr),H q=some (.lst (as.map V.ref))/\as[j]?=some a/\H a=some (.lst (l.map V.int))/\Z8 H0 (upd H a (.lst (l.map V.int++[.int x]))) q (ls.set j (l++[x])):=by
 obtain⟨as,h1,h2,h3,h4,h5,h6,h7,h8⟩:=h;have hj:j<as.length:=by rw[h7];exact (yG e).1
 have ha:as[j]?=some as[j]:=yQ hj;generalize as[j]=a at ha;have ma:a∈as:=ZM ha;refine⟨as,a,h4,ha,h8 j a l ha e,as,λb o eb=>?_,h2,h3,?_,h5,h6,by rw[VR];exact h7,λi b l' e1 e2=>?_⟩
 .rw[zD (zJ eb (h3 a ma))];exact h1 _ _ eb
 .rw[zD (λz=>h6 (by rw[z];exact ma))];exact h4
 .by_cases hi:i=j
  .subst hi;rw[ha] at e1;cases e1;rw[VF (by rw[<-h7];exact hj)] at e2;cases e2;rw[zE,Wq];rfl
  .rw[Ve (Ne.symm hi)] at e2
   have ne:b≠a:=λz=>by
    subst z;have i1:=(yG e1).1;exact hi ((List.getElem?_inj i1 h5).mp (e1.trans ha.symm))
   rw[zD ne];exact h8 i b l' e1 e2
def zIl (g:P2->Bool)(pts:List P2)(j:Nat):Bool:=match pts[j]? with
|some p=>g p
|none=>false
def ZD (g:P2->Bool)(pts:List P2)(i:Nat):List Int:=((List.range i).filter (zIl g pts)).map Int.ofNat
theorem zMZ{g:P2->Bool}{pts:List P2}{i:Nat}{p:P2}(h:pts[i]?=some p):ZD g pts (i+1)=if g p=true then ZD g pts i++[(i:Int)] else ZD g pts i:=by
 unfold ZD;have e:zIl g pts i=g p:=by unfold zIl;rw[h]
 rw[List.range_succ,XC,Wq];by_cases hg:g p=true
 .rw[Wc hg,Ut (by rw[e];exact hg)];rfl
 .rw[Wb hg,Uv (by rw[e];exact hg)];simp
theorem zIm{g:P2->Bool}{pts:List P2}{i:Nat}:(ZD g pts i).length<=i:=by
 unfold ZD;rw[zX];have:=XJ (zIl g pts) (List.range i);rw[VP] at this;exact this
def Z9 (Z:Yg)(i:Nat):List (List Int):=[ZD (λp=>decide (p.2=0)) Z.pts i,ZD (λp=>decide (p.2=Z.hg)) Z.pts i,ZD (λp=>decide (p.1=0)) Z.pts i,ZD (λp=>decide (p.1=Z.wd)) Z.pts i]
def zCe (Z:Yg):Bool:=[0,Z.wd].all λx=>[0,Z.hg].all λy=>decide ((x,y)∈Z.pts)
section
variable {P:Program}{w:World}{K:Qf}{mg:Qm}{base:Heap}{C:Addr}
def zMa (K:Qf)(g:Yg->Bool):Sp:=λvs H Q _=>∃ (c:Addr) (Z:Yg),vs=[.ref c]/\Yt K H c Z/\Z.pts.length<10000/\∀ H',zH H H'->Q (.bl (g Z)) H'
theorem zDW:zO ["cartoon","places","x","y","point"] ["cartoon"] (zI zAc):=yE
theorem zPg(D:zV K mg "has_corners" zAc ["cartoon"]):Ok P w K mg base 1 "has_corners" ["cartoon"] (zMa K zCe):=by
 refine D.ok zDW (λvs H Q E h=>?_) (λf cdv A outer s H vs Q E hr h=>?_)
 .obtain⟨c,Z,rfl,_⟩:=h;rfl
 .obtain⟨c,Z,rfl,CA,hn,k⟩:=h;obtain⟨Cc,dx,fs,pa,la,ma,h1,h2,h3,h4,h5,h6,h7,h8,h9,h10,h11,h12,⟨pvs,hp,ep⟩,h14,h15⟩:=id CA
  refine⟨_,zF (YT (i:=1) (own:=[("point",4)]) rfl zDW.nd rfl rfl rfl (yt (zP (pv 0) rfl)) (ZW (show zAg ["cartoon","places","x","y","point"] (zI zAc) _ _=true by decide +kernel))
    (λ_ _ _ _ _=>zT (i:=4) zDW.nd rfl (Or.inl rfl)) (λ_ _ _ _ _=>YF) (λ_ _ _ _ _=>zAC (zA (zAw K (pv 4)) (zA (zAw K (pv 4)) zC))))
   (zF (yF Wt rfl (zH1 (zAC (zA zL (zA (zP (pv 0) rfl) zC)))) (zT (i:=2) zDW.nd rfl (Or.inl rfl))
    (zG (yF Wt rfl (zH1 (zAC (zA zL (zA (zP (pv 0) rfl) zC)))) (zT (i:=3) zDW.nd rfl (Or.inl rfl))
     (zG (zu (zj (zMY hr.units) (zAC (zA (pv 2) (zA (pv 3) zC))) (pv 1) rfl) (zG (zS yz)) zc)))))
   (zG (zS yz))),?_⟩
  refine⟨_,rfl,c,Cc,dx,fs,_,rfl,h1,h2,h5,h10,pa,rfl,⟨_,zN.of hp⟩,λL nL=>?_⟩;refine zAp (K:=K) (a:=pa) (xs:=pvs) (λi H'=>zH H H'/\zl RLn H' L (Z.pts.take i)) ⟨zQ (zH.refl H) nL,_,zE,Za.nil⟩ (λi H' _ hh=>zN.of (hh.1 _ _ hp)) ?_ ?_
  .rintro i y H' hi ⟨s1,vs,ev,qv⟩;obtain⟨p,hip,r⟩:=ep.get' hi;obtain⟨a,rfl,X⟩:=Z7.mono (yd.of s1) r;obtain⟨C1,d1,f1,a1,a2,a3,a4,a5,a6⟩:=id X;refine⟨rfl,?_⟩;refine⟨_,rfl,a,C1,d1,_,_,rfl,a1,a2,a3,a5,_,rfl,a,C1,d1,_,_,rfl,a1,a2,a4,a6,(by show 2<=sizeLine;decide),λt nt=>?_⟩;have ne:L≠t:=zJ ev nt;refine⟨vs,by rw[zD ne];exact ev,?_,λb o eb=>?_,?_⟩
   .rw[qv.1,WF];exact Yv (V7 _ _) (yR hn (by decide))
   .rw[zD (zJ eb nL),zD (zJ (s1 _ _ eb) nt)];exact s1 _ _ eb
   .rw[zv hip];exact zl.snoc zCu (by rw[zD ne];exact ev) (qv.mono λv x r=>zCu _ _ v x (yd.of (zQ (zH.refl H') nt)) r) ⟨t,rfl,zE⟩
  rintro H1 ⟨s1,vs,ev,qv⟩;rw[ep.1,WK (We _)] at qv;refine⟨_,rfl,c,Cc,dx,fs,_,rfl,s1 _ _ h1,h2,h3,h8,(by show 2<=sizeLine;decide),λt nt=>?_⟩;have s2:zH H1 (upd H1 t (.tup [.int 0,.int Z.wd])):=zQ (zH.refl H1) nt;refine⟨t,rfl,⟨_,yJ.of zE⟩,zGe (K:=K) (a:=t) (xs:=[0,Z.wd].map V.int) (λi σ H'=>∃ v2 v3 v4:Option V,σ=[some (.ref c),some (.ref L),v2,v3,v4]/\zH (upd H1 t (.tup [.int 0,.int Z.wd])) H'/\(([0,Z.wd]:List Int).take i).all (λx=>[0,Z.hg].all λy=>decide ((x,y)∈Z.pts))=true) ⟨_,_,_,rfl,zH.refl _,rfl⟩ (λi σ H' _ hh=>hh.elim λ_ hh=>hh.elim λ_ hh=>hh.elim λ_ hh=>yJ.of (hh.2.1 _ _ zE)) ?_ ?_⟩
  .rintro i y σ H' hi ⟨v2,v3,v4,rfl,s3,hall⟩;obtain⟨x,hx,rfl⟩:=yV hi;have s13:=s2.trans s3;refine⟨_,rfl,c,Cc,dx,fs,_,rfl,s13 _ _ (s1 _ _ h1),h2,h4,h9,(by show 2<=sizeLine;decide),λt2 nt2=>?_⟩;have s4:zH H' (upd H' t2 (.tup [.int 0,.int Z.hg])):=zQ (zH.refl H') nt2;refine⟨t2,rfl,⟨_,yJ.of zE⟩,zGe (K:=K) (a:=t2) (xs:=[0,Z.hg].map V.int) (λj σ H2=>∃ v3 v4:Option V,σ=[some (.ref c),some (.ref L),some (.int x),v3,v4]/\zH (upd H' t2 (.tup [.int 0,.int Z.hg])) H2/\(([0,Z.hg]:List Int).take j).all (λy=>decide ((x,y)∈Z.pts))=true) ⟨_,_,rfl,zH.refl _,rfl⟩ (λi σ H' _ hh=>hh.elim λ_ hh=>hh.elim λ_ hh=>yJ.of (hh.2.1 _ _ zE)) ?_ ?_⟩
   .rintro j y σ H2 hj ⟨v3,v4,rfl,s5,hall2⟩;obtain⟨yy,hy,rfl⟩:=yV hj;refine⟨_,rfl,_,rfl,(by show 2<=sizeLine;decide),λt3 nt3=>?_⟩;have s6:zH H1 (upd H2 t3 (.tup [.int x,.int yy])):=zQ ((s13.trans s4).trans s5) nt3;refine⟨_,rfl,L,vs,(x,yy),Z.pts,⟨t3,rfl,zE⟩,rfl,zN.of (s6 _ _ ev),qv.mono λv z r=>zCu _ _ v z (yd.of s6) r,_,rfl,yA (λhb=>?_) λhb=>?_⟩
    .rw[WE] at hb;refine ZF (k _ (s1.trans s6)) ?_;exact zBR (f:=λx=>[0,Z.hg].all λy=>decide ((x,y)∈Z.pts)) hx (zBR (f:=λy=>decide ((x,y)∈Z.pts)) hy hb)
    .rw[WD] at hb;exact⟨some (.int yy),v4,rfl,s5.trans (zQ (zH.refl H2) nt3),zAm hall2 hy hb⟩
   .rintro σ H2 ⟨v3,v4,rfl,s5,hall2⟩;exact⟨_,_,_,rfl,(s3.trans s4).trans s5,zAm hall hx hall2⟩
  .rintro σ H' ⟨v2,v3,v4,rfl,s3,hall⟩;exact ZF (k _ (s1.trans (s2.trans s3))) hall
def zOC (K:Qf):Sp:=λvs H Q _=>∃ (c:Addr) (Z:Yg),vs=[.ref c]/\Yt K H c Z/\Z.pts.length<10000/\∀ H' q,zH H H'->zA9 H' q (Z9 Z Z.pts.length)->Q (.ref q) H'
theorem zGT:zO ["cartoon","edges","number","point"] ["cartoon"] (zI zDy):=yE
theorem zRA(D:zV K mg "edges_of" zDy ["cartoon"])(me:mg "enumerate" = none):Ok P w K mg base 1 "edges_of" ["cartoon"] (zOC K):=by
 refine D.ok zGT (λvs H Q E h=>?_) (λf cdv A outer s H vs Q E hr h=>?_)
 .obtain⟨c,Z,rfl,_⟩:=h;rfl
 .obtain⟨c,Z,rfl,CA,hn,k⟩:=h;obtain⟨Cc,dx,fs,pa,la,ma,h1,h2,h3,h4,h5,h6,h7,h8,h9,h10,h11,h12,⟨pvs,hp,ep⟩,h14,h15⟩:=id CA
  refine⟨_,zF (za (i:=1) zGT.nd rfl (Or.inl rfl) (yZ (zA (yZ zC) (zA (yZ zC) (zA (yZ zC) (zA (yZ zC) zC))))))
   (zF (yF Wt rfl (YG rfl me (zA (zP (pv 0) rfl) zC)) (Z1 rfl (zt (zT (i:=2) zGT.nd rfl (Or.inl rfl)) (zt (zT (i:=3) zGT.nd rfl (Or.inl rfl)) ZV)))
    (zF (zu (zj zBX (zP (pv 3) rfl) zL (zZ _)) (zG (yK (YK Wy WM WL ZE (zh zd (pv 1) zL (λ_ _=>rfl)) (zA (pv 2) zC)))) zc)
    (zF (zu (zj zBX (zP (pv 3) rfl) (zP (pv 0) rfl) (zZ _)) (zG (yK (YK Wy WM WL ZE (zh zd (pv 1) zL (λ_ _=>rfl)) (zA (pv 2) zC)))) zc)
    (zF (zu (zj zBX (zP (pv 3) rfl) zL (zZ _)) (zG (yK (YK Wy WM WL ZE (zh zd (pv 1) zL (λ_ _=>rfl)) (zA (pv 2) zC)))) zc)
    (zG (zu (zj zBX (zP (pv 3) rfl) (zP (pv 0) rfl) (zZ _)) (zG (yK (YK Wy WM WL ZE (zh zd (pv 1) zL (λ_ _=>rfl)) (zA (pv 2) zC)))) zc))))))
   (zG (zS (pv 1)))),?_⟩
  refine⟨Ww _,λe0 n0=>⟨Ww _,λe1 n1=>⟨Ww _,λe2 n2=>⟨Ww _,λe3 n3=>⟨(by show 4<=sizeLine;decide),λq nq=>?_⟩⟩⟩⟩⟩
  have hd:[e0,e1,e2,e3].Nodup/\q∉[e0,e1,e2,e3]/\H e0=none/\H e1=none/\H e2=none/\H e3=none/\H q=none:=by
   have a1:e0≠e1:=zJ zE n1;have n1':H e1=none:=by rw[zD (Ne.symm a1)] at n1;exact n1
   have a2:e1≠e2:=zJ zE n2;rw[zD (Ne.symm a2)] at n2;have a3:e0≠e2:=zJ zE n2;have n2':H e2=none:=by rw[zD (Ne.symm a3)] at n2;exact n2
   have a4:e2≠e3:=zJ zE n3;rw[zD (Ne.symm a4)] at n3;have a5:e1≠e3:=zJ zE n3;rw[zD (Ne.symm a5)] at n3;have a6:e0≠e3:=zJ zE n3;have n3':H e3=none:=by rw[zD (Ne.symm a6)] at n3;exact n3
   have b3:e3≠q:=zJ zE nq;rw[zD (Ne.symm b3)] at nq;have b2:e2≠q:=zJ zE nq;rw[zD (Ne.symm b2)] at nq;have b1:e1≠q:=zJ zE nq;rw[zD (Ne.symm b1)] at nq;have b0:e0≠q:=zJ zE nq;rw[zD (Ne.symm b0)] at nq;refine⟨?_,?_,n0,n1',n2',n3',nq⟩
   .simp[a1,a2,a3,a4,a5,a6]
   .simp[Ne.symm b0,Ne.symm b1,Ne.symm b2,Ne.symm b3]
  obtain⟨hnd,hqn,m0,m1,m2,m3,mq⟩:=hd
  have L0:Z8 H (upd (upd (upd (upd (upd H e0 (.lst [])) e1 (.lst [])) e2 (.lst [])) e3 (.lst [])) q (.lst [.ref e0,.ref e1,.ref e2,.ref e3])) q (Z9 Z 0):=by
   simp only[Vu,Wd,U8,or_false,not_or,VY,not_false_eq_true,and_true] at hnd hqn;obtain⟨⟨a1,a2,a3⟩,⟨a4,a5⟩,a6⟩:=hnd;obtain⟨b0,b1,b2,b3⟩:=hqn;refine⟨[e0,e1,e2,e3],zQ (zQ (zQ (zQ (zQ (zH.refl H) n0) n1) n2) n3) nq,mq,?_,zE,?_,?_,rfl,?_⟩
   .intro a ha;simp only[Wd,U8,or_false] at ha;rcases ha with rfl|rfl|rfl|rfl <;> assumption
   .simp[a1,a2,a3,a4,a5,a6]
   .simp[b0,b1,b2,b3]
   .intro j a l e1' e2'
    match j,e1',e2' with
   |0,e1',e2'=>cases e1';cases e2';rw[zD (Ne.symm b0),zD a3,zD a2,zD a1,zE];rfl
   |1,e1',e2'=>cases e1';cases e2';rw[zD (Ne.symm b1),zD a5,zD a4,zE];rfl
   |2,e1',e2'=>cases e1';cases e2';rw[zD (Ne.symm b2),zD a6,zE];rfl
   |3,e1',e2'=>cases e1';cases e2';rw[zD (Ne.symm b3),zE];rfl
  generalize upd (upd (upd (upd (upd H e0 (.lst [])) e1 (.lst [])) e2 (.lst [])) e3 (.lst [])) q (.lst [.ref e0,.ref e1,.ref e2,.ref e3])=Hb at L0;have sb:=L0.ok.1
  refine⟨_,rfl,c,Cc,dx,fs,_,rfl,sb _ _ h1,h2,h5,h10,pa,pvs,rfl,zN.of (sb _ _ hp),Z4 (K:=K) (a:=pa) (xs:=pvs) (λi σ H'=>∃ v2 v3:Option V,σ=[some (.ref c),some (.ref q),v2,v3]/\Z8 H H' q (Z9 Z i))
   ⟨none,none,rfl,L0⟩ (λi σ H' _ hh=>hh.elim λ_ hh=>hh.elim λ_ hh=>zN.of (hh.2.ok.1 _ _ hp)) ?_ ?_⟩
  .rintro i y σ H' T hi ⟨v2,v3,rfl,L⟩ hT;obtain⟨p,hip,r⟩:=ep.get' hi;have il:i<10000:=VW (yG hip).1 hn;have La:Z8 H (upd H' T (.tup [.int (i:Nat),y])) q (Z9 Z i):=L.same (zQ (zH.refl H') hT);obtain⟨a,rfl,X0⟩:=r;refine⟨T,_,rfl,yJ.of zE,rfl,_,_,rfl,_,_,rfl,rfl,?_⟩
   have app:∀ (g:P2->Bool) (j:Nat) (ls:List (List Int)) (Hx:Hp) (R:Hp->Prop),Z8 H Hx q ls->ls[j]?=some (ZD g Z.pts i)->(∀ Hy,Z8 H Hy q (ls.set j (ZD g Z.pts i++[(i:Int)]))->R Hy)->
     ∃ (as:List Addr) (b:Addr) (vs:List V),Hx q=some (.lst (as.map V.ref))/\as[j]?=some b/\Hx b=some (.lst vs)/\vs.length<sizeLine/\R (upd Hx b (.lst (vs++[.int (i:Int)]))):=by
    intro g j ls Hx R hL he hk;obtain⟨as,b,x1,x2,x3,x4⟩:=hL.app he (i:Int);refine⟨as,b,_,x1,x2,x3,?_,hk _ x4⟩;rw[zX];exact Yv zIm (yR il (by decide))
   have stp:∀ g:P2->Bool,ZD g Z.pts (i+1)=if g p=true then ZD g Z.pts i++[(i:Int)] else ZD g Z.pts i:=λg=>zMZ hip
   have XX:∀ {Hx:Hp}{ls:List (List Int)},Z8 H Hx q ls->XY K Hx a p:=λhL=>X0.same hL.ok.1
   refine zFl (c:=decide (p.2=0)) (λHx=>Z8 H Hx q [ZD (λp=>decide (p.2=0)) Z.pts (i+1),ZD (λp=>decide (p.2=Z.hg)) Z.pts i,ZD (λp=>decide (p.1=0)) Z.pts i,ZD (λp=>decide (p.1=Z.wd)) Z.pts i]) (λR h=>?_) (λhc D' hD=>?_) (λhc=>?_) λHx1 Lx1=>?_
   .obtain⟨C1,d1,f1,a1,a2,a3,a4,a5,a6⟩:=XX La;exact⟨_,rfl,a,C1,d1,_,_,rfl,a1,a2,a4,a6,rfl,_,rfl,by rw[deq];exact h⟩
   .obtain⟨as,b,vs,x1,x2,x3,x4,x5⟩:=app (λp=>decide (p.2=0)) 0 _ _ (λHy=>D'.nx _ Hy) La rfl (λHy hy=>hD Hy (by rw[stp (λp=>decide (p.2=0)),Wc hc];exact hy));exact⟨_,rfl,q,_,_,_,rfl,rfl,zN.of x1,y6 (j:=0) rfl (map_some x2),.inl ⟨rfl,_,zN.of x3⟩,_,rfl,b,vs,_,rfl,rfl,x3,x4,x5⟩
   .rw[stp (λp=>decide (p.2=0)),Wb (by rw[hc];decide)];exact La
   refine zFl (c:=decide (p.2=Z.hg)) (λHx=>Z8 H Hx q [ZD (λp=>decide (p.2=0)) Z.pts (i+1),ZD (λp=>decide (p.2=Z.hg)) Z.pts (i+1),ZD (λp=>decide (p.1=0)) Z.pts i,ZD (λp=>decide (p.1=Z.wd)) Z.pts i]) (λR h=>?_) (λhc D' hD=>?_) (λhc=>?_) λHx2 Lx2=>?_
   .obtain⟨C1,d1,f1,a1,a2,a3,a4,a5,a6⟩:=XX Lx1;exact⟨_,rfl,a,C1,d1,_,_,rfl,a1,a2,a4,a6,_,rfl,c,Cc,dx,fs,_,rfl,Lx1.ok.1 _ _ h1,h2,h4,h9,rfl,_,rfl,by rw[deq];exact h⟩
   .obtain⟨as,b,vs,x1,x2,x3,x4,x5⟩:=app (λp=>decide (p.2=Z.hg)) 1 _ _ (λHy=>D'.nx _ Hy) Lx1 rfl (λHy hy=>hD Hy (by rw[stp (λp=>decide (p.2=Z.hg)),Wc hc];exact hy));exact⟨_,rfl,q,_,_,_,rfl,rfl,zN.of x1,y6 (j:=1) rfl (map_some x2),.inl ⟨rfl,_,zN.of x3⟩,_,rfl,b,vs,_,rfl,rfl,x3,x4,x5⟩
   .rw[stp (λp=>decide (p.2=Z.hg)),Wb (by rw[hc];decide)];exact Lx1
   refine zFl (c:=decide (p.1=0)) (λHx=>Z8 H Hx q [ZD (λp=>decide (p.2=0)) Z.pts (i+1),ZD (λp=>decide (p.2=Z.hg)) Z.pts (i+1),ZD (λp=>decide (p.1=0)) Z.pts (i+1),ZD (λp=>decide (p.1=Z.wd)) Z.pts i]) (λR h=>?_) (λhc D' hD=>?_) (λhc=>?_) λHx3 Lx3=>?_
   .obtain⟨C1,d1,f1,a1,a2,a3,a4,a5,a6⟩:=XX Lx2;exact⟨_,rfl,a,C1,d1,_,_,rfl,a1,a2,a3,a5,rfl,_,rfl,by rw[deq];exact h⟩
   .obtain⟨as,b,vs,x1,x2,x3,x4,x5⟩:=app (λp=>decide (p.1=0)) 2 _ _ (λHy=>D'.nx _ Hy) Lx2 rfl (λHy hy=>hD Hy (by rw[stp (λp=>decide (p.1=0)),Wc hc];exact hy));exact⟨_,rfl,q,_,_,_,rfl,rfl,zN.of x1,y6 (j:=2) rfl (map_some x2),.inl ⟨rfl,_,zN.of x3⟩,_,rfl,b,vs,_,rfl,rfl,x3,x4,x5⟩
   .rw[stp (λp=>decide (p.1=0)),Wb (by rw[hc];decide)];exact Lx2
   refine zNp (c:=decide (p.1=Z.wd)) (λHx=>Z8 H Hx q [ZD (λp=>decide (p.2=0)) Z.pts (i+1),ZD (λp=>decide (p.2=Z.hg)) Z.pts (i+1),ZD (λp=>decide (p.1=0)) Z.pts (i+1),ZD (λp=>decide (p.1=Z.wd)) Z.pts (i+1)]) (λR h=>?_) (λhc D' hD=>?_) (λhc=>?_) λHx4 Lx4=>?_
   .obtain⟨C1,d1,f1,a1,a2,a3,a4,a5,a6⟩:=XX Lx3;exact⟨_,rfl,a,C1,d1,_,_,rfl,a1,a2,a3,a5,_,rfl,c,Cc,dx,fs,_,rfl,Lx3.ok.1 _ _ h1,h2,h3,h8,rfl,_,rfl,by rw[deq];exact h⟩
   .obtain⟨as,b,vs,x1,x2,x3,x4,x5⟩:=app (λp=>decide (p.1=Z.wd)) 3 _ _ (λHy=>D'.nx _ Hy) Lx3 rfl (λHy hy=>hD Hy (by rw[stp (λp=>decide (p.1=Z.wd)),Wc hc];exact hy));exact⟨_,rfl,q,_,_,_,rfl,rfl,zN.of x1,y6 (j:=3) rfl (map_some x2),.inl ⟨rfl,_,zN.of x3⟩,_,rfl,b,vs,_,rfl,rfl,x3,x4,x5⟩
   .rw[stp (λp=>decide (p.1=Z.wd)),Wb (by rw[hc];decide)];exact Lx3
   exact⟨_,_,rfl,Lx4⟩
  .rintro σ H' ⟨v2,v3,rfl,L⟩;rw[ep.1] at L;exact⟨_,rfl,k H' q L.ok.1 L.ok.2⟩
end
def kPr (p:P2):List yD:=[.inl p.1,.inl p.2]
theorem zJ1{p q:P2}(h:kPr p=kPr q):p=q:=by
 unfold kPr at h;injection h with h1 h2
 injection h2 with h2 _
 injection h1 with h1
 injection h2 with h2
 exact Jn h1 h2
def zCf (l:List Int):List P2:=l.zip l.tail
def zD2 (m:P2->Bool)(l:List Int):Bool:=(zCf l).all m
theorem zMb{l:List Int}:(zCf l).length=l.length-1:=by
 unfold zCf;rw[Jh,List.length_tail];omega
theorem zNq{l:List Int}{i:Nat}(h:i<l.length-1):∃ x y,l[i]?=some x/\l[i+1]?=some y/\(zCf l)[i]?=some (x,y):=by
 have h1:i<l.length:=by omega
 have h2:i+1<l.length:=by omega
 refine⟨l[i],l[i+1],yQ h1,yQ h2,?_⟩;unfold zCf;rw[Xu];exact⟨yQ h1,by rw[List.getElem?_tail];exact yQ h2⟩
def RPd:Hp->V->P2->Prop:=λH v p=>∃ a t,v=.ref a/\H a=some (.tup [.ref t,.bl true])/\H t=some (.tup [.int p.1,.int p.2])
theorem zOD:Nm RPd:=λ_ _ _ _ s r=>let ⟨a,t,e,h1,h2⟩:=r;⟨a,t,e,s _ _ h1 (λxs z=>by cases z),s _ _ h2 λxs z=>by cases z⟩
theorem zHY{K:Qf}{H:Hp}:∀ {vs:List V}{xs:List P2},Za RPd H vs xs->∃ ps:List Addr,vs=ps.map V.ref/\Paired (λp (kv:List yD×V)=>∃ t,yJ K H p [.ref t,kv.2]/\H t=some (.tup (kv.1.map kV))) ps (xs.map λp=>(kPr p,V.bl true))
|[],[],_=>⟨[],rfl,.nil⟩
|[],_::_,e=>by cases e.1
|_::_,[],e=>by cases e.1
|v::vs,x::xs,e=>by
  obtain⟨ps,rfl,q⟩:=zHY (K:=K) (vs:=vs) (xs:=xs) ⟨Nat.succ.inj e.1,λj v' x' h1 h2=>e.2 (j+1) v' x' (by simpa using h1) (by simpa using h2)⟩;obtain⟨a,t,rfl,h1,h2⟩:=e.2 0 v x rfl rfl;exact⟨a::ps,rfl,.cons ⟨t,yJ.of h1,h2⟩ q⟩
theorem zHZ{k:List yD}:∀ (more kvs:List (List yD×V)),(ZB (Ky.Yx kvs more) k).isSome=((ZB kvs k).isSome||more.any λkv=>decide (kv.1=k))
|[],kvs=>by rw[List.any_nil,Bool.or_false];rfl
|p::r,kvs=>by
  show (ZB (Ky.Yx (YE kvs p.1 p.2) r) k).isSome=_;rw[zHZ r,zNG,Xi];by_cases e:k=p.1
  .rw[Wc e,WO e.symm];simp
  .rw[Wb e,WH (λz=>e z.symm),Xj]
theorem zJ2{p:P2}(xs:List P2):(ZB (Ky.Yx [] (xs.map λp=>(kPr p,V.bl true))) (kPr p)).isSome=decide (p∈xs):=by
 rw[zHZ,zNF,WB];simp only[Option.isSome_none,Xj,U4,Vn,Function.comp,yr];constructor
 .rintro⟨q,hq,e⟩;rw[<-zJ1 e];exact hq
 .exact λh=>⟨p,h,rfl⟩
def r6 (Z:Yg):Option (Int×Int):=if (zCe Z&&(Z9 Z Z.pts.length).all (zD2 λp=>decide (p∈Z.lns)))=true then none else some (6,20)
def Few (Z:Yg):Prop:=Z.pts.length<10000/\Z.lns.length<10000/\Z.mks.length<10000
section
variable {P:Program}{w:World}{K:Qf}{mg:Qm}{base:Heap}{C:Addr}
def zOE (K:Qf):Sp:=λvs H Q _=>∃ (e d:Addr) (l:List Int) (kvs:List (List yD×V)),vs=[.ref e,.ref d]/\zN K H e (l.map V.int)/\(∀ H',zH H H'->zN K H' e (l.map V.int))/\H d=some (.dT kvs)/\l.length<10000/\∀ H',zH H H'->Q (.bl (zD2 (λp=>(ZB kvs (kPr p)).isSome) l)) H'
theorem zMc:zO ["edge","joined","k"] ["edge","joined"] (zI zDF):=yE
theorem zRB(D:zV K mg "is_joined" zDF ["edge","joined"])(mr:mg "range" = none)(ml:mg "len" = none):Ok P w K mg base 1 "is_joined" ["edge","joined"] (zOE K):=by
 refine D.ok zMc (λvs H Q E h=>?_) (λf cdv A outer s H vs Q E hr h=>?_)
 .obtain⟨e,d,l,kvs,rfl,_⟩:=h;rfl
 .obtain⟨e,d,l,kvs,rfl,hS,hk,hd,hn,k⟩:=h
  refine⟨_,zF (yF Wt rfl (zHB rfl mr (zA zL (zA (yH ml (zA (pv 0) zC)) zC))) (zT (i:=2) zMc.nd rfl (Or.inl rfl))
    (zG (zu (zH0 (zL1 (zKj hr) (zAC (zA (zh zd (pv 0) (zk ZP (pv 2) zL) (λ_ _=>rfl)) (zA (zh zd (pv 0) (pv 2) (λ_ _=>rfl)) zC))) (pv 1)) rfl) (zG (zS yz)) zc)))
   (zG (zS yz)),?_⟩
  refine⟨_,rfl,e,_,rfl,.inl hS,1,_,rfl,⟨by decide,by decide,?_,?_⟩,zAB (lo:=1) (λi σ H'=>∃ v:Option V,σ=[some (.ref e),some (.ref d),v]/\zH H H'/\((zCf l).take i).all (λp=>(ZB kvs (kPr p)).isSome)=true) ⟨none,rfl,zH.refl H,rfl⟩ ?_ ?_⟩
  .rw[zX];omega
  .rw[zX];omega
  .rintro i σ H' hi ⟨v,rfl,s1,ha⟩;rw[zX] at hi;obtain⟨x,y,hx,hy,hp⟩:=zNq (l:=l) (i:=i) (by omega);refine⟨_,rfl,_,rfl,_,_,rfl,rfl,e,_,_,_,rfl,rfl,hk _ s1,y6 (j:=i) (by omega) (map_some hx),_,rfl,_,rfl,e,_,_,_,rfl,rfl,hk _ s1,y6 (j:=i+1) (by omega) (map_some hy),(by show 2<=sizeLine;decide),λt nt=>?_⟩;have s2:zH H (upd H' t (.tup [.int x,.int y])):=zQ s1 nt;refine⟨_,rfl,d,_,rfl,zCL.t (k:=kPr (x,y)) (s2 _ _ hd) zE,_,rfl,yA (λhb=>?_) λhb=>?_⟩
   .rw[WE] at hb;exact ZF (k _ s2) (zBR (f:=λp=>(ZB kvs (kPr p)).isSome) hp hb)
   .rw[WD] at hb;exact⟨_,rfl,s2,zAm ha hp hb⟩
  .rintro σ H' ⟨v,rfl,s1,ha⟩;rw[WK (by rw[zMb,zX];omega)] at ha;exact ZF (k _ s1) ha
def zLE (K:Qf)(C:Addr)(B:Yg->Prop)(g:Yg->Option (Int×Int)):Sp:=λvs H Q E=>∃ (c:Addr) (Z:Yg),vs=[.ref c]/\Yt K H c Z/\B Z/\Res C E H Q (g Z)
theorem Res.rz{E:XK}{H:Hp}{Q:VK}{o:Option (Int×Int)}{r p:Int}(k:Res C E H Q o)(e:o=some (r,p)):Rz C E H r p:=by
 subst e;exact k
theorem Res.go{E:XK}{H H':Hp}{Q:VK}{o:Option (Int×Int)}(k:Res C E H Q o)(e:o=none)(s:zH H H'):Q .non H':=by
 subst e;exact k _ s
theorem zDX:zO ["cartoon","joined","edge","line"] ["cartoon"] (zI zAd):=yE
theorem zPh(D:zV K mg "judge_frame" zAd ["cartoon"])(R:XR P w K mg base C)(OC:Ok P w K mg base 1 "has_corners" ["cartoon"] (zMa K zCe))(OE:Ok P w K mg base 1 "edges_of" ["cartoon"] (zOC K))(OJ:Ok P w K mg base 1 "is_joined" ["edge","joined"] (zOE K))
  (g0:yl mg "HEAD_SIZE" 20)(md:mg "dict" = none):Ym P w K mg base 3 "judge_frame" ["cartoon"] (zLE K C Few r6):=by
 refine D.okN zDX (λvs H Q E h=>?_) (λf cdv A outer s H vs Q E hr h=>?_)
 .obtain⟨c,Z,rfl,_⟩:=h;rfl
 .obtain⟨c,Z,rfl,CA,⟨hn,hm,_⟩,k⟩:=h;have hr1:zn 1 _:=hr.mono (by decide);have hu:=hr.units;refine Wa λng=>?_
  obtain⟨Cc,dx,fs,pa,la,ma,h1,h2,h3,h4,h5,h6,h7,h8,h9,h10,h11,h12,⟨pvs,hp,ep⟩,⟨lvs,hl,el⟩,h15⟩:=id CA;refine ng ?_
  refine⟨_,zF (zu (Zq (yY (zR OC hr1 (zA (pv 0) zC)))) (zG (YB R hr (zA zL (zA (y8 g0) zC)))) zc)
   (zF (za (i:=1) zDX.nd rfl (Or.inl rfl) (zHJ (Ky.zKw (Yv (Nat.add_le_add_left (by decide) _) hu) rfl) rfl md PyProof.Rows.boot_dict (zA (zKf (own:=[("line",3)]) rfl zDX.nd (yt (zP (pv 0) rfl)) (ZW (show zAg ["cartoon","joined","edge","line"] (zI zAd) _ _=true by decide +kernel))
    (λ_ _ _ _ _=>zT (i:=3) zDX.nd rfl (Or.inl rfl)) (λ_ _ _ _ _=>YF) (λ_ _ _ _ _=>zAC (zA (pv 3) (zA yz zC)))) zC)))
   (zG (yF Vp rfl (yt (zR OE hr1 (zA (pv 0) zC))) (zT (i:=2) zDX.nd rfl (Or.inl rfl))
    (zG (zu (Zq (yY (zR OJ hr1 (zA (pv 2) (zA (pv 1) zC))))) (zG (YB R hr (zA zL (zA (y8 g0) zC)))) zc))))),?_⟩
  refine⟨_,rfl,c,Z,rfl,CA,hn,λH1 s1=>⟨_,rfl,yA (λhb=>?_) λhb=>?_⟩⟩
  .rw[WE] at hb;exact⟨_,_,rfl,Yf (k.rz (by unfold r6;rw[hb];rfl)) s1⟩
  rw[WD] at hb;refine⟨_,rfl,c,Cc,dx,fs,_,rfl,s1 _ _ h1,h2,h6,h11,la,rfl,⟨_,zN.of (s1 _ _ hl)⟩,λL nL=>?_⟩;refine zAp (K:=K) (a:=la) (xs:=lvs) (λi H'=>zH H1 H'/\zl RPd H' L (Z.lns.take i)) ⟨zQ (zH.refl H1) nL,_,zE,Za.nil⟩ (λi H' _ hh=>zN.of (hh.1 _ _ (s1 _ _ hl))) ?_ ?_
  .rintro i y H' hi ⟨s2,vs,ev,qv⟩;obtain⟨p,hip,r⟩:=el.get' hi;obtain⟨a,rfl,X⟩:=RLn.mono (yd.of (s1.trans s2)) r;refine⟨rfl,?_⟩;refine⟨_,rfl,(by show 2<=sizeLine;decide),λt nt=>?_⟩;have ne:L≠t:=zJ ev nt;have s3:zH H' (upd H' t (.tup [.ref a,.bl true])):=zQ (zH.refl H') nt;refine⟨vs,by rw[zD ne];exact ev,?_,λb o eb=>?_,?_⟩
   .rw[qv.1,WF];exact Yv (V7 _ _) (yR hm (by decide))
   .rw[zD (zJ eb nL),zD (zJ (s2 _ _ eb) nt)];exact s2 _ _ eb
   .rw[zv hip];exact zl.snoc zOD (by rw[zD ne];exact ev) (qv.mono λv x r=>zOD _ _ v x (yd.of s3) r) ⟨t,a,rfl,zE,s3 _ _ X⟩
  rintro H2 ⟨s2,vs,ev,qv⟩;rw[el.1,WK (We _)] at qv;obtain⟨ps,rfl,qp⟩:=zHY (K:=K) qv;refine⟨L,ps,_,rfl,zN.of ev,qp,λd nd=>?_⟩;have s3:zH H (upd H2 d (.dT (Ky.Yx [] (Z.lns.map λp=>(kPr p,V.bl true))))):=zQ (s1.trans s2) nd;refine⟨_,rfl,c,Z,rfl,CA.same s3,hn,λH4 q s4 LO=>?_⟩;obtain⟨as,hq,hal,hat⟩:=id LO;refine⟨q,rfl,⟨_,zN.of hq⟩,Zl (K:=K) (a:=q) (xs:=as.map V.ref) (λi σ H'=>∃ v2 v3:Option V,σ=[some (.ref c),some (.ref d),v2,v3]/\zH H4 H'/\((Z9 Z Z.pts.length).take i).all (zD2 λp=>decide (p∈Z.lns))=true) ⟨none,none,rfl,zH.refl _,rfl⟩ (λi σ H' _ hh=>hh.elim λ_ hh=>hh.elim λ_ hh=>zN.of (hh.2.1 _ _ hq)) ?_ ?_⟩
  .rintro i y σ H' hi ⟨v2,v3,rfl,s5,ha⟩;obtain⟨a,hia,rfl⟩:=yV hi;have hil:i<(Z9 Z Z.pts.length).length:=by rw[<-hal];exact (yG hia).1
   have he:(Z9 Z Z.pts.length)[i]?=some (Z9 Z Z.pts.length)[i]:=yQ hil
   have hlen:(Z9 Z Z.pts.length)[i].length<10000:=by
    have hm:=XQ hil;unfold Z9 at hm;simp only[Wd,U8,or_false] at hm;rcases hm with e|e|e|e <;> (rw[show (Z9 Z Z.pts.length)[i]=_ from e];exact Yv zIm hn)
   generalize (Z9 Z Z.pts.length)[i]=l at he hlen;have hl4:=hat i a l hia he;refine⟨_,rfl,_,rfl,a,d,l,_,rfl,zN.of (s5 _ _ hl4),λHx sx=>zN.of (sx _ _ (s5 _ _ hl4)),s5 _ _ (s4 _ _ zE),hlen,λH6 s6=>⟨_,rfl,yA (λhb2=>?_) λhb2=>?_⟩⟩
   .rw[WE] at hb2;simp only[zJ2] at hb2;refine⟨_,_,rfl,Yf (k.rz ?_) (s3.trans (s4.trans (s5.trans s6)))⟩;unfold r6;rw[zBR (f:=zD2 λp=>decide (p∈Z.lns)) he hb2,Xo];rfl
   .rw[WD] at hb2;simp only[zJ2] at hb2;exact⟨_,_,rfl,s5.trans s6,zAm ha he hb2⟩
  .rintro σ H' ⟨v2,v3,rfl,s5,ha⟩;rw[zX,hal,WV] at ha;exact k.go (by unfold r6;rw[hb,ha];rfl) (s3.trans (s4.trans s5))
end
def ptA (pts:List P2)(i:Int):P2:=pts.getD i.toNat (0,0)
theorem zG0{pts:List P2}{j:Nat}{p:P2}(h:pts[j]?=some p):ptA pts (j:Int)=p:=by
 unfold ptA;rw[WS,WC,h];rfl
theorem zCI{K:Qf}{H:Hp}{vs:List V}{pts:List P2}(q:Za (Z7 K) H vs pts){i:Int}(h0:0<=i)(h1:i<pts.length):∃ b,atI vs i=some (.ref b)/\XY K H b (ptA pts i)/\ptA pts i∈pts:=by
 obtain⟨j,rfl⟩:=Uw h0;have hj:j<pts.length:=by lia
 have e:pts[j]?=some pts[j]:=yQ hj;obtain⟨v,hv,b,rfl,X⟩:=q.get e;refine⟨b,y6 (j:=j) rfl hv,?_,?_⟩
 .rw[zG0 e];exact X
 .rw[zG0 e];exact XQ hj
def zD3 {α:Type}(g:Nat->α->Bool)(l:List α):Bool:=l.zipIdx.any λx=>g x.2 x.1
theorem zMd{α:Type}{g:Nat->α->Bool}{l:List α}{i:Nat}{x:α}(h:l[i]?=some x)(hg:g i x=true):zD3 g l=true:=by
 unfold zD3;rw[Vn];refine⟨(x,i),ZM (i:=i) ?_,hg⟩;rw[List.getElem?_zipIdx,h];simp
theorem zLF{α:Type}{g:Nat->α->Bool}{l:List α}(h:∀ i x,l[i]?=some x->g i x=false):zD3 g l=false:=by
 unfold zD3;rw[List.any_eq_false];rintro⟨x,i⟩ hm;have:=VQ.mp hm;rw[h i x this];decide
def zG1 (n:Nat)(l:P2):Prop:=0<=l.1/\l.1<n/\0<=l.2/\l.2<n
def Sms (pts:List P2):Prop:=∀ p∈pts,Sm 1048576 p
def btw (pts:List P2)(l:P2)(i:Nat)(p:P2):Bool:=(!(decide (l.1=(i:Int))||decide (l.2=(i:Int))))&&onI p (ptA pts l.1) (ptA pts l.2)
def zFm (pts:List P2)(l m:P2):Bool:=zGQ (ptA pts l.1) (ptA pts l.2) (ptA pts m.1) (ptA pts m.2)
def zDK (Z:Yg)(i:Nat)(l:P2):Bool:=zD3 (btw Z.pts l) Z.pts||(Z.lns.take i).any (zFm Z.pts l)
def r7 (Z:Yg):Option (Int×Int):=yX (zDK Z) (λi=>(7,zB3 Z (i:Int))) 0 Z.lns
structure zNr(Z:Yg):Prop where
 few:Few Z
 sm:Sms Z.pts
 ln:∀ l∈Z.lns,zG1 Z.pts.length l
section
variable {P:Program}{w:World}{K:Qf}{mg:Qm}{base:Heap}{C:Addr}
def zOF (K:Qf):Sp:=λvs H Q _=>∃ (pa la:Addr) (pts:List P2) (l:P2),vs=[.ref pa,.ref la]/\zl (Z7 K) H pa pts/\H la=some (.tup [.int l.1,.int l.2])/\Sms pts/\zG1 pts.length l/\∀ H',zH H H'->Q (.bl (zD3 (btw pts l) pts)) H'
theorem zIn:zO ["points","line","number","point"] ["points","line"] (zI Y3):=yE
theorem zRC(D:zV K mg "has_point_between" Y3 ["points","line"])(OO:Ok P w K mg base 2 "is_on" ["r","p","q"] (zNi K))(me:mg "enumerate" = none):Ok P w K mg base 3 "has_point_between" ["points","line"] (zOF K):=by
 refine D.ok zIn (λvs H Q E h=>?_) (λf cdv A outer s H vs Q E hr h=>?_)
 .obtain⟨pa,la,pts,l,rfl,_⟩:=h;rfl
 .refine Wa λng=>?_
  obtain⟨pa,la,pts,l,rfl,⟨pvs,hp,ep⟩,hl,hs,⟨l1,l2,l3,l4⟩,k⟩:=h;refine ng ?_
  refine⟨_,zF (yF Wt rfl (YG rfl me (zA (pv 0) zC)) (Z1 rfl (zt (zT (i:=2) zIn.nd rfl (Or.inl rfl)) (zt (zT (i:=3) zIn.nd rfl (Or.inl rfl)) ZV)))
    (zG (zu (PW.pt (zBk (zj zH8 (pv 2) (pv 1) rfl) (zAo (yY (zR OO hr (zA (pv 3) (zA (zh zd (pv 0) (zh zAz (pv 1) zL (λ_ _=>rfl)) (λ_ _=>rfl)) (zA (zh zd (pv 0) (zh zAz (pv 1) zL (λ_ _=>rfl)) (λ_ _=>rfl)) zC)))))))) (zG (zS yz)) zc)))
   (zG (zS yz)),?_⟩
  refine⟨_,rfl,pa,pvs,rfl,zN.of hp,Z4 (K:=K) (a:=pa) (xs:=pvs) (λi σ H'=>∃ v2 v3:Option V,σ=[some (.ref pa),some (.ref la),v2,v3]/\zH H H'/\∀ (j:Nat) (p:P2),j<i->pts[j]?=some p->btw pts l j p=false)
   ⟨none,none,rfl,zH.refl H,λj z hj=>absurd hj (Vb _)⟩ (λi σ H' _ hh=>hh.elim λ_ hh=>hh.elim λ_ hh=>zN.of (hh.2.1 _ _ hp)) ?_ ?_⟩
  .rintro i y σ H' T hi ⟨v2,v3,rfl,s1,hno⟩ hT;have s2:zH H (upd H' T (.tup [.int (i:Nat),y])):=zQ s1 hT;obtain⟨p,hip,r⟩:=ep.get' hi;have hpm:=ZM hip;obtain⟨a,rfl,X⟩:=Z7.mono (yd.of s2) r;have ep2:=ep.mono λv x r=>Z7.mono (yd.of s2) r
   obtain⟨b1,e1,X1,m1⟩:=zCI ep2 l1 l2;obtain⟨b2,e2,X2,m2⟩:=zCI ep2 l3 l4;refine⟨T,_,rfl,yJ.of zE,rfl,_,_,rfl,_,_,rfl,rfl,?_⟩
   try dsimp only[Zc,Y1,Zj,Yo,YZ,Ya]
   show zEF _ _ _ _ _
   refine zAq (c:=!(decide (l.1=(i:Int))||decide (l.2=(i:Int)))) (d:=onI p (ptA pts l.1) (ptA pts l.2)) (λR h=>⟨_,rfl,_,rfl,la,_,rfl,.inr (yJ.of (s2 _ _ hl)),rfl,rfl,_,rfl,?_⟩)
    (λhc R h=>⟨_,rfl,_,rfl,_,rfl,la,_,_,_,rfl,rfl,yJ.of (s2 _ _ hl),rfl,pa,pvs,_,_,rfl,rfl,zN.of (s2 _ _ hp),e1,_,rfl,_,rfl,la,_,_,_,rfl,rfl,yJ.of (s2 _ _ hl),rfl,pa,pvs,_,_,rfl,rfl,zN.of (s2 _ _ hp),e2,a,b1,b2,p,_,_,rfl,X,X1,X2,(hs _ hpm).mono (by decide),(hs _ m1).mono (by decide),(hs _ m2).mono (by decide),_,rfl,h⟩)
    (yA (λhb=>?_) λhb=>?_)
   .have e:inV (V.int (i:Nat)) [V.int l.1,V.int l.2]=(decide (l.1=(i:Int))||decide (l.2=(i:Int))):=by
     show ((l.1==((i:Nat):Int))||((l.2==((i:Nat):Int))||false))=_;rw[Bool.or_false,W7,W7]
    show R (!inV (V.int (i:Nat)) [V.int l.1,V.int l.2]) _;rw[e];exact h
   .exact ZF (k _ s2) (zMd (g:=btw pts l) hip hb)
   .refine⟨_,_,rfl,s2,λj q hj hq=>?_⟩;by_cases e:j=i
    .subst e;rw[hip] at hq;cases hq;exact hb
    .exact hno j q (by lia) hq
  .rintro σ H' ⟨v2,v3,rfl,s1,hno⟩;exact ZF (k _ s1) (zLF (g:=btw pts l) λj y hy=>hno j y (by rw[ep.1];exact (yG hy).1) hy)
def zOG (K:Qf):Sp:=λvs H Q _=>∃ (pa la oa:Addr) (pts:List P2) (l:P2) (ols:List P2),vs=[.ref pa,.ref la,.ref oa]/\zl (Z7 K) H pa pts/\H la=some (.tup [.int l.1,.int l.2])/\zl RLn H oa ols/\Sms pts/\zG1 pts.length l/\(∀ m∈ols,zG1 pts.length m)/\Q (.bl (ols.any (zFm pts l))) H
theorem zMe:zO ["points","line","others","other"] ["points","line","others"] (zI zCb):=yE
theorem zIo{α:Type}{f:α->Bool}{l:List α}{i:Nat}{x:α}(h:(l.take i).any f=false)(hx:l[i]?=some x)(hf:f x=false):(l.take (i+1)).any f=false:=by
 rw[zv hx,List.any_append,h,Xi,hf];rfl
theorem zJ3{α:Type}{f:α->Bool}{l:List α}{i:Nat}{x:α}(hx:l[i]?=some x)(hf:f x=true):l.any f=true:=Vn.mpr ⟨x,ZM hx,hf⟩
theorem zRD(D:zV K mg "is_crossed" zCb ["points","line","others"])(OX:Ok P w K mg base 2 "crosses" ["p","q","r","s"] (zJx K)):Ok P w K mg base 3 "is_crossed" ["points","line","others"] (zOG K):=by
 refine D.ok zMe (λvs H Q E h=>?_) (λf cdv A outer s H vs Q E hr h=>?_)
 .obtain⟨pa,la,oa,pts,l,ols,rfl,_⟩:=h;rfl
 .refine Wa λng=>?_
  obtain⟨pa,la,oa,pts,l,ols,rfl,⟨pvs,hp,ep⟩,hl,⟨ovs,ho,eo⟩,hs,⟨l1,l2,l3,l4⟩,hok,k⟩:=h;refine ng ?_
  refine⟨_,zF (yF Wt rfl (yt (pv 2)) (zT (i:=3) zMe.nd rfl (Or.inl rfl))
    (zG (zu (yY (zR OX hr (zA (zh zd (pv 0) (zh zAz (pv 1) zL (λ_ _=>rfl)) (λ_ _=>rfl)) (zA (zh zd (pv 0) (zh zAz (pv 1) zL (λ_ _=>rfl)) (λ_ _=>rfl)) (zA (zh zd (pv 0) (zh zAz (pv 3) zL (λ_ _=>rfl)) (λ_ _=>rfl)) (zA (zh zd (pv 0) (zh zAz (pv 3) zL (λ_ _=>rfl)) (λ_ _=>rfl)) zC)))))) (zG (zS yz)) zc)))
   (zG (zS yz)),?_⟩
  obtain⟨b1,e1,X1,m1⟩:=zCI ep l1 l2;obtain⟨b2,e2,X2,m2⟩:=zCI ep l3 l4;refine⟨_,rfl,oa,rfl,⟨_,zN.of ho⟩,Zl (K:=K) (a:=oa) (xs:=ovs) (λi σ H'=>∃ v:Option V,σ=[some (.ref pa),some (.ref la),some (.ref oa),v]/\H'=H/\(ols.take i).any (zFm pts l)=false) ⟨none,rfl,rfl,rfl⟩ (λi σ H' _ hh=>hh.elim λ_ hh=>by rw[hh.2.1];exact zN.of ho) ?_ ?_⟩
  .rintro i y σ H' hi ⟨v,rfl,rfl,ha⟩;obtain⟨m,him,b,rfl,hb⟩:=eo.get' hi;obtain⟨q1,q2,q3,q4⟩:=hok m (ZM him);obtain⟨b3,e3,X3,m3⟩:=zCI ep q1 q2;obtain⟨b4,e4,X4,m4⟩:=zCI ep q3 q4
   refine⟨_,rfl,_,rfl,la,_,_,_,rfl,rfl,yJ.of hl,rfl,pa,pvs,_,_,rfl,rfl,zN.of hp,e1,_,rfl,_,rfl,la,_,_,_,rfl,rfl,yJ.of hl,rfl,pa,pvs,_,_,rfl,rfl,zN.of hp,e2,
    _,rfl,_,rfl,b,_,_,_,rfl,rfl,yJ.of hb,rfl,pa,pvs,_,_,rfl,rfl,zN.of hp,e3,_,rfl,_,rfl,b,_,_,_,rfl,rfl,yJ.of hb,rfl,pa,pvs,_,_,rfl,rfl,zN.of hp,e4,
    b1,b2,b3,b4,_,_,_,_,rfl,X1,X2,X3,X4,hs _ m1,hs _ m2,hs _ m3,hs _ m4,_,rfl,yA (λhb=>?_) λhb=>?_⟩
   .exact ZF k (zJ3 (f:=zFm pts l) him hb)
   .exact⟨_,rfl,rfl,zIo ha him hb⟩
  .rintro σ H' ⟨v,rfl,rfl,ha⟩;rw[eo.1,WV] at ha;exact ZF k ha
theorem zDY:zO ["cartoon","points","before","number","line"] ["cartoon"] (zI zAP):=yE
theorem zPi(D:zV K mg "judge_crossings" zAP ["cartoon"])(R:XR P w K mg base C)(OB:Ok P w K mg base 3 "has_point_between" ["points","line"] (zOF K))(OX:Ok P w K mg base 3 "is_crossed" ["points","line","others"] (zOG K))
  (OL:Ok P w K mg base 2 "line_place" ["cartoon","number"] (zBV K zB3))(me:mg "enumerate" = none):Ym P w K mg base 4 "judge_crossings" ["cartoon"] (zLE K C zNr r7):=by
 refine D.okN zDY (λvs H Q E h=>?_) (λf cdv A outer s H vs Q E hr h=>?_)
 .obtain⟨c,Z,rfl,_⟩:=h;rfl
 .obtain⟨c,Z,rfl,CA,B,k⟩:=h;have hr2:zn 2 _:=hr.mono (by decide);obtain⟨hn,hm,_⟩:=B.few;refine Wa λng=>?_
  obtain⟨Cc,dx,fs,pa,la,ma,h1,h2,h3,h4,h5,h6,h7,h8,h9,h10,h11,h12,⟨pvs,hp,ep⟩,⟨lvs,hl,el⟩,h15⟩:=id CA;refine ng ?_
  refine⟨_,zF (za (i:=1) zDY.nd rfl (Or.inl rfl) (zP (pv 0) rfl)) (zF (za (i:=2) zDY.nd rfl (Or.inl rfl) (yZ zC))
   (zG (yF Vp rfl (YG rfl me (zA (zP (pv 0) rfl) zC)) (Z1 rfl (zt (zT (i:=3) zDY.nd rfl (Or.inl rfl)) (zt (zT (i:=4) zDY.nd rfl (Or.inl rfl)) ZV)))
    (zF (zu (PW.pt (zCm (yY (zR OB hr (zA (pv 1) (zA (pv 4) zC)))) (zBj (yY (zR OX hr (zA (pv 1) (zA (pv 4) (zA (pv 2) zC)))))))) (zG (YB R hr2 (zA zL (zA (zR OL hr2 (zA (pv 0) (zA (pv 3) zC))) zC)))) zc)
    (zG (yK (YK Wy WM WL ZE (pv 2) (zA (pv 4) zC)))))))),?_⟩
  refine⟨_,rfl,c,Cc,dx,fs,_,rfl,h1,h2,h5,h10,Ww _,λL nL=>?_⟩;have s0:zH H (upd H L (.lst [])):=zQ (zH.refl H) nL
  refine⟨_,rfl,c,Cc,dx,fs,_,rfl,s0 _ _ h1,h2,h6,h11,la,lvs,rfl,zN.of (s0 _ _ hl),Z4 (K:=K) (a:=la) (xs:=lvs) (λi σ H'=>∃ v3 v4:Option V,σ=[some (.ref c),some (.ref pa),some (.ref L),v3,v4]/\zH H H'/\zl RLn H' L (Z.lns.take i)/\∀ (j:Nat) (p:P2),j<i->Z.lns[j]?=some p->zDK Z (0+j) p=false)
   ⟨none,none,rfl,s0,⟨_,zE,Za.nil⟩,λj z hj=>absurd hj (Vb _)⟩ (λi σ H' _ hh=>hh.elim λ_ hh=>hh.elim λ_ hh=>zN.of (hh.2.1 _ _ hl)) ?_ ?_⟩
  .rintro i y σ H' T hi ⟨v3,v4,rfl,s1,LL,hno⟩ hT;have sT:zH H' (upd H' T (.tup [.int (i:Nat),y])):=zQ (zH.refl H') hT;have s2:zH H (upd H' T (.tup [.int (i:Nat),y])):=zQ s1 hT;obtain⟨l,hil,r⟩:=el.get' hi;have hlk:=B.ln l (ZM hil);obtain⟨a,rfl,X⟩:=RLn.mono (yd.of s2) r;refine⟨T,_,rfl,yJ.of zE,rfl,_,_,rfl,_,_,rfl,rfl,?_⟩;generalize hG:upd H' T (.tup [.int (i:Nat),.ref a])=Hg at s2 sT X;have LP:∀ {Hx:Hp},zH H Hx->zl (Z7 K) Hx pa Z.pts:=λsx=>zl.same zCC ⟨pvs,hp,ep⟩ sx
   refine⟨_,rfl,_,rfl,pa,a,Z.pts,l,rfl,LP s2,X,B.sm,hlk,λH3 s3=>?_⟩;have L3:zl RLn H3 L (Z.lns.take i):=LL.same zCu (sT.trans s3);have s23:=s2.trans s3;refine⟨_,rfl,?_⟩
   have fin:∀ b:Bool,b=zDK Z (0+i) l->(b=true->Rz C E H 7 (zB3 Z (i:Int)))/\(b=false->∀ (j:Nat) (p:P2),j<i+1->Z.lns[j]?=some p->zDK Z (0+j) p=false):=by
    intro b hb;subst hb;refine⟨λhb=>?_,λhb j q hj hq=>?_⟩
    .have e:=Zd (f:=λi=>((7:Int),zB3 Z (i:Int))) hno hil hb;rw[WA] at e;exact k.rz e
    .by_cases e:j=i
     .subst e;rw[hil] at hq;cases hq;exact hb
     .exact hno j q (by lia) hq
   have nx:zDK Z (0+i) l=false->∃ (vs:List V),H3 L=some (.lst vs)/\vs.length<sizeLine/\zH H (upd H3 L (.lst (vs++[.ref a])))/\zl RLn (upd H3 L (.lst (vs++[.ref a]))) L (Z.lns.take (i+1)):=by
    intro hb;obtain⟨vs,ev,qv⟩:=L3;refine⟨vs,ev,?_,λb o eb=>?_,?_⟩
    .rw[qv.1,WF];exact Yv (V7 _ _) (yR hm (by decide))
    .rw[zD (zJ eb nL)];exact s23 _ _ eb
    .rw[zv hil];exact zl.snoc zCu ev qv ⟨a,rfl,s3 _ _ X⟩
   refine yA (λhb=>?_) λhb=>?_
   .exact zGl ⟨_,rfl,_,rfl,c,Z,_,rfl,CA.same s23,_,_,rfl,Yf ((fin true (by unfold zDK;rw[hb];rfl)).1 rfl) s23⟩
   .refine⟨_,rfl,_,rfl,_,rfl,pa,a,L,Z.pts,l,_,rfl,LP s23,s3 _ _ X,L3,B.sm,hlk,λm hm=>B.ln m (XW hm),_,rfl,yA (λhb2=>?_) λhb2=>?_⟩
    .exact⟨_,rfl,_,rfl,c,Z,_,rfl,CA.same s23,_,_,rfl,Yf ((fin true (by unfold zDK;rw[hb,WA,hb2];rfl)).1 rfl) s23⟩
    .have hb3:zDK Z (0+i) l=false:=by unfold zDK;rw[hb,WA,hb2];rfl
     obtain⟨vs,x1,x2,x3,x4⟩:=nx hb3;exact⟨_,rfl,.inl ⟨rfl,_,zN.of x1⟩,_,rfl,L,vs,_,rfl,rfl,x1,x2,_,_,rfl,x3,x4,(fin false hb3.symm).2 rfl⟩
  .rintro σ H' ⟨v3,v4,rfl,s1,LL,hno⟩;refine k.go ?_ s1;exact Ze λj y hy=>hno j y (by rw[el.1];exact (yG hy).1) hy
end
def zq (p:Gla.Pt):P2:=((p.x:Int),(p.y:Int))
def Zf (l:Nat×Nat):P2:=((l.1:Int),(l.2:Int))
def cmk (m:Gla.Mark):P2×Int:=(zq m.at_,(m.painting:Int))
def ze (S:Gla.Plan):Yg:=⟨(S.w:Int),(S.h:Int),S.pts.map zq,S.lines.map Zf,S.marks.map cmk⟩
structure Yh(S:Gla.Plan):Prop where
 n:S.pts.length<10000
 n2:2<=S.pts.length
 m:S.lines.length<10000
 k:S.marks.length<10000
 sm:∀ p∈S.pts,p.x<=1048576/\p.y<=1048576
 ln:∀ l∈S.lines,l.1<l.2/\l.2<S.pts.length
theorem Yh.few{S:Gla.Plan}(B:Yh S):Few (ze S):=by
 unfold Few ze;simp only[zX];exact⟨B.n,B.m,B.k⟩
theorem Yh.car{S:Gla.Plan}(B:Yh S):zNr (ze S):=by
 refine⟨B.few,λp hp=>?_,λl hl=>?_⟩
 .obtain⟨q,hq,rfl⟩:=Wp.mp (show p∈S.pts.map zq from hp);have:=B.sm q hq;unfold Sm zq;simp only
  lia
 .obtain⟨q,hq,rfl⟩:=Wp.mp (show l∈S.lines.map Zf from hl);have:=B.ln q hq;show zG1 (S.pts.map zq).length (Zf q);rw[zX];unfold zG1 Zf;simp only
  lia
def YC (ls:List (Nat×Nat))(i:Nat):List Nat:=ls.filterMap λ(l:Nat×Nat)=>if l.1=i then some l.2 else if l.2=i then some l.1 else none
def yN (n:Nat)(ls:List (Nat×Nat)):List (List Nat):=(List.range n).map (YC ls)
def zAY (n:Nat)(ls:List (Nat×Nat)):List (List Int):=(yN n ls).map (List.map Int.ofNat)
theorem zEj{n i:Nat}{ls:List (Nat×Nat)}(h:i<n):(yN n ls)[i]?=some (YC ls i):=by
 unfold yN;rw[WQ,List.getElem?_range h];rfl
theorem zBv{n i:Nat}{ls:List (Nat×Nat)}(h:i<n):(zAY n ls)[i]?=some ((YC ls i).map Int.ofNat):=by
 unfold zAY;rw[WQ,zEj h];rfl
theorem zBA{n:Nat}{ls:List (Nat×Nat)}:(zAY n ls).length=n:=by
 unfold zAY yN;rw[zX,zX,VP]
theorem zMf{ls:List (Nat×Nat)}{i:Nat}:(YC ls i).length<=ls.length:=List.length_filterMap_le _ _
theorem zLG{ls:List (Nat×Nat)}{l:Nat×Nat}{i:Nat}:YC (ls++[l]) i=YC ls i++(if l.1=i then [l.2] else if l.2=i then [l.1] else []):=by
 unfold YC;rw[List.filterMap_append]
 congr 1
 by_cases h1:l.1=i
 .simp[h1]
 .by_cases h2:l.2=i
  .simp[h1,h2]
  .simp[h1,h2]
theorem zJR{n:Nat}{ls:List (Nat×Nat)}{l:Nat×Nat}(h1:l.1<l.2)(h2:l.2<n) :
  zAY n (ls++[l])=((zAY n ls).set l.1 ((YC ls l.1).map Int.ofNat++[(l.2:Int)])).set l.2 ((YC ls l.2).map Int.ofNat++[(l.1:Int)]):=by
 refine Uj λi=>?_
 by_cases hi:i<n
 .rw[zBv hi,zLG,Wq];by_cases e2:l.2=i
  .subst e2;rw[VF (by rw[VR,zBA];exact h2),Wb (by lia),Wc rfl];rfl
  .rw[Ve e2];by_cases e1:l.1=i
   .subst e1;rw[VF (by rw[zBA];lia),Wc rfl];rfl
   .rw[Ve e1,zBv hi,Wb e1,Wb e2,Xr,VU]
 .rw[Vq (by rw[zBA];lia),Vq (by rw[VR,VR,zBA];lia)]
theorem Z8.push{H0 H:Hp}{q a:Addr}{ls:List (List Int)}(h:Z8 H0 H q ls)(na:H a=none) :
  ∃ as:List Addr,H q=some (.lst (as.map V.ref))/\as.length=ls.length/\Z8 H0 (upd (upd H a (.lst [])) q (.lst (as.map V.ref++[.ref a]))) q (ls++[[]]):=by
 obtain⟨as,h1,h2,h3,h4,h5,h6,h7,h8⟩:=h;have qa:q≠a:=zJ h4 na;have n0:H0 a=none:=zAu h1 a na
 have aas:∀ b,b∈as->b≠a:=by
  intro b hb e;subst e;obtain⟨j,hj⟩:=WY hb;have hl:j<ls.length:=by rw[<-h7];exact (yG hj).1
  rw[h8 j b _ hj (yQ hl)] at na;cases na
 refine⟨as,h4,h7,as++[a],λb o eb=>?_,h2,?_,?_,?_,?_,by simp[h7],λj b l e1 e2=>?_⟩
 .rw[zD (zJ eb h2),zD (zJ eb n0)];exact h1 _ _ eb
 .intro b hb;rcases Wv.mp hb with hb|hb
  .exact h3 b hb
  .rw[Wl.mp hb];exact n0
 .rw[zE,Wq];rfl
 .rw[XE];refine⟨h5,by simp,λx hx y hy=>?_⟩;rw[Wl.mp hy];exact aas x hx
 .intro hb;rcases Wv.mp hb with hb|hb
  .exact h6 hb
  .exact qa (Wl.mp hb)
 .have bq:b≠q:=by
   intro e;subst e;rcases Wv.mp (ZM e1) with hb|hb
   .exact h6 hb
   .exact qa (Wl.mp hb)
  rw[zD bq];by_cases hj:j<as.length
  .rw[WP hj] at e1;rw[WP (by rw[<-h7];exact hj)] at e2;rw[zD (aas b (ZM e1))];exact h8 j b l e1 e2
  .have hj2:j=as.length:=by
    have:=(yG e1).1;rw[Wi,W6] at this
    lia
   subst hj2;rw[W5 (We _),Xa] at e1;rw[W5 (by lia),h7,Xa] at e2;cases e1;cases e2;rw[zE];rfl
section
variable {P:Program}{w:World}{K:Qf}{mg:Qm}{base:Heap}{C:Addr}
def zLH (K:Qf):Sp:=λvs H Q _=>∃ (c:Addr) (S:Gla.Plan),vs=[.ref c]/\Yt K H c (ze S)/\Yh S/\∀ H' q,zH H H'->zA9 H' q (zAY S.pts.length S.lines)->Q (.ref q) H'
theorem zEk:zO ["cartoon","neighbours","first","second","point"] ["cartoon"] (zI Y9):=yE
theorem zMg{n:Nat}:zAY n []=List.replicate n []:=by
 refine Uj λi=>?_
 by_cases hi:i<n
 .rw[zBv hi,V8,Wc hi];rfl
 .rw[Vq (by rw[zBA];lia),Vq (by rw[VH];lia)]
theorem zRE(D:zV K mg "neighbours_of" Y9 ["cartoon"]):Ok P w K mg base 1 "neighbours_of" ["cartoon"] (zLH K):=by
 refine D.ok zEk (λvs H Q E h=>?_) (λf cdv A outer s H vs Q E hr h=>?_)
 .obtain⟨c,S,rfl,_⟩:=h;rfl
 .obtain⟨c,S,rfl,CA,B,k⟩:=h;refine Wa λng=>?_
  obtain⟨Cc,dx,fs,pa,la,ma,h1,h2,h3,h4,h5,h6,h7,h8,h9,h10,h11,h12,⟨pvs,hp,ep⟩,⟨lvs,hl,el⟩,h15⟩:=id CA;refine ng ?_;have hpl:pvs.length=S.pts.length:=by rw[ep.1];exact zX ..
  have hll:lvs.length=S.lines.length:=by rw[el.1];exact zX ..
  refine⟨_,zF (YT (i:=1) (own:=[("point",4)]) rfl zEk.nd rfl rfl rfl (yt (zP (pv 0) rfl)) (ZW (show zAg ["cartoon","neighbours","first","second","point"] (zI Y9) _ _=true by decide +kernel))
    (λ_ _ _ _ _=>zT (i:=4) zEk.nd rfl (Or.inl rfl)) (λ_ _ _ _ _=>YF) (λ_ _ _ _ _=>yZ zC))
   (zF (yF Wt rfl (yt (zP (pv 0) rfl)) (Z1 rfl (zt (zT (i:=2) zEk.nd rfl (Or.inl rfl)) (zt (zT (i:=3) zEk.nd rfl (Or.inl rfl)) ZV)))
    (zF (yK (YK Wy WM WL ZE (zh zd (pv 1) (pv 2) (λ_ _=>rfl)) (zA (pv 3) zC)))
    (zG (yK (YK Wy WM WL ZE (zh zd (pv 1) (pv 3) (λ_ _=>rfl)) (zA (pv 2) zC))))))
   (zG (zS (pv 1)))),?_⟩
  refine⟨_,rfl,c,Cc,dx,fs,_,rfl,h1,h2,h5,h10,pa,rfl,⟨_,zN.of hp⟩,λL nL=>?_⟩;refine zAp (K:=K) (a:=pa) (xs:=pvs) (λi H'=>Z8 H H' L (List.replicate i [])) ⟨[],zQ (zH.refl H) nL,nL,λa ha=>(by cases ha),zE,VY,(by simp),rfl,λj a l e1=>(by simp at e1)⟩ (λi H' _ LA=>zN.of (LA.ok.1 _ _ hp)) ?_ ?_
  .rintro i y H' hi LA;refine⟨rfl,?_⟩;refine⟨Ww _,λa na=>?_⟩;obtain⟨as,e1,e2,e3⟩:=LA.push na;refine⟨_,by rw[zD (zJ e1 na)];exact e1,?_,?_⟩
   .rw[zX,e2,VH];have:=(yG hi).1;exact VW this (yR (by rw[hpl];exact B.n) (by decide))
   .rw[List.replicate_succ'];exact e3
  rintro H1 LA;rw[hpl,<-zMg] at LA;have s1:=LA.ok.1
  refine⟨_,rfl,c,Cc,dx,fs,_,rfl,s1 _ _ h1,h2,h6,h11,la,rfl,⟨_,zN.of (s1 _ _ hl)⟩,Zl (K:=K) (a:=la) (xs:=lvs) (λi σ H'=>∃ v2 v3 v4:Option V,σ=[some (.ref c),some (.ref L),v2,v3,v4]/\Z8 H H' L (zAY S.pts.length (S.lines.take i)))
   ⟨_,_,_,rfl,LA⟩ (λi σ H' _ hh=>hh.elim λ_ hh=>hh.elim λ_ hh=>hh.elim λ_ hh=>zN.of (hh.2.ok.1 _ _ hl)) ?_ ?_⟩
  .rintro i y σ H' hi ⟨v2,v3,v4,rfl,LA⟩;obtain⟨p,hip,r⟩:=el.get' hi;obtain⟨l,hil,rfl⟩:=yV (show (S.lines.map Zf)[i]?=some p from hip);have hlo:=B.ln l (ZM hil);obtain⟨a,rfl,X⟩:=RLn.mono (yd.of LA.ok.1) r
   have szn:∀ j,((YC (S.lines.take i) j).map Int.ofNat).length<sizeLine-1:=λj=>by
    rw[zX];refine Yv zMf ?_;rw[WF];exact Yv (V7 _ _) (yR B.m (by decide))
   have sz:∀ j,(((YC (S.lines.take i) j).map Int.ofNat).map V.int).length<sizeLine:=λj=>by
    rw[zX];exact yR (szn j) (Nat.sub_le _ _)
   obtain⟨as,b,x1,x2,x3,x4⟩:=LA.app (zBv (i:=l.1) (by lia)) ((l.2:Nat):Int)
   have hat2:((zAY S.pts.length (S.lines.take i)).set l.1 ((YC (S.lines.take i) l.1).map Int.ofNat++[((l.2:Nat):Int)]))[l.2]?=some ((YC (S.lines.take i) l.2).map Int.ofNat):=by
    rw[Ve (by lia)];exact zBv hlo.2
   obtain⟨as2,b2,y1,y2,y3,y4⟩:=x4.app hat2 ((l.1:Nat):Int);refine⟨a,_,rfl,yJ.of X,rfl,_,_,rfl,_,_,rfl,rfl,?_⟩;refine⟨_,rfl,_,rfl,L,_,_,_,rfl,rfl,zN.of x1,y6 (j:=l.1) rfl (map_some x2),.inl ⟨rfl,_,zN.of x3⟩,_,rfl,b,_,_,rfl,rfl,x3,sz _,?_⟩;refine⟨_,rfl,_,rfl,L,_,_,_,rfl,rfl,zN.of y1,y6 (j:=l.2) rfl (map_some y2),.inl ⟨rfl,_,zN.of y3⟩,_,rfl,b2,_,_,rfl,rfl,y3,sz _,?_⟩;refine⟨_,_,_,rfl,?_⟩;rw[zv hil,zJR hlo.1 hlo.2];exact y4
  .rintro σ H' ⟨v2,v3,v4,rfl,LA⟩;rw[hll,WV] at LA;exact⟨_,rfl,k _ _ LA.ok.1 LA.ok.2⟩
end
def zSR (K:Qf):V->List V->Hp->VK->Prop:=λx xs H Q=>∃ (a:Addr) (bs:List Bool),x=.ref a/\xs=[.bl true]/\zN K H a (bs.map V.bl)/\Q (.int (bs.count true:Nat)) H
theorem zHa{K:Qf}{H:Hp}:∀ bs:List Bool,zB9 K H (bs.map V.bl) (bs.map PyData.bool)
|[]=>.nil
|b::bs=>.cons (.bl b) (zHa bs)
theorem zJ4:∀ bs:List Bool,(bs.map PyData.bool).all Shape.bool.has=true
|[]=>rfl
|b::bs=>by
  rw[Wo,Xx,zJ4 bs];rfl
theorem zJ5:∀ bs:List Bool,countIn (.bool true) (bs.map PyData.bool)=(bs.count true:Nat)
|[]=>rfl
|b::bs=>by
  rw[Wo,countIn,zJ5 bs];cases b <;> simp[same] <;> lia
theorem zPj{X:Cx}:MtR X "list.count" (zSR X.K):=by
 intro pins s σ H x xs v us Q I rx rv h;obtain⟨a,bs,rfl,rfl,hs,q⟩:=h;cases rx;obtain⟨u,rfl,ru⟩:=rv.one;cases ru;obtain⟨its,r,hl,_⟩:=I.list hs;obtain⟨as,ra⟩:=Dp.readsAll I _ _ _ (zHa (K:=X.K) (H:=H) bs) r;refine count_list_bools hl.isList ra (zJ4 bs) ⟨.int _,H,I.tok _,⟨_,rfl⟩,?_⟩;rw[zJ5];exact q
def yU (lo:Int)(a:List Nat×List Bool)(j:Nat):List Nat×List Bool:=if (!decide ((j:Int)=lo) && !(a.2.getD j true))=true then (j::a.1,a.2.set j true) else a
def rgo (near:List (List Nat))(lo:Int):Nat->List Nat->List Bool->List Bool
|0,_,r=>r
|_+1,[],r=>r
|m+1,k::t,r=>rgo near lo m ((near.getD k []).foldl (yU lo) (t,r)).1 ((near.getD k []).foldl (yU lo) (t,r)).2
def ZJ (near:List (List Nat))(lo:Int)(s:Nat):List Bool:=rgo near lo (near.length+1) [s] ((List.replicate near.length false).set s true)
theorem zFB:∀ {r:List Bool}{j:Nat},r[j]?=some false->(r.set j true).count false+1=r.count false
|[],j,h=>by simp at h
|a::r,0,h=>by
  simp at h;subst h;simp
|a::r,j+1,h=>by
  have:=zFB (r:=r) (j:=j) (by simpa using h);cases a <;> simp <;> lia
theorem zHb{r:List Bool}{j:Nat}(h:j<r.length):r[j]?=some (r.getD j true):=by
 rw[WC,yQ h];rfl
structure zAS(n c:Nat)(a:List Nat×List Bool):Prop where
 len:a.2.length=n
 lt:∀ j∈a.1,j<n
 cnt:a.2.count false+a.1.length=c
theorem zAS.step{n c:Nat}{a:List Nat×List Bool}{lo:Int}{j:Nat}(I:zAS n c a)(h:j<n):zAS n c (yU lo a j):=by
 unfold yU;by_cases hc:(!decide ((j:Int)=lo) && !(a.2.getD j true))=true
 .rw[Wc hc];rw[y9,WE] at hc
  have hg:a.2[j]?=some false:=by
   rw[zHb (by rw[I.len];exact h)];have:=hc.2;rw[WE] at this;rw[this]
  refine⟨by rw[VR];exact I.len,λi hi=>?_,?_⟩
  .rcases Wd.mp hi with rfl|hi
   .exact h
   .exact I.lt i hi
  .have:=zFB hg;have:=I.cnt;rw[Wn];show (a.2.set j true).count false+(a.1.length+1)=c
   lia
 .rw[Wb hc];exact I
theorem zAS.fold{n c:Nat}{lo:Int}:∀ {l:List Nat}{a:List Nat×List Bool},zAS n c a->(∀ j∈l,j<n)->zAS n c (l.foldl (yU lo) a)
|[],_,I,_=>I
|j::l,a,I,h=>zAS.fold (l:=l) (I.step (h j Wm)) λi hi=>h i (Wg _ hi)
def zDZ (near:List (List Nat)):Prop:=near.length<10000/\∀ l∈near,∀ j∈l,j<near.length
def LLN (H:Hp)(q:Addr)(near:List (List Nat)):Prop:=zA9 H q (near.map (List.map Int.ofNat))
theorem zJ6{near:List (List Nat)}{lo:Int}(ok:zDZ near):∀ {m:Nat}{t:List Nat}{r:List Bool},r.length=near.length->(∀ j∈t,j<near.length)->(rgo near lo m t r).length=near.length
|0,_,_,h,_=>h
|_+1,[],_,h,_=>h
|m+1,k::t,r,h,ht=>by
  have hk:=ht k Wm
  have hm:near.getD k []∈near:=by
   rw[WC,yQ hk];exact XQ hk
  have I:zAS near.length (r.count false+t.length) ((near.getD k []).foldl (yU lo) (t,r)):=zAS.fold ⟨h,λj hj=>ht j (Wg _ hj),rfl⟩ (ok.2 _ hm);show (rgo near lo m ((near.getD k []).foldl (yU lo) (t,r)).1 ((near.getD k []).foldl (yU lo) (t,r)).2).length=_;exact zJ6 ok I.len I.lt
theorem zGU{near:List (List Nat)}{lo:Int}{s:Nat}(ok:zDZ near)(hs:s<near.length):(ZJ near lo s).length=near.length:=by
 refine zJ6 ok (by rw[VR,VH]) λj hj=>?_
 rw[Wl.mp hj];exact hs
section
variable {P:Program}{w:World}{K:Qf}{mg:Qm}{base:Heap}{C:Addr}
def zLI (K:Qf):Sp:=λvs H Q _=>∃ (s:Nat) (q:Addr) (lo:Int) (near:List (List Nat)),vs=[.int (s:Int),.ref q,.int lo]/\LLN H q near/\zDZ near/\s<near.length/\∀ H' R,zH H H'->H' R=some (.lst ((ZJ near lo s).map V.bl))->Q (.ref R) H'
theorem zDa:zO ["start","neighbours","left_out","reached","waiting","here","number","point"] ["start","neighbours","left_out"] (zI zAL):=yE
theorem zJ7{n j:Nat}(h:j<n):ixN n ((j:Nat):Int)=some j:=by
 unfold ixN;rw[Wc (Xc _),Wc (by lia),WS]
theorem zRF(D:zV K mg "reached_from" zAL ["start","neighbours","left_out"])(ml:mg "len" = none):Ok P w K mg base 1 "reached_from" ["start","neighbours","left_out"] (zLI K):=by
  refine D.ok zDa (λvs H Q E h=>?_) (λf cdv A outer s H vs Q E hr h=>?_)
  · obtain⟨s,q,lo,near,rfl,_⟩:=h
    rfl
  · obtain⟨st,q,lo,near,rfl,LO,NO,hst,k⟩:=h
    obtain⟨as,hq,hal,hat⟩:=id LO;rw[zX] at hal;have hn:=NO.1
    refine⟨_,zF (YT (i:=3) (own:=[("point",7)]) rfl zDa.nd rfl rfl rfl (yt (pv 1)) (ZW (show zAg ["start","neighbours","left_out","reached","waiting","here","number","point"] (zI zAL) _ _=true by decide +kernel))
        (λ_ _ _ _ _=>zT (i:=7) zDa.nd rfl (Or.inl rfl)) (λ_ _ _ _ _=>YF) (λ_ _ _ _ _=>yz))
      (zF (zLo yz (zLn (pv 3) (pv 0) zH6))
      (zF (za (i:=4) zDa.nd rfl (Or.inl rfl) (yZ (zA (pv 0) zC)))
      (zF (zDh Wt (zj YJ (yH ml (zA (pv 4) zC)) zL (zZ _))
        (zF (za (i:=5) zDa.nd rfl (Or.inl rfl) (zQg Wy PySem.F.slot_list_pop PySem.F.type_list_pop zQh (pv 4)))
        (zG (yF Wt rfl (yt (zh zd (pv 1) (pv 5) (λ_ _=>rfl))) (zT (i:=6) zDa.nd rfl (Or.inl rfl))
          (zG (zu (PW.pt (zBk (zj zDk (pv 6) (pv 2) (zZ _)) (zAo (Zq (yY (zh zd (pv 3) (pv 6) (λ_ _=>rfl)))))))
            (zF (zLo yz (zLn (pv 3) (pv 6) zH6)) (zG (yK (YK Wy WM WL ZE (pv 4) (zA (pv 6) zC))))) zc))))))
      (zG (zS (pv 3)))))),?_⟩
    refine⟨_,rfl,q,rfl,⟨_,zN.of hq⟩,λR nR=>?_⟩;refine zAp (K:=K) (a:=q) (xs:=as.map V.ref) (λi H'=>zH H H'/\H' R=some (.lst ((List.replicate i false).map V.bl))) ⟨zQ (zH.refl H) nR,zE⟩ (λi H' _ hh=>zN.of (hh.1 _ _ hq)) ?_ ?_
    · rintro i y H' hi ⟨s1,e1⟩
      refine⟨rfl,?_⟩;refine⟨_,e1,?_,λb o eb=>?_,?_⟩
      · rw[zX,VH]
        have:=(yG hi).1;rw[zX,hal] at this;exact VW this (yR hn (by decide))
      · rw[zD (zJ eb nR)]
        exact s1 _ _ eb
      · rw[zE,List.replicate_succ',Wq]
        rfl
    rintro H1 ⟨s1,e1⟩;rw[zX,hal] at e1;refine⟨_,rfl,_,rfl,R,_,_,st,rfl,rfl,e1,zJ7 (by rw[zX,VH];exact hst),?_⟩;have e2:((List.replicate near.length false).map V.bl).set st (.bl true)=((List.replicate near.length false).set st true).map V.bl:=by rw[List.map_set]
    rw[e2];refine⟨_,rfl,(by show 1<=sizeLine;decide),λT nT=>?_⟩
    have nT1:H1 T=none:=by
      have ne:T≠R:=λe=>by rw[e,zE] at nT;cases nT
      rw[zD ne] at nT;exact nT
    have nTR:T≠R:=λe=>by rw[e,zE] at nT;cases nT
    have hT0:H T=none:=zAu s1 T nT1
    have s2:zH H (upd (upd H1 R (.lst (((List.replicate near.length false).set st true).map V.bl))) T (.lst [.int (st:Int)])):=λb o eb=>by
      rw[zD (zJ eb hT0),zD (zJ eb nR)];exact s1 _ _ eb
    have sub:∀ {Hx:Hp},zH H Hx->∀ (Hy:Hp),(∀ b,b≠R->b≠T->Hy b=Hx b)->zH H Hy:=λsx Hy hy b o eb=>by
      rw[hy b (zJ eb nR) (zJ eb hT0)];exact sx _ _ eb
    refine⟨λm σ H'=>∃ (t:List Nat) (r:List Bool) (v5 v6 v7:Option V) (fu:Nat),σ=[some (.int (st:Int)),some (.ref q),some (.int lo),some (.ref R),some (.ref T),v5,v6,v7]/\zH H H'/\H' R=some (.lst (r.map V.bl))/\H' T=some (.lst ((t.reverse.map λ(j:Nat)=>V.int (j:Int))))/\zAS near.length m (t,r)/\m<=near.length/\m<fu/\rgo near lo fu t r=ZJ near lo st,
      ⟨((List.replicate near.length false).set st true).count false+1,[st],_,none,none,none,near.length+1,rfl,s2,by rw[zD (Ne.symm nTR),zE],zE,⟨by rw[VR,VH],λj hj=>by rw[Wl.mp hj];exact hst,rfl⟩,?_,?_,rfl⟩,?_⟩
    iterate 2
     · have h0:(List.replicate near.length false)[st]?=some false:=by rw[V8,Wc hst]
       have h1:=zFB h0;rw[List.count_replicate_self] at h1
       lia
    rintro m σ H' ⟨t,r,v5,v6,v7,fu,rfl,s3,hR,hT,I,hmn,hfu,hv⟩;refine⟨_,rfl,T,_,rfl,.inl (zN.of hT),_,_,rfl,rfl,_,rfl,yA (λhb=>?_) λhb=>?_⟩
    · match t,hT,I,hv with
     |[],hT,I,hv=>exact absurd hb (by decide)
     |kk::t,hT,I,hv=>
        match fu,hfu,hv with
       |fu+1,hfu,hv=>
        have hk:=I.lt kk Wm;have hgk:near.getD kk []=near[kk]:=by rw[WC,yQ hk];rfl
        have hmem:near.getD kk []∈near:=by rw[hgk];exact XQ hk
        have hlk:∀ j∈near.getD kk [],j<near.length:=NO.2 _ hmem;have hka:kk<as.length:=by rw[hal];exact hk
        have ha:=yQ hka;generalize as[kk]=a at ha
        have hla:H a=some (.lst (((near.getD kk []).map Int.ofNat).map V.int)):=by
          refine hat kk a _ ha ?_;rw[WQ,yQ hk,hgk];rfl
        have ecat:((kk::t).reverse.map λ(j:Nat)=>V.int (j:Int))=(t.reverse.map λ(j:Nat)=>V.int (j:Int))++[V.int (kk:Int)]:=by rw[U2,Wq];rfl
        rw[ecat] at hT;refine⟨λσ' H'=>∃ m',m'<m/\∃ (t:List Nat) (r:List Bool) (v5 v6 v7:Option V) (fu:Nat),σ'=[some (.int (st:Int)),some (.ref q),some (.int lo),some (.ref R),some (.ref T),v5,v6,v7]/\zH H H'/\H' R=some (.lst (r.map V.bl))/\H' T=some (.lst ((t.reverse.map λ(j:Nat)=>V.int (j:Int))))/\zAS near.length m' (t,r)/\m'<=near.length/\m'<fu/\rgo near lo fu t r=ZJ near lo st,λ_ _ h=>h,?_⟩;refine⟨_,rfl,.inl ⟨rfl,_,zN.of hT⟩,T,_,.int (kk:Int),rfl,rfl,hT,by simp,?_⟩;rw[List.dropLast_concat];have s4:zH H (upd H' T (.lst (t.reverse.map λ(j:Nat)=>V.int (j:Int)))):=sub s3 _ λb _ h2=>zD h2
        refine⟨_,rfl,_,rfl,q,_,_,_,rfl,rfl,zN.of (s4 _ _ hq),y6 (j:=kk) rfl (map_some ha),a,rfl,⟨_,zN.of (s4 _ _ hla)⟩,?_⟩;have I0:zAS near.length (r.count false+t.length) (t,r):=⟨I.len,λj hj=>I.lt j (Wg _ hj),rfl⟩
        have hcm:r.count false+t.length+1=m:=by
          have:=I.cnt;simp only[Wn] at this
          lia
        refine Zl (K:=K) (a:=a) (xs:=((near.getD kk []).map Int.ofNat).map V.int) (λi σ Hx=>∃ (v6 v7:Option V),σ=[some (.int (st:Int)),some (.ref q),some (.int lo),some (.ref R),some (.ref T),some (.int (kk:Int)),v6,v7]/\zH H Hx/\Hx R=some (.lst ((((near.getD kk []).take i).foldl (yU lo) (t,r)).2.map V.bl))/\Hx T=some (.lst ((((near.getD kk []).take i).foldl (yU lo) (t,r)).1.reverse.map λ(j:Nat)=>V.int (j:Int))))
          ⟨_,_,rfl,s4,by rw[zD (Ne.symm nTR)];exact hR,zE⟩ (λi σ Hx _ hh=>hh.elim λ_ hh=>hh.elim λ_ hh=>zN.of (hh.2.1 _ _ hla)) ?_ ?_
        · rintro i y σ Hx hi ⟨v6,v7,rfl,sx,xR,xT⟩
          rw[Vf] at hi;obtain⟨j,hij,rfl⟩:=yV hi;have hjn:=hlk j (ZM hij);have Ii:zAS near.length (r.count false+t.length) (((near.getD kk []).take i).foldl (yU lo) (t,r)):=zAS.fold I0 λx hx=>hlk x (XW hx)
          have efold:((near.getD kk []).take (i+1)).foldl (yU lo) (t,r)=yU lo (((near.getD kk []).take i).foldl (yU lo) (t,r)) j:=by rw[zv hij,XF];rfl
          rw[efold];generalize ((near.getD kk []).take i).foldl (yU lo) (t,r)=z at Ii xR xT;show zEF _ _ _ _ _;refine zAq (c:=!decide ((j:Int)=lo)) (d:=!(z.2.getD j true)) (λRr h=>⟨_,rfl,_,rfl,rfl,_,rfl,by show Rr (!decide (V.int (Int.ofNat j)=V.int lo)) _;rw[deq];exact h⟩) (λhc Rr h=>⟨_,rfl,_,rfl,R,_,_,_,rfl,rfl,zN.of xR,y6 (j:=j) rfl (map_some (zHb (by rw[Ii.len];exact hjn))),_,rfl,h⟩) (yA (λhb2=>?_) λhb2=>?_)
          · have ez:yU lo z j=(j::z.1,z.2.set j true):=by unfold yU;rw[Wc hb2]
            rw[ez];refine⟨_,rfl,_,rfl,R,_,_,j,rfl,rfl,xR,zJ7 (by rw[zX,Ii.len];exact hjn),?_⟩;have xT2:upd Hx R (.lst ((z.2.map V.bl).set j (.bl true))) T=some (.lst (z.1.reverse.map λ(j:Nat)=>V.int (j:Int))):=by rw[zD nTR];exact xT
            refine⟨_,rfl,.inl ⟨rfl,_,zN.of xT2⟩,_,rfl,T,_,_,rfl,rfl,xT2,?_,?_⟩
            · rw[zX,List.length_reverse]
              have h1:=Ii.cnt;have h4:z.1.length<=near.length:=by lia
              exact Yv h4 (yR hn (by decide))
            · refine⟨_,_,rfl,sub sx _ λb b1 b2=>by rw[zD b2,zD b1],?_,?_⟩
              · rw[zD (Ne.symm nTR),zE,List.map_set]
              · rw[zE,U2,Wq]
                rfl
          · have ez:yU lo z j=z:=by unfold yU;rw[Wb (by rw[hb2];decide)]
            rw[ez];exact⟨_,_,rfl,sx,xR,xT⟩
        · rintro σ Hx ⟨v6,v7,rfl,sx,xR,xT⟩
          rw[zX,zX,WV] at xR xT;have Ii:zAS near.length (r.count false+t.length) ((near.getD kk []).foldl (yU lo) (t,r)):=zAS.fold I0 hlk;exact⟨_,by lia,_,_,_,_,_,fu,rfl,sx,xR,xT,Ii,by lia,by lia,hv⟩
    · match t,hT,I,hv with
     |kk::t,hT,I,hv=>
        rw[U2,Wq,Wi] at hb;exact absurd (WJ hb) (by simp)
     |[],hT,I,hv=>
        match fu,hfu,hv with
       |fu+1,hfu,hv=>
          have e:r=ZJ near lo st:=hv;exact⟨_,rfl,k _ _ s3 (by rw[<-e];exact hR)⟩
end
def zD4 (r:Int)(i:Nat):Int×Int:=(r,20+8*(i:Int))
def r8 (near:List (List Nat)):Option (Int×Int):=yX (λ_ (l:List Nat)=>decide (l.length<2)) (zD4 8) 0 near
def r9 (near:List (List Nat)):Option (Int×Int):=yX (λ_ (b:Bool)=>!b) (zD4 9) 0 (ZJ near (-1) 0)
def zBf (near:List (List Nat))(i:Nat):Bool:=decide ((((ZJ near (i:Int) (if i=0 then 1 else 0)).count true:Nat):Int)<(near.length:Int)-1)
def r10 (near:List (List Nat)):Option (Int×Int):=yX (λi (_:List Nat)=>zBf near i) (zD4 10) 0 near
theorem Res.same{C:Addr}{E:XK}{H H':Hp}{Q:VK}{o:Option (Int×Int)}(k:Res C E H Q o)(s:zH H H'):Res C E H' Q o:=by
 cases o with
|none=>exact λHx sx=>k Hx (s.trans sx)
|some z=>exact Rz.same k s
theorem Res.seq{C:Addr}{E:XK}{H:Hp}{Q Q':VK}{a b:Option (Int×Int)}(k:Res C E H Q (a.or b))(h:a=none->∀ H',zH H H'->Res C E H' Q b->Q' .non H'):Res C E H Q' a:=by
 cases a with
|some z=>exact k
|none=>exact λH' s=>h rfl H' s (Res.same (o:=b) (by simpa using k) s)
section
variable {P:Program}{w:World}{K:Qf}{mg:Qm}{base:Heap}{C:Addr}
def zG2 (C:Addr)(g:List (List Nat)->Option (Int×Int)):Sp:=λvs H Q E=>∃ (q:Addr) (near:List (List Nat)),vs=[.ref q]/\LLN H q near/\zDZ near/\2<=near.length/\Res C E H Q (g near)
theorem zG3:zO ["neighbours","number","joined"] ["neighbours"] (zI zCc):=yE
theorem zPk(D:zV K mg "judge_ends" zCc ["neighbours"])(R:XR P w K mg base C)(OP:Ok P w K mg base 1 "point_place" ["number"] zAv)(me:mg "enumerate" = none)(ml:mg "len" = none):Ym P w K mg base 3 "judge_ends" ["neighbours"] (zG2 C r8):=by
 refine D.okN zG3 (λvs H Q E h=>?_) (λf cdv A outer s H vs Q E hr h=>?_)
 .obtain⟨q,near,rfl,_⟩:=h;rfl
 .obtain⟨q,near,rfl,LO,NO,h2,k⟩:=h;have hr1:zn 1 _:=hr.mono (by decide);obtain⟨as,hq,hal,hat⟩:=id LO;rw[zX] at hal
  refine⟨_,zG (yF Vp rfl (YG rfl me (zA (pv 0) zC)) (Z1 rfl (zt (zT (i:=1) zG3.nd rfl (Or.inl rfl)) (zt (zT (i:=2) zG3.nd rfl (Or.inl rfl)) ZV)))
    (zG (zu (zj YI (yH ml (zA (pv 2) zC)) zL (zZ _)) (zG (YB R hr (zA zL (zA (zR OP hr1 (zA (pv 1) zC)) zC)))) zc))),?_⟩
  refine⟨_,rfl,q,_,rfl,zN.of hq,Z4 (K:=K) (a:=q) (xs:=as.map V.ref) (λi σ H'=>∃ v1 v2:Option V,σ=[some (.ref q),v1,v2]/\zH H H'/\∀ (j:Nat) (l:List Nat),j<i->near[j]?=some l->decide (l.length<2)=false)
   ⟨none,none,rfl,zH.refl H,λj z hj=>absurd hj (Vb _)⟩ (λi σ H' _ hh=>hh.elim λ_ hh=>hh.elim λ_ hh=>zN.of (hh.2.1 _ _ hq)) ?_ ?_⟩
  .rintro i y σ H' T hi ⟨v1,v2,rfl,s1,hno⟩ hT;have s2:zH H (upd H' T (.tup [.int (i:Nat),y])):=zQ s1 hT;obtain⟨a,hia,rfl⟩:=yV hi;have hin:i<near.length:=by rw[<-hal];exact (yG hia).1
   have hl:=yQ hin;generalize near[i]=l at hl;have hla:=hat i a _ hia (map_some hl);refine⟨T,_,rfl,yJ.of zE,rfl,_,_,rfl,_,_,rfl,rfl,?_⟩;refine⟨_,rfl,a,_,rfl,.inl (zN.of (s2 _ _ hla)),_,_,rfl,rfl,_,rfl,?_⟩
   have e:decide (((((l.map Int.ofNat).map V.int).length:Nat):Int)<2)=decide (l.length<2):=by
    rw[zX,zX,Ws]
    lia
   rw[e];refine yA (λhb=>?_) λhb=>?_
   .have e:=Zd (g:=λ_ (l:List Nat)=>decide (l.length<2)) (f:=zD4 8) (k:=0) (λj y hj hy=>hno j y hj hy) hl hb;rw[WA] at e;exact⟨_,rfl,_,rfl,_,_,rfl,Yf (k.rz e) s2⟩
   .refine⟨_,_,rfl,s2,λj z hj hz=>?_⟩;by_cases e:j=i
    .subst e;rw[hl] at hz;cases hz;exact hb
    .exact hno j z (by lia) hz
  .rintro σ H' ⟨v1,v2,rfl,s1,hno⟩;rw[zX,hal] at hno;exact k.go (Ze λj y hy=>hno j y (yG hy).1 hy) s1
theorem zG4:zO ["neighbours","number","reached"] ["neighbours"] (zI zCd):=yE
theorem zPl(D:zV K mg "judge_ways" zCd ["neighbours"])(R:XR P w K mg base C)(OP:Ok P w K mg base 1 "point_place" ["number"] zAv)(OR:Ok P w K mg base 1 "reached_from" ["start","neighbours","left_out"] (zLI K))(gN:yl mg "NO_POINT" (-1))(me:mg "enumerate" = none):Ym P w K mg base 3 "judge_ways" ["neighbours"] (zG2 C r9):=by
 refine D.okN zG4 (λvs H Q E h=>?_) (λf cdv A outer s H vs Q E hr h=>?_)
 .obtain⟨q,near,rfl,_⟩:=h;rfl
 .obtain⟨q,near,rfl,LO,NO,h2,k⟩:=h;have hr1:zn 1 _:=hr.mono (by decide)
  refine⟨_,zG (yF Vp rfl (YG rfl me (zA (zR OR hr1 (zA zL (zA (pv 0) (zA (y8 gN) zC)))) zC)) (Z1 rfl (zt (zT (i:=1) zG4.nd rfl (Or.inl rfl)) (zt (zT (i:=2) zG4.nd rfl (Or.inl rfl)) ZV)))
    (zG (zu (Zq (yY (pv 2))) (zG (YB R hr (zA zL (zA (zR OP hr1 (zA (pv 1) zC)) zC)))) zc))),?_⟩
  refine⟨_,rfl,0,q,-1,near,rfl,LO,NO,by lia,λH1 L s1 hL=>?_⟩
  refine⟨L,_,rfl,zN.of hL,Z4 (K:=K) (a:=L) (xs:=(ZJ near (-1) 0).map V.bl) (λi σ H'=>∃ v1 v2:Option V,σ=[some (.ref q),v1,v2]/\zH H1 H'/\∀ (j:Nat) (b:Bool),j<i->(ZJ near (-1) 0)[j]?=some b->(!b)=false)
   ⟨none,none,rfl,zH.refl H1,λj z hj=>absurd hj (Vb _)⟩ (λi σ H' _ hh=>hh.elim λ_ hh=>hh.elim λ_ hh=>zN.of (hh.2.1 _ _ hL)) ?_ ?_⟩
  .rintro i y σ H' T hi ⟨v1,v2,rfl,s2,hno⟩ hT;have s3:zH H1 (upd H' T (.tup [.int (i:Nat),y])):=zQ s2 hT;obtain⟨b,hib,rfl⟩:=yV hi;refine⟨T,_,rfl,yJ.of zE,rfl,_,_,rfl,_,_,rfl,rfl,?_⟩;refine⟨_,rfl,_,rfl,yA (λhb=>?_) λhb=>?_⟩
   .have e:=Zd (g:=λ_ (b:Bool)=>!b) (f:=zD4 9) (k:=0) (λj y hj hy=>hno j y hj hy) hib hb;rw[WA] at e;exact⟨_,rfl,_,rfl,_,_,rfl,Yf (k.rz e) (s1.trans s3)⟩
   .refine⟨_,_,rfl,s3,λj z hj hz=>?_⟩;by_cases e:j=i
    .subst e;rw[hib] at hz;cases hz;exact hb
    .exact hno j z (by lia) hz
  .rintro σ H' ⟨v1,v2,rfl,s2,hno⟩;rw[zX] at hno;exact k.go (Ze λj y hy=>hno j y (yG hy).1 hy) (s1.trans s2)
theorem zG5:zO ["neighbours","number","start"] ["neighbours"] (zI zBL):=yE
theorem zPm(D:zV K mg "judge_joints" zBL ["neighbours"])(R:XR P w K mg base C)(OP:Ok P w K mg base 1 "point_place" ["number"] zAv)(OR:Ok P w K mg base 1 "reached_from" ["start","neighbours","left_out"] (zLI K))(mr:mg "range" = none)(ml:mg "len" = none):Ym P w K mg base 3 "judge_joints" ["neighbours"] (zG2 C r10):=by
 refine D.okN zG5 (λvs H Q E h=>?_) (λf cdv A outer s H vs Q E hr h=>?_)
 .obtain⟨q,near,rfl,_⟩:=h;rfl
 .obtain⟨q,near,rfl,LO,NO,h2,k⟩:=h;have hr1:zn 1 _:=hr.mono (by decide);have hn:=NO.1;obtain⟨as,hq,hal,hat⟩:=id LO;rw[zX] at hal
  refine⟨_,zG (yF Vp rfl (zBl rfl mr (zA (yH ml (zA (pv 0) zC)) zC)) (zT (i:=1) zG5.nd rfl (Or.inl rfl))
    (zF (za (i:=2) zG5.nd rfl (Or.inl rfl) (zM9 (zj zBX (pv 1) zL (zZ _)) zL zL))
    (zG (zu (zj YI (YK Wy PySem.F.slot_list_count PySem.F.type_list_count zPj (zR OR hr1 (zA (pv 2) (zA (pv 0) (zA (pv 1) zC)))) (zA yz zC)) (zk ZP (yH ml (zA (pv 0) zC)) zL) (zZ _)) (zG (YB R hr (zA zL (zA (zR OP hr1 (zA (pv 1) zC)) zC)))) zc)))),?_⟩
  have hlen:((as.map V.ref).length:Int)=near.length:=by rw[zX,hal]
  refine⟨_,rfl,q,_,rfl,.inl (zN.of hq),_,rfl,by lia,by lia,?_⟩;rw[hlen,WS];refine zAB (lo:=0) (λi σ H'=>∃ v1 v2:Option V,σ=[some (.ref q),v1,v2]/\zH H H'/\∀ (j:Nat) (l:List Nat),j<i->near[j]?=some l->zBf near (0+j)=false) ⟨none,none,rfl,zH.refl H,λj z hj=>absurd hj (Vb _)⟩ ?_ ?_
  .rintro i σ H' hi ⟨v1,v2,rfl,s1,hno⟩;have hl:=yQ hi;generalize near[i]=l at hl;have LO':LLN H' q near:=zA9.same LO s1;have e0:((0:Int)+(i:Nat))=((i:Nat):Int):=VL _;rw[e0];refine⟨_,rfl,rfl,_,rfl,?_⟩;refine yA (λhb=>?_) λhb=>?_
   .have hi0:i=0:=by
     have:=WG hb;injection this with this
     lia
    have hst:(1:Nat)=(if i=0 then 1 else 0):=by rw[Wc hi0]
    refine⟨_,rfl,_,rfl,_,rfl,1,q,(i:Int),near,rfl,LO',NO,by lia,λHx L sx hL=>?_⟩;refine⟨.inl ⟨rfl,_,zN.of hL⟩,L,_,rfl,rfl,zN.of hL,_,rfl,q,_,rfl,.inl (zN.of (sx _ _ (s1 _ _ hq))),_,_,rfl,rfl,_,_,rfl,rfl,_,rfl,?_⟩;rw[hlen];have eb:decide ((((ZJ near (i:Int) 1).count true:Nat):Int)<(near.length:Int)-1)=zBf near (0+i):=by unfold zBf;rw[WA,<-hst]
    rw[eb];refine yA (λhb=>?_) λhb=>?_
    .have e:=Zd (g:=λi (_:List Nat)=>zBf near i) (f:=zD4 10) (k:=0) (λj y hj hy=>hno j y hj hy) hl hb;rw[WA] at e;exact⟨_,rfl,_,rfl,_,_,rfl,Yf (k.rz e) (s1.trans sx)⟩
    .refine⟨_,_,rfl,s1.trans sx,λj z hj hz=>?_⟩;by_cases e:j=i
     .subst e;exact hb
     .exact hno j z (by lia) hz
   .have hi0:¬ i=0:=by
     intro e;subst e;exact absurd hb (by decide)
    have hst:(0:Nat)=(if i=0 then 1 else 0):=by rw[Wb hi0]
    refine⟨_,rfl,_,rfl,_,rfl,0,q,(i:Int),near,rfl,LO',NO,by lia,λHx L sx hL=>?_⟩;refine⟨.inl ⟨rfl,_,zN.of hL⟩,L,_,rfl,rfl,zN.of hL,_,rfl,q,_,rfl,.inl (zN.of (sx _ _ (s1 _ _ hq))),_,_,rfl,rfl,_,_,rfl,rfl,_,rfl,?_⟩;rw[hlen];have eb:decide ((((ZJ near (i:Int) 0).count true:Nat):Int)<(near.length:Int)-1)=zBf near (0+i):=by unfold zBf;rw[WA,<-hst]
    rw[eb];refine yA (λhb=>?_) λhb=>?_
    .have e:=Zd (g:=λi (_:List Nat)=>zBf near i) (f:=zD4 10) (k:=0) (λj y hj hy=>hno j y hj hy) hl hb;rw[WA] at e;exact⟨_,rfl,_,rfl,_,_,rfl,Yf (k.rz e) (s1.trans sx)⟩
    .refine⟨_,_,rfl,s1.trans sx,λj z hj hz=>?_⟩;by_cases e:j=i
     .subst e;exact hb
     .exact hno j z (by lia) hz
  .rintro σ H' ⟨v1,v2,rfl,s1,hno⟩;exact k.go (Ze λj y hy=>hno j y (yG hy).1 hy) s1
def zFC (S:Gla.Plan):Option (Int×Int):=(r6 (ze S)).or ((r7 (ze S)).or ((r8 (yN S.pts.length S.lines)).or ((r9 (yN S.pts.length S.lines)).or (r10 (yN S.pts.length S.lines)))))
def zRG (K:Qf)(C:Addr)(g:Gla.Plan->Option (Int×Int)):Sp:=λvs H Q E=>∃ (c:Addr) (S:Gla.Plan),vs=[.ref c]/\Yt K H c (ze S)/\Yh S/\Res C E H Q (g S)
theorem Yu{n:Nat}{ls:List (Nat×Nat)}:(yN n ls).length=n:=by unfold yN;rw[zX,VP]
theorem Yh.near{S:Gla.Plan}(B:Yh S):zDZ (yN S.pts.length S.lines):=by
 refine⟨by rw[Yu];exact B.n,λl hl j hj=>?_⟩;rw[Yu];unfold yN at hl;obtain⟨i,_,rfl⟩:=Wp.mp hl;unfold YC at hj;obtain⟨x,hx,e⟩:=VI.mp hj;have:=B.ln x hx;by_cases h1:x.1=i
 .rw[Wc h1] at e;injection e with e
  lia
 .rw[Wb h1] at e;by_cases h2:x.2=i
  .rw[Wc h2] at e;injection e with e
   lia
  .rw[Wb h2] at e;cases e
theorem zJ8:zO ["cartoon","neighbours"] ["cartoon"] (zI zA6):=yE
theorem zPn(D:zV K mg "judge_drawing" zA6 ["cartoon"])(O6:Ym P w K mg base 3 "judge_frame" ["cartoon"] (zLE K C Few r6))(O7:Ym P w K mg base 4 "judge_crossings" ["cartoon"] (zLE K C zNr r7))(ON:Ok P w K mg base 1 "neighbours_of" ["cartoon"] (zLH K))
  (O8:Ym P w K mg base 3 "judge_ends" ["neighbours"] (zG2 C r8))(O9:Ym P w K mg base 3 "judge_ways" ["neighbours"] (zG2 C r9))(O10:Ym P w K mg base 3 "judge_joints" ["neighbours"] (zG2 C r10)):Ym P w K mg base 5 "judge_drawing" ["cartoon"] (zRG K C zFC):=by
 refine D.okN zJ8 (λvs H Q E h=>?_) (λf cdv A outer s H vs Q E hr h=>?_)
 .obtain⟨c,S,rfl,_⟩:=h;rfl
 .obtain⟨c,S,rfl,CA,B,k⟩:=h;have hr1:zn 1 _:=hr.mono (by decide);have hr3:zn 3 _:=hr.mono (by decide)
  refine⟨_,zF (yK (zAG O6 hr3 (zA (pv 0) zC))) (zF (yK (zAG O7 hr (zA (pv 0) zC))) (zF (za (i:=1) zJ8.nd rfl (Or.inl rfl) (zR ON hr1 (zA (pv 0) zC)))
   (zF (yK (zAG O8 hr3 (zA (pv 1) zC))) (zF (yK (zAG O9 hr3 (zA (pv 1) zC))) (zG (yK (zAG O10 hr3 (zA (pv 1) zC)))))))),?_⟩
  refine⟨_,rfl,c,ze S,rfl,CA,B.few,Res.seq k λ_ H1 s1 k1=>?_⟩;refine⟨_,rfl,c,ze S,rfl,CA.same s1,B.car,Res.seq k1 λ_ H2 s2 k2=>?_⟩;refine⟨_,rfl,c,S,rfl,CA.same (s1.trans s2),B,λH3 q s3 L3=>?_⟩;have n2:2<=(yN S.pts.length S.lines).length:=by rw[Yu];exact B.n2
  refine⟨_,rfl,q,yN S.pts.length S.lines,rfl,L3,B.near,n2,Res.seq (k2.same s3) λ_ H4 s4 k4=>?_⟩;refine⟨_,rfl,q,yN S.pts.length S.lines,rfl,zA9.same L3 s4,B.near,n2,Res.seq k4 λ_ H5 s5 k5=>?_⟩;refine⟨_,rfl,q,yN S.pts.length S.lines,rfl,zA9.same L3 (s4.trans s5),B.near,n2,?_⟩;exact k5
end
theorem zDb(p q r:Gla.Pt):YQ (zq p) (zq q) (zq r)=Gla.turn p q r:=rfl
def zBg (K:Qf)(H:Hp)(pa:Addr)(S:Gla.Plan):Prop:=zl (Z7 K) H pa (S.pts.map zq)
theorem zBg.same{K:Qf}{H H':Hp}{pa:Addr}{S:Gla.Plan}(h:zBg K H pa S)(s:zH H H'):zBg K H' pa S:=zl.same zCC h s
theorem zCg{S:Gla.Plan}{i:Nat}(h:i<S.pts.length):S.pts[i]?=some (S.pt i)/\S.pt i∈S.pts:=by
 have e:S.pts[i]?=some S.pts[i]:=yQ h;rw[Kt.zGC e];exact⟨e,XQ h⟩
theorem Yh.smp{S:Gla.Plan}(B:Yh S){i:Nat}(h:i<S.pts.length):Sm 1048576 (zq (S.pt i)):=by
 have:=B.sm _ (zCg h).2;unfold Sm zq;simp only
 lia
theorem zBg.rd{K:Qf}{H:Hp}{pa:Addr}{S:Gla.Plan}(h:zBg K H pa S):∃ vs,zN K H pa vs/\H pa=some (.lst vs)/\vs.length=S.pts.length/\∀ i,i<S.pts.length->∃ b,atI vs ((i:Nat):Int)=some (.ref b)/\XY K H b (zq (S.pt i)):=by
 obtain⟨vs,hv,e⟩:=h;refine⟨vs,zN.of hv,hv,by rw[e.1,zX],λi hi=>?_⟩;obtain⟨v,hv,b,rfl,X⟩:=e.get (map_some (f:=zq) (zCg hi).1);exact⟨b,y6 (j:=i) rfl hv,X⟩
section
variable {P:Program}{w:World}{K:Qf}{mg:Qm}{base:Heap}{C:Addr}
def zMh (K:Qf):Sp:=λvs H Q _=>∃ (a b c d:Addr) (p q r t:Gla.Pt),vs=[.ref a,.ref b,.ref c,.ref d]/\XY K H a (zq p)/\XY K H b (zq q)/\XY K H c (zq r)/\XY K H d (zq t)/\Sm 1048576 (zq p)/\Sm 1048576 (zq q)/\Sm 1048576 (zq r)/\Sm 1048576 (zq t)/\Q (.bl (Kt.zAE p q r t)) H
theorem zG6:zO ["before","here","point","other","goes_left","other_goes_left"] ["before","here","point","other"] (zI zBM):=yE
theorem zPo{a b:Bool}:(!decide (V.bl a=V.bl b))=(a != b):=by cases a <;> cases b <;> decide
theorem zPp(D:zV K mg "is_more_left" zBM ["before","here","point","other"])(OT:Ok P w K mg base 1 "turn" ["p","q","r"] (zEf K)):Ok P w K mg base 2 "is_more_left" ["before","here","point","other"] (zMh K):=by
 refine D.ok zG6 (λvs H Q E h=>?_) (λf cdv A outer s H vs Q E hr h=>?_)
 .obtain⟨a,b,c,d,p,q,r,t,rfl,_⟩:=h;rfl
 .refine Wa λng=>?_
  obtain⟨a,b,c,d,p,q,r,t,rfl,xa,xb,xc,xd,s1,s2,s3,s4,k⟩:=h;refine ng ?_;have big:∀ {z:P2},Sm 1048576 z->Sm 4294967296 z:=λh=>h.mono (by decide)
  refine⟨_,zF (za (i:=4) zG6.nd rfl (Or.inl rfl) (yg YJ (zR OT hr (zA (pv 0) (zA (pv 1) (zA (pv 2) zC)))) zL (zZ _)))
   (zF (za (i:=5) zG6.nd rfl (Or.inl rfl) (yg YJ (zR OT hr (zA (pv 0) (zA (pv 1) (zA (pv 3) zC)))) zL (zZ _)))
   (zF (zu (zj zDk (pv 4) (pv 5) (zZ _)) (zG (zS (pv 4))) zc)
   (zG (zS (yg YI (zR OT hr (zA (pv 1) (zA (pv 2) (zA (pv 3) zC)))) zL (zZ _)))))),?_⟩
  refine⟨_,rfl,_,rfl,_,rfl,a,b,c,_,_,_,rfl,xa,xb,xc,big s1,big s2,big s3,_,_,rfl,rfl,?_⟩;refine⟨_,rfl,_,rfl,_,rfl,a,b,d,_,_,_,rfl,xa,xb,xd,big s1,big s2,big s4,_,_,rfl,rfl,?_⟩;refine⟨_,rfl,_,rfl,rfl,_,rfl,?_⟩;rw[zPo];refine yA (λhb=>?_) λhb=>?_
  .exact⟨_,rfl,ZF k (by unfold Kt.zAE;rw[zDb,zDb] at hb;rw[Wc hb,zDb])⟩
  .exact⟨_,rfl,_,rfl,_,rfl,b,c,d,_,_,_,rfl,xb,xc,xd,big s2,big s3,big s4,_,_,rfl,rfl,ZF k (by unfold Kt.zAE;rw[zDb,zDb] at hb;rw[Wb (by rw[hb];decide),zDb])⟩
def zDL:Option Nat->Int
|none=>-1
|some j=>(j:Int)
def zm (l:List Nat):List V:=l.map λ(j:Nat)=>V.int (j:Int)
theorem zDc{l:List Nat}{i:Nat}{y:V}(h:(zm l)[i]?=some y):∃ j,l[i]?=some j/\y=.int (j:Int):=yV h
theorem zw{l:List Nat}:(zm l).length=l.length:=zX ..
def zRH (K:Qf):Sp:=λvs H Q _=>∃ (pa ja:Addr) (S:Gla.Plan) (l:List Nat) (p v:Nat),vs=[.ref pa,.ref ja,.int (p:Int),.int (v:Int)]/\zBg K H pa S/\Yh S/\H ja=some (.lst (zm l))/\(∀ j∈l,j<S.pts.length)/\p<S.pts.length/\v<S.pts.length/\Q (.int (zDL (l.foldl (Kt.ZN S p v) none))) H
theorem zHv:zO ["points","joined","before","here","found","number"] ["points","joined","before","here"] (zI zDz):=yE
theorem zSS(D:zV K mg "leftmost" zDz ["points","joined","before","here"])(OM:Ok P w K mg base 2 "is_more_left" ["before","here","point","other"] (zMh K))(gN:yl mg "NO_POINT" (-1)):Ok P w K mg base 3 "leftmost" ["points","joined","before","here"] (zRH K):=by
 refine D.ok zHv (λvs H Q E h=>?_) (λf cdv A outer s H vs Q E hr h=>?_)
 .obtain⟨pa,ja,S,l,p,v,rfl,_⟩:=h;rfl
 .obtain⟨pa,ja,S,l,p,v,rfl,PA,B,hj,hlt,hp,hv,k⟩:=h;obtain⟨pvs,hps,_,_,rd⟩:=PA.rd
  refine⟨_,zF (za (i:=4) zHv.nd rfl (Or.inl rfl) (y8 gN))
   (zF (yF Wt rfl (yt (pv 1)) (zT (i:=5) zHv.nd rfl (Or.inl rfl))
    (zF (zu (zj zBX (pv 5) (pv 2) (zZ _)) (zG zFN) zc)
    (zG (zu (PW.pt (zCm (zj zBX (pv 4) (y8 gN) (zZ _)) (zBj (yY (zR OM hr (zA (zh zd (pv 0) (pv 2) (λ_ _=>rfl)) (zA (zh zd (pv 0) (pv 3) (λ_ _=>rfl)) (zA (zh zd (pv 0) (pv 5) (λ_ _=>rfl)) (zA (zh zd (pv 0) (pv 4) (λ_ _=>rfl)) zC)))))))))
     (zG (za (i:=4) zHv.nd rfl (Or.inl rfl) (pv 5))) zc))))
   (zG (zS (pv 4)))),?_⟩
  refine⟨_,rfl,ja,rfl,⟨_,zN.of hj⟩,Zl (K:=K) (a:=ja) (xs:=zm l) (λi σ H'=>∃ (o:Option Nat) (v5:Option V),σ=[some (.ref pa),some (.ref ja),some (.int (p:Int)),some (.int (v:Int)),some (.int (zDL o)),v5]/\H'=H/\o=(l.take i).foldl (Kt.ZN S p v) none/\∀ g,o=some g->g<S.pts.length)
   ⟨none,none,rfl,rfl,rfl,λg e=>by cases e⟩ (λi σ H' _ hh=>hh.elim λ_ hh=>hh.elim λ_ hh=>by rw[hh.2.1];exact zN.of hj) ?_ ?_⟩
  .rintro i y σ H' hi ⟨o,v5,rfl,rfl,ho,hg⟩;obtain⟨j,hij,rfl⟩:=zDc hi;have hjl:=hlt j (ZM hij);have hst:(l.take (i+1)).foldl (Kt.ZN S p v) none=Kt.ZN S p v o j:=by rw[zv hij,XF,<-ho];rfl
   refine⟨_,rfl,_,rfl,rfl,_,rfl,?_⟩;rw[deq];refine yA (λhb=>?_) λhb=>?_
   .have e:j=p:=by have:=WG hb;lia
    refine⟨o,_,rfl,rfl,?_,hg⟩;rw[hst];unfold Kt.ZN;rw[Wc e]
   .have ne:¬ j=p:=by have:=WJ hb;lia
    have nx:∀ (z:Bool),Kt.ZN S p v o j=(if z=true then some j else o)->(z=true->∃ (o':Option Nat) (v5:Option V),[some (.ref pa),some (.ref ja),some (.int (p:Int)),some (.int (v:Int)),some (.int (j:Int)),some (V.int (j:Int))]=[some (.ref pa),some (.ref ja),some (.int (p:Int)),some (.int (v:Int)),some (.int (zDL o')),v5]/\H'=H'/\o'=(l.take (i+1)).foldl (Kt.ZN S p v) none/\∀ g,o'=some g->g<S.pts.length)/\
      (z=false->∃ (o':Option Nat) (v5:Option V),[some (.ref pa),some (.ref ja),some (.int (p:Int)),some (.int (v:Int)),some (.int (zDL o)),some (V.int (j:Int))]=[some (.ref pa),some (.ref ja),some (.int (p:Int)),some (.int (v:Int)),some (.int (zDL o')),v5]/\H'=H'/\o'=(l.take (i+1)).foldl (Kt.ZN S p v) none/\∀ g,o'=some g->g<S.pts.length):=by
     intro z hz;refine⟨λe=>⟨some j,_,rfl,rfl,?_,λg e=>by cases e;exact hjl⟩,λe=>⟨o,_,rfl,rfl,?_,hg⟩⟩
     .rw[hst,hz,Wc e]
     .rw[hst,hz,Wb (by rw[e];decide)]
    cases o with
   |none=>
     obtain⟨n1,_⟩:=nx true (by unfold Kt.ZN;rw[Wb ne];rfl);exact⟨_,rfl,rfl,_,rfl,zGl (zGl ⟨_,rfl,n1 rfl⟩)⟩
   |some g=>
     have hgl:=hg g rfl;obtain⟨n1,n2⟩:=nx (Kt.zAE (S.pt p) (S.pt v) (S.pt j) (S.pt g)) (by unfold Kt.ZN;rw[Wb ne]);obtain⟨b1,e1,x1⟩:=rd p hp;obtain⟨b2,e2,x2⟩:=rd v hv;obtain⟨b3,e3,x3⟩:=rd j hjl;obtain⟨b4,e4,x4⟩:=rd g hgl;refine⟨_,rfl,rfl,_,rfl,?_⟩
     have ef:decide (V.int (zDL (some g))=V.int (-1))=false:=by
      rw[deq];exact WH (by show ¬ ((g:Nat):Int) = -1;lia)
     rw[ef];refine zKk ⟨_,rfl,_,rfl,pa,_,_,_,rfl,rfl,hps,e1,_,rfl,_,rfl,pa,_,_,_,rfl,rfl,hps,e2,_,rfl,_,rfl,pa,_,_,_,rfl,rfl,hps,e3,_,rfl,_,rfl,pa,_,_,_,rfl,rfl,hps,e4,b1,b2,b3,b4,_,_,_,_,rfl,x1,x2,x3,x4,B.smp hp,B.smp hv,B.smp hjl,B.smp hgl,_,rfl,yA (λhb2=>?_) λhb2=>?_⟩
     .exact⟨_,rfl,n1 hb2⟩
     .exact n2 hb2
  .rintro σ H' ⟨o,v5,rfl,rfl,ho,hg⟩;rw[zw,WV] at ho;exact⟨_,rfl,by rw[<-ho] at k;exact k⟩
def zMi (K:Qf):Sp:=λvs H Q _=>∃ (a b:Nat) (pa na:Addr) (S:Gla.Plan),vs=[.int (a:Int),.int (b:Int),.ref pa,.ref na]/\zBg K H pa S/\Yh S/\Kt.yC S/\LLN H na (yN S.pts.length S.lines)/\Kt.JJ S a b/\∀ H' q,zH H H'->H' q=some (.lst (zm (Kt.Y7 S (a,b))))->H q=none->Q (.ref q) H'
theorem zBW:zO ["first","second","points","neighbours","outline","before","here","following"] ["first","second","points","neighbours"] (zI zBN):=yE
theorem zIp{nx:Nat->Nat->Nat}:∀ (i:Nat) (e:Kt.zf),Kt.zU nx (i+1) e=Kt.zU nx i e++[Kt.yB nx i e]
|0,e=>rfl
|i+1,e=>by
  show e::Kt.zU nx (i+1) (Kt.ph nx e)=_;rw[zIp i (Kt.ph nx e)];rfl
theorem ZY{nx:Nat->Nat->Nat}:∀ (i:Nat) (e:Kt.zf),(Kt.zU nx i e).length=i
|0,_=>rfl
|i+1,e=>by
  show (Kt.zU nx i (Kt.ph nx e)).length+1=_;rw[ZY i]
theorem zDO{H:Hp}{na:Addr}{n i:Nat}{ls:List (Nat×Nat)}(L:LLN H na (yN n ls))(hi:i<n):∃ (as:List Addr) (a:Addr),H na=some (.lst (as.map V.ref))/\as[i]?=some a/\H a=some (.lst (zm (YC ls i))):=by
 obtain⟨as,a,h1,h2,h3⟩:=zA9.get L (j:=i) (l:=(YC ls i).map Int.ofNat) (map_some (zEj hi));refine⟨as,a,h1,h2,?_⟩;rw[h3,Vf];rfl
theorem zIq{S:Gla.Plan}(O:Kt.yC S){e:Kt.zf}{k:Nat}(je:Kt.JJ S e.1 e.2)(P:Kt.Zs S.next k e):k<=2*S.lines.length:=by
 have h:=Kt.zAi (Kt.zU S.next k e) (Gla.ways S) (Kt.zBq k e λa b ha hb h=>P.inj O.dr je (by lia) (by lia) h) (λx hx=>by
  obtain⟨i,_,rfl⟩:=Kt.zo.mp hx;exact (Kt.zAj O _).mpr (Kt.Zu O.dr.hnx i je))
 rw[ZY,Kt.zDp] at h;exact h
theorem zPq(D:zV K mg "outline_from" zBN ["first","second","points","neighbours"])(OL:Ok P w K mg base 3 "leftmost" ["points","joined","before","here"] (zRH K)):Ok P w K mg base 4 "outline_from" ["first","second","points","neighbours"] (zMi K):=by
 refine D.ok zBW (λvs H Q E h=>?_) (λf cdv A outer s H vs Q E hr h=>?_)
 .obtain⟨a,b,pa,na,S,rfl,_⟩:=h;rfl
 .obtain⟨a,b,pa,na,S,rfl,PA,B,O,LN,jj,k⟩:=h;obtain⟨kk,Pk,hrn,_⟩:=Kt.zCH O (e:=(a,b)) jj;have hkk:=zIq O (e:=(a,b)) jj Pk;have D0:=O.dr
  refine⟨_,zF (za (i:=4) zBW.nd rfl (Or.inl rfl) (yZ (zA (pv 0) zC))) (zF (za (i:=5) zBW.nd rfl (Or.inl rfl) (pv 0)) (zF (za (i:=6) zBW.nd rfl (Or.inl rfl) (pv 1))
   (zF (zDh Wt (zj zDk (pv 6) (pv 0) (zZ _))
    (zF (yK (YK Wy WM WL ZE (pv 4) (zA (pv 6) zC)))
    (zF (za (i:=7) zBW.nd rfl (Or.inl rfl) (zR OL hr (zA (pv 2) (zA (zh zd (pv 3) (pv 6) (λ_ _=>rfl)) (zA (pv 5) (zA (pv 6) zC))))))
    (zF (za (i:=5) zBW.nd rfl (Or.inl rfl) (pv 6)) (zG (za (i:=6) zBW.nd rfl (Or.inl rfl) (pv 7)))))))
   (zG (zS (pv 4)))))),?_⟩
  refine⟨_,rfl,(by show 1<=sizeLine;decide),λL nL=>?_⟩;refine⟨_,rfl,_,rfl,?_⟩
  refine⟨λm σ H'=>∃ (i:Nat) (v7:Option V),i<kk/\m=kk-i/\σ=[some (.int (a:Int)),some (.int (b:Int)),some (.ref pa),some (.ref na),some (.ref L),some (.int ((Kt.yB S.next i (a,b)).1:Int)),some (.int ((Kt.yB S.next i (a,b)).2:Int)),v7]/\zH H H'/\H' L=some (.lst (zm ((Kt.zU S.next (i+1) (a,b)).map Prod.fst))),
   ⟨kk,0,none,Pk.pos,rfl,rfl,zQ (zH.refl H) nL,zE⟩,?_⟩
  rintro m σ H' ⟨i,v7,hi,rfl,rfl,s1,hL⟩;have ji:=Kt.Zu D0.hnx i (e:=(a,b)) jj;have jl:=O.jlt ji;refine⟨_,rfl,_,rfl,rfl,_,rfl,?_⟩;rw[deq];refine yA (λhb=>?_) λhb=>?_
  .rw[WE] at hb;have ne:¬ (Kt.yB S.next i (a,b)).2=a:=by have:=WJ hb;lia
   have hi1:i+1<kk:=by
    apply Nat.lt_of_le_of_ne hi;intro e;have hbk:=Pk.back;rw[<-e,Kt.ZX] at hbk;exact ne (W1 Prod.fst hbk)
   obtain⟨as,c,y1,y2,y3⟩:=zDO LN jl.2.1
   have s2:∀ (o:HO),zH H (upd H' L o):=λo b x eb=>by
    rw[zD (zJ eb nL)];exact s1 _ _ eb
   obtain⟨lm,lne⟩:=Kt.zO4 O ji;refine⟨λσ' H'=>∃ m',m'<kk-i/\∃ (i:Nat) (v7:Option V),i<kk/\m'=kk-i/\σ'=[some (.int (a:Int)),some (.int (b:Int)),some (.ref pa),some (.ref na),some (.ref L),some (.int ((Kt.yB S.next i (a,b)).1:Int)),some (.int ((Kt.yB S.next i (a,b)).2:Int)),v7]/\zH H H'/\H' L=some (.lst (zm ((Kt.zU S.next (i+1) (a,b)).map Prod.fst))),λ_ _ h=>h,?_⟩;refine⟨_,rfl,.inl ⟨rfl,_,zN.of hL⟩,_,rfl,L,_,_,rfl,rfl,hL,?_,?_⟩
   .rw[zw,zX,ZY];exact yR (by have:=B.m;lia:i+1<30000) (by decide)
   .refine⟨_,rfl,_,rfl,_,rfl,na,_,_,_,rfl,rfl,zN.of (s2 _ _ _ y1),y6 (j:=(Kt.yB S.next i (a,b)).2) rfl (map_some y2),_,rfl,_,rfl,pa,c,S,S.near (Kt.yB S.next i (a,b)).2,_,_,rfl,PA.same (s2 _),B,s2 _ _ _ y3,λj hj=>(O.jlt ((Kt.Z5 O).mp hj)).2.1,jl.1,jl.2.1,?_⟩;rw[lm];refine⟨_,rfl,_,rfl,_,by lia,i+1,some (V.int (zDL (some (S.next (Kt.yB S.next i (a,b)).1 (Kt.yB S.next i (a,b)).2)))),hi1,rfl,?_,s2 _,?_⟩
    .rw[Kt.ZX];rfl
    .rw[zE,zIp (i+1),Wq,Kt.ZX];show _=some (HO.lst (zm (_++[_])));unfold zm;rw[Wq];rfl
  .rw[WD] at hb;have e2:(Kt.yB S.next i (a,b)).2=a:=by have:=WG hb;lia
   have hik:i+1=kk:=by
    apply Nat.le_antisymm hi;apply Ur;intro hlt;refine Pk.simple D0 (e:=(a,b)) jj (j:=i+1) (by lia) hlt ?_;rw[Kt.ZX];exact e2
   refine⟨_,rfl,k _ _ s1 ?_ nL⟩;rw[hL,hik,hrn]
end
def Yi {α:Type}:List α->List (α×α)
|[]=>[]
|a::r=>((a::r).getLast (Jb a r),a)::(a::r).zip r
def pvI (k n:Nat):Nat:=if k=0 then n-1 else k-1
theorem zFn{α:Type}{l:List α}:(Yi l).length=l.length:=by
 cases l with
|nil=>rfl
|cons a r=>
  show ((a::r).zip r).length+1=r.length+1;rw[Jh,Wn]
  lia
theorem zMj{α:Type}{l:List α}{k:Nat}(h:k<l.length):∃ x y,(Yi l)[k]?=some (x,y)/\l[pvI k l.length]?=some x/\l[k]?=some y:=by
 cases l with
|nil=>exact absurd h (by simp)
|cons a r=>
  cases k with
 |zero=>
   refine⟨_,_,rfl,?_,rfl⟩;unfold pvI;rw[Wc rfl,<-List.getLast?_eq_getElem?,List.getLast?_eq_some_getLast]
 |succ k=>
   have h1:k<(a::r).length:=by lia
   have h2:k<r.length:=by simpa using h
   refine⟨(a::r)[k],r[k],?_,?_,by simp⟩
   .show ((a::r).zip r)[k]?=_;rw[Xu];exact⟨yQ h1,yQ h2⟩
   .unfold pvI;rw[Wb (by lia)];exact yQ h1
theorem zJ9{vs:List V}{k:Nat}{v:V}(hk:k<vs.length)(h:vs[pvI k vs.length]?=some v):atI vs ((k:Int)-1)=some v:=by
 unfold pvI at h;by_cases e:k=0
 .rw[Wc e] at h;subst e;unfold atI ixN;rw[Wb (by lia),Wc (by lia)];show vs[(((0:Nat):Int)-1+vs.length).toNat]?=_;rw[show (((0:Nat):Int)-1+vs.length).toNat=vs.length-1 by lia];exact h
 .rw[Wb e] at h;exact y6 (j:=k-1) (by lia) h
theorem zIr{α:Type}{a:α}:∀ {b:α}{r:List α},(b::r).zip (r++[a])=(b::r).zip r++[((b::r).getLast (Jb b r),a)]
|b,[]=>rfl
|b,c::r=>by
  show (b,c)::(c::r).zip (r++[a])=_;rw[zIr (b:=c) (r:=r)];rfl
theorem zEl{α:Type}{a:α}{r:List α}:(a::r).zip ((a::r).drop 1++(a::r).take 1)=(a::r).zip r++[((a::r).getLast (Jb a r),a)]:=zIr
theorem zKA{α:Type}{l:List α}{x:α×α}:x∈Yi l↔x∈l.zip (l.drop 1++l.take 1):=by
 cases l with
|nil=>simp[Yi]
|cons a r=>
  rw[zEl];show x∈_::(a::r).zip r↔_;rw[Wd,Wv,Wl];exact Or.comm
theorem zD5{α β:Type}(f:α->β):∀ (l:List α),Yi (l.map f)=(Yi l).map λx=>(f x.1,f x.2)
|[]=>rfl
|a::r=>by
  show (((a::r).map f).getLast _,f a)::((a::r).map f).zip (r.map f)=(_,_)::List.map _ ((a::r).zip r);rw[List.zip_map]
  congr 1
  rw[List.getLast_map]
def zB5 (l:List Int):Int:=l.foldr (λa b=>a+b) 0
theorem zEm{x:Int}:∀ {l:List Int},zB5 (l++[x])=zB5 l+x
|[]=>by simp[zB5]
|a::l=>by
  show a+zB5 (l++[x])=a+zB5 l+x;rw[zEm]
  lia
def crs (x:P2×P2):Int:=x.1.1*x.2.2-x.2.1*x.1.2
def zHw (ps:List P2):Int:=zB5 ((Yi ps).map crs)
theorem zPr{S:Gla.Plan}{l:List Nat}:zHw ((l.map S.pt).map zq)=Gla.twiceArea S l:=by
 unfold zHw Gla.twiceArea;rw[zD5,zD5,Vf,Vf];cases l with
|nil=>rfl
|cons a r=>
  rw[zEl];show zB5 (_::List.map _ ((a::r).zip r))=zB5 (List.map _ ((a::r).zip r++[_]));rw[Wq];show _=zB5 (_++[_]);rw[zEm];show _+zB5 _=_;rw[V5];rfl
def Zw (H H':Hp):Prop:=∀ b o,H b=some o->(∀ kvs,o≠.dT kvs)->H' b=some o
theorem Zw.of{H H':Hp}(s:zH H H'):Zw H H':=λb o e _=>s b o e
theorem Zw.trans{H H1 H2:Hp}(a:Zw H H1)(b:Zw H1 H2):Zw H H2:=λc o e n=>b c o (a c o e n) n
theorem Zw.upd{H:Hp}{d:Addr}{xs:List (List yD×V)}{o:HO}(e:H d=some (.dT xs)):Zw H (L2.upd H d o):=λb o' e' n=>by
 rw[zD (λz=>by subst z;rw[e] at e';cases e';exact n xs rfl)];exact e'
theorem XY.d{K:Qf}{H H':Hp}{a:Addr}{p:P2}(h:XY K H a p)(s:Zw H H'):XY K H' a p:=let ⟨C,dx,fs,e,r⟩:=h;⟨C,dx,fs,s a _ e (λxs z=>by cases z),r⟩
theorem zPs{K:Qf}{H H':Hp}{a:Addr}{l:List P2}(h:zl (Z7 K) H a l)(s:Zw H H'):zl (Z7 K) H' a l:=let ⟨vs,e,q⟩:=h;⟨vs,s _ _ e (λxs z=>by cases z),q.mono λv x r=>let ⟨b,e,X⟩:=r;⟨b,e,X.d s⟩⟩
def zD6 (K:Qf)(H:Hp)(q:Addr)(ls:List (List P2)):Prop:=∃ as:List Addr,H q=some (.lst (as.map V.ref))/\as.length=ls.length/\q∉as/\∀ (j:Nat) (a:Addr) (l:List P2),as[j]?=some a->ls[j]?=some l->zl (Z7 K) H a l
theorem zD6.sameD{K:Qf}{H H':Hp}{q:Addr}{ls:List (List P2)}(h:zD6 K H q ls)(s:Zw H H'):zD6 K H' q ls:=let ⟨as,h1,h2,h3,h4⟩:=h;⟨as,s _ _ h1 (λxs z=>by cases z),h2,h3,λj a l e1 e2=>zPs (h4 j a l e1 e2) s⟩
theorem zD6.push{K:Qf}{H:Hp}{q a:Addr}{ls:List (List P2)}{l:List P2}(h:zD6 K H q ls)(hl:zl (Z7 K) H a l)(ne:a≠q) :
  ∃ as:List Addr,H q=some (.lst (as.map V.ref))/\as.length=ls.length/\zD6 K (L2.upd H q (.lst (as.map V.ref++[.ref a]))) q (ls++[l]):=by
 obtain⟨as,h1,h2,h3,h4⟩:=h
 have keep:∀ (b:Addr) (l':List P2),b≠q->zl (Z7 K) H b l'->zl (Z7 K) (L2.upd H q (.lst (as.map V.ref++[.ref a]))) b l':=λb l' nb h=>by
  obtain⟨vs,e,z⟩:=h;exact⟨vs,by rw[zD nb];exact e,z.mono λv x r=>Z7.mono (yd.updL h1) r⟩
 refine⟨as,h1,h2,as++[a],by rw[zE,Wq];rfl,by simp[h2],?_,λj b l' e1 e2=>?_⟩
 .intro hm;rcases Wv.mp hm with hm|hm
  .exact h3 hm
  .exact ne (Wl.mp hm).symm
 .by_cases hj:j<as.length
  .rw[WP hj] at e1;rw[WP (by rw[<-h2];exact hj)] at e2;exact keep b l' (λz=>h3 (by rw[<-z];exact ZM e1)) (h4 j b l' e1 e2)
  .have hj2:j=as.length:=by
    have:=(yG e1).1;rw[Wi,W6] at this
    lia
   subst hj2;rw[W5 (We _),Xa] at e1;rw[W5 (by lia),h2,Xa] at e2;cases e1;cases e2;exact keep a l ne hl
def zBB (D:List (Nat×Nat)):List (List yD×V):=D.map λx=>(kPr (Zf x),V.bl true)
def zB6 (D:List (Nat×Nat))(x:Nat×Nat):List (Nat×Nat):=if x∈D then D else D++[x]
theorem zKB{x y:Nat×Nat}(h:Zf x=Zf y):x=y:=by
 unfold Zf at h;injection h with h1 h2
 exact Jn (by lia) (by lia)
theorem zKC{D:List (Nat×Nat)}{x:Nat×Nat}:((zBB D).any λkv=>decide (kv.1=kPr (Zf x)))=decide (x∈D):=by
 unfold zBB;rw[U4,WB];simp only[Vn,Function.comp,yr];constructor
 .rintro⟨q,hq,e⟩;rw[<-zKB (zJ1 e)];exact hq
 .exact λh=>⟨x,h,rfl⟩
theorem zPt{D:List (Nat×Nat)}{x:Nat×Nat}:(ZB (zBB D) (kPr (Zf x))).isSome=decide (x∈D):=by rw[<-zAh,zKC]
theorem zPu{D:List (Nat×Nat)}{x:Nat×Nat}:YE (zBB D) (kPr (Zf x)) (.bl true)=zBB (zB6 D x):=by
 unfold YE zB6;rw[zKC];by_cases h:x∈D
 .rw[Wc (WO h),Wc h];unfold zBB;rw[Vf];refine X9 λy _=>?_
  simp only[Function.comp];split <;> rfl
 .rw[Wb (by rw[WH h];decide),Wb h];unfold zBB;rw[Wq];rfl
theorem zNs{D:List (Nat×Nat)}{x y:Nat×Nat}:y∈zB6 D x↔y∈D\/y=x:=by
 unfold zB6;by_cases h:x∈D
 .rw[Wc h];exact⟨.inl,λz=>z.elim id λe=>e ▸ h⟩
 .rw[Wb h,Wv,Wl]
theorem zPv{D:List (Nat×Nat)}{x:Nat×Nat}(h:D.Nodup):(zB6 D x).Nodup:=by
 unfold zB6;by_cases hx:x∈D
 .rw[Wc hx];exact h
 .rw[Wb hx,XE];refine⟨h,by simp,λa ha b hb e=>?_⟩;rw[Wl.mp hb] at e;exact hx (e ▸ ha)
theorem zCv{y:Nat×Nat}:∀ {l D:List (Nat×Nat)},y∈l.foldl zB6 D↔y∈D\/y∈l
|[],D=>by simp
|x::l,D=>by
  rw[Vm,zCv,zNs,Wd];constructor
  .rintro ((h|h)|h)
   .exact .inl h
   .exact .inr (.inl h)
   .exact .inr (.inr h)
  .rintro (h|h|h)
   .exact .inl (.inl h)
   .exact .inl (.inr h)
   .exact .inr h
theorem zD7:∀ {l D:List (Nat×Nat)},D.Nodup->(l.foldl zB6 D).Nodup
|[],_,h=>h
|x::l,D,h=>zD7 (l:=l) (zPv h)
section
variable {P:Program}{w:World}{K:Qf}{mg:Qm}{base:Heap}{C:Addr}
theorem Za.prev{R:Hp->V->P2->Prop}{H:Hp}{vs:List V}{ps:List P2}(q:Za R H vs ps){k:Nat}(h:k<ps.length):∃ v u x y,atI vs ((k:Int)-1)=some v/\atI vs (k:Int)=some u/\(Yi ps)[k]?=some (x,y)/\x∈ps/\y∈ps/\R H v x/\R H u y:=by
 obtain⟨x,y,h1,h2,h3⟩:=zMj h;obtain⟨v,hv,rv⟩:=q.get h2;obtain⟨u,hu,ru⟩:=q.get h3;exact⟨v,u,x,y,zJ9 (by rw[q.1];exact h) (by rw[q.1];exact hv),y6 rfl hu,h1,ZM h2,ZM h3,rv,ru⟩
def zOH (K:Qf):Sp:=λvs H Q _=>∃ (ca:Addr) (ps:List P2),vs=[.ref ca]/\zl (Z7 K) H ca ps/\Sms ps/\ps.length<100000/\Q (.bl (decide (0<zHw ps))) H
theorem zGV:zO ["corners","doubled_area","k"] ["corners"] (zI zAQ):=yE
theorem zRI(D:zV K mg "goes_round_left" zAQ ["corners"])(mr:mg "range" = none)(ml:mg "len" = none):Ok P w K mg base 1 "goes_round_left" ["corners"] (zOH K):=by
 refine D.ok zGV (λvs H Q E h=>?_) (λf cdv A outer s H vs Q E hr h=>?_)
 .obtain⟨ca,ps,rfl,_⟩:=h;rfl
 .obtain⟨ca,ps,rfl,⟨cvs,hc,ec⟩,hs,hn,k⟩:=h
  refine⟨_,zF (za (i:=1) zGV.nd rfl (Or.inl rfl) zL)
   (zF (yF Wt rfl (zBl rfl mr (zA (yH ml (zA (pv 0) zC)) zC)) (zT (i:=2) zGV.nd rfl (Or.inl rfl))
    (zG (za (i:=1) zGV.nd rfl (Or.inl rfl) (zk ZP (zk ZH (pv 1) (zk YH (zP (zh zd (pv 0) (zk ZP (pv 2) zL) (λ_ _=>rfl)) rfl) (zP (zh zd (pv 0) (pv 2) (λ_ _=>rfl)) rfl)))
     (zk YH (zP (zh zd (pv 0) (pv 2) (λ_ _=>rfl)) rfl) (zP (zh zd (pv 0) (zk ZP (pv 2) zL) (λ_ _=>rfl)) rfl))))))
   (zG (zS (yg YJ (pv 1) zL (zZ _))))),?_⟩
  refine⟨_,rfl,ca,_,rfl,.inl (zN.of hc),_,rfl,by lia,by rw[ec.1];lia,?_⟩;rw[ec.1,WS];refine zAB (lo:=0) (λi σ H'=>∃ v:Option V,σ=[some (.ref ca),some (.int (zB5 (((Yi ps).take i).map crs))),v]/\H'=H) ⟨none,rfl,rfl⟩ ?_ ?_
  .rintro i σ H' hi ⟨v,rfl,rfl⟩;rw[VL];refine Wa λng=>?_
   obtain⟨v1,u1,x,y,e1,e2,e3,mx,my,⟨b1,rfl,X1⟩,b2,rfl,X2⟩:=ec.prev hi;obtain⟨C1,d1,f1,a1,a2,a3,a4,a5,a6⟩:=id X1;obtain⟨C2,d2,f2,c1,c2,c3,c4,c5,c6⟩:=id X2;refine ng ?_;have sx:=hs x mx;have sy:=hs y my;unfold Sm at sx sy
   refine⟨_,rfl,_,rfl,_,rfl,_,_,rfl,rfl,ca,_,_,_,rfl,rfl,zN.of hc,e1,b1,C1,d1,_,_,rfl,a1,a2,a3,a5,_,rfl,_,rfl,ca,_,_,_,rfl,rfl,zN.of hc,e2,b2,C2,d2,_,_,rfl,c1,c2,c4,c6,_,_,rfl,rfl,.inl ⟨by lia,by lia⟩,_,_,rfl,rfl,
    _,rfl,_,rfl,ca,_,_,_,rfl,rfl,zN.of hc,e2,b2,C2,d2,_,_,rfl,c1,c2,c3,c5,_,rfl,_,rfl,_,_,rfl,rfl,ca,_,_,_,rfl,rfl,zN.of hc,e1,b1,C1,d1,_,_,rfl,a1,a2,a4,a6,_,_,rfl,rfl,.inl ⟨by lia,by lia⟩,_,_,rfl,rfl,?_⟩
   refine⟨some (.int (i:Int)),?_,rfl⟩;rw[zv e3,Wq];show _=[_,some (V.int (zB5 (_++[_]))),_]
   rw[zEm];show [_,some (V.int (_+x.1*y.2-y.1*x.2)),_]=[_,some (V.int (_+(x.1*y.2-y.1*x.2))),_]
   rw[Int.add_sub_assoc]
  .rintro σ H' ⟨v,rfl,rfl⟩;rw[<-zFn,WV];exact⟨_,rfl,_,_,rfl,rfl,k⟩
theorem zCh{X:Cx}(K:Qf)(hK:X.K=K:=by rfl):IxR X (zQe K):=by
 subst hK;exact zd
def zBC (S:Gla.Plan)(i:Nat):List Kt.zf:=(List.range i).flatMap λi=>(S.near i).map λj=>(i,j)
theorem zEn{S:Gla.Plan}{i:Nat}:zBC S (i+1)=zBC S i++(S.near i).map λj=>(i,j):=by
 unfold zBC;rw[List.range_succ,UP];simp
theorem zHc{S:Gla.Plan}{i:Nat}:∀ (d:Nat),(zBC S i).length<=(zBC S (i+d)).length
|0=>We _
|d+1=>by
  have h:=zHc (S:=S) (i:=i) d;rw[show i+(d+1)=i+d+1 by lia,zEn,Wi]
  lia
theorem zNt{S:Gla.Plan}(O:Kt.yC S):(zBC S S.pts.length).length<=2*S.lines.length:=by
 have nd:(Kt.zAk S).Nodup:=by
  unfold Kt.zAk;show List.Pairwise (λa b=>a≠b) _;rw[List.pairwise_flatMap];refine⟨λi _=>?_,?_⟩
  .rw[Ui];exact Ul (λh e=>h (W1 Prod.snd e)) (Kt.zDr O i)
  .refine Ul ?_ XD;intro a b hab x hx y hy e;obtain⟨_,_,rfl⟩:=Wp.mp hx;obtain⟨_,_,rfl⟩:=Wp.mp hy;have:a=b:=W1 Prod.fst e
   lia
 have h:=Kt.zAi (Kt.zAk S) (Gla.ways S) nd λx hx=>(Kt.zAj O x).mpr ((Kt.zCP O x).mp hx)
 rw[Kt.zDp] at h;exact h
theorem zNu{S:Gla.Plan}{st:List Kt.zf×List (List Nat)}{e:Kt.zf}(h:e∈st.1):Kt.yq S st e=st:=by
 unfold Kt.yq;rw[Wc h]
theorem zMk{S:Gla.Plan}{st:List Kt.zf×List (List Nat)}{e:Kt.zf}(h:e∉st.1):Kt.yq S st e=(st.1++Kt.zAl S e,if 0<Gla.twiceArea S (Kt.Y7 S e) then st.2++[Kt.Y7 S e] else st.2):=by
 unfold Kt.yq;rw[Wb h]
def ZU (S:Gla.Plan)(l:List Nat):List P2:=(l.map S.pt).map zq
structure OSt(K:Qf)(S:Gla.Plan)(H0 H:Hp)(wa oa:Addr)(pre:List Kt.zf):Prop where
 same:zH H0 H
 nw:H0 wa=none
 no:H0 oa=none
 out:zD6 K H oa (((pre.foldl (Kt.yq S) ([],[])).2).map (ZU S))
 wk:∃ D:List Kt.zf,H wa=some (.dT (zBB D))/\D.Nodup/\(∀ x∈D,x∈Gla.ways S)/\∀ x,x∈D↔x∈(pre.foldl (Kt.yq S) ([],[])).1
def zMl (K:Qf):Sp:=λvs H Q _=>∃ (c:Addr) (S:Gla.Plan),vs=[.ref c]/\Yt K H c (ze S)/\Yh S/\Kt.yC S/\∀ H' q,zH H H'->zD6 K H' q ((Kt.YN S).2.map (ZU S))->H q=none->Q (.ref q) H'
theorem Yj:zO ["cartoon","points","neighbours","walked","outlines","first","second","outline","k","corners","number"] ["cartoon"] (zI zAe):=yE
theorem zIs{S:Gla.Plan}:∀ (pre:List Kt.zf) (st:List Kt.zf×List (List Nat)),(pre.foldl (Kt.yq S) st).2.length<=st.2.length+pre.length
|[],st=>by simp
|e::pre,st=>by
  have h:=zIs (S:=S) pre (Kt.yq S st e)
  have h2:(Kt.yq S st e).2.length<=st.2.length+1:=by
   unfold Kt.yq;split
   .exact Us _ _
   .dsimp only;split
    .rw[Wi,W6];exact We _
    .exact Us _ _
  rw[Vm,Wn]
  lia
theorem zPw(D:zV K mg "outlines_of" zAe ["cartoon"])(ON:Ok P w K mg base 1 "neighbours_of" ["cartoon"] (zLH K))(OO:Ok P w K mg base 4 "outline_from" ["first","second","points","neighbours"] (zMi K))(OG:Ok P w K mg base 1 "goes_round_left" ["corners"] (zOH K))(mr:mg "range" = none)(ml:mg "len" = none) :
  Ok P w K mg base 5 "outlines_of" ["cartoon"] (zMl K):=by
 refine D.ok Yj (λvs H Q E h=>?_) (λf cdv A outer s H vs Q E hr h=>?_)
 .obtain⟨c,S,rfl,_⟩:=h;rfl
 .obtain⟨c,S,rfl,CA,B,O,k⟩:=h;have hr1:zn 1 _:=hr.mono (by decide);have hu:=zKj hr;refine Wa λng=>?_
  obtain⟨Cc,dx,fs,pa,la,ma,h1,h2,h3,h4,h5,h6,h7,h8,h9,h10,h11,h12,hpts,h14,h15⟩:=id CA;refine ng ?_;have PA0:zBg K H pa S:=hpts
  refine⟨_,zF (za (i:=1) Yj.nd rfl (Or.inr rfl) (zP (pv 0) rfl)) (zF (za (i:=2) Yj.nd rfl (Or.inl rfl) (zR ON hr1 (zA (pv 0) zC))) (zF (za (i:=3) Yj.nd rfl (Or.inl rfl) zNL) (zF (za (i:=4) Yj.nd rfl (Or.inl rfl) (yZ zC))
   (zF (yF Wt rfl (zBl rfl mr (zA (yH ml (zA (pv 1) zC)) zC)) (zT (i:=5) Yj.nd rfl (Or.inl rfl))
    (zG (yF Wt rfl (yt (zh zd (pv 2) (pv 5) (λ_ _=>rfl))) (zT (i:=6) Yj.nd rfl (Or.inl rfl))
     (zF (zu (zH0 (zL0 hu (zAC (zA (pv 5) (zA (pv 6) zC))) (pv 3)) rfl) (zG zFN) zc)
     (zF (za (i:=7) Yj.nd rfl (Or.inl rfl) (zR OO hr (zA (pv 5) (zA (pv 6) (zA (pv 1) (zA (pv 2) zC))))))
     (zF (yF Wt rfl (zBl rfl mr (zA (yH ml (zA (pv 7) zC)) zC)) (zT (i:=8) Yj.nd rfl (Or.inl rfl))
      (zG (zJc hu (pv 3) (zAC (zA (zh zd (pv 7) (zk ZP (pv 8) zL) (λ_ _=>rfl)) (zA (zh zd (pv 7) (pv 8) (λ_ _=>rfl)) zC))) yz rfl)))
     (zF (YT (i:=9) (own:=[("number",10)]) rfl Yj.nd rfl rfl rfl (yt (pv 7)) (ZW (show zAg ["cartoon","points","neighbours","walked","outlines","first","second","outline","k","corners","number"] (zI zAe) _ _=true by decide +kernel))
      (λ_ _ _ _ _=>zT (i:=10) Yj.nd rfl (Or.inl rfl)) (λ_ _ _ _ _=>YF) (λ_ _ _ _ _=>zh (zCh K) (pv 1) (pv 10) (λ_ _=>rfl)))
     (zG (zu (yY (zR OG hr1 (zA (pv 9) zC))) (zG (yK (YK Wy WM WL ZE (pv 4) (zA (pv 9) zC)))) zc))))))))
    )
   (zG (zS (pv 4))))))),?_⟩
  refine⟨_,rfl,c,Cc,dx,fs,_,rfl,h1,h2,h5,h10,?_⟩;refine⟨_,rfl,c,S,rfl,CA,B,λH1 na s1 LN0=>?_⟩;refine λwa nwa=>⟨Ww _,λoa noa=>?_⟩
  have ne:oa≠wa:=λe=>by rw[e,zE] at noa;cases noa
  have noa1:H1 oa=none:=by rw[zD ne] at noa;exact noa
  have LN:LLN H1 na (yN S.pts.length S.lines):=LN0;have PA1:zBg K H1 pa S:=PA0.same s1;obtain⟨pvs,hp1,hp2,hp3,rd⟩:=PA1.rd
  have st0:OSt K S H1 (upd (upd H1 wa (.dT [])) oa (.lst [])) wa oa (zBC S 0):=by
   refine⟨zQ (zQ (zH.refl H1) nwa) noa,nwa,noa1,⟨[],zE,rfl,by simp,λj a l e1=>by simp at e1⟩,[],?_,VY,λx hx=>by simp at hx,λx=>by simp[zBC]⟩;rw[zD (Ne.symm ne),zE];rfl
  generalize upd (upd H1 wa (.dT [])) oa (.lst [])=H2 at st0;refine⟨_,rfl,pa,_,rfl,.inl (zN.of (st0.same _ _ hp2)),_,rfl,by lia,by have:=B.n;lia,?_⟩;rw[hp3,WS];refine zAB (lo:=0) (λi σ H'=>∃ v5 v6 v7 v8 v9 v10:Option V,σ=[some (.ref c),some (.ref pa),some (.ref na),some (.ref wa),some (.ref oa),v5,v6,v7,v8,v9,v10]/\OSt K S H1 H' wa oa (zBC S i)) ⟨_,_,_,_,_,_,rfl,st0⟩ ?_ ?_
  .rintro i σ H' hi ⟨v5,v6,v7,v8,v9,v10,rfl,st⟩;rw[VL];obtain⟨as,ai,y1,y2,y3⟩:=zDO LN hi;have hnr:YC S.lines i=S.near i:=rfl;refine⟨_,rfl,_,rfl,na,_,_,_,rfl,rfl,zN.of (st.same _ _ y1),y6 (j:=i) rfl (map_some y2),ai,rfl,⟨_,zN.of (st.same _ _ y3)⟩,?_⟩;refine Zl (K:=K) (a:=ai) (xs:=zm (YC S.lines i)) (λj σ H'=>∃ v6 v7 v8 v9 v10:Option V,σ=[some (.ref c),some (.ref pa),some (.ref na),some (.ref wa),some (.ref oa),some (.int (i:Int)),v6,v7,v8,v9,v10]/\OSt K S H1 H' wa oa (zBC S i++((S.near i).take j).map λj=>(i,j))) ⟨_,_,_,_,_,rfl,by simpa using st⟩ (λj σ H' _ ⟨_,_,_,_,_,_,st⟩=>zN.of (st.same _ _ y3)) ?_ ?_
   .rintro j y σ H' hj ⟨v6,v7,v8,v9,v10,rfl,st⟩;obtain⟨b,hb,rfl⟩:=zDc hj;have hb':(S.near i)[j]?=some b:=hb;have jj:Kt.JJ S i b:=(Kt.Z5 O).mp (ZM hb')
    have epre:zBC S i++((S.near i).take (j+1)).map (λj=>(i,j))=(zBC S i++((S.near i).take j).map λj=>(i,j))++[(i,b)]:=by
     rw[zv hb',Wq,Uk];rfl
    rw[epre]
    have hpl:(zBC S i++((S.near i).take j).map (λj=>(i,j))).length<=2*S.lines.length:=by
     have q1:=zNt O;have q2:=zHc (S:=S) (i:=i+1) (S.pts.length-(i+1));rw[show i+1+(S.pts.length-(i+1))=S.pts.length by lia,zEn,Wi,zX] at q2;rw[Wi,zX,WF]
     lia
    generalize zBC S i++((S.near i).take j).map (λj=>(i,j))=pre at st hpl;obtain⟨D,hD,nd,hDw,hDm⟩:=st.wk;have efold:(pre++[(i,b)]).foldl (Kt.yq S) ([],[])=Kt.yq S (pre.foldl (Kt.yq S) ([],[])) (i,b):=by rw[XF];rfl
    refine⟨_,rfl,_,rfl,(by show 2<=sizeLine;decide),λt nt=>?_⟩;have s3:zH H' (upd H' t (.tup [.int (i:Int),.int (b:Int)])):=zQ (zH.refl H') nt;refine⟨_,rfl,wa,_,rfl,zCL.t (k:=kPr (Zf (i,b))) (s3 _ _ hD) zE,_,rfl,?_⟩;rw[zPt];have D3:upd H' t (.tup [.int (i:Int),.int (b:Int)]) wa=some (.dT (zBB D)):=s3 _ _ hD;have O3:=st.out.sameD (Zw.of s3);have S3:zH H1 (upd H' t (.tup [.int (i:Int),.int (b:Int)])):=st.same.trans s3;generalize upd H' t (.tup [.int (i:Int),.int (b:Int)])=H3 at D3 O3 S3;refine yA (λhb1=>?_) λhb1=>?_
    .have hin:(i,b)∈(pre.foldl (Kt.yq S) ([],[])).1:=(hDm _).mp (WG hb1);have eo:Kt.yq S (pre.foldl (Kt.yq S) ([],[])) (i,b)=pre.foldl (Kt.yq S) ([],[]):=zNu hin;refine⟨_,_,_,_,_,rfl,S3,st.nw,st.no,?_,D,D3,nd,hDw,?_⟩
     .rw[efold,eo];exact O3
     .rw[efold,eo];exact hDm
    .have hnin:(i,b)∉(pre.foldl (Kt.yq S) ([],[])).1:=λh=>WJ hb1 ((hDm _).mpr h)
     have eo:Kt.yq S (pre.foldl (Kt.yq S) ([],[])) (i,b)=((pre.foldl (Kt.yq S) ([],[])).1++Kt.zAl S (i,b),if 0<Gla.twiceArea S (Kt.Y7 S (i,b)) then (pre.foldl (Kt.yq S) ([],[])).2++[Kt.Y7 S (i,b)] else (pre.foldl (Kt.yq S) ([],[])).2):=zMk hnin;refine⟨_,rfl,_,rfl,_,rfl,_,rfl,i,b,pa,na,S,rfl,PA1.same S3,B,O,zA9.same LN S3,jj,λH4 q s4 hq nq=>?_⟩;obtain⟨kk,Pk,hrn,hrw⟩:=Kt.zCH O (e:=(i,b)) jj;have hkk:=zIq O (e:=(i,b)) jj Pk;have rlen:(Kt.Y7 S (i,b)).length=kk:=by rw[hrn,zX,ZY]
     have rmem:∀ x∈Yi (Kt.Y7 S (i,b)),x∈Gla.ways S:=λx hx=>(Kt.zAj O x).mpr (Kt.zE4 O (e:=(i,b)) jj (zKA.mp hx)).1
     have rlt:∀ x∈Kt.Y7 S (i,b),x<S.pts.length:=λx hx=>by
      rw[hrn] at hx;obtain⟨z,hz,rfl⟩:=Wp.mp hx;obtain⟨i',_,rfl⟩:=Kt.zo.mp hz;exact (O.jlt (Kt.Zu O.dr.hnx i' (e:=(i,b)) jj)).1
     have D4:=s4 _ _ D3;have O4:=O3.sameD (Zw.of s4);have S4:=S3.trans s4;have hml:=B.m;generalize hR:Kt.Y7 S (i,b)=R at *
     refine⟨_,rfl,q,_,rfl,.inl (zN.of hq),_,rfl,by lia,by rw[zw,rlen];lia,?_⟩;rw[zw,WS];refine zAB (lo:=0) (λkx σ Hx=>∃ v8 v9 v10:Option V,σ=[some (.ref c),some (.ref pa),some (.ref na),some (.ref wa),some (.ref oa),some (.int (i:Int)),some (.int (b:Int)),some (.ref q),v8,v9,v10]/\zH H1 Hx/\Zw H4 Hx/\Hx wa=some (.dT (zBB (((Yi R).take kx).foldl zB6 D)))) ⟨_,_,_,rfl,S4,Zw.of (zH.refl _),D4⟩ ?_ ?_
     .rintro kx σ Hx hkx ⟨v8,v9,v10,rfl,S5,sd,hw5⟩;rw[VL];obtain⟨x,y,c1,c2,c3⟩:=zMj hkx;have q5:Hx q=some (.lst (zm R)):=sd _ _ hq (λxs z=>by cases z);have e1:atI (zm R) ((kx:Int)-1)=some (.int (x:Int)):=zJ9 (by rw[zw];exact hkx) (by rw[zw];exact map_some (f:=λ(j:Nat)=>V.int (j:Int)) c2);have e2:atI (zm R) (kx:Int)=some (.int (y:Int)):=y6 rfl (map_some (f:=λ(j:Nat)=>V.int (j:Int)) c3);refine⟨_,rfl,_,rfl,_,rfl,_,_,rfl,rfl,q,_,_,_,rfl,rfl,zN.of q5,e1,_,rfl,_,rfl,q,_,_,_,rfl,rfl,zN.of q5,e2,(by show 2<=sizeLine;decide),λt2 nt2=>?_⟩;have s6:zH Hx (upd Hx t2 (.tup [.int (x:Int),.int (y:Int)])):=zQ (zH.refl Hx) nt2;have w6:=s6 _ _ hw5;refine⟨wa,_,rfl,zEO.t (k:=kPr (Zf (x,y))) w6 zE ?_,?_⟩
      .have hle:=Kt.zAi (((Yi R).take kx).foldl zB6 D) (Gla.ways S) (zD7 nd) (λz hz=>(zCv.mp hz).elim (hDw z) λh=>rmem z (XW h));rw[Kt.zDp] at hle;unfold zBB;rw[zX];exact Yv hle (yR (by lia:2*S.lines.length<30000) (by decide))
      .refine⟨_,_,_,rfl,λb' o' eb=>?_,sd.trans ((Zw.of s6).trans (Zw.upd w6)),?_⟩
       .rw[zD (zJ eb st.nw)];exact s6 _ _ (S5 _ _ eb)
       .rw[zE,zPu,zv c1,XF];rfl
     .rintro σ Hx ⟨v8,v9,v10,rfl,S5,sd,hw5⟩;rw[<-zFn,WV] at hw5;have q5:Hx q=some (.lst (zm R)):=sd _ _ hq (λxs z=>by cases z);have O5:=O4.sameD sd;refine⟨_,rfl,q,rfl,⟨_,zN.of q5⟩,λL nL=>?_⟩;refine zAp (K:=K) (a:=q) (xs:=zm R) (λm Hy=>zH Hx Hy/\zl (Z7 K) Hy L ((ZU S R).take m)) ⟨zQ (zH.refl Hx) nL,_,zE,Za.nil⟩ (λm Hy _ hh=>zN.of (hh.1 _ _ q5)) ?_ ?_
      .rintro m y Hy hm ⟨s6,vs,ev,qv⟩;obtain⟨z,hz,rfl⟩:=zDc hm;have hzl:=rlt z (ZM hz);have S6:zH H1 Hy:=S5.trans s6;obtain⟨bz,ez,Xz⟩:=rd z hzl;refine⟨rfl,?_⟩;refine⟨_,rfl,_,rfl,pa,pvs,_,_,rfl,rfl,zN.of (S6 _ _ hp2),ez,vs,ev,?_,λb' o' eb=>?_,?_⟩
       .rw[qv.1,WF];have hlR:(ZU S R).length<30000:=by unfold ZU;rw[zX,zX,rlen];lia
        exact Yv (V7 _ _) (yR hlR (by decide))
       .rw[zD (zJ eb nL)];exact s6 _ _ eb
       .have hc:(ZU S R)[m]?=some (zq (S.pt z)):=map_some (map_some hz);rw[zv hc];exact zl.snoc zCC ev qv ⟨bz,rfl,Xz.same S6⟩
      rintro Hy ⟨s6,LC⟩;have hcl:(zm R).length=(ZU S R).length:=by rw[zw];unfold ZU;rw[zX,zX]
      rw[hcl,WV] at LC;have S6:=S5.trans s6;have O6:=O5.sameD (Zw.of s6);have w6:=s6 _ _ hw5
      have smc:Sms (ZU S R):=λp hp=>by
       obtain⟨p',hp',rfl⟩:=Wp.mp hp;obtain⟨z,hz,rfl⟩:=Wp.mp hp';exact B.smp (rlt z hz)
      refine⟨_,rfl,L,ZU S R,rfl,LC,smc,by rw[<-hcl,zw,rlen];lia,_,rfl,?_⟩;rw[show zHw (ZU S R)=Gla.twiceArea S R from zPr]
      have hmem':∀ x,x∈(Yi R).foldl zB6 D↔x∈(pre.foldl (Kt.yq S) ([],[])).1++Kt.zAl S (i,b):=λx=>by
       rw[zCv,hDm,Wv,zKA];unfold Kt.zAl;rw[hR]
      have sub':∀ x∈(Yi R).foldl zB6 D,x∈Gla.ways S:=λx hx=>(zCv.mp hx).elim (hDw x) (rmem x)
      have Lo:L≠oa:=by
       obtain⟨as',g1,_⟩:=O5;exact λz=>by rw[<-z,nL] at g1;cases g1
      refine yA (λhb2=>?_) λhb2=>?_
      .obtain⟨as',g1,g2,g3⟩:=O6.push LC Lo;refine⟨_,rfl,.inl ⟨rfl,_,zN.of g1⟩,_,rfl,oa,_,_,rfl,rfl,g1,?_,?_⟩
       .rw[zX,g2,zX];have q1:=zIs (S:=S) pre ([],[]);rw[VS,WA] at q1;exact Yv (WT q1 hpl) (yR (by lia:2*S.lines.length<30000) (by decide))
       .refine⟨_,_,_,_,_,rfl,λb' o' eb=>?_,st.nw,st.no,?_,_,?_,zD7 nd,sub',?_⟩
        .rw[zD (zJ eb st.no)];exact S6 _ _ eb
        .rw[efold,eo];dsimp only;rw[Wc (WG hb2),Wq];exact g3
        .rw[zD (Ne.symm ne)];exact w6
        .rw[efold,eo];exact hmem'
      .refine⟨_,_,_,_,_,rfl,S6,st.nw,st.no,?_,_,w6,zD7 nd,sub',?_⟩
       .rw[efold,eo];dsimp only;rw[Wb (WJ hb2)];exact O6
       .rw[efold,eo];exact hmem'
   .rintro σ H' ⟨v6,v7,v8,v9,v10,rfl,st⟩;rw[zw,hnr,WV] at st;exact⟨_,_,_,_,_,_,rfl,by rw[zEn];exact st⟩
  .rintro σ H' ⟨v5,v6,v7,v8,v9,v10,rfl,st⟩;exact⟨_,rfl,k _ _ (s1.trans st.same) st.out (zAu s1 _ st.no)⟩
end
def zFo (z:P2)(x:P2×P2):Bool:=((decide (x.1.2<=z.2)&&decide (z.2<x.2.2))&&decide (0<YQ x.1 x.2 z))||((decide (x.2.2<=z.2)&&decide (z.2<x.1.2))&&decide (YQ x.1 x.2 z<0))
def zFp (n:Nat):Bool:=decide (n%2=1)
theorem zMm{n:Nat}:zFp (n+1) = !zFp n:=by
 unfold zFp;by_cases h:n%2=1
 .rw[WO h,WH (by lia)];rfl
 .rw[WH h,WO (by lia)];rfl
def zIt (ps:List P2)(z:P2):Bool:=zFp ((Yi ps).filter (zFo z)).length
theorem zMn{S:Gla.Plan}{l:List Nat}{z:Gla.Pt}:zIt (ZU S l) (zq z)=Gla.insideOf S l z:=by
 unfold zIt Gla.insideOf ZU zFp;rw[zD5,zD5,Vf]
 have key:∀ x:Nat×Nat,zFo (zq z) (((λx=>(zq x.1,zq x.2))∘λx=>(S.pt x.1,S.pt x.2)) x) =
   ((decide ((S.pt x.1).y<=z.y)&&(decide (z.y<(S.pt x.2).y)&&decide (0<Gla.turn (S.pt x.1) (S.pt x.2) z)))||(decide ((S.pt x.2).y<=z.y)&&(decide (z.y<(S.pt x.1).y)&&decide (Gla.turn (S.pt x.1) (S.pt x.2) z<0)))):=by
  intro x;show ((decide (((S.pt x.1).y:Int)<=(z.y:Int))&&decide ((z.y:Int)<((S.pt x.2).y:Int)))&&decide (0<Gla.turn (S.pt x.1) (S.pt x.2) z)||(decide (((S.pt x.2).y:Int)<=(z.y:Int))&&decide ((z.y:Int)<((S.pt x.1).y:Int)))&&decide (Gla.turn (S.pt x.1) (S.pt x.2) z<0))=_;simp only[XG,Int.ofNat_lt,Bool.and_assoc]
 rw[List.filter_map,zX];have e0:=List.filter_congr (l:=Yi l) (p:=λx:Nat×Nat=>zFo (zq z) (zq (S.pt x.1),zq (S.pt x.2))) (q:=λx:Nat×Nat=>((decide ((S.pt x.1).y<=z.y)&&(decide (z.y<(S.pt x.2).y)&&decide (0<Gla.turn (S.pt x.1) (S.pt x.2) z)))||(decide ((S.pt x.2).y<=z.y)&&(decide (z.y<(S.pt x.1).y)&&decide (Gla.turn (S.pt x.1) (S.pt x.2) z<0))))) (λx _=>key x);show decide ((List.filter (λx:Nat×Nat=>zFo (zq z) (zq (S.pt x.1),zq (S.pt x.2))) (Yi l)).length%2=1)=_;rw[e0]
 congr 2
 cases l with
|nil=>rfl
|cons a r=>
  rw[zEl];show (List.filter _ (_::(a::r).zip r)).length%2=(List.filter _ ((a::r).zip r++[_])).length%2;rw[XC,Wi,Ja];simp only[Ja,Ji];split <;> simp
theorem zKD(a b c:Nat):YM (c:Int) (zDI a b) (zDJ a b)=Gla.between a b c:=by
 have h1:zDI (a:Int) (b:Int)=((min a b:Nat):Int):=by unfold zDI;split <;> lia
 have h2:zDJ (a:Int) (b:Int)=((max a b:Nat):Int):=by unfold zDJ;split <;> lia
 rw[h1,h2];unfold YM Gla.between;rw[Ws.mpr XG,Ws.mpr XG]
theorem zOI{p q r:Gla.Pt}:onI (zq r) (zq p) (zq q)=Gla.isOn p q r:=by
 show (YM (r.y:Int) (zDI p.y q.y) (zDJ p.y q.y)&&(YM (r.x:Int) (zDI p.x q.x) (zDJ p.x q.x)&&decide (Gla.turn p q r=0)))=_;rw[zKD,zKD];unfold Gla.isOn;rw[W7];cases Gla.between p.y q.y r.y <;> cases Gla.between p.x q.x r.x <;> cases decide (Gla.turn p q r=0) <;> rfl
section
variable {P:Program}{w:World}{K:Qf}{mg:Qm}{base:Heap}{C:Addr}
def zOJ (K:Qf):Sp:=λvs H Q _=>∃ (ca ma:Addr) (ps:List P2) (z:P2),vs=[.ref ca,.ref ma]/\zl (Z7 K) H ca ps/\XY K H ma z/\Sms ps/\Sm 4294967296 z/\ps.length<100000/\Q (.bl (zIt ps z)) H
theorem zBw:zO ["corners","mark","within","k","before","corner","rises","falls"] ["corners","mark"] (zI zD0):=yE
theorem zRJ(D:zV K mg "is_round" zD0 ["corners","mark"])(OT:Ok P w K mg base 1 "turn" ["p","q","r"] (zEf K))(mr:mg "range" = none)(ml:mg "len" = none):Ok P w K mg base 2 "is_round" ["corners","mark"] (zOJ K):=by
 refine D.ok zBw (λvs H Q E h=>?_) (λf cdv A outer s H vs Q E hr h=>?_)
 .obtain⟨ca,ma,ps,z,rfl,_⟩:=h;rfl
 .obtain⟨ca,ma,ps,z,rfl,⟨cvs,hc,ec⟩,XM,hs,hz,hn,k⟩:=h;obtain⟨C0,d0,f0,m1,m2,m3,m4,m5,m6⟩:=id XM
  refine⟨_,zF (za (i:=2) zBw.nd rfl (Or.inl rfl) yz)
   (zF (yF Wt rfl (zBl rfl mr (zA (yH ml (zA (pv 0) zC)) zC)) (zT (i:=3) zBw.nd rfl (Or.inl rfl))
    (zF (za (i:=4) zBw.nd rfl (Or.inl rfl) (zh zd (pv 0) (zk ZP (pv 3) zL) (λ_ _=>rfl)))
    (zF (za (i:=5) zBw.nd rfl (Or.inl rfl) (zh zd (pv 0) (pv 3) (λ_ _=>rfl)))
    (zF (za (i:=6) zBw.nd rfl (Or.inl rfl) (zAA (yg zFw (zP (pv 4) rfl) (zP (pv 1) rfl) (zZ _)) (zAT (yg YI (zP (pv 1) rfl) (zP (pv 5) rfl) (zZ _)))))
    (zF (za (i:=7) zBw.nd rfl (Or.inl rfl) (zAA (yg zFw (zP (pv 5) rfl) (zP (pv 1) rfl) (zZ _)) (zAT (yg YI (zP (pv 1) rfl) (zP (pv 4) rfl) (zZ _)))))
    (zG (zu (PW.pt (zCm (PW.pt (zBk (yY (pv 6)) (zAo (zj YJ (zR OT hr (zA (pv 4) (zA (pv 5) (zA (pv 1) zC)))) zL (zZ _))))) (zBj (PW.pt (zBk (yY (pv 7)) (zAo (zj YI (zR OT hr (zA (pv 4) (zA (pv 5) (zA (pv 1) zC)))) zL (zZ _))))))))
     (zG (za (i:=2) zBw.nd rfl (Or.inl rfl) (zQU (pv 2)))) zc)))))))
   (zG (zS (pv 2)))),?_⟩
  refine⟨_,rfl,ca,_,rfl,.inl (zN.of hc),_,rfl,by lia,by rw[ec.1];lia,?_⟩;rw[ec.1,WS];refine zAB (lo:=0) (λi σ H'=>∃ v3 v4 v5 v6 v7:Option V,σ=[some (.ref ca),some (.ref ma),some (.bl (zFp (((Yi ps).take i).filter (zFo z)).length)),v3,v4,v5,v6,v7]/\H'=H) ⟨none,none,none,none,none,rfl,rfl⟩ ?_ ?_
  .rintro i σ H' hi ⟨v3,v4,v5,v6,v7,rfl,rfl⟩;rw[VL];refine Wa λng=>?_
   obtain⟨v1,u1,x,y,e1,e2,e3,mx,my,⟨b1,rfl,X1⟩,b2,rfl,X2⟩:=ec.prev hi;obtain⟨C1,d1,f1,a1,a2,a3,a4,a5,a6⟩:=id X1;obtain⟨C2,d2,f2,c1,c2,c3,c4,c5,c6⟩:=id X2;refine ng ?_;have sx:=(hs x mx).mono (n:=4294967296) (by decide);have sy:=(hs y my).mono (n:=4294967296) (by decide);refine⟨_,rfl,_,rfl,_,_,rfl,rfl,ca,_,_,_,rfl,rfl,zN.of hc,e1,?_⟩;refine⟨_,rfl,_,rfl,ca,_,_,_,rfl,rfl,zN.of hc,e2,?_⟩
   try dsimp only[Zc,Y1,Zj,Yo,YZ,Ya]
   show zB7 _ _ _ _ _;refine YU (c:=decide (x.2<=z.2)) (d:=decide (z.2<y.2)) (λR h=>⟨_,rfl,b1,C1,d1,_,_,rfl,a1,a2,a4,a6,_,rfl,ma,C0,d0,_,_,rfl,m1,m2,m4,m6,_,_,rfl,rfl,h⟩) (λ_ R h=>⟨_,rfl,ma,C0,d0,_,_,rfl,m1,m2,m4,m6,_,rfl,b2,C2,d2,_,_,rfl,c1,c2,c4,c6,_,_,rfl,rfl,h⟩) ?_
   try dsimp only[Zc,Y1,Zj,Yo,YZ,Ya]
   show zB7 _ _ _ _ _;refine YU (c:=decide (y.2<=z.2)) (d:=decide (z.2<x.2)) (λR h=>⟨_,rfl,b2,C2,d2,_,_,rfl,c1,c2,c4,c6,_,rfl,ma,C0,d0,_,_,rfl,m1,m2,m4,m6,_,_,rfl,rfl,h⟩) (λ_ R h=>⟨_,rfl,ma,C0,d0,_,_,rfl,m1,m2,m4,m6,_,rfl,b1,C1,d1,_,_,rfl,a1,a2,a4,a6,_,_,rfl,rfl,h⟩) ?_
   try dsimp only[Zc,Y1,Zj,Yo,YZ,Ya]
   show tOr _ _ _ _ _
   refine zEP (c:=(decide (x.2<=z.2)&&decide (z.2<y.2))&&decide (0<YQ x y z)) (d:=(decide (y.2<=z.2)&&decide (z.2<x.2))&&decide (YQ x y z<0))
    (λR h=>zAq (c:=decide (x.2<=z.2)&&decide (z.2<y.2)) (d:=decide (0<YQ x y z)) (λR h=>⟨_,rfl,_,rfl,h⟩) (λ_ R h=>⟨_,rfl,_,rfl,_,rfl,b1,b2,ma,x,y,z,rfl,X1,X2,XM,sx,sy,hz,_,_,rfl,rfl,_,rfl,h⟩) h)
    (λ_ R h=>zAq (c:=decide (y.2<=z.2)&&decide (z.2<x.2)) (d:=decide (YQ x y z<0)) (λR h=>⟨_,rfl,_,rfl,h⟩) (λ_ R h=>⟨_,rfl,_,rfl,_,rfl,b1,b2,ma,x,y,z,rfl,X1,X2,XM,sx,sy,hz,_,_,rfl,rfl,_,rfl,h⟩) h) (yA (λhb=>?_) λhb=>?_)
   .have hh:zFo z (x,y)=true:=hb;refine⟨_,rfl,_,rfl,some (.int (i:Int)),some (.ref b1),some (.ref b2),some (.bl (decide (x.2<=z.2)&&decide (z.2<y.2))),some (.bl (decide (y.2<=z.2)&&decide (z.2<x.2))),?_,rfl⟩;rw[zv e3,XC,Wi,Ut hh,Ji];show _=[_,_,some (V.bl (zFp (_+1))),_,_,_,_,_]
    rw[zMm];rfl
   .have hh:zFo z (x,y)=false:=hb;refine⟨some (.int (i:Int)),some (.ref b1),some (.ref b2),some (.bl (decide (x.2<=z.2)&&decide (z.2<y.2))),some (.bl (decide (y.2<=z.2)&&decide (z.2<x.2))),?_,rfl⟩;rw[zv e3,XC,Uv (by rw[hh];decide),Ji,VU];rfl
  .rintro σ H' ⟨v3,v4,v5,v6,v7,rfl,rfl⟩;rw[show (Yi ps).take ps.length=Yi ps from WK (by rw[zFn];exact We _)];exact⟨_,rfl,k⟩
def zRK (K:Qf):Sp:=λvs H Q _=>∃ (oa ma:Addr) (ls:List (List P2)) (z:P2) (i:Nat) (l:List P2),vs=[.ref oa,.ref ma]/\zD6 K H oa ls/\XY K H ma z/\Sm 4294967296 z/\(∀ l∈ls,Sms l/\l.length<100000)/\ls[i]?=some l/\zIt l z=true/\(∀ (j:Nat) (l:List P2),j<i->ls[j]?=some l->zIt l z=false)/\Q (.int (i:Int)) H
theorem zLJ:zO ["outlines","mark","number"] ["outlines","mark"] (zI zA7):=yE
theorem zST(D:zV K mg "outline_round" zA7 ["outlines","mark"])(OI:Ok P w K mg base 2 "is_round" ["corners","mark"] (zOJ K)):Ok P w K mg base 3 "outline_round" ["outlines","mark"] (zRK K):=by
 refine D.ok zLJ (λvs H Q E h=>?_) (λf cdv A outer s H vs Q E hr h=>?_)
 .obtain⟨oa,ma,ls,z,i,l,rfl,_⟩:=h;rfl
 .refine Wa λng=>?_
  obtain⟨oa,ma,ls,z,i,l,rfl,⟨as,o1,o2,o3,o4⟩,XM,hz,hls,hil,hin,hno,k⟩:=h;refine ng ?_
  refine⟨_,zF (za (i:=2) zLJ.nd rfl (Or.inl rfl) zL)
   (zF (zDh Wt (Zq (yY (zR OI hr (zA (zh zd (pv 0) (pv 2) (λ_ _=>rfl)) (zA (pv 1) zC)))))
    (zG (za (i:=2) zLJ.nd rfl (Or.inl rfl) (zk ZH (pv 2) zL))))
   (zG (zS (pv 2)))),?_⟩
  refine⟨λm σ H'=>∃ j:Nat,j<=i/\m=i-j/\σ=[some (.ref oa),some (.ref ma),some (.int (j:Int))]/\H'=H,⟨i,0,Ww _,rfl,rfl,rfl⟩,?_⟩;rintro m σ H' ⟨j,hj,rfl,rfl,rfl⟩
  have hjl:j<ls.length:=by
   have:=(yG hil).1
   lia
  have el:=yQ hjl;have ea:=yQ (l:=as) (i:=j) (by rw[o2];exact hjl);generalize as[j]'(by rw[o2];exact hjl)=a at ea;generalize ls[j]=lj at el;have hl:=hls lj (ZM el);refine⟨_,rfl,_,rfl,oa,_,_,_,rfl,rfl,zN.of o1,y6 (j:=j) rfl (map_some ea),_,rfl,a,ma,lj,z,rfl,o4 j a lj ea el,XM,hl.1,hz,hl.2,_,rfl,yA (λhb=>?_) λhb=>?_⟩
  .rw[WE] at hb
   have hji:j≠i:=λe=>by
    subst e;rw[hil] at el;cases el;rw[hin] at hb;cases hb
   refine⟨λσ' H''=>∃ m',m'<i-j/\∃ j:Nat,j<=i/\m'=i-j/\σ'=[some (.ref oa),some (.ref ma),some (.int (j:Int))]/\H''=H',λ_ _ h=>h,?_⟩;exact⟨_,rfl,_,_,rfl,rfl,i-(j+1),by lia,j+1,by lia,rfl,rfl,rfl⟩
  .rw[WD] at hb
   have hji:j=i:=by
    apply Nat.le_antisymm hj;apply Ur;intro hlt;rw[hno j lj hlt el] at hb;cases hb
   subst hji;exact⟨_,rfl,k⟩
def frB (S:Gla.Plan)(z:Gla.Pt):Bool:=decide (0<z.x)&&(decide (z.x<S.w)&&(decide (0<z.y)&&decide (z.y<S.h)))
def zHx (K:Qf)(g:Gla.Plan->Gla.Pt->Bool):Sp:=λvs H Q _=>∃ (c ma:Addr) (S:Gla.Plan) (z:Gla.Pt),vs=[.ref c,.ref ma]/\Yt K H c (ze S)/\Yh S/\XY K H ma (zq z)/\Sm 4294967296 (zq z)/\Q (.bl (g S z)) H
theorem zGW:zO ["cartoon","mark","points","first","second"] ["cartoon","mark"] (zI zBO):=yE
theorem zRL(D:zV K mg "is_on_a_line" zBO ["cartoon","mark"])(OO:Ok P w K mg base 2 "is_on" ["r","p","q"] (zNi K)):Ok P w K mg base 3 "is_on_a_line" ["cartoon","mark"] (zHx K Gla.onLines):=by
 refine D.ok zGW (λvs H Q E h=>?_) (λf cdv A outer s H vs Q E hr h=>?_)
 .obtain⟨c,ma,S,z,rfl,_⟩:=h;rfl
 .obtain⟨c,ma,S,z,rfl,CA,B,XM,hz,k⟩:=h;obtain⟨Cc,dx,fs,pa,la,mma,h1,h2,h3,h4,h5,h6,h7,h8,h9,h10,h11,h12,hpts,⟨lvs,hl,el⟩,h15⟩:=id CA;obtain⟨pvs,hp1,hp2,hp3,rd⟩:=zBg.rd (S:=S) hpts
  refine⟨_,zF (za (i:=2) zGW.nd rfl (Or.inl rfl) (zP (pv 0) rfl))
   (zF (yF Wt rfl (yt (zP (pv 0) rfl)) (Z1 rfl (zt (zT (i:=3) zGW.nd rfl (Or.inl rfl)) (zt (zT (i:=4) zGW.nd rfl (Or.inl rfl)) ZV)))
    (zG (zu (yY (zR OO hr (zA (pv 1) (zA (zh zd (pv 2) (pv 3) (λ_ _=>rfl)) (zA (zh zd (pv 2) (pv 4) (λ_ _=>rfl)) zC))))) (zG (zS yz)) zc)))
   (zG (zS yz))),?_⟩
  refine⟨_,rfl,c,Cc,dx,fs,_,rfl,h1,h2,h5,h10,?_⟩;refine⟨_,rfl,c,Cc,dx,fs,_,rfl,h1,h2,h6,h11,la,rfl,⟨_,zN.of hl⟩,Zl (K:=K) (a:=la) (xs:=lvs) (λi σ H'=>∃ v3 v4:Option V,σ=[some (.ref c),some (.ref ma),some (.ref pa),v3,v4]/\H'=H/\(S.lines.take i).any (λl=>Gla.isOn (S.pt l.1) (S.pt l.2) z)=false) ⟨none,none,rfl,rfl,rfl⟩ (λi σ H' _ hh=>hh.elim λ_ hh=>hh.elim λ_ hh=>by rw[hh.2.1];exact zN.of hl) ?_ ?_⟩
  .rintro i y σ H' hi ⟨v3,v4,rfl,rfl,ha⟩;obtain⟨p,hip,r⟩:=el.get' hi;obtain⟨l,hil,rfl⟩:=yV (show (S.lines.map Zf)[i]?=some p from hip);have hlo:=B.ln l (ZM hil);obtain⟨a,rfl,X⟩:=r;obtain⟨b1,e1,x1⟩:=rd l.1 (by lia);obtain⟨b2,e2,x2⟩:=rd l.2 hlo.2;refine⟨a,_,rfl,yJ.of X,rfl,_,_,rfl,_,_,rfl,rfl,?_⟩;refine⟨_,rfl,_,rfl,_,rfl,pa,_,_,_,rfl,rfl,hp1,e1,_,rfl,_,rfl,pa,_,_,_,rfl,rfl,hp1,e2,ma,b1,b2,_,_,_,rfl,XM,x1,x2,hz,(B.smp (by lia:l.1<_)).mono (by decide),(B.smp hlo.2).mono (by decide),_,rfl,?_⟩;rw[zOI];refine yA (λhb=>?_) λhb=>?_
   .have e0:Gla.onLines S z=true:=by
     unfold Gla.onLines;have q:=zJ3 (f:=λ(l:Nat×Nat)=>Gla.isOn (S.pt l.1) (S.pt l.2) z) hil hb;exact q
    rw[e0] at k;exact k
   .exact⟨_,_,rfl,rfl,zIo ha hil hb⟩
  .rintro σ H' ⟨v3,v4,rfl,rfl,ha⟩;rw[el.1,show (ze S).lns.length=S.lines.length from zX ..,WV] at ha
   have e0:Gla.onLines S z=false:=by
    unfold Gla.onLines;exact ha
   rw[e0] at k;exact k
theorem zRM:zO ["cartoon","mark"] ["cartoon","mark"] (zI zAR):=yE
theorem zRN(D:zV K mg "is_within_frame" zAR ["cartoon","mark"]):Ok P w K mg base 1 "is_within_frame" ["cartoon","mark"] (zHx K frB):=by
 refine D.ok zRM (λvs H Q E h=>?_) (λf cdv A outer s H vs Q E hr h=>?_)
 .obtain⟨c,ma,S,z,rfl,_⟩:=h;rfl
 .obtain⟨c,ma,S,z,rfl,CA,B,XM,hz,k⟩:=h;refine Wa λng=>?_
  obtain⟨Cc,dx,fs,pa,la,mma,h1,h2,h3,h4,h5,h6,h7,h8,h9,h10,h11,h12,hpts,h14,h15⟩:=id CA;refine ng ?_;obtain⟨C0,d0,f0,m1,m2,m3,m4,m5,m6⟩:=id XM;refine⟨_,zG (zS (zAA (yg YI zL (zP (pv 1) rfl) (zZ _)) (zAA (yg YI (zP (pv 1) rfl) (zP (pv 0) rfl) (zZ _)) (zAA (yg YI zL (zP (pv 1) rfl) (zZ _)) (zAT (yg YI (zP (pv 1) rfl) (zP (pv 0) rfl) (zZ _))))))),?_⟩;have e1:decide ((0:Int)<((z.x:Nat):Int))=decide (0<z.x):=by rw[Ws];lia
  have e2:decide (((z.x:Nat):Int)<((S.w:Nat):Int))=decide (z.x<S.w):=by rw[Ws];lia
  have e3:decide ((0:Int)<((z.y:Nat):Int))=decide (0<z.y):=by rw[Ws];lia
  have e4:decide (((z.y:Nat):Int)<((S.h:Nat):Int))=decide (z.y<S.h):=by rw[Ws];lia
  refine YU (c:=decide (0<z.x)) (d:=decide (z.x<S.w)&&(decide (0<z.y)&&decide (z.y<S.h))) (λR h=>⟨_,rfl,ma,C0,d0,_,_,rfl,m1,m2,m3,m5,_,_,rfl,rfl,by rw[<-e1] at h;exact h⟩) (λ_ R h=>?_) k;refine YU (c:=decide (z.x<S.w)) (d:=decide (0<z.y)&&decide (z.y<S.h)) (λR h=>⟨_,rfl,ma,C0,d0,_,_,rfl,m1,m2,m3,m5,_,rfl,c,Cc,dx,fs,_,rfl,h1,h2,h3,h8,_,_,rfl,rfl,by rw[<-e2] at h;exact h⟩) (λ_ R h=>?_) h;exact YU (c:=decide (0<z.y)) (d:=decide (z.y<S.h)) (λR h=>⟨_,rfl,ma,C0,d0,_,_,rfl,m1,m2,m4,m6,_,_,rfl,rfl,by rw[<-e3] at h;exact h⟩) (λ_ R h=>⟨_,rfl,ma,C0,d0,_,_,rfl,m1,m2,m4,m6,_,rfl,c,Cc,dx,fs,_,rfl,h1,h2,h4,h9,_,_,rfl,rfl,by rw[<-e4] at h;exact h⟩) h
def zD8 (S:Gla.Plan)(i:Nat)(m:Gla.Mark):Bool:=(!frB S m.at_||Gla.onLines S m.at_)||(decide (0<i) && !(match S.marks[i-1]? with |some q=>Yz (zq m.at_) (zq q.at_)|none=>true))
def r11 (S:Gla.Plan):Option (Int×Int):=yX (zD8 S) (λi=>(11,zB4 (ze S) (i:Int))) 0 S.marks
def MkB (S:Gla.Plan):Prop:=∀ m∈S.marks,m.at_.x<=4294967296/\m.at_.y<=4294967296
theorem MkB.sm{S:Gla.Plan}(h:MkB S){m:Gla.Mark}(hm:m∈S.marks):Sm 4294967296 (zq m.at_):=by
 have:=h m hm;unfold Sm zq;simp only
 lia
def zRO (K:Qf)(C:Addr)(g:Gla.Plan->Option (Int×Int)):Sp:=λvs H Q E=>∃ (c:Addr) (S:Gla.Plan),vs=[.ref c]/\Yt K H c (ze S)/\Yh S/\MkB S/\Res C E H Q (g S)
theorem zFD:zO ["cartoon","marks","number","mark"] ["cartoon"] (zI zB1):=yE
theorem zPx(D:zV K mg "judge_marks" zB1 ["cartoon"])(R:XR P w K mg base C)(OF:Ok P w K mg base 1 "is_within_frame" ["cartoon","mark"] (zHx K frB))(OO:Ok P w K mg base 3 "is_on_a_line" ["cartoon","mark"] (zHx K Gla.onLines))(OB:Ok P w K mg base 1 "is_behind" ["point","other"] (zEg K))
  (OM:Ok P w K mg base 3 "mark_place" ["cartoon","number"] (zBV K zB4))(me:mg "enumerate" = none):Ym P w K mg base 4 "judge_marks" ["cartoon"] (zRO K C r11):=by
 refine D.okN zFD (λvs H Q E h=>?_) (λf cdv A outer s H vs Q E hr h=>?_)
 .obtain⟨c,S,rfl,_⟩:=h;rfl
 .obtain⟨c,S,rfl,CA,B,MB,k⟩:=h;have hr1:zn 1 _:=hr.mono (by decide);have hr2:zn 2 _:=hr.mono (by decide);refine Wa λng=>?_
  obtain⟨Cc,dx,fs,pa,la,ma,h1,h2,h3,h4,h5,h6,h7,h8,h9,h10,h11,h12,h13,h14,⟨mvs,hm,em⟩⟩:=id CA;refine ng ?_
  refine⟨_,zF (za (i:=1) zFD.nd rfl (Or.inl rfl) (zP (pv 0) rfl))
   (zG (yF Vp rfl (YG rfl me (zA (pv 1) zC)) (Z1 rfl (zt (zT (i:=2) zFD.nd rfl (Or.inl rfl)) (zt (zT (i:=3) zFD.nd rfl (Or.inl rfl)) ZV)))
    (zF (zu (PW.pt (zCm (Zq (yY (zR OF hr1 (zA (pv 0) (zA (pv 3) zC))))) (zBj (yY (zR OO hr (zA (pv 0) (zA (pv 3) zC))))))) (zG (YB R hr2 (zA zL (zA (zR OM hr (zA (pv 0) (zA (pv 2) zC))) zC)))) zc)
    (zG (zu (PW.pt (zBk (zj YJ (pv 2) zL (zZ _)) (zAo (Zq (yY (zR OB hr1 (zA (pv 3) (zA (zh zd (pv 1) (zk ZP (pv 2) zL) (λ_ _=>rfl)) zC)))))))) (zG (YB R hr2 (zA zL (zA (zR OM hr (zA (pv 0) (zA (pv 2) zC))) zC)))) zc))))),?_⟩
  refine⟨_,rfl,c,Cc,dx,fs,_,rfl,h1,h2,h7,h12,?_⟩
  refine⟨_,rfl,ma,mvs,rfl,zN.of hm,Z4 (K:=K) (a:=ma) (xs:=mvs) (λi σ H'=>∃ v2 v3:Option V,σ=[some (.ref c),some (.ref ma),v2,v3]/\zH H H'/\∀ (j:Nat) (m:Gla.Mark),j<i->S.marks[j]?=some m->zD8 S (0+j) m=false)
   ⟨none,none,rfl,zH.refl H,λj z hj=>absurd hj (Vb _)⟩ (λi σ H' _ hh=>hh.elim λ_ hh=>hh.elim λ_ hh=>zN.of (hh.2.1 _ _ hm)) ?_ ?_⟩
  .rintro i y σ H' T hi ⟨v2,v3,rfl,s1,hno⟩ hT;have s2:zH H (upd H' T (.tup [.int (i:Nat),y])):=zQ s1 hT;obtain⟨pm,hip,r⟩:=em.get' hi;obtain⟨m,him,rfl⟩:=yV (show (S.marks.map cmk)[i]?=some pm from hip);have hmm:=ZM him;obtain⟨a,rfl,X⟩:=RMk.xy (zE8 _ _ _ _ (yd.of s2) r);have X':XY K (upd H' T (.tup [.int (i:Nat),.ref a])) a (zq m.at_):=X
   have hit:zD8 S (0+i) m=true->Rz C E H 11 (zB4 (ze S) (i:Int)):=λhb=>by
    have e:=Zd (f:=λi=>((11:Int),zB4 (ze S) (i:Int))) hno him hb;rw[WA] at e;exact k.rz e
   refine⟨T,_,rfl,yJ.of zE,rfl,_,_,rfl,_,_,rfl,rfl,?_⟩
   try dsimp only[Zc,Y1,Zj,Yo,YZ,Ya]
   show tOr _ _ _ _ _;refine zEP (c:=!frB S m.at_) (d:=Gla.onLines S m.at_) (λR h=>⟨_,rfl,_,rfl,c,a,S,m.at_,rfl,CA.same s2,B,X',MB.sm hmm,_,rfl,h⟩) (λ_ R h=>⟨_,rfl,_,rfl,c,a,S,m.at_,rfl,CA.same s2,B,X',MB.sm hmm,_,rfl,h⟩) (yA (λhb=>?_) λhb=>?_)
   .refine⟨_,rfl,_,rfl,c,ze S,_,rfl,CA.same s2,_,_,rfl,Yf (hit ?_) s2⟩;unfold zD8;rw[hb];rfl
   .try dsimp only[Zc,Y1,Zj,Yo,YZ,Ya]
    show zEF _ _ _ _ _;refine zAq (c:=decide (0<i)) (d:=!(match S.marks[i-1]? with |some q=>Yz (zq m.at_) (zq q.at_)|none=>true)) (λR h=>⟨_,rfl,_,_,rfl,rfl,_,rfl,?_⟩) (λhc R h=>?_) (yA (λhb2=>?_) λhb2=>?_)
    .rw[show decide ((i:Int)>0)=decide (0<i) by rw[Ws];lia];exact h
    .have hc':=WG hc
     have hlt:i-1<S.marks.length:=by
      have:=(yG him).1
      lia
     have hq:S.marks[i-1]?=some S.marks[i-1]:=yQ hlt;generalize S.marks[i-1]=q at hq;obtain⟨v,hv,r2⟩:=em.get (show (S.marks.map cmk)[i-1]?=some (cmk q) from map_some hq);obtain⟨b,rfl,Y⟩:=RMk.xy (zE8 _ _ _ _ (yd.of s2) r2);rw[hq] at h;exact⟨_,rfl,_,rfl,_,rfl,_,_,rfl,rfl,ma,mvs,_,_,rfl,rfl,zN.of (s2 _ _ hm),y6 (j:=i-1) (by lia) hv,a,b,_,_,rfl,X',Y,_,rfl,h⟩
    .refine⟨_,rfl,_,rfl,c,ze S,_,rfl,CA.same s2,_,_,rfl,Yf (hit ?_) s2⟩;unfold zD8;rw[WA,hb2,U7]
    .refine⟨some (.int (i:Nat)),some (.ref a),rfl,s2,λj q hj hq=>?_⟩;by_cases e:j=i
     .subst e;rw[him] at hq;cases hq;unfold zD8;rw[WA,hb2,hb];rfl
     .exact hno j q (by lia) hq
  .rintro σ H' ⟨v2,v3,rfl,s1,hno⟩;refine k.go (Ze λj y hy=>hno j y ?_ hy) s1;rw[em.1,show (ze S).mks.length=S.marks.length from zX ..];exact (yG hy).1
end
structure zLK(K:Qf)(mg:Qm)(C:Addr):Prop where
 cl:Yl K C
 n0:zg K C "corners"
 n1:zg K C "painting"
 mgC:mg "Pane" = some (.ref C)
theorem zPy{K:Qf}{h:Heap}{mg:Qm}{C:Addr}(X:K.In h)(G:h.Ns mainGlobals mg)(aC:PySem.W.nsIn K mainGlobals "Pane" = some (some (.ref C)))
  (pg:PySem.W.plainGet K C Str.empty=true)(hd:PySem.W.hasDictIn K C=true)(po:PySem.W.plainOver K C=true)(sa:PySem.W.findIn K (.ref C) "__setattr__" = some (some (.builtin "object.__setattr__")))
  (n0:PySem.W.findIn K (.ref C) "corners" = some none)(n1:PySem.W.findIn K (.ref C) "painting" = some none):zLK K mg C:=⟨⟨pg,hd,po,sa⟩,n0,n1,Va X G aC⟩
def RPn (K:Qf)(S:Gla.Plan)(H1:Hp):Hp->V->List Nat×Int->Prop:=λH v x=>∃ a C dx fs ca,v=.ref a/\H a=some (.ins C dx fs)/\Yl K C/\zg K C "corners"/\zg K C "painting"/\fs.lookup ("corners" : Str)=some (.ref ca)/\fs.lookup ("painting" : Str)=some (.int x.2)/\zl (Z7 K) H1 ca (ZU S x.1)
theorem zLL{K:Qf}{S:Gla.Plan}{H1:Hp}:Nm (RPn K S H1):=λ_ _ _ _ s r=>let ⟨a,C,dx,fs,ca,e1,e2,z⟩:=r;⟨a,C,dx,fs,ca,e1,s a _ e2 (λxs z=>by cases z),z⟩
def zAZ (S:Gla.Plan):List (List Nat×Int):=S.marks.map λm=>((S.among S.outlines m.at_).getD [],(m.painting:Int))
def rMk (S:Gla.Plan):Option (Int×Int):=match Gla.twice S S.outlines 0 [] S.marks with
|some i=>some (12,zB4 (ze S) (i:Int))
|none=>if S.marks.length<S.outlines.length then some (13,zB4 (ze S) (S.marks.length:Int)) else none
def zBD (C:Addr)(E:XK)(H:Hp)(Qp:Addr->Hp->Prop)(T:Hp->Addr->Prop):Option (Int×Int)->Prop
|some z=>Rz C E H z.1 z.2
|none=>∀ (H':Hp) (q:Addr),zH H H'->T H' q->Qp q H'
theorem zOK{S:Gla.Plan}(O:Kt.yC S){l:List Nat}(h:l∈(Kt.YN S).2):(∀ x∈l,x<S.pts.length)/\l.length<=2*S.lines.length/\0<l.length:=by
 obtain⟨k,e,F,rfl,_⟩:=(Kt.zDq O l).mp ((Kt.zBs O l).mp h);refine⟨λx hx=>?_,?_,?_⟩
 .obtain⟨z,hz,rfl⟩:=Wp.mp hx;obtain⟨i,_,rfl⟩:=Kt.zo.mp hz;exact (O.jlt (Kt.Zu O.dr.hnx i F.j)).1
 .rw[zX,ZY];exact zIq O F.j F.P
 .rw[zX,ZY];exact F.P.pos
theorem zPz{S:Gla.Plan}(B:Yh S)(O:Kt.yC S):∀ l∈(Kt.YN S).2.map (ZU S),Sms l/\l.length<100000:=by
 intro l hl;obtain⟨m,hm,rfl⟩:=Wp.mp hl;obtain⟨h1,h2,_⟩:=zOK O hm;refine⟨λp hp=>?_,?_⟩
 .obtain⟨p',hp',rfl⟩:=Wp.mp hp;obtain⟨z,hz,rfl⟩:=Wp.mp hp';exact B.smp (h1 z hz)
 .unfold ZU;rw[zX,zX];have:=B.m
  lia
def Y4 (M:List Nat):List (yD×V):=M.map λ(i:Nat)=>((.inl (i:Int):yD),V.bl true)
theorem zIu{M:List Nat}{i:Nat}:(ZB (Y4 M) (.inl (i:Int):yD)).isSome=decide (i∈M):=by
 rw[<-zAh];unfold Y4;rw[U4,WB];simp only[Vn,Function.comp,yr];constructor
 .rintro⟨q,hq,e⟩;injection e with e
  have:q=i:=by lia
  rw[<-this];exact hq
 .exact λh=>⟨i,h,rfl⟩
theorem zNv{M:List Nat}{i:Nat}(h:i∉M):YE (Y4 M) (.inl (i:Int):yD) (.bl true)=Y4 (M++[i]):=by
 have hn:ZB (Y4 M) (.inl (i:Int):yD)=none:=by
  have:=zIu (M:=M) (i:=i);rw[WH h] at this;cases e:ZB (Y4 M) (.inl (i:Int):yD) with
 |none=>rfl
 |some v=>rw[e] at this;cases this
 rw[zNH _ hn];unfold Y4;rw[Wq];rfl
structure zG7(S:Gla.Plan)(i:Nat)(M:List Nat):Prop where
 len:M.length=i
 at_:∀ (j:Nat) (m:Gla.Mark),j<i->S.marks[j]?=some m->∃ ix l,M[j]?=some ix/\(Kt.YN S).2[ix]?=some l/\S.among S.outlines m.at_=some l
 tw:Gla.twice S S.outlines 0 [] S.marks=Gla.twice S S.outlines i (((S.marks.take i).map λm=>S.among S.outlines m.at_).reverse) (S.marks.drop i)
theorem zG7.has{S:Gla.Plan}{i:Nat}{M:List Nat}(I:zG7 S i M){ix:Nat}{l:List Nat}(h1:(Kt.YN S).2[ix]?=some l)(hu:∀ j:Nat,(Kt.YN S).2[j]?=some l->j=ix)(hi:i<=S.marks.length) :
  (((S.marks.take i).map λm=>S.among S.outlines m.at_).reverse).contains (some l)=decide (ix∈M):=by
 rw[WB,yr,V0,List.mem_reverse,Wp];constructor
 .rintro⟨m,hm,e⟩;obtain⟨j,hj⟩:=WY hm
  have hji:j<i:=by
   have:=(yG hj).1;rw[WF] at this
   lia
  rw[Up hji] at hj;obtain⟨ix',l',q1,q2,q3⟩:=I.at_ j m hji hj;rw[e] at q3;cases q3;rw[<-hu ix' q2];exact ZM q1
 .intro h;obtain⟨j,hj⟩:=WY h;have hji:j<i:=by rw[<-I.len];exact (yG hj).1
  have hm:S.marks[j]?=some (S.marks[j]'(by lia)):=yQ (by lia);obtain⟨ix',l',q1,q2,q3⟩:=I.at_ j _ hji hm;rw[hj] at q1;cases q1;rw[h1] at q2;cases q2;exact⟨_,ZM (i:=j) (by rw[Up hji];exact hm),q3⟩
theorem zG7.hit{S:Gla.Plan}{i:Nat}{M:List Nat}(I:zG7 S i M){m:Gla.Mark}(hm:S.marks[i]?=some m){ix:Nat}{l:List Nat}(h1:(Kt.YN S).2[ix]?=some l)(hu:∀ j:Nat,(Kt.YN S).2[j]?=some l->j=ix)(ha:S.among S.outlines m.at_=some l) :
  (ix∈M->Gla.twice S S.outlines 0 [] S.marks=some i)/\(ix∉M->zG7 S (i+1) (M++[ix])):=by
 have hil:=(yG hm).1
 have hd:S.marks.drop i=m::S.marks.drop (i+1):=by
  rw[Ug hil,(yG hm).2]
 have hc:=I.has h1 hu (Vi hil);have tw:=I.tw;rw[hd] at tw;have ht:Gla.twice S S.outlines i (((S.marks.take i).map λm=>S.among S.outlines m.at_).reverse) (m::S.marks.drop (i+1))=if (((S.marks.take i).map λm=>S.among S.outlines m.at_).reverse).contains (S.among S.outlines m.at_)=true then some i else Gla.twice S S.outlines (i+1) (S.among S.outlines m.at_::((S.marks.take i).map λm=>S.among S.outlines m.at_).reverse) (S.marks.drop (i+1)):=rfl
 rw[ht,ha,hc] at tw;refine⟨λh=>?_,λh=>⟨?_,λj m' hj hm'=>?_,?_⟩⟩
 .rw[tw,Wc (WO h)]
 .rw[Wi,I.len];rfl
 .by_cases e:j=i
  .subst e;rw[hm] at hm';cases hm';exact⟨ix,l,by rw[<-I.len];simp,h1,ha⟩
  .obtain⟨ix',l',q1,q2,q3⟩:=I.at_ j m' (by lia) hm';exact⟨ix',l',by rw[WP (by rw[I.len];lia)];exact q1,q2,q3⟩
 .rw[tw,Wb (by rw[WH h];decide),zv hm,Wq,List.reverse_append];show _=Gla.twice S S.outlines (i+1) (S.among S.outlines m.at_::_) _;rw[ha];rfl
section
variable {P:Program}{w:World}{K:Qf}{mg:Qm}{base:Heap}{C:Addr}
theorem zLM:zO ["self","corners","painting"] ["self","corners","painting"] (zI zDG):=yE
theorem zLN{C:Addr}(D:yj K C "Pane.__init__" zDG ["self","corners","painting"])(T:zLK K mg C):Ys P w K mg base 1 C ["self","corners","painting"] (zAX C "corners" "painting"):=by
 refine D.ok zLM (λvs H Q E h=>?_) (λf cdv A outer s H vs Q E hr h=>?_)
 .obtain⟨p,dx,v1,v2,rfl,_⟩:=h;rfl
 .obtain⟨p,dx,v1,v2,rfl,hp,k⟩:=h;refine⟨_,zF (yo (pv 0) (pv 1) rfl) (zG (yo (pv 0) (pv 2) rfl)),?_⟩;refine⟨_,rfl,_,rfl,p,C,dx,_,rfl,hp,T.cl,T.n0,(by show 0<1000;decide),?_⟩;refine⟨_,rfl,_,rfl,p,C,dx,_,rfl,zE,T.cl,T.n1,yR (yO (n:=1) (by show 0<1;decide)) (by decide),?_⟩;exact k _ zE λb o e hb=>by rw[zD hb,zD hb];exact e
def zLO (K:Qf)(S:Gla.Plan)(H:Hp)(q:Addr):Prop:=zl (RPn K S H) H q (zAZ S)
def zOL (K:Qf)(C:Addr):Sp:=λvs H Q E=>∃ (c:Addr) (S:Gla.Plan),vs=[.ref c]/\Yt K H c (ze S)/\Yh S/\MkB S/\Kt.yC S/\(∀ m∈S.marks,Gla.clear S m.at_=true)/\zBD C E H (λq H'=>Q (.ref q) H') (λH' q=>zLO K S H' q) (rMk S)
theorem zCi:zO ["cartoon","outlines","marked","panes","number","mark","outline"] ["cartoon"] (zI zBP):=yE
theorem zRP{CP:Addr}(D:zV K mg "marked_panes" zBP ["cartoon"])(R:XR P w K mg base C)(OO:Ok P w K mg base 5 "outlines_of" ["cartoon"] (zMl K))(OR:Ok P w K mg base 3 "outline_round" ["outlines","mark"] (zRK K))(OM:Ok P w K mg base 3 "mark_place" ["cartoon","number"] (zBV K zB4))
  (MP:Ys P w K mg base 1 CP ["self","corners","painting"] (zAX CP "corners" "painting"))(T:zLK K mg CP)(me:mg "enumerate" = none)(ml:mg "len" = none):Ym P w K mg base 6 "marked_panes" ["cartoon"] (zOL K C):=by
 refine D.okN zCi (λvs H Q E h=>?_) (λf cdv A outer s H vs Q E hr h=>?_)
 .obtain⟨c,S,rfl,_⟩:=h;rfl
 .obtain⟨c,S,rfl,CA,B,MB,O,hcl,k⟩:=h;have hr2:zn 2 _:=hr.mono (by decide);have hr3:zn 3 _:=hr.mono (by decide);have hu:=zKj hr;refine Wa λng=>?_
  obtain⟨Cc,dx,fs,pa,la,ma,h1,h2,h3,h4,h5,h6,h7,h8,h9,h10,h11,h12,h13,h14,⟨mvs,hm,em⟩⟩:=id CA;refine ng ?_;have hml:mvs.length=S.marks.length:=by rw[em.1];exact zX ..
  refine⟨_,zF (za (i:=1) zCi.nd rfl (Or.inl rfl) (zR OO hr (zA (pv 0) zC))) (zF (za (i:=2) zCi.nd rfl (Or.inl rfl) zNK) (zF (za (i:=3) zCi.nd rfl (Or.inl rfl) (yZ zC))
   (zF (yF Vp rfl (YG rfl me (zA (zP (pv 0) rfl) zC)) (Z1 rfl (zt (zT (i:=4) zCi.nd rfl (Or.inl rfl)) (zt (zT (i:=5) zCi.nd rfl (Or.inl rfl)) ZV)))
    (zF (za (i:=6) zCi.nd rfl (Or.inl rfl) (zR OR hr3 (zA (pv 1) (zA (pv 5) zC))))
    (zF (zu (zH0 (zL0 hu (pv 6) (pv 2)) rfl) (zG (YB R hr2 (zA zL (zA (zR OM hr3 (zA (pv 0) (zA (pv 4) zC))) zC)))) zc)
    (zF (zJc hu (pv 2) (pv 6) yz rfl)
    (zG (yK (YK Wy WM WL ZE (pv 3) (zA (zBt MP hr2 T.mgC (zA (zh zd (pv 1) (pv 6) (λ_ _=>rfl)) (zA (zP (pv 5) rfl) zC))) zC))))))))
   (zF (zu (zj YI (yH ml (zA (pv 3) zC)) (yH ml (zA (pv 1) zC)) (zZ _)) (zG (YB R hr2 (zA zL (zA (zR OM hr3 (zA (pv 0) (zA (yH ml (zA (zP (pv 0) rfl) zC)) zC))) zC)))) zc)
   (zG (zS (pv 3))))))),?_⟩
  refine⟨_,rfl,c,S,rfl,CA,B,O,λH1 oa s1 LO _=>?_⟩;intro da nda;refine⟨Ww _,λna nna=>?_⟩;have ne:na≠da:=λe=>by rw[e,zE] at nna;cases nna
  have nna1:H1 na=none:=by rw[zD ne] at nna;exact nna
  obtain⟨as,o1,o2,o3,o4⟩:=id LO;rw[zX] at o2;have S2:zH H1 (upd (upd H1 da (.dK [])) na (.lst [])):=zQ (zQ (zH.refl H1) nda) nna;have d2:upd (upd H1 da (.dK [])) na (.lst []) da=some (.dK (Y4 [])):=by rw[zD (Ne.symm ne),zE];rfl
  have n2:upd (upd H1 da (.dK [])) na (.lst []) na=some (.lst []):=zE;generalize upd (upd H1 da (.dK [])) na (.lst [])=H2 at S2 d2 n2
  have keep:∀ {Hx:Hp}(o:HO),zH H1 Hx->zH H1 (upd Hx da o):=λo sx b x eb=>by
   rw[zD (zJ eb nda)];exact sx _ _ eb
  have keep2:∀ {Hx:Hp}(o:HO),zH H1 Hx->zH H1 (upd Hx na o):=λo sx b x eb=>by
   rw[zD (zJ eb nna1)];exact sx _ _ eb
  refine⟨_,rfl,c,Cc,dx,fs,_,rfl,S2 _ _ (s1 _ _ h1),h2,h7,h12,ma,mvs,rfl,zN.of (S2 _ _ (s1 _ _ hm)),?_⟩
  refine Z4 (K:=K) (a:=ma) (xs:=mvs) (λi σ H'=>∃ (M:List Nat) (v4 v5 v6:Option V),σ=[some (.ref c),some (.ref oa),some (.ref da),some (.ref na),v4,v5,v6]/\zH H1 H'/\H' da=some (.dK (Y4 M))/\(∃ vs,H' na=some (.lst vs)/\Za (RPn K S H1) H' vs ((zAZ S).take i))/\zG7 S i M)
   ⟨[],none,none,none,rfl,S2,d2,⟨[],n2,Za.nil⟩,rfl,λj m hj=>absurd hj (Vb _),rfl⟩ (λi σ H' _ hh=>hh.elim λ_ hh=>hh.elim λ_ hh=>hh.elim λ_ hh=>hh.elim λ_ hh=>zN.of (hh.2.1 _ _ (s1 _ _ hm))) ?_ ?_
  .rintro i y σ H' U hi ⟨M,v4,v5,v6,rfl,s3,hda,⟨vs,ev,qv⟩,MI⟩ hU;have sU:zH H' (upd H' U (.tup [.int (i:Nat),y])):=zQ (zH.refl H') hU;have s4:zH H1 (upd H' U (.tup [.int (i:Nat),y])):=s3.trans sU;have s04:=s1.trans s4;obtain⟨pm,hip,r⟩:=em.get' hi;obtain⟨m,him,rfl⟩:=yV (show (S.marks.map cmk)[i]?=some pm from hip);have hmm:=ZM him;have rm:=zE8 _ _ _ _ (yd.of s04) r;obtain⟨a,rfl,X⟩:=RMk.xy rm;refine Wa λng=>?_
   obtain⟨a',C1,d1,f1,ea,a1,a2,a3,a4,a5,a6,a7,a8⟩:=id rm;refine ng ?_;cases ea;have X':XY K (upd H' U (.tup [.int (i:Nat),.ref a])) a (zq m.at_):=X;refine Wa λng=>?_
   obtain⟨ix,l,w1,w2,w3,w4,w5⟩:=Kt.zJr O (hcl m hmm);refine ng ?_;refine⟨U,_,rfl,yJ.of zE,rfl,_,_,rfl,_,_,rfl,rfl,?_⟩;have hda4:=sU _ _ hda;have ev4:=sU _ _ ev;have qv4:=qv.mono λv x r=>zLL _ _ v x (yd.of sU) r
   generalize hG:upd H' U (.tup [.int (i:Nat),.ref a])=H4 at s4 s04 X' hda4 ev4 qv4 a1;refine⟨_,rfl,_,rfl,oa,a,_,_,ix,ZU S l,rfl,LO.sameD (Zw.of s4),X',MB.sm hmm,zPz B O,map_some w1,by rw[zMn];exact w2,λj lj hj hlj=>?_,?_⟩
   .obtain⟨lj',h',rfl⟩:=yV hlj;rw[zMn];exact w3 j lj' hj h'
   obtain⟨hitY,hitN⟩:=MI.hit him w1 w5 w4;refine⟨_,rfl,_,rfl,da,_,rfl,zCL.k (k:=(.inl (ix:Int):yD)) hda4,_,rfl,?_⟩;rw[zIu];refine yA (λhb=>?_) λhb=>?_
   .have e12:rMk S=some (12,zB4 (ze S) (i:Int)):=by unfold rMk;rw[hitY (WG hb)]
    rw[e12] at k;exact⟨_,rfl,_,rfl,c,ze S,_,rfl,CA.same s04,_,_,rfl,Yf k s04⟩
   .have hnin:=WJ hb;have MI':=hitN hnin
    have hMl:(Y4 M).length<sizeLine:=by
     unfold Y4;rw[zX,MI.len];exact yR (VW (yG him).1 B.k) (by decide)
    refine⟨_,rfl,_,rfl,da,_,rfl,zEO.k (k:=(.inl (ix:Int):yD)) hda4 hMl,?_⟩;rw[zNv hnin];have s5:zH H1 (upd H4 da (.dK (Y4 (M++[ix])))):=keep _ s4;have ev5:upd H4 da (.dK (Y4 (M++[ix]))) na=some (.lst vs):=by rw[zD ne];exact ev4
    have qv5:Za (RPn K S H1) (upd H4 da (.dK (Y4 (M++[ix])))) vs ((zAZ S).take i):=by
     refine qv4.mono λv x r=>?_
     obtain⟨b,Cb,db,fb,cb,g1,g2,g3⟩:=r;exact⟨b,Cb,db,fb,cb,g1,by rw[zD (λz=>by rw[z,hda4] at g2;cases g2)];exact g2,g3⟩
    have a15:upd H4 da (.dK (Y4 (M++[ix]))) a=some (.ins C1 d1 f1):=by rw[zD (λz=>by rw[z,hda4] at a1;cases a1)];exact a1
    have da5:upd H4 da (.dK (Y4 (M++[ix]))) da=some (.dK (Y4 (M++[ix]))):=zE;generalize upd H4 da (.dK (Y4 (M++[ix])))=H5 at s5 ev5 qv5 a15 da5;have hixl:ix<as.length:=by rw[o2];exact (yG w1).1
    have hix:=yQ hixl;generalize as[ix]=ca at hix;have hca:=o4 ix ca (ZU S l) hix (map_some w1);refine⟨_,rfl,.inl ⟨rfl,_,zN.of ev5⟩,_,rfl,_,rfl,oa,_,_,_,rfl,rfl,zN.of (s5 _ _ o1),y6 (j:=ix) rfl (map_some hix),_,rfl,a,C1,d1,f1,_,rfl,a15,a2,a5,a8,?_⟩;intro x dx' nx ndx nex;refine⟨x,dx',_,_,rfl,zE,λH6 hx k1=>⟨rfl,na,vs,_,rfl,rfl,?_,?_,?_⟩⟩
    .exact (zH.made nx ndx k1) _ _ ev5
    .rw[qv5.1,WF];exact Yv (Xf _ _) (yR (VW (yG him).1 B.k) (by decide))
    .have s56:zH H5 H6:=zH.made nx ndx k1;refine⟨M++[ix],_,_,_,rfl,keep2 _ (s5.trans s56),by rw[zD (Ne.symm ne)];exact s56 _ _ da5,?_,MI'⟩
     have hpl:(zAZ S)[i]?=some (l,(m.painting:Int)):=by
      unfold zAZ;rw[WQ,him,Vl,w4];rfl
     rw[zv hpl];exact zl.snoc zLL (s56 _ _ ev5) (qv5.mono λv x r=>zLL _ _ v x (yd.of s56) r) ⟨x,CP,dx',_,ca,rfl,hx,T.cl,T.n0,T.n1,zBu (by decide),zDU,hca⟩
  .rintro σ H' ⟨M,v4,v5,v6,rfl,s3,hda,⟨vs,ev,qv⟩,MI⟩;rw[hml] at MI qv;have hpl:(zAZ S).length=S.marks.length:=zX ..;rw[<-hpl,WV] at qv;have tw:Gla.twice S S.outlines 0 [] S.marks=none:=by rw[MI.tw,List.drop_length];rfl
   refine⟨_,rfl,na,_,rfl,.inl (zN.of ev),_,rfl,oa,_,rfl,.inl (zN.of (s3 _ _ o1)),_,_,rfl,rfl,_,rfl,?_⟩
   have e:decide (((vs.length:Nat):Int)<(((as.map V.ref).length:Nat):Int))=decide (S.marks.length<S.outlines.length):=by
    rw[qv.1,hpl,zX,o2,Kt.zMC O,Ws]
    lia
   rw[e];refine yA (λhb=>?_) λhb=>?_
   .have e13:rMk S=some (13,zB4 (ze S) (S.marks.length:Int)):=by unfold rMk;rw[tw];exact Wc (WG hb)
    rw[e13] at k;have s03:=s1.trans s3;refine⟨_,rfl,_,rfl,c,Cc,dx,fs,_,rfl,s03 _ _ h1,h2,h7,h12,ma,mvs,rfl,.inl (zN.of (s03 _ _ hm)),c,ze S,_,rfl,CA.same s03,_,_,rfl,?_⟩;rw[hml];exact Yf k s03
   .have e0:rMk S=none:=by unfold rMk;rw[tw];exact Wb (WJ hb)
    rw[e0] at k;refine⟨_,rfl,k _ _ (s1.trans s3) ⟨vs,ev,qv.1,λj v x e1 e2=>?_⟩⟩;obtain⟨b,Cb,db,fb,cb,g1,g2,g3,g4,g5,g6,g7,g8⟩:=qv.2 j v x e1 e2;exact⟨b,Cb,db,fb,cb,g1,g2,g3,g4,g5,g6,g7,g8.same zCC s3⟩
end
theorem zFR{α:Type}{g:Nat->α->Bool}{f:Nat->Int×Int}:∀ (l:List α) (k:Nat),yX g f k l=((l.zipIdx k).find? λx=>g x.2 x.1).map λx=>f x.2
|[],_=>rfl
|x::xs,k=>by
  rw[List.zipIdx_cons,VT];unfold yX;by_cases h:g k x=true
  .rw[Wc h];simp[h]
  .rw[Wb h,zFR xs (k+1)];simp[h]
theorem zAx{α:Type}{g:Nat->α->Bool}{f:Nat->Int×Int}{l:List α}:yX g f 0 l=(Gla.firstAt g l).map f:=by
 rw[zFR];unfold Gla.firstAt;rw[Option.map_map];rfl
theorem zCD{α β:Type}{h:β->α}{g:Nat->α->Bool}{f:Nat->Int×Int}:∀ (l:List β) (k:Nat),yX g f k (l.map h)=yX (λi x=>g i (h x)) f k l
|[],_=>rfl
|x::xs,k=>by
  show (if g k (h x)=true then _ else _)=(if g k (h x)=true then _ else _)
  rw[zCD xs (k+1)]
theorem Zg{α:Type}{g g':Nat->α->Bool}{f f':Nat->Int×Int}(hf:∀ i,f i=f' i):∀ (l:List α) (k:Nat),(∀ i x,l[i]?=some x->g (k+i) x=g' (k+i) x)->yX g f k l=yX g' f' k l
|[],_,_=>rfl
|x::xs,k,h=>by
  have h0:=h 0 x rfl;rw[UB] at h0;show (if g k x=true then _ else _)=(if g' k x=true then _ else _)
  have e:yX g f (k+1) xs=yX g' f' (k+1) xs:=Zg hf xs (k+1) λi y hy=>by
   have:=h (i+1) y (by simpa using hy);rw[show k+1+i=k+(i+1) by lia];exact this
  rw[h0,hf k,e]
theorem zEC{α:Type}{p:Nat->Bool}{f:Nat->Int×Int}:∀ (l:List α) (k:Nat),yX (λi _=>p i) f k l=((List.range' k l.length).find? p).map f
|[],_=>rfl
|x::xs,k=>by
  rw[Wn,List.range'_succ,VT];show (if p k=true then _ else _)=_;by_cases h:p k=true
  .rw[Wc h];simp[h]
  .rw[Wb h,zEC xs (k+1)];simp[h]
theorem zCj{α:Type}{p:Nat->Bool}{f:Nat->Int×Int}{l:List α}:yX (λi _=>p i) f 0 l=((List.range l.length).find? p).map f:=by rw[zEC,List.range_eq_range']
def YD (lo:Int)(r:List Bool):List Bool:=if 0<=lo then r.set lo.toNat true else r
theorem zLP{lo:Int}{r:List Bool}{j:Nat}:(YD lo r).getD j true=(decide ((j:Int)=lo)||r.getD j true):=by
 unfold YD;by_cases h:0<=lo
 .rw[Wc h,WC,WC];by_cases e:(j:Int)=lo
  .have e2:lo.toNat=j:=by lia
   rw[WO e,e2,List.getElem?_set];by_cases hj:j<r.length
   .simp[hj]
   .simp[hj]
  .rw[WH e,Xj,Ve (by lia)]
 .rw[Wb h,WH (by lia),Xj]
theorem zHd{lo:Int}{r:List Bool}{j:Nat}:YD lo (r.set j true)=(YD lo r).set j true:=by
 unfold YD;by_cases h:0<=lo
 .rw[Wc h,Wc h];by_cases e:lo.toNat=j
  .rw[e]
  .rw[List.set_comm _ _ e]
 .rw[Wb h,Wb h]
def zCE (a:List Nat×Array Bool)(j:Nat):List Nat×Array Bool:=if a.2.getD j true=true then a else (j::a.1,a.2.setIfInBounds j true)
theorem zIv{a:Array Bool}{j:Nat}{d:Bool}:a.getD j d=a.toList.getD j d:=by
 rw[WC,Array.getElem?_toList,WX]
theorem zP0{lo:Int}{t:List Nat}{r:List Bool}{seen:Array Bool}(h:seen.toList=YD lo r)(j:Nat):(zCE (t,seen) j).1=(yU lo (t,r) j).1/\(zCE (t,seen) j).2.toList=YD lo (yU lo (t,r) j).2:=by
 unfold zCE yU;have e:seen.getD j true=(decide ((j:Int)=lo)||r.getD j true):=by rw[zIv,h,zLP]
 simp only[e];cases h1:decide ((j:Int)=lo) <;> cases h2:r.getD j true
 .simp only[Bool.or_false,UU,Uq,Bool.not_false,Xy,UO];refine⟨trivial,?_⟩;rw[Xp,h,zHd]
 .simp[h]
 .simp[h]
 .simp[h]
theorem zKE{lo:Int}:∀ (l:List Nat) {t:List Nat}{r:List Bool}{seen:Array Bool},seen.toList=YD lo r->(l.foldl zCE (t,seen)).1=(l.foldl (yU lo) (t,r)).1/\(l.foldl zCE (t,seen)).2.toList=YD lo (l.foldl (yU lo) (t,r)).2
|[],_,_,_,h=>⟨rfl,h⟩
|j::l,t,r,seen,h=>by
  rw[Vm,Vm];obtain⟨h1,h2⟩:=zP0 (t:=t) h j;have e1:zCE (t,seen) j=((yU lo (t,r) j).1,(zCE (t,seen) j).2):=Jn h1 rfl;rw[e1];exact zKE l h2
theorem zEo{near:List (List Nat)}{lo:Int}:∀ (m:Nat) {t:List Nat}{r:List Bool}{seen:Array Bool},seen.toList=YD lo r->(Gla.spread near.toArray m t seen).toList=YD lo (rgo near lo m t r)
|0,_,_,_,h=>h
|_+1,[],_,_,h=>h
|m+1,k::t,r,seen,h=>by
  have eg:near.toArray.getD k []=near.getD k []:=by
   rw[WX,List.getElem?_toArray,WC]
  show (Gla.spread near.toArray m ((near.toArray.getD k []).foldl zCE (t,seen)).1 ((near.toArray.getD k []).foldl zCE (t,seen)).2).toList=YD lo (rgo near lo m ((near.getD k []).foldl (yU lo) (t,r)).1 ((near.getD k []).foldl (yU lo) (t,r)).2);rw[eg];obtain⟨h1,h2⟩:=zKE (near.getD k []) (t:=t) h;rw[h1];exact zEo m h2
theorem zSU{near:List (List Nat)}:(Gla.seenFrom near.toArray near.length 0 (Gla.noneSeen near.length)).toList=ZJ near (-1) 0:=by
 unfold Gla.seenFrom ZJ
 have h:((Gla.noneSeen near.length).setIfInBounds 0 true).toList=YD (-1) ((List.replicate near.length false).set 0 true):=by
  rw[Xp];unfold Gla.noneSeen;rw[Array.toList_replicate];rfl
 rw[zEo _ h];rfl
theorem zRQ{near:List (List Nat)}{i s:Nat}:(Gla.seenFrom near.toArray near.length s ((Gla.noneSeen near.length).setIfInBounds i true)).toList=YD (i:Int) (ZJ near (i:Int) s):=by
 unfold Gla.seenFrom ZJ;refine zEo _ ?_;rw[zHd];rw[Xp,Xp];unfold Gla.noneSeen YD;rw[Array.toList_replicate,Wc (Xc _),WS]
theorem zNw{i:Nat}{a:List Nat×List Bool}{j:Nat}(h:a.2[i]?=some false):(yU (i:Int) a j).2[i]?=some false:=by
 unfold yU;by_cases hc:(!decide ((j:Int)=(i:Int)) && !(a.2.getD j true))=true
 .rw[Wc hc];rw[y9,WE] at hc;have hne:j≠i:=λe=>WJ hc.1 (by rw[e])
  show (a.2.set j true)[i]?=_;rw[Ve hne];exact h
 .rw[Wb hc];exact h
theorem zIw{i:Nat}:∀ (l:List Nat) {a:List Nat×List Bool},a.2[i]?=some false->(l.foldl (yU (i:Int)) a).2[i]?=some false
|[],_,h=>h
|j::l,a,h=>zIw l (zNw h)
theorem zMo{near:List (List Nat)}{i:Nat}:∀ (m:Nat) {t:List Nat}{r:List Bool},r[i]?=some false->(rgo near (i:Int) m t r)[i]?=some false
|0,_,_,h=>h
|_+1,[],_,h=>h
|m+1,k::t,r,h=>by
  show (rgo near (i:Int) m ((near.getD k []).foldl (yU (i:Int)) (t,r)).1 ((near.getD k []).foldl (yU (i:Int)) (t,r)).2)[i]?=_;exact zMo m (zIw _ h)
theorem zMp:∀ (r:List Bool),r.count true+r.count false=r.length
|[]=>rfl
|b::r=>by
  have:=zMp r;cases b <;> simp <;> lia
theorem zNx{near:List (List Nat)}(ok:zDZ near)(h2:2<=near.length){i:Nat}(hi:i<near.length):zBf near i=Gla.cuts near.toArray near.length i:=by
 unfold zBf Gla.cuts;have hs:(if i=0 then 1 else 0)<near.length:=by split <;> lia
 have hne:(if i=0 then 1 else 0)≠i:=by split <;> lia
 generalize hS:(if i=0 then 1 else 0)=s at hs hne ⊢
 have hr0:((List.replicate near.length false).set s true)[i]?=some false:=by
  rw[Ve hne,V8,Wc hi]
 have hR:(ZJ near (i:Int) s)[i]?=some false:=zMo _ hr0;have hl:(ZJ near (i:Int) s).length=near.length:=zGU ok hs;have e:=zRQ (near:=near) (i:=i) (s:=s)
 have hc:(Gla.seenFrom near.toArray near.length s ((Gla.noneSeen near.length).setIfInBounds i true)).contains false=(YD (i:Int) (ZJ near (i:Int) s)).contains false:=by
  rw[<-e,<-Array.contains_toList]
 rw[hc];generalize ZJ near (i:Int) s=R at hR hl ⊢;have h3:=zFB hR;have h4:=zMp R;have e2:YD (i:Int) R=R.set i true:=by unfold YD;rw[Wc (Xc _),WS]
 rw[e2,WB,yr,V0,<-List.count_pos_iff]
 lia
open Gla
def fz (e:Fault):Int×Int:=((e.rule:Int),(e.place:Int))
theorem zP1{p q:Pt}(h:zq p=zq q):p=q:=by
 obtain⟨a,b⟩:=p;obtain⟨c,d⟩:=q;unfold zq at h;injection h with h1 h2
 simp only at h1 h2
 congr 1 <;> lia
theorem zFE{p:Pt}{l:List Pt}:decide (zq p∈l.map zq)=l.contains p:=by
 rw[WB,yr,V0,Wp];exact⟨λ⟨q,h,e⟩=>zP1 e ▸ h,λh=>⟨p,h,rfl⟩⟩
theorem zP2{p:Nat×Nat}{l:List (Nat×Nat)}:decide (Zf p∈l.map Zf)=l.contains p:=by
 rw[WB,yr,V0,Wp];exact⟨λ⟨q,h,e⟩=>zKB e ▸ h,λh=>⟨p,h,rfl⟩⟩
theorem zHe{p q:Pt}:Yz (zq p) (zq q)=q.below p:=by
 unfold Yz Pt.below zq;simp only;rw[WB];simp only[Vc,y9,yr,Vj]
 lia
def okP (S:Plan):Pt->Bool:=λ(p:Pt)=>decide (p.x<=S.w)&&decide (p.y<=S.h)
def okL (S:Plan):Nat×Nat->Bool:=λ(l:Nat×Nat)=>decide (l.1<l.2)&&decide (l.2<S.pts.length)
theorem L4(S:Plan):r4 (ze S)=(firstBad (okP S) Pt.below S.pts).map λi=>((4:Int),((ptPlace i:Nat):Int)):=by
 unfold r4 firstBad;rw[<-zAx];show yX _ _ 0 (S.pts.map zq)=_;rw[zCD];refine Zg (λi=>?_) _ _ λi x hx=>?_
 .show ((4:Int),20+8*(i:Int))=(4,((20+8*i:Nat):Int))
  congr 1
 .unfold zFj okP;show ((decide ((S.w:Int)<(x.x:Int))||decide ((S.h:Int)<(x.y:Int)))||(decide (0<0+i) && !(match (S.pts.map zq)[0+i-1]? with |some q=>Yz (zq x) q|none=>true)))=_;rw[WQ]
  have e1:(decide ((S.w:Int)<(x.x:Int))||decide ((S.h:Int)<(x.y:Int))) = !(decide (x.x<=S.w)&&decide (x.y<=S.h)):=by
   rw[WB];simp only[Vc,yr,WE,Xl,VA]
   lia
  rw[e1]
  congr 2
  cases S.pts[0+i-1]? with
 |none=>rfl
 |some y=>
   show (!Yz (zq x) (zq y)) = !y.below x;rw[zHe]
theorem zSV{x y:Nat×Nat}:Ky.leI [(Zf x).1,(Zf x).2] [(Zf y).1,(Zf y).2] = !lineBelow y x:=by
 unfold lineBelow Zf;simp only[Ky.leI];rw[WB];simp only[WE,WZ,Xl,VA,W8];split
 .split
  .simp;lia
  .simp;lia
 .simp;lia
theorem L5(S:Plan):r5 (ze S)=(firstBad (okL S) lineBelow S.lines).map λi=>((5:Int),((linePlace S i:Nat):Int)):=by
 unfold r5 firstBad;rw[<-zAx];show yX _ _ 0 (S.lines.map Zf)=_;rw[zCD];have hl:((ze S).pts.length:Int)=S.pts.length:=by show (((S.pts.map zq).length:Nat):Int)=_;rw[zX]
 refine Zg (λi=>?_) _ _ λi x hx=>?_
 .show ((5:Int),20+8*((ze S).pts.length:Int)+4*(i:Int))=(5,((20+8*S.pts.length+4*i:Nat):Int))
  rw[hl]
  congr 1
 .unfold zFk okL;rw[hl];show ((decide ((x.2:Int)<=(x.1:Int))||decide ((S.pts.length:Int)<=(x.2:Int)))||(decide (0<0+i)&&(match (S.lines.map Zf)[0+i-1]? with |some q=>Ky.leI [(Zf x).1,(Zf x).2] [q.1,q.2]|none=>false)))=_;rw[WQ]
  have e1:(decide ((x.2:Int)<=(x.1:Int))||decide ((S.pts.length:Int)<=(x.2:Int))) = !(decide (x.1<x.2)&&decide (x.2<S.pts.length)):=by
   rw[WB];simp only[Vc,yr,WE,Xl,VA]
   lia
  rw[e1]
  congr 2
  cases S.lines[0+i-1]? with
 |none=>rfl
 |some y=>exact zSV
theorem zGX{S:Plan}{g:P2->Bool}{on:Pt->Bool}(h:∀ p,g (zq p)=on p):ZD g (S.pts.map zq) S.pts.length=(edgePts S on).map Int.ofNat:=by
 unfold ZD edgePts
 congr 1
 refine List.filter_congr λi hi=>?_
 unfold zIl;rw[WQ,(zCg (VD.mp hi)).1,Vl];exact h _
theorem zMq:∀ {l:List Nat},l.Pairwise (· < ·)->∀ x∈l.zip l.tail,x.1<x.2
|[],_,x,hx=>by simp at hx
|[a],_,x,hx=>by simp at hx
|a::b::l,h,x,hx=>by
  rw[Vy] at h;have hx':x∈(a,b)::(b::l).zip l:=hx;rcases Wd.mp hx' with e|e
  .rw[e];exact h.1 b Wm
  .exact zMq (l:=b::l) h.2 x e
theorem zFF{S:Plan}{l:List Nat}(h:l.Pairwise (· < ·)):zD2 (λp=>decide (p∈(ze S).lns)) (l.map Int.ofNat)=chained S l:=by
 unfold zD2 chained zCf;rw[<-List.map_tail,List.zip_map,List.all_map,List.drop_one];rw[WB,WW,WW]
 have key:∀ x∈l.zip l.tail,decide (((x.1:Int),(x.2:Int))∈(ze S).lns)=S.joined x.1 x.2:=by
  intro x hx;have hlt:=zMq h x hx;unfold Plan.joined;rw[XA (Vi hlt),Nat.max_eq_right (Vi hlt)];exact zP2 (p:=(x.1,x.2))
 exact⟨λhh x hx=>by rw[<-key x hx];exact hh x hx,λhh x hx=>(key x hx).trans (hh x hx)⟩
theorem zD9{S:Plan}{on:Pt->Bool}:(edgePts S on).Pairwise (· < ·):=UL _ XD
theorem L6(S:Plan):r6 (ze S)=if frameOk S=true then none else some (6,20):=by
 unfold r6;have hl:(ze S).pts.length=S.pts.length:=zX ..
 have e:(zCe (ze S)&&(Z9 (ze S) (ze S).pts.length).all (zD2 λp=>decide (p∈(ze S).lns)))=frameOk S:=by
  rw[hl];unfold Z9 frameOk
  rw[show (ze S).pts=S.pts.map zq from rfl,zGX (on:=λp=>p.y==0) (λp=>by show decide ((p.y:Int)=0)=_;rw[W7,Ws];lia),zGX (on:=λp=>p.y==S.h) (λp=>by show decide ((p.y:Int)=(S.h:Int))=_;rw[W7,Ws];lia),
   zGX (on:=λp=>p.x==0) (λp=>by show decide ((p.x:Int)=0)=_;rw[W7,Ws];lia),zGX (on:=λp=>p.x==S.w) (λp=>by show decide ((p.x:Int)=(S.w:Int))=_;rw[W7,Ws];lia)]
  simp only[Xx,List.all_nil,Xy];rw[zFF zD9,zFF zD9,zFF zD9,zFF zD9];unfold zCe;simp only[Xx,List.all_nil,Xy];rw[show decide (((0:Int),(0:Int))∈(ze S).pts)=S.pts.contains ⟨0,0⟩ from zFE (p:=⟨0,0⟩),show decide (((0:Int),(ze S).hg)∈(ze S).pts)=S.pts.contains ⟨0,S.h⟩ from zFE (p:=⟨0,S.h⟩),show decide (((ze S).wd,(0:Int))∈(ze S).pts)=S.pts.contains ⟨S.w,0⟩ from zFE (p:=⟨S.w,0⟩),show decide (((ze S).wd,(ze S).hg)∈(ze S).pts)=S.pts.contains ⟨S.w,S.h⟩ from zFE (p:=⟨S.w,S.h⟩)];cases S.pts.contains ⟨0,0⟩ <;> cases S.pts.contains ⟨0,S.h⟩ <;> cases S.pts.contains ⟨S.w,0⟩ <;> cases S.pts.contains ⟨S.w,S.h⟩ <;> simp
 rw[e]
theorem zFG{S:Plan}{i:Nat}(h:i<S.pts.length):ptA (S.pts.map zq) (i:Int)=zq (S.pt i):=zG0 (map_some (zCg h).1)
theorem zP3(p q r s:Pt):zGQ (zq p) (zq q) (zq r) (zq s)=crosses p q r s:=rfl
theorem L7{S:Plan}(B:Yh S):r7 (ze S)=(firstAt (touches S) S.lines).map λi=>((7:Int),((linePlace S i:Nat):Int)):=by
 unfold r7;rw[<-zAx];show yX _ _ 0 (S.lines.map Zf)=_;rw[zCD];have hl:((ze S).pts.length:Int)=S.pts.length:=by show (((S.pts.map zq).length:Nat):Int)=_;rw[zX]
 refine Zg (λi=>?_) _ _ λi x hx=>?_
 .show ((7:Int),20+8*((ze S).pts.length:Int)+4*(i:Int))=(7,((20+8*S.pts.length+4*i:Nat):Int))
  rw[hl]
  congr 1
 .have hxl:=B.ln x (ZM hx);have h1:x.1<S.pts.length:=by lia
  unfold zDK touches;rw[WA]
  congr 1
  .unfold zD3;rw[WB,Vn,Vn]
   have key:∀ k,k<S.pts.length->btw (S.pts.map zq) (Zf x) k (zq (S.pt k))=(k != x.1&&(k != x.2&&isOn (S.pt x.1) (S.pt x.2) (S.pt k))):=by
    intro k hk;unfold btw;show ((!(decide ((x.1:Int)=(k:Int))||decide ((x.2:Int)=(k:Int))))&&onI (zq (S.pt k)) (ptA (S.pts.map zq) (x.1:Int)) (ptA (S.pts.map zq) (x.2:Int)))=_;rw[zFG h1,zFG hxl.2,zOI]
    have e1:(k != x.1) = !decide ((x.1:Int)=(k:Int)):=by
     show (!(k==x.1))=_;rw[W7,show decide (k=x.1)=decide ((x.1:Int)=(k:Int)) by rw[Ws];lia]
    have e2:(k != x.2) = !decide ((x.2:Int)=(k:Int)):=by
     show (!(k==x.2))=_;rw[W7,show decide (k=x.2)=decide ((x.2:Int)=(k:Int)) by rw[Ws];lia]
    rw[e1,e2];cases decide ((x.1:Int)=(k:Int)) <;> cases decide ((x.2:Int)=(k:Int)) <;> rfl
   constructor
   .rintro⟨⟨p,k⟩,hm,hb⟩;have hk:=VQ.mp hm;obtain⟨q,hq,e⟩:=yV (show (S.pts.map zq)[k]?=some p from hk);subst e;have hkl:=(yG hq).1;have eq:q=S.pt k:=by rw[(zCg hkl).1] at hq;exact (Wu hq).symm
    subst eq;exact⟨k,VD.mpr hkl,by rw[<-key k hkl];exact hb⟩
   .rintro⟨k,hk,hb⟩;have hkl:=VD.mp hk;refine⟨(zq (S.pt k),k),VQ.mpr (map_some (zCg hkl).1),?_⟩;show btw (S.pts.map zq) (Zf x) k (zq (S.pt k))=true;rw[key k hkl];exact hb
  .show ((S.lines.map Zf).take i).any _=_;rw[<-Xh,U4];rw[WB,Vn,Vn]
   have key:∀ m∈S.lines.take i,zFm (ze S).pts (Zf x) (Zf m)=crosses (S.pt x.1) (S.pt x.2) (S.pt m.1) (S.pt m.2):=by
    intro m hm;have hml:=B.ln m (XW hm);unfold zFm;show zGQ (ptA (S.pts.map zq) (x.1:Int)) (ptA (S.pts.map zq) (x.2:Int)) (ptA (S.pts.map zq) (m.1:Int)) (ptA (S.pts.map zq) (m.2:Int))=_;rw[zFG h1,zFG hxl.2,zFG (by lia:m.1<_),zFG hml.2,zP3]
   exact⟨λ⟨m,hm,hb⟩=>⟨m,hm,by rw[<-key m hm];exact hb⟩,λ⟨m,hm,hb⟩=>⟨m,hm,by show zFm (ze S).pts (Zf x) (Zf m)=true;rw[key m hm];exact hb⟩⟩
theorem zLQ(r:Int)(i:Nat):zD4 r i=(r,((ptPlace i:Nat):Int)):=by
 unfold zD4 ptPlace HEAD
 congr 1
theorem L8(S:Plan):r8 (yN S.pts.length S.lines)=((List.range S.pts.length).find? λ(i:Nat)=>decide ((S.near i).length<2)).map λi=>((8:Int),((ptPlace i:Nat):Int)):=by
 unfold r8;have e:=zCj (p:=λ(i:Nat)=>decide ((S.near i).length<2)) (f:=λi=>((8:Int),((ptPlace i:Nat):Int))) (l:=yN S.pts.length S.lines);rw[Yu] at e;rw[<-e];refine Zg (zLQ 8) _ _ λi x hx=>?_
 have hi:i<S.pts.length:=by have:=(yG hx).1;rw[Yu] at this;exact this
 rw[zEj hi] at hx;cases hx;rw[WA];rfl
theorem L9{S:Plan}(B:Yh S):r9 (yN S.pts.length S.lines)=((List.range S.pts.length).find? λ(i:Nat)=>!((seenFrom S.nears S.pts.length 0 (noneSeen S.pts.length)).getD i false)).map λi=>((9:Int),((ptPlace i:Nat):Int)):=by
 unfold r9;have hn:(yN S.pts.length S.lines).length=S.pts.length:=Yu;have e9:=zSU (near:=yN S.pts.length S.lines);have hl:(ZJ (yN S.pts.length S.lines) (-1) 0).length=S.pts.length:=(zGU B.near (by rw[hn];have:=B.n2;lia)).trans hn;have e:=zCj (p:=λ(i:Nat)=>!((seenFrom S.nears S.pts.length 0 (noneSeen S.pts.length)).getD i false)) (f:=λi=>((9:Int),((ptPlace i:Nat):Int))) (l:=ZJ (yN S.pts.length S.lines) (-1) 0);rw[hl] at e;rw[<-e];refine Zg (zLQ 9) _ _ λi x hx=>?_
 rw[WA];have hS:S.nears=(yN S.pts.length S.lines).toArray:=rfl;rw[hn] at e9
 have:(seenFrom S.nears S.pts.length 0 (noneSeen S.pts.length)).getD i false=x:=by
  rw[zIv,hS,e9,WC,hx];rfl
 simp only[this]
theorem L10{S:Plan}(B:Yh S):r10 (yN S.pts.length S.lines)=((List.range S.pts.length).find? (cuts S.nears S.pts.length)).map λi=>((10:Int),((ptPlace i:Nat):Int)):=by
 unfold r10;have hn:(yN S.pts.length S.lines).length=S.pts.length:=Yu;have e:=zCj (p:=cuts S.nears S.pts.length) (f:=λi=>((10:Int),((ptPlace i:Nat):Int))) (l:=yN S.pts.length S.lines);rw[hn] at e;rw[<-e];refine Zg (zLQ 10) _ _ λi x hx=>?_
 have hi:i<(yN S.pts.length S.lines).length:=(yG hx).1;rw[WA];have:=zNx B.near (by rw[hn];exact B.n2) hi;rw[this,hn];rfl
theorem zLR(S:Plan)(i:Nat):zB4 (ze S) (i:Int)=((markPlace S i:Nat):Int):=by
 unfold zB4 zB3 markPlace HEAD;have h1:(ze S).pts.length=S.pts.length:=zX ..;have h2:(ze S).lns.length=S.lines.length:=zX ..;rw[h1,h2]
 lia
theorem L11(S:Plan):r11 S=(firstBad (markOk S) markBelow S.marks).map λi=>((11:Int),((markPlace S i:Nat):Int)):=by
 unfold r11 firstBad;rw[<-zAx];refine Zg (λi=>by rw[zLR]) _ _ λi x hx=>?_
 unfold zD8 markOk
 have e1:(!frB S x.at_||onLines S x.at_) = !clear S x.at_:=by
  unfold frB clear;cases decide (0<x.at_.x) <;> cases decide (x.at_.x<S.w) <;> cases decide (0<x.at_.y) <;> cases decide (x.at_.y<S.h) <;> cases onLines S x.at_ <;> rfl
 rw[e1]
 congr 2
 cases S.marks[0+i-1]? with
|none=>rfl
|some y=>
  show (!Yz (zq x.at_) (zq y.at_)) = !markBelow y x;rw[zHe];rfl
theorem L12(S:Plan):rMk S=match twice S S.outlines 0 [] S.marks with
 |some i=>some ((12:Int),((markPlace S i:Nat):Int))
 |none=>if S.marks.length<S.outlines.length then some (13,((S.size:Nat):Int)) else none:=by
 unfold rMk;cases twice S S.outlines 0 [] S.marks with
|some i=>simp only;rw[zLR]
|none=>simp only;rw[zLR];rfl
def PF (S:Plan):Option (Int×Int):=(r4 (ze S)).or ((r5 (ze S)).or ((zFC S).or ((r11 S).or (rMk S))))
theorem zNy(S:Plan):S.fault.map fz=((firstBad (okP S) Pt.below S.pts).map λi=>((4:Int),((ptPlace i:Nat):Int))).or (((firstBad (okL S) lineBelow S.lines).map λi=>((5:Int),((linePlace S i:Nat):Int))).or
  (((if frameOk S=true then none else some ((6:Int),(20:Int))).or (((firstAt (touches S) S.lines).map λi=>((7:Int),((linePlace S i:Nat):Int))).or ((((List.range S.pts.length).find? λ(i:Nat)=>decide ((S.near i).length<2)).map λi=>((8:Int),((ptPlace i:Nat):Int))).or
  ((((List.range S.pts.length).find? λ(i:Nat)=>!((seenFrom S.nears S.pts.length 0 (noneSeen S.pts.length)).getD i false)).map λi=>((9:Int),((ptPlace i:Nat):Int))).or (((List.range S.pts.length).find? (cuts S.nears S.pts.length)).map λi=>((10:Int),((ptPlace i:Nat):Int))))))).or
  (((firstBad (markOk S) markBelow S.marks).map λi=>((11:Int),((markPlace S i:Nat):Int))).or (match twice S S.outlines 0 [] S.marks with
 |some i=>some ((12:Int),((markPlace S i:Nat):Int))
 |none=>if S.marks.length<S.outlines.length then some (13,((S.size:Nat):Int)) else none)))):=by
 unfold Plan.fault;dsimp only;rw[show (λ(p:Pt)=>decide (p.x<=S.w)&&decide (p.y<=S.h))=okP S from rfl,show (λ(l:Nat×Nat)=>decide (l.1<l.2)&&decide (l.2<S.pts.length))=okL S from rfl];generalize firstBad (okP S) Pt.below S.pts=a4;generalize firstBad (okL S) lineBelow S.lines=a5;generalize firstAt (touches S) S.lines=a7;generalize ((List.range S.pts.length).find? λ(i:Nat)=>decide ((S.near i).length<2))=a8;generalize ((List.range S.pts.length).find? λ(i:Nat)=>!((seenFrom S.nears S.pts.length 0 (noneSeen S.pts.length)).getD i false))=a9;generalize ((List.range S.pts.length).find? (cuts S.nears S.pts.length))=a10;generalize firstBad (markOk S) markBelow S.marks=a11;generalize twice S S.outlines 0 [] S.marks=a12;cases a4 with
|some i=>rfl
|none=>
  cases a5 with
 |some i=>rfl
 |none=>
   by_cases h6:frameOk S=true
   .rw[h6,Wb (by decide),Wc rfl];cases a7 with
   |some i=>rfl
   |none=>
     cases a8 with
    |some i=>rfl
    |none=>
      cases a9 with
     |some i=>rfl
     |none=>
       cases a10 with
      |some i=>rfl
      |none=>
        cases a11 with
       |some i=>rfl
       |none=>
         cases a12 with
        |some i=>rfl
        |none=>
          simp only;by_cases h:S.marks.length<S.outlines.length
          .rw[Wc h];simp only[Option.map_none,Option.none_or];rw[Wc h];rfl
          .rw[Wb h];simp only[Option.map_none,Option.none_or];rw[Wb h]
   .rw[Wc (by simpa using h6),Wb h6];rfl
structure HdB(S:Plan):Prop where
 n:S.pts.length<=4096
 n4:4<=S.pts.length
 m:S.lines.length<=8192
 k:S.marks.length<=2048
 w:S.w<=1048575
 h:S.h<=1048575
theorem Yh.mk'{S:Plan}(hb:HdB S)(h4:r4 (ze S)=none)(h5:r5 (ze S)=none):Yh S:=by
 rw[L4,W0] at h4;rw[L5,W0] at h5;refine⟨by have:=hb.n;lia,by have:=hb.n4;lia,by have:=hb.m;lia,by have:=hb.k;lia,λp hp=>?_,λl hl=>?_⟩
 .obtain⟨i,hi⟩:=WY hp;have:=Kt.ZI h4 hi;rw[WZ,WD] at this;have h1:=this.1;unfold okP at h1;rw[y9,yr,yr] at h1;have:=hb.w;have:=hb.h
  lia
 .obtain⟨i,hi⟩:=WY hl;have:=Kt.ZI h5 hi;rw[WZ,WD] at this;have h1:=this.1;unfold okL at h1;rw[y9,yr,yr] at h1;exact h1
theorem zFH{α:Type}{a b:Option α}(h:a.or b=none):a=none/\b=none:=by
 cases a with
|none=>exact⟨rfl,by simpa using h⟩
|some x=>cases h
theorem yC.mk'{S:Plan}(B:Yh S)(h4:r4 (ze S)=none)(h5:r5 (ze S)=none)(hd:zFC S=none):Kt.yC S:=by
 rw[L4,W0] at h4;rw[L5,W0] at h5;unfold zFC at hd;obtain⟨h6,hd⟩:=zFH hd;obtain⟨h7,hd⟩:=zFH hd;obtain⟨h8,hd⟩:=zFH hd;obtain⟨h9,h10⟩:=zFH hd;rw[L6] at h6;rw[L7 B,W0] at h7;rw[L8,W0] at h8;rw[L9 B,W0] at h9;rw[L10 B,W0] at h10;refine⟨h4,h5,?_,h7,h8,h9,h10⟩;by_cases h:frameOk S=true
 .exact h
 .rw[Wb h] at h6;cases h6
theorem zNz{S:Plan}(h:r11 S=none):∀ m∈S.marks,clear S m.at_=true:=by
 rw[L11,W0] at h;intro m hm;obtain⟨i,hi⟩:=WY hm;have:=Kt.ZI h hi;rw[WZ,WD] at this;exact this.1
theorem zSW{S:Plan}(hb:HdB S):PF S=S.fault.map fz:=by
 rw[zNy];unfold PF;rw[<-L4,<-L5,<-L11,<-L12];cases h4:r4 (ze S) with
|some z=>rfl
|none=>
  cases h5:r5 (ze S) with
 |some z=>rfl
 |none=>
   have B:=Yh.mk' hb h4 h5;unfold zFC;rw[L6,L7 B,L8,L9 B,L10 B]
def bI (b:Gla.Bytes):List Int:=b.map λ(c:UInt8)=>(c.toNat:Int)
theorem zKF:∀ (l:Gla.Bytes),zFd (bI l)=(Gla.numLe l:Nat)
|[]=>rfl
|c::r=>by
  show (c.toNat:Int)+256*zFd (bI r)=((c.toNat+256*Gla.numLe r:Nat):Int)
  rw[zKF r]
  lia
theorem VC(b:Gla.Bytes)(p w:Nat):numAt (bI b) p w=(Gla.num b p w:Nat):=by
 unfold numAt Gla.num bI;rw[<-Uo,<-Xh];exact zKF _
theorem zIx:∀ (l:Gla.Bytes),Gla.numLe l<256^l.length
|[]=>by decide
|c::r=>by
  have h:=zIx r;have hc:c.toNat<256:=c.toNat_lt;show c.toNat+256*Gla.numLe r<256^(r.length+1);rw[Nat.pow_succ]
  lia
theorem zMr(b:Gla.Bytes)(p w:Nat):Gla.num b p w<256^w:=by
 unfold Gla.num;refine yR (zIx _) (Nat.pow_le_pow_right (by decide) ?_);rw[WF];exact Xf _ _
theorem zMs:∀ {a b:Gla.Bytes},bI a=bI b->a=b
|[],[],_=>rfl
|[],_::_,h=>by cases h
|_::_,[],h=>by cases h
|x::a,y::b,h=>by
  have h':((x.toNat:Nat):Int)::bI a=((y.toNat:Nat):Int)::bI b:=h;injection h' with h1 h2
  have hx:x.toNat=y.toNat:=by lia
  rw[zMs h2,UInt8.toNat_inj.mp hx]
theorem zP4(b:Gla.Bytes):zLD (bI b) (Gla.num b 12 2) (Gla.num b 14 2) (Gla.num b 16 2)=ze (Gla.parts b):=by
 unfold zLD ze Gla.parts zBT;dsimp only;rw[VC,VC,Vf,Vf,Vf]
 have e1:(λi=>ptI (bI b) (20+8*i))=zq∘λ(i:Nat)=>(⟨Gla.num b (Gla.HEAD+8*i) 4,Gla.num b (Gla.HEAD+8*i+4) 4⟩:Gla.Pt):=funext λi=>by
  unfold ptI;rw[VC,VC];rfl
 have e2:(λi=>lnI (bI b) (20+8*Gla.num b 12 2+4*i))=Zf∘λ(i:Nat)=>(Gla.num b (Gla.HEAD+8*Gla.num b 12 2+4*i) 2,Gla.num b (Gla.HEAD+8*Gla.num b 12 2+4*i+2) 2):=funext λi=>by
  unfold lnI;rw[VC,VC];rfl
 have e3:(λi=>mkI (bI b) (20+8*Gla.num b 12 2+4*Gla.num b 14 2+12*i))=cmk∘λ(i:Nat)=>(⟨⟨Gla.num b (Gla.HEAD+8*Gla.num b 12 2+4*Gla.num b 14 2+12*i) 4,Gla.num b (Gla.HEAD+8*Gla.num b 12 2+4*Gla.num b 14 2+12*i+4) 4⟩,Gla.num b (Gla.HEAD+8*Gla.num b 12 2+4*Gla.num b 14 2+12*i+8) 2,Gla.num b (Gla.HEAD+8*Gla.num b 12 2+4*Gla.num b 14 2+12*i+10) 2⟩:Gla.Mark):=funext λi=>by
  unfold mkI;rw[VC,VC,VC];rfl
 rw[e1,e2,e3]
def zAf (b:Gla.Bytes):Option (Int×Int):=match Gla.judgePlan b with
|.error e=>some (fz e)
|.ok _=>none
theorem zFI(b:Gla.Bytes)(p w lo hi:Nat):zBS (bI b) (p,w,(lo:Int),(hi:Int))=Gla.within lo hi (Gla.num b p w):=by
 unfold zBS YM Gla.within;show (decide ((lo:Int)<=numAt (bI b) p w)&&decide (numAt (bI b) p w<=(hi:Int)))=_;rw[VC,Ws.mpr XG,Ws.mpr XG]
theorem zHf(b:Gla.Bytes):(Gla.parts b).pts.length=Gla.num b 12 2/\(Gla.parts b).lines.length=Gla.num b 14 2/\(Gla.parts b).marks.length=Gla.num b 16 2:=by
 unfold Gla.parts;dsimp only;simp only[zX,VP,and_self]
theorem zG8(b:Gla.Bytes):(zBe (bI b)=none->(HdB (Gla.parts b)/\MkB (Gla.parts b))/\zAf b=(Gla.parts b).fault.map fz)/\(∀ z,zBe (bI b)=some z->zAf b=some z):=by
 have hl:(bI b).length=b.length:=zX ..
 have hm:((bI b).take 4≠[71,76,65,49])↔(b.take 4≠Gla.MAGIC):=by
  have e:(bI b).take 4=bI (b.take 4):=by unfold bI;rw[<-Xh]
  rw[e];exact not_congr ⟨λh=>zMs (h.trans (show [71,76,65,49]=bI Gla.MAGIC from rfl)),λh=>by rw[h];rfl⟩
 have hE:((bI b).length:Int)≠zEh (bI b)↔b.length≠Gla.HEAD+8*Gla.num b 12 2+4*Gla.num b 14 2+12*Gla.num b 16 2:=by
  unfold zEh zFf zFe Gla.HEAD;rw[hl,VC,VC,VC]
  lia
 unfold zBe zAf Gla.judgePlan HN;simp only[VT,List.find?_nil]
 rw[show zBS (bI b) (4,4,16,1048575)=Gla.within Gla.SMALLEST Gla.LARGEST (Gla.num b 4 4) from zFI b 4 4 16 1048575,show zBS (bI b) (8,4,16,1048575)=Gla.within Gla.SMALLEST Gla.LARGEST (Gla.num b 8 4) from zFI b 8 4 16 1048575,
  show zBS (bI b) (12,2,4,4096)=Gla.within 4 Gla.POINTS (Gla.num b 12 2) from zFI b 12 2 4 4096,show zBS (bI b) (14,2,4,8192)=Gla.within 4 Gla.LINES (Gla.num b 14 2) from zFI b 14 2 4 8192,
  show zBS (bI b) (16,2,1,2048)=Gla.within 1 Gla.MARKS (Gla.num b 16 2) from zFI b 16 2 1 2048,show zBS (bI b) (18,2,0,0)=Gla.within 0 0 (Gla.num b 18 2) from zFI b 18 2 0 0]
 by_cases c1:b.length<Gla.HEAD
 .rw[Wc (by rw[hl];exact c1),Wc c1];refine⟨λh=>(by cases h),λz h=>?_⟩;rw[hl] at h;exact h
 rw[Wb (by rw[hl];exact c1),Wb c1];by_cases c2:b.take 4≠Gla.MAGIC
 .rw[Wc (hm.mpr c2),Wc c2];exact⟨λh=>(by cases h),λz h=>h⟩
 rw[Wb (λh=>c2 (hm.mp h)),Wb c2];cases q1:Gla.within Gla.SMALLEST Gla.LARGEST (Gla.num b 4 4) with
|false=>exact⟨λh=>(by cases h),λz h=>h⟩
|true=>
 cases q2:Gla.within Gla.SMALLEST Gla.LARGEST (Gla.num b 8 4) with
|false=>exact⟨λh=>(by cases h),λz h=>h⟩
|true=>
 cases q3:Gla.within 4 Gla.POINTS (Gla.num b 12 2) with
|false=>exact⟨λh=>(by cases h),λz h=>h⟩
|true=>
 cases q4:Gla.within 4 Gla.LINES (Gla.num b 14 2) with
|false=>exact⟨λh=>(by cases h),λz h=>h⟩
|true=>
 cases q5:Gla.within 1 Gla.MARKS (Gla.num b 16 2) with
|false=>exact⟨λh=>(by cases h),λz h=>h⟩
|true=>
 have w0:Gla.within 0 0 (Gla.num b 18 2)=decide (Gla.num b 18 2=0):=by
  unfold Gla.within;rw[WB];simp
 rw[w0];by_cases c6:Gla.num b 18 2=0
 .rw[WO c6];simp only[Bool.not_true,Bool.true_eq_false,Uq];rw[Wb (show ¬ Gla.num b 18 2≠0 from λh=>h c6)];by_cases c7:b.length≠Gla.HEAD+8*Gla.num b 12 2+4*Gla.num b 14 2+12*Gla.num b 16 2
  .rw[Wc (hE.mpr c7),Wc c7];exact⟨λh=>(by cases h),λz h=>h⟩
  .rw[Wb (λh=>c7 (hE.mp h)),Wb c7];refine⟨λ_=>⟨⟨?_,?_⟩,?_⟩,λz h=>(by cases h)⟩
   .obtain⟨l1,l2,l3⟩:=zHf b;unfold Gla.within at q1 q2 q3 q4 q5;simp only[y9,yr] at q1 q2 q3 q4 q5;refine⟨by rw[l1];exact q3.2,by rw[l1];exact q3.1,by rw[l2];exact q4.2,by rw[l3];exact q5.2,q1.2,q2.2⟩
   .intro m hm';have hm2:m∈(List.range (Gla.num b 16 2)).map _:=hm';obtain⟨i,_,rfl⟩:=Wp.mp hm2;have a1:=zMr b (Gla.HEAD+8*Gla.num b 12 2+4*Gla.num b 14 2+12*i) 4;have a2:=zMr b (Gla.HEAD+8*Gla.num b 12 2+4*Gla.num b 14 2+12*i+4) 4;dsimp only
    lia
   .cases (Gla.parts b).fault with
   |none=>rfl
   |some e=>rfl
 .rw[WH c6];simp only[Bool.not_true,Bool.not_false,Bool.true_eq_false,Uq];rw[Wc c6];exact⟨λh=>(by cases h),λz h=>h⟩
section
variable {P:Program}{w:World}{K:Qf}{mg:Qm}{base:Heap}{C:Addr}
structure zOM(K:Qf)(S:Gla.Plan)(H:Hp)(q:Addr):Prop where
 at_:zLO K S H q
 B:Yh S
 O:Kt.yC S
 cl:∀ m∈S.marks,Gla.clear S m.at_=true
def zON (K:Qf)(C:Addr):Sp:=λvs H Q E=>∃ (a:Addr) (b:Gla.Bytes),vs=[.ref a]/\zN K H a ((bI b).map V.int)/\zBD C E H (λq H'=>Q (.ref q) H') (λH' q=>zOM K (Gla.parts b) H' q) (zAf b)
theorem zMt:zO ["data","cartoon"] ["data"] (zI zD1):=yE
theorem zBD.same{E:XK}{H H':Hp}{Qp:Addr->Hp->Prop}{T:Hp->Addr->Prop}{o:Option (Int×Int)}(k:zBD C E H Qp T o)(s:zH H H'):zBD C E H' Qp T o:=by
 cases o with
|none=>exact λHx q sx t=>k Hx q (s.trans sx) t
|some z=>exact Rz.same k s
theorem zBD.seq{E:XK}{H:Hp}{Qp:Addr->Hp->Prop}{T:Hp->Addr->Prop}{Q':VK}{a b:Option (Int×Int)}(k:zBD C E H Qp T (a.or b))(h:a=none->∀ H',zH H H'->zBD C E H' Qp T b->Q' .non H'):Res C E H Q' a:=by
 cases a with
|some z=>exact k
|none=>exact λH' s=>h rfl H' s (zBD.same (o:=b) (by simpa using k) s)
theorem zRR(D:zV K mg "panes_of" zD1 ["data"])(OH:Ym P w K mg base 5 "judge_head" ["data"] (zMV K C))(OT:Ok P w K mg base 5 "told_by" ["data"] (zMX K))(O4:Ym P w K mg base 3 "judge_points" ["cartoon"] (spJ K C r4))(O5:Ym P w K mg base 3 "judge_lines" ["cartoon"] (spJ K C r5))
  (OD:Ym P w K mg base 5 "judge_drawing" ["cartoon"] (zRG K C zFC))(OM:Ym P w K mg base 4 "judge_marks" ["cartoon"] (zRO K C r11))(OP:Ym P w K mg base 6 "marked_panes" ["cartoon"] (zOL K C)):Ym P w K mg base 7 "panes_of" ["data"] (zON K C):=by
 refine D.okN zMt (λvs H Q E h=>?_) (λf cdv A outer s H vs Q E hr h=>?_)
 .obtain⟨a,b,rfl,_⟩:=h;rfl
 .obtain⟨a,b,rfl,hS,k⟩:=h;have hr5:zn 5 _:=hr.mono (by decide);have hr4:zn 4 _:=hr.mono (by decide);have hr3:zn 3 _:=hr.mono (by decide)
  refine⟨_,zF (yK (zAG OH hr5 (zA (pv 0) zC))) (zF (za (i:=1) zMt.nd rfl (Or.inl rfl) (zR OT hr5 (zA (pv 0) zC)))
   (zF (yK (zAG O4 hr3 (zA (pv 1) zC))) (zF (yK (zAG O5 hr3 (zA (pv 1) zC))) (zF (yK (zAG OD hr5 (zA (pv 1) zC))) (zF (yK (zAG OM hr4 (zA (pv 1) zC)))
   (zG (zS (zAG OP hr (zA (pv 1) zC))))))))),?_⟩
  obtain⟨hN,hZ⟩:=zG8 b;refine⟨_,rfl,a,bI b,rfl,hS,?_⟩;cases hh:zBe (bI b) with
 |some z=>
   rw[hZ z hh] at k;exact k
 |none=>
  obtain⟨⟨hb,mb⟩,ep⟩:=hN hh;rw[ep,<-zSW hb] at k;intro H1 s1;obtain⟨l1,l2,l3⟩:=zHf b;have b1:=hb.n;have b2:=hb.m;have b3:=hb.k;rw[l1] at b1;rw[l2] at b2;rw[l3] at b3;refine⟨_,rfl,a,bI b,Gla.num b 12 2,Gla.num b 14 2,Gla.num b 16 2,rfl,s1.seq hS,VC ..,VC ..,VC ..,by lia,by lia,by lia,λH2 c s2 CA=>?_⟩;rw[zP4] at CA;generalize Gla.parts b=S at *
  have k2:=zBD.same k (s1.trans s2);unfold PF at k2;refine⟨_,rfl,c,ze S,rfl,CA,zBD.seq k2 λe4 H3 s3 k3=>?_⟩;refine⟨_,rfl,c,ze S,rfl,CA.same s3,zBD.seq k3 λe5 H4 s4 k4=>?_⟩;have B:=Yh.mk' hb e4 e5;have s34:=s3.trans s4;refine⟨_,rfl,c,S,rfl,CA.same s34,B,zBD.seq k4 λed H5 s5 k5=>?_⟩;have O:=yC.mk' B e4 e5 ed;have s35:=s34.trans s5;refine⟨_,rfl,c,S,rfl,CA.same s35,B,mb,zBD.seq k5 λe11 H6 s6 k6=>?_⟩;have cl:=zNz e11;refine⟨_,rfl,c,S,rfl,CA.same (s35.trans s6),B,mb,O,cl,?_⟩;cases hm:rMk S with
 |some z=>
   rw[hm] at k6;exact k6
 |none=>
   rw[hm] at k6;exact λH7 q s7 t=>k6 H7 q s7 ⟨t,B,O,cl⟩
end
structure zLS(K:Qf)(mg:Qm)(C:Addr):Prop where
 cl:Yl K C
 n0:zg K C "heat"
 n1:zg K C "hold"
 mgC:mg "Kind" = some (.ref C)
theorem zP5{K:Qf}{h:Heap}{mg:Qm}{C:Addr}(X:K.In h)(G:h.Ns mainGlobals mg)(aC:PySem.W.nsIn K mainGlobals "Kind" = some (some (.ref C)))
  (pg:PySem.W.plainGet K C Str.empty=true)(hd:PySem.W.hasDictIn K C=true)(po:PySem.W.plainOver K C=true)(sa:PySem.W.findIn K (.ref C) "__setattr__" = some (some (.builtin "object.__setattr__")))
  (n0:PySem.W.findIn K (.ref C) "heat" = some none)(n1:PySem.W.findIn K (.ref C) "hold" = some none):zLS K mg C:=⟨⟨pg,hd,po,sa⟩,n0,n1,Va X G aC⟩
structure zLT(K:Qf)(mg:Qm)(C:Addr):Prop where
 cl:Yl K C
 n0:zg K C "how_many"
 n1:zg K C "coats"
 mgC:mg "Painting" = some (.ref C)
theorem zP6{K:Qf}{h:Heap}{mg:Qm}{C:Addr}(X:K.In h)(G:h.Ns mainGlobals mg)(aC:PySem.W.nsIn K mainGlobals "Painting" = some (some (.ref C)))
  (pg:PySem.W.plainGet K C Str.empty=true)(hd:PySem.W.hasDictIn K C=true)(po:PySem.W.plainOver K C=true)(sa:PySem.W.findIn K (.ref C) "__setattr__" = some (some (.builtin "object.__setattr__")))
  (n0:PySem.W.findIn K (.ref C) "how_many" = some none)(n1:PySem.W.findIn K (.ref C) "coats" = some none):zLT K mg C:=⟨⟨pg,hd,po,sa⟩,n0,n1,Va X G aC⟩
def Zy:List Nat->List (Nat×Nat)
|a::b::r=>(a,b)::Zy r
|_=>[]
theorem zDd:∀ l:List Nat,(Zy l).length=l.length/2
|[]=>rfl
|[_]=>by simp[Zy]
|a::b::r=>by
  show (Zy r).length+1=(r.length+2)/2;rw[zDd r]
  lia
theorem zIy:∀ {l:List Nat}{i:Nat},i<l.length/2->∃ x y,(Zy l)[i]?=some (x,y)/\l[2*i]?=some x/\l[2*i+1]?=some y
|[],i,h=>absurd h (by simp)
|[_],i,h=>absurd h (by simp)
|a::b::r,0,_=>⟨a,b,rfl,rfl,rfl⟩
|a::b::r,i+1,h=>by
  obtain⟨x,y,h1,h2,h3⟩:=zIy (l:=r) (i:=i) (by simp at h;lia);exact⟨x,y,by simpa[Zy] using h1,by rw[show 2*(i+1)=2*i+1+1 by lia];simpa using h2,by rw[show 2*(i+1)+1=2*i+1+1+1 by lia];simpa using h3⟩
def kB (x:Nat×Nat):Bool:=YM (x.1:Int) 1 1400&&YM (x.2:Int) 0 9999
def Zh (l:List Nat):Bool:=decide (l.length%2=0)&&(YM ((l.length/2:Nat):Int) 1 16&&(Zy l).all kB)
def zBE:Nat->List Nat->List (Nat×List Nat)
|0,_=>[]
|_+1,[]=>[]
|m+1,n::l=>(n,l.take n)::zBE m (l.drop n)
def YA (xs:List (Nat×Nat))(k:Nat):Nat:=(xs.getD k (0,0)).1
def zFJ (xs:List (Nat×Nat))(c:List Nat):Bool:=(c.zip c.tail).all λx=>decide (YA xs x.2<YA xs x.1)
def zAa (xs:List (Nat×Nat))(p:Nat×List Nat):Bool:=(YM (p.1:Int) 1 4&&decide (p.1<=p.2.length))&&(p.2.all (λk=>decide (k<xs.length))&&zFJ xs p.2)
def Z0 (xs:List (Nat×Nat))(ps:List (Nat×List Nat)):Bool:=decide (ps.length<=256)&&ps.all (zAa xs)
theorem zP7{l:List Nat}{i:Nat}(h:i<l.length-1):∃ x y,l[i]?=some x/\l[i+1]?=some y/\(l.zip l.tail)[i]?=some (x,y):=by
 have h1:i<l.length:=by lia
 have h2:i+1<l.length:=by lia
 refine⟨l[i],l[i+1],yQ h1,yQ h2,?_⟩;rw[Xu];exact⟨yQ h1,by rw[List.getElem?_tail];exact yQ h2⟩
theorem zN0{l:List Nat}:(l.zip l.tail).length=l.length-1:=by
 rw[Jh,List.length_tail]
 lia
def RKd (K:Qf):Hp->V->Nat×Nat->Prop:=λH v x=>∃ a C dx fs,v=.ref a/\H a=some (.ins C dx fs)/\Yl K C/\zg K C "heat"/\fs.lookup ("heat" : Str)=some (.int (x.1:Int))
theorem zCw{K:Qf}:Nm (RKd K):=λ_ _ _ _ s r=>let ⟨a,C,dx,fs,e1,e2,z⟩:=r;⟨a,C,dx,fs,e1,s a _ e2 (λxs z=>by cases z),z⟩
def YX (L:Addr)(H H':Hp):Prop:=∀ b o,b≠L->H b=some o->H' b=some o
theorem YX.of{L:Addr}{H H':Hp}(s:zH H H'):YX L H H':=λb o _ e=>s b o e
theorem YX.upd{L:Addr}{H:Hp}{o:HO}:YX L H (L2.upd H L o):=λb o' n e=>by rw[zD n];exact e
theorem YX.trans{L:Addr}{H H1 H2:Hp}(a:YX L H H1)(b:YX L H1 H2):YX L H H2:=λc o n e=>b c o n (a c o n e)
def RPa (K:Qf)(L:Addr):Hp->V->Nat×List Nat->Prop:=λH v x=>∃ a C dx fs ca,v=.ref a/\H a=some (.ins C dx fs)/\Yl K C/\zg K C "how_many"/\zg K C "coats"/\fs.lookup ("how_many" : Str)=some (.int (x.1:Int))/\fs.lookup ("coats" : Str)=some (.ref ca)/\a≠L/\ca≠L/\H ca=some (.lst (zm x.2))
theorem zOO{K:Qf}{L:Addr}{H H':Hp}{v:V}{x:Nat×List Nat}(s:YX L H H')(r:RPa K L H v x):RPa K L H' v x:=
 let ⟨a,C,dx,fs,ca,e1,e2,e3,e4,e5,e6,e7,n1,n2,e8⟩:=r;⟨a,C,dx,fs,ca,e1,s _ _ n1 e2,e3,e4,e5,e6,e7,n1,n2,s _ _ n2 e8⟩
def zBh (K:Qf)(H:Hp)(q:Addr)(ps:List (Nat×List Nat)):Prop:=∃ vs,H q=some (.lst vs)/\Za (RPa K q) H vs ps
theorem zBh.same{K:Qf}{H H':Hp}{q:Addr}{ps:List (Nat×List Nat)}(h:zBh K H q ps)(s:zH H H'):zBh K H' q ps:=let ⟨vs,e,z⟩:=h;⟨vs,s _ _ e,z.mono λ_ _ r=>zOO (YX.of s) r⟩
theorem zAH{l:List Nat}{z:Int}{j:Nat}{v:Nat}(e:z=(j:Int))(h:l[j]?=some v):atI (zm l) z=some (.int (v:Int)):=y6 e (map_some (f:=λ(j:Nat)=>V.int (j:Int)) h)
theorem zAI{l:List Nat}:zm l=(l.map Int.ofNat).map V.int:=by unfold zm;rw[Vf];rfl
theorem zKG{K:Qf}{H:Hp}{vs:List V}{xs:List (Nat×Nat)}(q:Za (RKd K) H vs xs){k:Nat}(h:k<xs.length):∃ v,atI vs (k:Int)=some v/\∃ a C dx fs,v=.ref a/\H a=some (.ins C dx fs)/\Yl K C/\zg K C "heat"/\fs.lookup ("heat" : Str)=some (.int (YA xs k:Int)):=by
 have e:=yQ h;obtain⟨v,hv,r⟩:=q.get e;refine⟨v,y6 rfl hv,?_⟩;have eh:YA xs k=xs[k].1:=by unfold YA;rw[WC,e];rfl
 rw[eh];exact r
section
variable {P:Program}{w:World}{K:Qf}{mg:Qm}{base:Heap}{C:Addr}
theorem zLU:zO ["self","heat","hold"] ["self","heat","hold"] (zI zC8):=yE
theorem zLV{C:Addr}(D:yj K C "Kind.__init__" zC8 ["self","heat","hold"])(T:zLS K mg C):Ys P w K mg base 1 C ["self","heat","hold"] (zAX C "heat" "hold"):=by
 refine D.ok zLU (λvs H Q E h=>?_) (λf cdv A outer s H vs Q E hr h=>?_)
 .obtain⟨p,dx,v1,v2,rfl,_⟩:=h;rfl
 .obtain⟨p,dx,v1,v2,rfl,hp,k⟩:=h;refine⟨_,zF (yo (pv 0) (pv 1) rfl) (zG (yo (pv 0) (pv 2) rfl)),?_⟩;refine⟨_,rfl,_,rfl,p,C,dx,_,rfl,hp,T.cl,T.n0,(by show 0<1000;decide),?_⟩;refine⟨_,rfl,_,rfl,p,C,dx,_,rfl,zE,T.cl,T.n1,yR (yO (n:=1) (by show 0<1;decide)) (by decide),?_⟩;exact k _ zE λb o e hb=>by rw[zD hb,zD hb];exact e
theorem zLW:zO ["self","how_many","coats"] ["self","how_many","coats"] (zI zA4):=yE
theorem zLX{C:Addr}(D:yj K C "Painting.__init__" zA4 ["self","how_many","coats"])(T:zLT K mg C):Ys P w K mg base 1 C ["self","how_many","coats"] (zAX C "how_many" "coats"):=by
 refine D.ok zLW (λvs H Q E h=>?_) (λf cdv A outer s H vs Q E hr h=>?_)
 .obtain⟨p,dx,v1,v2,rfl,_⟩:=h;rfl
 .obtain⟨p,dx,v1,v2,rfl,hp,k⟩:=h;refine⟨_,zF (yo (pv 0) (pv 1) rfl) (zG (yo (pv 0) (pv 2) rfl)),?_⟩;refine⟨_,rfl,_,rfl,p,C,dx,_,rfl,hp,T.cl,T.n0,(by show 0<1000;decide),?_⟩;refine⟨_,rfl,_,rfl,p,C,dx,_,rfl,zE,T.cl,T.n1,yR (yO (n:=1) (by show 0<1;decide)) (by decide),?_⟩;exact k _ zE λb o e hb=>by rw[zD hb,zD hb];exact e
def zMu:Sp:=λvs H Q _=>∃ x:Nat×Nat,vs=[.int (x.1:Int),.int (x.2:Int)]/\Q (.bl (kB x)) H
theorem zP8:zO ["heat","hold"] ["heat","hold"] (zI zEZ):=yE
theorem zP9(D:zV K mg "is_kind" zEZ ["heat","hold"])(OW:Ok P w K mg base 1 "is_within" ["number","least","greatest"] zBQ)(g1:yl mg "HOTTEST" 1400)(g2:yl mg "LONGEST_HOLD" 9999):Ok P w K mg base 2 "is_kind" ["heat","hold"] zMu:=by
 refine D.ok zP8 (λvs H Q E h=>?_) (λf cdv A outer s H vs Q E hr h=>?_)
 .obtain⟨g,rfl,_⟩:=h;rfl
 .obtain⟨g,rfl,k⟩:=h;refine⟨_,zG (zS (zAA (zR OW hr (zA (pv 0) (zA zL (zA (y8 g1) zC)))) (zAT (zR OW hr (zA (pv 1) (zA zL (zA (y8 g2) zC))))))),?_⟩
  try dsimp only[Zc,Y1,Zj,Yo,YZ,Ya]
  show zB7 _ _ _ _ _;exact YU (λR h=>⟨_,rfl,_,_,_,rfl,h⟩) (λ_ R h=>⟨_,rfl,_,_,_,rfl,h⟩) k
def zOP (K:Qf):Sp:=λvs H Q _=>∃ (a:Addr) (l:List Nat),vs=[.ref a]/\zN K H a (zm l)/\l.length<10000/\Q (.bl (Zh l)) H
theorem zMv:zO ["row","k"] ["row"] (zI zDE):=yE
theorem zRS(D:zV K mg "are_kinds" zDE ["row"])(OW:Ok P w K mg base 1 "is_within" ["number","least","greatest"] zBQ)(OK:Ok P w K mg base 2 "is_kind" ["heat","hold"] zMu)(g1:yl mg "MOST_KINDS" 16)(ml:mg "len" = none)(mr:mg "range" = none):Ok P w K mg base 3 "are_kinds" ["row"] (zOP K):=by
 refine D.ok zMv (λvs H Q E h=>?_) (λf cdv A outer s H vs Q E hr h=>?_)
 .obtain⟨a,l,rfl,_⟩:=h;rfl
 .obtain⟨a,l,rfl,hS,hl,k⟩:=h;have hr1:zn 1 _:=hr.mono (by decide)
  refine⟨_,zF (zu (PW.pt (zCm (zj zDk (zk zQZ (yH ml (zA (pv 0) zC)) zL) zL (zZ _))
    (zBj (Zq (yY (zR OW hr1 (zA (zk zOi (yH ml (zA (pv 0) zC)) zL) (zA zL (zA (y8 g1) zC))))))))) (zG (zS yz)) zc)
   (zF (yF Wt rfl (zBn rfl mr (zA zL (zA (yH ml (zA (pv 0) zC)) (zA zL zC)))) (zT (i:=1) zMv.nd rfl (Or.inl rfl))
    (zG (zu (Zq (yY (zR OK hr (zA (zh zd (pv 0) (pv 1) (λ_ _=>rfl)) (zA (zh zd (pv 0) (zk ZH (pv 1) zL) (λ_ _=>rfl)) zC))))) (zG (zS yz)) zc)))
   (zG (zS yz))),?_⟩
  refine⟨_,rfl,a,_,rfl,.inl hS,_,_,rfl,rfl,(by show (0:Int)<2;decide),rfl,_,rfl,?_⟩;rw[zw];refine yA (λh1=>?_) (λh1=>?_)
  .refine ZF k ?_;unfold Zh;rw[WH (by simp at h1;lia),V9]
  .have h3:l.length%2=0:=by simp at h1;lia
   refine⟨_,rfl,a,_,rfl,.inl hS,_,_,rfl,rfl,⟨by decide,by decide⟩,_,_,_,rfl,_,rfl,?_⟩;rw[zw];have ed:(l.length:Int)/2=((l.length/2:Nat):Int):=by lia
   refine yA (λh2=>?_) (λh2=>?_)
   .refine ZF k ?_;unfold Zh;rw[ed,WE] at h2;rw[h2,V9,Xo]
   .rw[ed,WD] at h2;refine⟨_,rfl,a,_,rfl,.inl hS,0,_,2,l.length/2,rfl,?_,zKi (λi σ H'=>∃ v:Option V,σ=[some (.ref a),v]/\H'=H/\((Zy l).take i).all kB=true) ⟨none,rfl,rfl,rfl⟩ ?_ ?_⟩
    .rw[zw];have:=rgC (lo:=0) (c:=2) (n:=l.length/2) (by decide) (by decide) (by lia) (by decide);rw[show ((0:Nat):Int)+((2:Nat):Int)*((l.length/2:Nat):Int)=(l.length:Int) by lia] at this;exact this
    .rintro i σ H' hi ⟨v,rfl,rfl,hall⟩;obtain⟨x,y,e0,e1,e2⟩:=zIy hi;refine⟨_,rfl,_,rfl,a,_,_,_,rfl,rfl,hS,zAH (j:=2*i) (by lia) e1,_,rfl,_,rfl,_,_,rfl,rfl,a,_,_,_,rfl,rfl,hS,zAH (j:=2*i+1) (by lia) e2,(x,y),rfl,_,rfl,?_⟩;refine yA (λh4=>?_) (λh4=>?_)
     .refine ZF k ?_;unfold Zh;rw[WE] at h4;rw[zBR e0 h4,Xo,Xo]
     .rw[WD] at h4;exact⟨_,rfl,rfl,zAm hall e0 h4⟩
    .rintro σ H' ⟨v,rfl,rfl,hall⟩;refine ZF k ?_;unfold Zh;rw[WK (by rw[zDd];exact We _)] at hall;rw[WO h3,h2,hall];rfl
def zOQ (K:Qf):Sp:=λvs H Q _=>∃ (a:Addr) (l:List Nat),vs=[.ref a]/\zN K H a (zm l)/\l.length<10000/\l.length%2=0/\∀ H' q,zH H H'->zl (RKd K) H' q (Zy l)->Q (.ref q) H'
theorem zIz:zO ["row","k"] ["row"] (zI zCA):=yE
theorem zRT(D:zV K mg "kinds_of" zCA ["row"])(M:Ys P w K mg base 1 C ["self","heat","hold"] (zAX C "heat" "hold"))(T:zLS K mg C)(ml:mg "len" = none)(mr:mg "range" = none):Ok P w K mg base 3 "kinds_of" ["row"] (zOQ K):=by
 refine D.ok zIz (λvs H Q E h=>?_) (λf cdv A outer s H vs Q E hr h=>?_)
 .obtain⟨a,l,rfl,_⟩:=h;rfl
 .obtain⟨a,l,rfl,hS,hl,h2,k⟩:=h
  refine⟨_,zG (zS (zKf (own:=[("k",1)]) rfl zIz.nd (zBn rfl mr (zA zL (zA (yH ml (zA (pv 0) zC)) (zA zL zC)))) (ZW (show zAg ["row","k"] (zI zCA) _ _=true by decide +kernel))
   (λ_ _ _ _ _=>zT (i:=1) zIz.nd rfl (Or.inl rfl)) (λ_ _ _ _ _=>YF) (λ_ _ _ _ _=>zBt M hr T.mgC (zA (zh (zCh K) (pv 0) (pv 1) (λ_ _=>rfl)) (zA (zh (zCh K) (pv 0) (zk ZH (pv 1) zL) (λ_ _=>rfl)) zC))))),?_⟩
  refine⟨_,rfl,a,_,rfl,.inl hS,0,_,2,l.length/2,rfl,?_,λL nL=>?_⟩
  .rw[zw];have:=rgC (lo:=0) (c:=2) (n:=l.length/2) (by decide) (by decide) (by lia) (by decide);rw[show ((0:Nat):Int)+((2:Nat):Int)*((l.length/2:Nat):Int)=(l.length:Int) by lia] at this;exact this
  refine zCt (λi H'=>zH H H'/\zl (RKd K) H' L ((Zy l).take i)) ⟨zQ (zH.refl H) nL,_,zE,Za.nil⟩ ?_ ?_
  .rintro i H' hi ⟨s1,vs,ev,qv⟩;obtain⟨x,y,e0,e1,e2⟩:=zIy hi;refine⟨rfl,?_⟩;refine⟨_,rfl,_,rfl,a,_,_,_,rfl,rfl,s1.seq hS,zAH (j:=2*i) (by lia) e1,_,rfl,_,rfl,_,_,rfl,rfl,a,_,_,_,rfl,rfl,s1.seq hS,zAH (j:=2*i+1) (by lia) e2,?_⟩;intro o dx no ndx nex;refine⟨o,dx,_,_,rfl,zE,λH3 hx k1=>⟨rfl,vs,?_,?_,?_,?_⟩⟩
   .exact (zH.made no ndx k1) _ _ ev
   .rw[qv.1,WF];exact Yv (Xf _ _) (yR (by lia:i<10000) (by decide))
   .intro b ob eb;rw[zD (zJ eb nL)];exact (zH.made no ndx k1) _ _ (s1 _ _ eb)
   .rw[zv e0];have s3:zH H' H3:=zH.made no ndx k1;exact zl.snoc zCw (s3 _ _ ev) (qv.mono λv x r=>zCw _ _ v x (yd.of s3) r) ⟨o,C,dx,_,rfl,hx,T.cl,T.n0,zBu (by decide)⟩
  .rintro H' ⟨s1,LK⟩;rw[WK (by rw[zDd];exact We _)] at LK;exact k _ _ s1 LK
theorem zN1(m:Nat):zBE m []=[]:=by cases m <;> rfl
theorem zHg:∀ (m m':Nat) (l:List Nat),l.length<m->l.length<m'->zBE m l=zBE m' l
|0,_,_,h,_=>absurd h (Vb _)
|_,0,_,_,h=>absurd h (Vb _)
|m+1,m'+1,[],_,_=>rfl
|m+1,m'+1,n::l,h,h'=>by
  show (n,l.take n)::zBE m (l.drop n)=(n,l.take n)::zBE m' (l.drop n);have hd:(l.drop n).length<=l.length:=by rw[Xs];lia
  simp only[Wn] at h h';rw[zHg m m' (l.drop n) (by lia) (by lia)]
def ZC (l:List Nat):List (Nat×List Nat):=zBE (l.length+1) l
theorem zMw{n:Nat}{l:List Nat}:ZC (n::l)=(n,l.take n)::ZC (l.drop n):=by
 show (n,l.take n)::zBE (l.length+1) (l.drop n)=_
 congr 1
 exact zHg _ _ _ (by rw[Xs];lia) (XN _)
def zMx (K:Qf):Sp:=λvs H Q _=>∃ (a:Addr) (l:List Nat),vs=[.ref a]/\zN K H a (zm l)/\l.length<10000/\∀ H' q,zH H H'->zBh K H' q (ZC l)->Q (.ref q) H'
theorem zDe:zO ["row","paintings","place","behind"] ["row"] (zI zBK):=yE
theorem zN2{l:List Nat}{p n:Nat}(h:p<=l.length):zC0 (zm l) (some (p:Int)) (some (((p+n:Nat)):Int))=zm ((l.drop p).take n):=by
 have e:=zJy (l:=l.map Int.ofNat) (p:=p) (w:=n);rw[zAI,zAI];rw[show (((p+n:Nat)):Int)=(p:Int)+(n:Int) by lia,e,<-Uo,<-Xh]
theorem zQA(D:zV K mg "paintings_of" zBK ["row"])(M:Ys P w K mg base 1 C ["self","how_many","coats"] (zAX C "how_many" "coats"))(T:zLT K mg C)(ml:mg "len" = none):Ok P w K mg base 3 "paintings_of" ["row"] (zMx K):=by
 refine D.ok zDe (λvs H Q E h=>?_) (λf cdv A outer s H vs Q E hr h=>?_)
 .obtain⟨a,l,rfl,_⟩:=h;rfl
 .obtain⟨a,l,rfl,hS,hl,k⟩:=h
  refine⟨_,zF (za (i:=1) zDe.nd rfl (Or.inl rfl) (yZ zC)) (zF (za (i:=2) zDe.nd rfl (Or.inl rfl) zL)
   (zF (zDh Wt (zj YI (pv 2) (yH ml (zA (pv 0) zC)) (zZ _))
    (zF (za (i:=3) zDe.nd rfl (Or.inl rfl) (zk ZH (zk ZH (pv 2) zL) (zh zd (pv 0) (pv 2) (λ_ _=>rfl))))
    (zF (yK (YK Wy WM WL ZE (pv 1) (zA (zBt M hr T.mgC (zA (zh zd (pv 0) (pv 2) (λ_ _=>rfl)) (zA (zFV zGh (pv 0) (zDM (zk ZH (pv 2) zL)) (zDM (pv 3))) zC))) zC)))
    (zG (za (i:=2) zDe.nd rfl (Or.inl rfl) (pv 3))))))
   (zG (zS (pv 1))))),?_⟩
  refine⟨Ww _,λL nL=>?_⟩
  refine⟨λm σ H'=>∃ (p:Nat) (v3:Option V) (ds:List (Nat×List Nat)),m=l.length-p/\σ=[some (.ref a),some (.ref L),some (.int (p:Int)),v3]/\zH H H'/\zBh K H' L ds/\ds.length<=p/\ZC l=ds++ZC (l.drop p),
   ⟨l.length,0,none,[],rfl,rfl,zQ (zH.refl H) nL,⟨_,zE,Za.nil⟩,We _,rfl⟩,?_⟩
  rintro m σ H' ⟨p,v3,ds,rfl,rfl,s1,⟨vs,ev,qv⟩,hds,hp⟩;refine⟨_,rfl,_,rfl,a,_,rfl,.inl (s1.seq hS),_,_,rfl,rfl,_,rfl,?_⟩;rw[zw];refine yA (λhb=>?_) λhb=>?_
  .have hpl:p<l.length:=by have:=WG hb;lia
   have en:=yQ hpl;have ed:l.drop p=l[p]::l.drop (p+1):=Ug hpl;generalize l[p]=n at en ed;rw[ed,zMw] at hp;refine⟨λσ' H'=>∃ m',m'<l.length-p/\∃ (p:Nat) (v3:Option V) (ds:List (Nat×List Nat)),m'=l.length-p/\σ'=[some (.ref a),some (.ref L),some (.int (p:Int)),v3]/\zH H H'/\zBh K H' L ds/\ds.length<=p/\ZC l=ds++ZC (l.drop p),λ_ _ h=>h,?_⟩;refine⟨_,rfl,_,_,rfl,rfl,_,rfl,_,rfl,a,_,_,_,rfl,rfl,s1.seq hS,zAH (j:=p) rfl en,_,_,rfl,rfl,?_⟩;refine⟨_,rfl,.inl ⟨rfl,_,zN.of ev⟩,_,rfl,_,rfl,a,_,_,_,rfl,rfl,s1.seq hS,zAH (j:=p) rfl en,_,rfl,_,rfl,_,_,rfl,rfl,_,rfl,_,rfl,_,rfl,a,_,rfl,s1.seq hS,λt nt=>?_⟩
   have ecut:zC0 (zm l) (some ((p:Int)+1)) (some ((p:Int)+1+(n:Int)))=zm ((l.drop (p+1)).take n):=by
    have:=zN2 (l:=l) (p:=p+1) (n:=n) (by lia);rw[show (((p+1+n:Nat)):Int)=(p:Int)+1+(n:Int) by lia,show (((p+1:Nat)):Int)=(p:Int)+1 by lia] at this;exact this
   rw[ecut];intro o dx no ndx nex;have s2:zH H' (upd H' t (.lst (zm ((l.drop (p+1)).take n)))):=zQ (zH.refl H') nt;refine⟨o,dx,_,_,rfl,zE,λH3 hx k1=>⟨rfl,L,vs,_,rfl,rfl,?_,?_,?_⟩⟩
   .exact (zH.made no ndx k1) _ _ (s2 _ _ ev)
   .rw[qv.1];exact Yv (WT hds (Vi hpl)) (yR hl (by decide))
   .have s3:zH H' H3:=s2.trans (zH.made no ndx k1);have tL:t≠L:=λe=>by rw[e,ev] at nt;cases nt
    have oL:o≠L:=λe=>by rw[e,s2 _ _ ev] at no;cases no
    refine⟨_,rfl,l.length-(p+1+n),by lia,p+1+n,_,ds++[(n,(l.drop (p+1)).take n)],rfl,rfl,λb ob eb=>?_,⟨_,zE,?_⟩,?_,?_⟩
    .rw[zD (zJ eb nL)];exact s3 _ _ (s1 _ _ eb)
    .refine (qv.mono λv x r=>zOO ((YX.of s3).trans YX.upd) r).snoc ?_;refine⟨o,C,dx,_,t,rfl,?_,T.cl,T.n0,T.n1,zBu (by decide),zDU,oL,tL,?_⟩
     .rw[zD oL];exact hx
     .rw[zD tL];exact (zH.made no ndx k1) _ _ zE
    .rw[Wi,W6]
     lia
    .rw[hp,List.drop_drop,Uk];rfl
  .have hpl:l.length<=p:=by have:=WJ hb;lia
   rw[List.drop_eq_nil_of_le hpl,show ZC []=[] from rfl,VU] at hp;rw[hp] at k;exact⟨_,rfl,k _ _ s1 ⟨vs,ev,qv⟩⟩
def zMy (K:Qf):Sp:=λvs H Q _=>∃ (ca ka:Addr) (c:List Nat) (xs:List (Nat×Nat)),vs=[.ref ca,.ref ka]/\H ca=some (.lst (zm c))/\zl (RKd K) H ka xs/\(∀ j∈c,j<xs.length)/\c.length<10000/\Q (.bl (zFJ xs c)) H
theorem zKH:zO ["coats","kinds","k"] ["coats","kinds"] (zI zCa):=yE
theorem zQB(D:zV K mg "heats_fall" zCa ["coats","kinds"])(ml:mg "len" = none)(mr:mg "range" = none):Ok P w K mg base 1 "heats_fall" ["coats","kinds"] (zMy K):=by
 refine D.ok zKH (λvs H Q E h=>?_) (λf cdv A outer s H vs Q E hr h=>?_)
 .obtain⟨ca,ka,c,xs,rfl,_⟩:=h;rfl
 .obtain⟨ca,ka,c,xs,rfl,hc,⟨kvs,hk,ek⟩,hlt,hl,k⟩:=h
  refine⟨_,zF (yF Wt rfl (zHB rfl mr (zA zL (zA (yH ml (zA (pv 0) zC)) zC))) (zT (i:=2) zKH.nd rfl (Or.inl rfl))
    (zG (zu (zj zKW (zP (zh zd (pv 1) (zh zd (pv 0) (pv 2) (λ_ _=>rfl)) (λ_ _=>rfl)) rfl) (zP (zh zd (pv 1) (zh zd (pv 0) (zk ZP (pv 2) zL) (λ_ _=>rfl)) (λ_ _=>rfl)) rfl) (zZ _)) (zG (zS yz)) zc)))
   (zG (zS yz)),?_⟩
  refine⟨_,rfl,ca,_,rfl,.inl (zN.of hc),1,_,rfl,⟨by decide,by decide,?_,?_⟩,?_⟩
  .rw[zw];lia
  .rw[zw];lia
  rw[zw];refine zAB (lo:=1) (λi σ H'=>∃ v:Option V,σ=[some (.ref ca),some (.ref ka),v]/\H'=H/\((c.zip c.tail).take i).all (λx=>decide (YA xs x.2<YA xs x.1))=true) ⟨none,rfl,rfl,rfl⟩ ?_ ?_
  .rintro i σ H' hi ⟨v,rfl,rfl,ha⟩;obtain⟨x,y,hx,hy,hz⟩:=zP7 (l:=c) (i:=i) (by lia);refine Wa λng=>?_
   obtain⟨v1,r1,b1,C1,d1,f1,rfl,a1,a2,a3,a4⟩:=zKG ek (hlt y (ZM hy));obtain⟨v2,r2,b2,C2,d2,f2,rfl,c1,c2,c3,c4⟩:=zKG ek (hlt x (ZM hx));refine ng ?_
   refine⟨_,rfl,_,rfl,_,rfl,ca,_,_,_,rfl,rfl,zN.of hc,zAH (j:=i+1) (by lia) hy,ka,_,_,_,rfl,rfl,zN.of hk,r1,b1,C1,d1,_,_,rfl,a1,a2,a3,a4,
    _,rfl,_,rfl,_,rfl,_,_,rfl,rfl,ca,_,_,_,rfl,rfl,zN.of hc,zAH (j:=i) (by lia) hx,ka,_,_,_,rfl,rfl,zN.of hk,r2,b2,C2,d2,_,_,rfl,c1,c2,c3,c4,_,_,rfl,rfl,_,rfl,yA (λhb=>?_) λhb=>?_⟩
   .refine ZF k (zBR (f:=λ(x:Nat×Nat)=>decide (YA xs x.2<YA xs x.1)) hz ?_);have:=WG hb;exact WH (by simp only;lia)
   .have:=WJ hb;exact⟨_,rfl,rfl,zAm (f:=λ(x:Nat×Nat)=>decide (YA xs x.2<YA xs x.1)) ha hz (WO (by simp only;lia))⟩
  .rintro σ H' ⟨v,rfl,rfl,ha⟩;rw[WK (by rw[zN0];lia)] at ha;exact ZF k ha
def zOR (K:Qf):Sp:=λvs H Q _=>∃ (v:V) (ka L:Addr) (p:Nat×List Nat) (xs:List (Nat×Nat)),vs=[v,.ref ka]/\RPa K L H v p/\zl (RKd K) H ka xs/\p.2.length<10000/\Q (.bl (zAa xs p)) H
theorem zRU:zO ["painting","kinds"] ["painting","kinds"] (zI zB0):=yE
theorem zRV{l:List Nat}(h:l≠[]):∃ m∈l,∀ y∈l,y<=m:=by
 induction l with
|nil=>exact absurd rfl h
|cons a r ih=>
  by_cases hr:r=[]
  .subst hr;exact⟨a,by simp,by simp⟩
  .obtain⟨m,h1,h2⟩:=ih hr;by_cases hm:m<=a
   .exact⟨a,by simp,λy hy=>by
     rcases Wd.mp hy with e|e
     .lia
     .have:=h2 y e;lia⟩
   .exact⟨m,by simp[h1],λy hy=>by
     rcases Wd.mp hy with e|e
     .lia
     .exact h2 y e⟩
theorem zRW(D:zV K mg "is_painting" zB0 ["painting","kinds"])(OW:Ok P w K mg base 1 "is_within" ["number","least","greatest"] zBQ)(OF:Ok P w K mg base 1 "heats_fall" ["coats","kinds"] (zMy K))(g1:yl mg "MOST_COATS" 4)(ml:mg "len" = none)(mx:mg "max" = none):Ok P w K mg base 2 "is_painting" ["painting","kinds"] (zOR K):=by
 refine D.ok zRU (λvs H Q E h=>?_) (λf cdv A outer s H vs Q E hr h=>?_)
 .obtain⟨v,ka,L,p,xs,rfl,_⟩:=h;rfl
 .refine Wa λng=>?_
  obtain⟨v,ka,L,p,xs,rfl,⟨a,C1,dx,fs,ca,rfl,a1,a2,a3,a4,a5,a6,a7,a8,a9⟩,⟨kvs,hk,ek⟩,hl,k⟩:=h;refine ng ?_
  refine⟨_,zF (zu (PW.pt (zCm (Zq (yY (zR OW hr (zA (zP (pv 0) rfl) (zA zL (zA (y8 g1) zC)))))) (zBj (zj YI (yH ml (zA (zP (pv 0) rfl) zC)) (zP (pv 0) rfl) (zZ _))))) (zG (zS yz)) zc)
   (zG (zS (zAA (yg YI (YS (zIA rfl) rfl mx Xk (zA (zP (pv 0) rfl) zC)) (yH ml (zA (pv 1) zC)) (zZ _)) (zAT (zR OF hr (zA (zP (pv 0) rfl) (zA (pv 1) zC))))))),?_⟩
  try dsimp only[Zc,Y1,Zj,Yo,YZ,Ya]
  show tOr _ _ _ _ _;refine zEP (c:=!YM (p.1:Int) 1 4) (d:=!decide (p.1<=p.2.length)) (λR h=>⟨_,rfl,a,C1,dx,fs,_,rfl,a1,a2,a3,a5,_,_,_,rfl,_,rfl,h⟩) (λ_ R h=>⟨_,rfl,a,C1,dx,fs,_,rfl,a1,a2,a4,a6,ca,_,rfl,.inl (zN.of a9),_,rfl,a,C1,dx,fs,_,rfl,a1,a2,a3,a5,_,_,rfl,rfl,_,rfl,?_⟩) (yA (λhb=>?_) λhb=>?_)
  .rw[zw,show decide (((p.2.length:Nat):Int)<((p.1:Nat):Int)) = !decide (p.1<=p.2.length) by rw[<-decide_not,Ws];lia];exact h
  .refine ZF k ?_;unfold zAa;cases h1:YM (p.1:Int) 1 4 with
  |false=>rfl
  |true=>
    rw[h1] at hb;have:decide (p.1<=p.2.length)=false:=by simpa using hb
    rw[this];rfl
  .have hb1:YM (p.1:Int) 1 4=true/\p.1<=p.2.length:=by
    rw[WZ,WD,WD,yr] at hb;exact hb
   have hne:p.2≠[]:=λe=>by
    have h1:=hb1.1;unfold YM at h1;rw[y9,yr] at h1;have h2:=hb1.2;rw[e] at h2;simp at h2
    lia
   obtain⟨m,hm,hmax⟩:=zRV hne
   have ek1:zAa xs p=(decide (m<xs.length)&&zFJ xs p.2):=by
    unfold zAa;rw[hb1.1,WO hb1.2]
    have:(p.2.all λk=>decide (k<xs.length))=decide (m<xs.length):=by
     rw[WB,WW,yr];exact⟨λh=>WG (h m hm),λh y hy=>WO (by have:=hmax y hy;lia)⟩
    rw[this];rfl
   rw[ek1] at k
   try dsimp only[Zc,Y1,Zj,Yo,YZ,Ya]
   show zB7 _ _ _ _ _;refine YU (c:=decide (m<xs.length)) (d:=zFJ xs p.2) (λR h=>⟨_,rfl,a,C1,dx,fs,_,rfl,a1,a2,a4,a6,ca,p.2.map Int.ofNat,rfl,?_,?_,λm' hm' hmax'=>⟨_,rfl,ka,_,rfl,.inl (zN.of hk),_,_,rfl,rfl,?_⟩⟩) (λhc R h=>⟨_,rfl,a,C1,dx,fs,_,rfl,a1,a2,a4,a6,_,rfl,ca,ka,p.2,xs,rfl,a9,⟨kvs,hk,ek⟩,λj hj=>?_,hl,h⟩) k
   .rw[<-zAI];exact zN.of a9
   .rw[zX];exact List.length_pos_iff.mpr hne
   .obtain⟨j,hj,rfl⟩:=Wp.mp hm';have h1:=hmax' (Int.ofNat m) (Wp.mpr ⟨m,hm,rfl⟩);have h2:=hmax j hj;have h1':(m:Int)<=(j:Int):=h1;have:j=m:=by lia
    subst this;rw[ek.1];show R (.bl (decide (((j:Nat):Int)<((xs.length:Nat):Int)))) _;rw[show decide (((j:Nat):Int)<((xs.length:Nat):Int))=decide (j<xs.length) by rw[Ws];exact Int.ofNat_lt];exact h
   .have:=hmax j hj;have:=WG hc
    lia
def zOS (K:Qf):Sp:=λvs H Q _=>∃ (pa ka:Addr) (ps:List (Nat×List Nat)) (xs:List (Nat×Nat)),vs=[.ref pa,.ref ka]/\zBh K H pa ps/\zl (RKd K) H ka xs/\(∀ p∈ps,p.2.length<10000)/\Q (.bl (Z0 xs ps)) H
theorem zMz:zO ["paintings","kinds","painting"] ["paintings","kinds"] (zI zA5):=yE
theorem zRX(D:zV K mg "are_paintings" zA5 ["paintings","kinds"])(OI:Ok P w K mg base 2 "is_painting" ["painting","kinds"] (zOR K))(g1:yl mg "MOST_PAINTINGS" 256)(ml:mg "len" = none):Ok P w K mg base 3 "are_paintings" ["paintings","kinds"] (zOS K):=by
 refine D.ok zMz (λvs H Q E h=>?_) (λf cdv A outer s H vs Q E hr h=>?_)
 .obtain⟨pa,ka,ps,xs,rfl,_⟩:=h;rfl
 .obtain⟨pa,ka,ps,xs,rfl,⟨pvs,hp,ep⟩,LK,hlen,k⟩:=h
  refine⟨_,zF (zu (zj YJ (yH ml (zA (pv 0) zC)) (y8 g1) (zZ _)) (zG (zS yz)) zc)
   (zF (yF Wt rfl (yt (pv 0)) (zT (i:=2) zMz.nd rfl (Or.inl rfl))
    (zG (zu (Zq (yY (zR OI hr (zA (pv 2) (zA (pv 1) zC))))) (zG (zS yz)) zc)))
   (zG (zS yz))),?_⟩
  refine⟨_,rfl,pa,_,rfl,.inl (zN.of hp),_,_,rfl,rfl,_,rfl,yA (λhb=>?_) λhb=>?_⟩
  .have:=WG hb;rw[ep.1] at this;refine ZF k ?_;unfold Z0;rw[WH (by lia),V9]
  .have h256:=WJ hb;rw[ep.1] at h256;refine⟨_,rfl,pa,rfl,⟨_,zN.of hp⟩,Zl (K:=K) (a:=pa) (xs:=pvs) (λi σ H'=>∃ v:Option V,σ=[some (.ref pa),some (.ref ka),v]/\H'=H/\(ps.take i).all (zAa xs)=true) ⟨none,rfl,rfl,rfl⟩ (λi σ H' _ hh=>hh.elim λ_ hh=>by rw[hh.2.1];exact zN.of hp) ?_ ?_⟩
   .rintro i y σ H' hi ⟨v,rfl,rfl,ha⟩;obtain⟨p,hip,r⟩:=ep.get' hi;refine⟨_,rfl,_,rfl,y,ka,pa,p,xs,rfl,r,LK,hlen p (ZM hip),_,rfl,yA (λhb=>?_) λhb=>?_⟩
    .rw[WE] at hb;refine ZF k ?_;unfold Z0;rw[zBR hip hb,Xo]
    .rw[WD] at hb;exact⟨_,rfl,rfl,zAm ha hip hb⟩
   .rintro σ H' ⟨v,rfl,rfl,ha⟩;rw[ep.1,WV] at ha;refine ZF k ?_;unfold Z0;rw[ha,WO (by lia)];rfl
end
structure zLY(K:Qf)(mg:Qm)(C:Addr):Prop where
 cl:Yl K C
 n0:zg K C "area"
 n1:zg K C "coats"
 mgC:mg "Piece" = some (.ref C)
theorem zQC{K:Qf}{h:Heap}{mg:Qm}{C:Addr}(X:K.In h)(G:h.Ns mainGlobals mg)(aC:PySem.W.nsIn K mainGlobals "Piece" = some (some (.ref C)))
  (pg:PySem.W.plainGet K C Str.empty=true)(hd:PySem.W.hasDictIn K C=true)(po:PySem.W.plainOver K C=true)(sa:PySem.W.findIn K (.ref C) "__setattr__" = some (some (.builtin "object.__setattr__")))
  (n0:PySem.W.findIn K (.ref C) "area" = some none)(n1:PySem.W.findIn K (.ref C) "coats" = some none):zLY K mg C:=⟨⟨pg,hd,po,sa⟩,n0,n1,Va X G aC⟩
def RPc (K:Qf)(L:Addr):Hp->V->Gla.Fired->Prop:=λH v x=>∃ a C dx fs ca,v=.ref a/\H a=some (.ins C dx fs)/\Yl K C/\zg K C "area"/\zg K C "coats"/\fs.lookup ("area" : Str)=some (.int (x.area:Int))/\fs.lookup ("coats" : Str)=some (.ref ca)/\a≠L/\ca≠L/\H ca=some (.lst (zm x.coats))
theorem zOT{K:Qf}{L:Addr}{H H':Hp}{v:V}{x:Gla.Fired}(s:YX L H H')(r:RPc K L H v x):RPc K L H' v x:=
 let ⟨a,C,dx,fs,ca,e1,e2,e3,e4,e5,e6,e7,n1,n2,e8⟩:=r;⟨a,C,dx,fs,ca,e1,s _ _ n1 e2,e3,e4,e5,e6,e7,n1,n2,s _ _ n2 e8⟩
def YY (K:Qf)(H:Hp)(q:Addr)(ps:List Gla.Fired):Prop:=∃ vs,H q=some (.lst vs)/\Za (RPc K q) H vs ps
theorem YY.same{K:Qf}{H H':Hp}{q:Addr}{ps:List Gla.Fired}(h:YY K H q ps)(s:zH H H'):YY K H' q ps:=let ⟨vs,e,z⟩:=h;⟨vs,s _ _ e,z.mono λ_ _ r=>zOT (YX.of s) r⟩
theorem zFS{α:Type}{g:Nat->α->Bool}{l:List α}{i:Nat}{x:α}(h:∀ j y,j<i->l[j]?=some y->g j y=false)(hx:l[i]?=some x)(hg:g i x=true):Gla.firstAt g l=some i:=by
 have e:=Zd (g:=g) (f:=λi=>((i:Int),0)) (k:=0) (λj y hj hy=>by rw[WA];exact h j y hj hy) hx (by rw[WA];exact hg);rw[zAx,WA] at e;cases q:Gla.firstAt g l with
|none=>rw[q] at e;cases e
|some j=>
  rw[q,Vl] at e;injection e with e
  injection e with e _
  have:j=i:=by lia
  rw[this]
theorem zGY{α:Type}{g:Nat->α->Bool}{l:List α}(h:∀ j y,l[j]?=some y->g j y=false):Gla.firstAt g l=none:=by
 have e:=Ze (g:=g) (f:=λi=>((i:Int),0)) (k:=0) (l:=l) (λj y hy=>by rw[WA];exact h j y hy);rw[zAx] at e;exact W0.mp e
def zAM (n:Nat)(S:Gla.Plan):Option Nat:=Gla.firstAt (λ(_:Nat) (m:Gla.Mark)=>decide (n<m.painting)) S.marks
theorem zHh{m:Nat}:∀ {xs:List Nat}{a:Nat},a<=m->(∀ y∈xs,y<=m)->(a=m\/m∈xs)->xs.foldl max a=m
|[],a,_,_,h=>h.elim id λz=>by cases z
|x::xs,a,ha,hy,h=>by
  rw[Vm];have hx:=hy x Wm;refine zHh (by lia) (λy h'=>hy y (Wg _ h')) ?_;rcases h with e|h
  .left;lia
  .rcases Wd.mp h with e|h
   .left;lia
   .right;exact h
theorem zGZ{m:Nat}:∀ {xs:List Nat}{a:Nat},m<=a->(∀ y∈xs,m<=y)->(a=m\/m∈xs)->xs.foldl min a=m
|[],a,_,_,h=>h.elim id λz=>by cases z
|x::xs,a,ha,hy,h=>by
  rw[Vm];have hx:=hy x Wm;refine zGZ (by lia) (λy h'=>hy y (Wg _ h')) ?_;rcases h with e|h
  .left;lia
  .rcases Wd.mp h with e|h
   .left;lia
   .right;exact h
theorem zKI{xs:List Nat}{m n:Nat}(h1:m∈xs)(h2:∀ y∈xs,y<=m)(h3:n∈xs)(h4:∀ y∈xs,n<=y):((m:Int)-(n:Int))=((Gla.span xs:Nat):Int):=by
 unfold Gla.span
 have hh:n<=xs.headD 0:=by
  cases xs with
 |nil=>cases h1
 |cons a r=>exact h4 a Wm
 rw[zHh (Ww _) h2 (.inr h1),zGZ hh h4 (.inr h3)];have:=h2 n h3
 lia
section
variable {P:Program}{w:World}{K:Qf}{mg:Qm}{base:Heap}{C:Addr}
theorem zLZ:zO ["self","area","coats"] ["self","area","coats"] (zI zCT):=yE
theorem zLa{C:Addr}(D:yj K C "Piece.__init__" zCT ["self","area","coats"])(T:zLY K mg C):Ys P w K mg base 1 C ["self","area","coats"] (zAX C "area" "coats"):=by
 refine D.ok zLZ (λvs H Q E h=>?_) (λf cdv A outer s H vs Q E hr h=>?_)
 .obtain⟨p,dx,v1,v2,rfl,_⟩:=h;rfl
 .obtain⟨p,dx,v1,v2,rfl,hp,k⟩:=h;refine⟨_,zF (yo (pv 0) (pv 1) rfl) (zG (yo (pv 0) (pv 2) rfl)),?_⟩;refine⟨_,rfl,_,rfl,p,C,dx,_,rfl,hp,T.cl,T.n0,(by show 0<1000;decide),?_⟩;refine⟨_,rfl,_,rfl,p,C,dx,_,rfl,zE,T.cl,T.n1,yR (yO (n:=1) (by show 0<1;decide)) (by decide),?_⟩;exact k _ zE λb o e hb=>by rw[zD hb,zD hb];exact e
theorem zI0{S:Gla.Plan}{i:Nat}{x:List Nat×Int}(h:(zAZ S)[i]?=some x):∃ m,S.marks[i]?=some m/\x=((S.among S.outlines m.at_).getD [],(m.painting:Int)):=yV h
def zOU (K:Qf):Sp:=λvs H Q _=>∃ (qa pa:Addr) (S:Gla.Plan) (ps:List (Nat×List Nat)),vs=[.ref qa,.ref pa]/\zLO K S H qa/\zBh K H pa ps/\∀ H',zH H H'->Q (.int (zDL (zAM ps.length S))) H'
theorem zI1:zO ["panes","paintings","number","pane"] ["panes","paintings"] (zI Z6):=yE
theorem zRY(D:zV K mg "first_without_painting" Z6 ["panes","paintings"])(gN:yl mg "NO_PANE" (-1))(me:mg "enumerate" = none)(ml:mg "len" = none):Ok P w K mg base 1 "first_without_painting" ["panes","paintings"] (zOU K):=by
 refine D.ok zI1 (λvs H Q E h=>?_) (λf cdv A outer s H vs Q E hr h=>?_)
 .obtain⟨qa,pa,S,ps,rfl,_⟩:=h;rfl
 .obtain⟨qa,pa,S,ps,rfl,⟨qvs,hq,eq⟩,⟨pvs,hp,ep⟩,k⟩:=h
  refine⟨_,zF (yF Wt rfl (YG rfl me (zA (pv 0) zC)) (Z1 rfl (zt (zT (i:=2) zI1.nd rfl (Or.inl rfl)) (zt (zT (i:=3) zI1.nd rfl (Or.inl rfl)) ZV)))
    (zG (zu (zj YJ (zP (pv 3) rfl) (yH ml (zA (pv 1) zC)) (zZ _)) (zG (zS (pv 2))) zc)))
   (zG (zS (y8 gN))),?_⟩
  refine⟨_,rfl,qa,qvs,rfl,zN.of hq,Z4 (K:=K) (a:=qa) (xs:=qvs) (λi σ H'=>∃ v2 v3:Option V,σ=[some (.ref qa),some (.ref pa),v2,v3]/\zH H H'/\∀ (j:Nat) (m:Gla.Mark),j<i->S.marks[j]?=some m->decide (ps.length<m.painting)=false)
   ⟨none,none,rfl,zH.refl H,λj z hj=>absurd hj (Vb _)⟩ (λi σ H' _ hh=>hh.elim λ_ hh=>hh.elim λ_ hh=>zN.of (hh.2.1 _ _ hq)) ?_ ?_⟩
  .rintro i y σ H' T hi ⟨v2,v3,rfl,s1,hno⟩ hT;have s2:zH H (upd H' T (.tup [.int (i:Nat),y])):=zQ s1 hT;obtain⟨x,hix,r⟩:=eq.get' hi;obtain⟨m,him,rfl⟩:=zI0 hix;refine Wa λng=>?_
   obtain⟨a,C1,dx,fs,ca,rfl,a1,a2,a3,a4,a5,a6,a7⟩:=r;refine ng ?_;refine⟨T,_,rfl,yJ.of zE,rfl,_,_,rfl,_,_,rfl,rfl,?_⟩;refine⟨_,rfl,a,C1,dx,fs,_,rfl,s2 _ _ a1,a2,a4,a6,_,rfl,pa,_,rfl,.inl (zN.of (s2 _ _ hp)),_,_,rfl,rfl,_,rfl,?_⟩;rw[ep.1,show decide (((ps.length:Nat):Int)<((m.painting:Nat):Int))=decide (ps.length<m.painting) by rw[Ws];exact Int.ofNat_lt];refine yA (λhb=>?_) λhb=>?_
   .have e:zAM ps.length S=some i:=zFS (g:=λ(_:Nat) (m:Gla.Mark)=>decide (ps.length<m.painting)) hno him hb;rw[e] at k;exact⟨_,rfl,k _ s2⟩
   .refine⟨_,_,rfl,s2,λj z hj hz=>?_⟩;by_cases e:j=i
    .subst e;rw[him] at hz;cases hz;exact hb
    .exact hno j z (by lia) hz
  .rintro σ H' ⟨v2,v3,rfl,s1,hno⟩
   have e:zAM ps.length S=none:=zGY (g:=λ(_:Nat) (m:Gla.Mark)=>decide (ps.length<m.painting)) λj m hm=>hno j m (by
    rw[eq.1,show (zAZ S).length=S.marks.length from zX ..];exact (yG hm).1) hm
   rw[e] at k;exact k _ s1
def zOV (K:Qf):Sp:=λvs H Q _=>∃ (ca:Addr) (S:Gla.Plan) (l:List Nat),vs=[.ref ca]/\zl (Z7 K) H ca (ZU S l)/\l≠[]/\l.length<100000/\Yh S/\(∀ j∈l,j<S.pts.length)/\∀ H',zH H H'->Q (.int ((Gla.sizeOfPane S (some l):Nat):Int)) H'
theorem zEp:zO ["corners","across","upward","corner"] ["corners"] (zI zAF):=yE
theorem zRZ(D:zV K mg "blank_area" zAF ["corners"])(mx:mg "max" = none)(mn:mg "min" = none):Ok P w K mg base 1 "blank_area" ["corners"] (zOV K):=by
 refine D.ok zEp (λvs H Q E h=>?_) (λf cdv A outer s H vs Q E hr h=>?_)
 .obtain⟨ca,S,l,rfl,_⟩:=h;rfl
 .obtain⟨ca,S,l,rfl,⟨cvs,hc,ec⟩,hne,hl,B,hlt,k⟩:=h;have hcl:(ZU S l).length=l.length:=by unfold ZU;rw[zX,zX]
  refine⟨_,zF (YT (i:=1) (own:=[("corner",3)]) rfl zEp.nd rfl rfl rfl (yt (pv 0)) (ZW (show zAg ["corners","across","upward","corner"] (zI zAF) _ _=true by decide +kernel))
    (λ_ _ _ _ _=>zT (i:=3) zEp.nd rfl (Or.inl rfl)) (λ_ _ _ _ _=>YF) (λ_ _ _ _ _=>zAw K (pv 3)))
   (zF (YT (i:=2) (own:=[("corner",3)]) rfl zEp.nd rfl rfl rfl (yt (pv 0)) (ZW (show zAg ["corners","across","upward","corner"] (zI zAF) _ _=true by decide +kernel))
    (λ_ _ _ _ _=>zT (i:=3) zEp.nd rfl (Or.inl rfl)) (λ_ _ _ _ _=>YF) (λ_ _ _ _ _=>zAw K (pv 3)))
   (zG (zS (zk YH (zk ZP (YS (zIA rfl) rfl mx Xk (zA (pv 1) zC)) (YS (zLx rfl) rfl mn XI (zA (pv 1) zC))) (zk ZP (YS (zIA rfl) rfl mx Xk (zA (pv 2) zC)) (YS (zLx rfl) rfl mn XI (zA (pv 2) zC))))))),?_⟩
  have len1:∀ (g:Nat->Nat) (i:Nat),i<cvs.length->(zm ((l.map g).take i)).length<sizeLine:=λg i hi=>by
   rw[zw,WF];exact Yv (Xf _ _) (yR (by rw[ec.1,hcl] at hi;lia:i<100000) (by decide))
  have one:∀ {i:Nat}{y:V}{Hx:Hp},cvs[i]?=some y->zH H Hx->∃ (j:Nat) (b:Addr),l[i]?=some j/\y=.ref b/\XY K Hx b (zq (S.pt j)):=λ{i y Hx} hi sx=>by
   obtain⟨p,hip,b,rfl,X⟩:=ec.get' hi;unfold ZU at hip;rw[Vf] at hip;obtain⟨j,hj,rfl⟩:=yV hip;exact⟨j,b,hj,rfl,X.same sx⟩
  refine⟨_,rfl,ca,rfl,⟨_,zN.of hc⟩,λL1 n1=>?_⟩;refine zAp (K:=K) (a:=ca) (xs:=cvs) (λi H'=>zH H H'/\H' L1=some (.lst (zm ((l.map λj=>(S.pt j).x).take i)))) ⟨zQ (zH.refl H) n1,zE⟩ (λi H' _ hh=>zN.of (hh.1 _ _ hc)) ?_ ?_
  .rintro i y H' hi ⟨s1,e1⟩;obtain⟨j,b,hj,rfl,X⟩:=one hi s1;obtain⟨C1,d1,f1,a1,a2,a3,a4,a5,a6⟩:=id X;refine⟨rfl,?_⟩;refine⟨_,rfl,b,C1,d1,_,_,rfl,a1,a2,a3,a5,_,e1,len1 _ i (yG hi).1,λb' o' eb=>?_,?_⟩
   .rw[zD (zJ eb n1)];exact s1 _ _ eb
   .rw[zE,zv (map_some (f:=λj=>(S.pt j).x) hj)];unfold zm;rw[Wq];rfl
  rintro H1 ⟨s1,e1⟩;rw[WK (by rw[zX,ec.1,hcl];exact We _)] at e1;refine⟨_,rfl,ca,rfl,⟨_,zN.of (s1 _ _ hc)⟩,λL2' n2=>?_⟩;refine zAp (K:=K) (a:=ca) (xs:=cvs) (λi H'=>zH H1 H'/\H' L2'=some (.lst (zm ((l.map λj=>(S.pt j).y).take i)))) ⟨zQ (zH.refl H1) n2,zE⟩ (λi H' _ hh=>zN.of (hh.1 _ _ (s1 _ _ hc))) ?_ ?_
  .rintro i y H' hi ⟨s2,e2⟩;obtain⟨j,b,hj,rfl,X⟩:=one hi (s1.trans s2);refine Wa λng=>?_
   obtain⟨C1,d1,f1,a1,a2,a3,a4,a5,a6⟩:=id X;refine ng ?_;refine⟨rfl,?_⟩;refine⟨_,rfl,b,C1,d1,_,_,rfl,a1,a2,a4,a6,_,e2,len1 _ i (yG hi).1,λb' o' eb=>?_,?_⟩
   .rw[zD (zJ eb n2)];exact s2 _ _ eb
   .rw[zE,zv (map_some (f:=λj=>(S.pt j).y) hj)];unfold zm;rw[Wq];rfl
  rintro H2 ⟨s2,e2⟩;rw[WK (by rw[zX,ec.1,hcl];exact We _)] at e2;have e12:=s2 _ _ e1;have pos:∀ g:Nat->Nat,0<((l.map g).map Int.ofNat).length:=λg=>by rw[zX,zX];exact List.length_pos_iff.mpr hne
  have sq1:zN K H2 L1 (((l.map λj=>(S.pt j).x).map Int.ofNat).map V.int):=by rw[<-zAI];exact zN.of e12
  have sq2:zN K H2 L2' (((l.map λj=>(S.pt j).y).map Int.ofNat).map V.int):=by rw[<-zAI];exact zN.of e2
  have bd:∀ j∈l,(S.pt j).x<=1048576/\(S.pt j).y<=1048576:=λj hj=>B.sm _ (zCg (hlt j hj)).2
  refine⟨_,rfl,L1,_,rfl,sq1,pos _,λm1 hm1 hM1=>⟨_,rfl,L1,_,rfl,sq1,pos _,λm2 hm2 hM2=>⟨_,_,rfl,rfl,?_⟩⟩⟩;refine⟨_,rfl,L2',_,rfl,sq2,pos _,λm3 hm3 hM3=>⟨_,rfl,L2',_,rfl,sq2,pos _,λm4 hm4 hM4=>⟨_,_,rfl,rfl,_,_,rfl,rfl,?_⟩⟩⟩;obtain⟨x1,hx1,rfl⟩:=Wp.mp hm1;obtain⟨x2,hx2,rfl⟩:=Wp.mp hm2;obtain⟨x3,hx3,rfl⟩:=Wp.mp hm3;obtain⟨x4,hx4,rfl⟩:=Wp.mp hm4;have up:∀ {xs:List Nat}{x:Nat},(∀ y∈xs.map Int.ofNat,y<=Int.ofNat x)->∀ y∈xs,y<=x:=λ{xs x} h y hy=>XG.mp (h _ (Wp.mpr ⟨y,hy,rfl⟩))
  have dn:∀ {xs:List Nat}{x:Nat},(∀ y∈xs.map Int.ofNat,Int.ofNat x<=y)->∀ y∈xs,x<=y:=λ{xs x} h y hy=>XG.mp (h _ (Wp.mpr ⟨y,hy,rfl⟩))
  have q1:=zKI hx1 (up hM1) hx2 (dn hM2);have q2:=zKI hx3 (up hM3) hx4 (dn hM4);refine⟨.inl ?_,?_⟩
  .show -(2^64)<((x1:Int)-(x2:Int))/\((x1:Int)-(x2:Int))<2^64;obtain⟨j1,hj1,rfl⟩:=Wp.mp hx1;obtain⟨j2,hj2,rfl⟩:=Wp.mp hx2;have b1:=bd j1 hj1;have b2:=bd j2 hj2
   lia
  .refine zQr (k _ (s1.trans s2)) ?_;show _=((x1:Int)-(x2:Int))*((x3:Int)-(x4:Int))
   rw[q1,q2];unfold Gla.sizeOfPane Gla.blankOf;dsimp only[Option.getD];rw[Nat.mul_zero,UB,UB,Xg]
def zDf (ps:List (Nat×List Nat))(m:Nat):List Nat:=if m=0 then [] else (ps.getD (m-1) (0,[])).2
def zOW (K:Qf):Sp:=λvs H Q _=>∃ (v:V) (pa:Addr) (S:Gla.Plan) (Hc H0:Hp) (x:List Nat×Int) (m:Nat) (ps:List (Nat×List Nat)),vs=[v,.ref pa]/\RPn K S Hc H v x/\x.2=(m:Int)/\zH H0 H/\zBh K H0 pa ps/\m<=ps.length/\∀ H' ca,zH H H'->H' ca=some (.lst (zm (zDf ps m)))->(H ca=none\/∃ o,H0 ca=some o)->Q (.ref ca) H'
theorem zRa:zO ["pane","paintings"] ["pane","paintings"] (zI zDu):=yE
theorem zRb(D:zV K mg "coats_of" zDu ["pane","paintings"]):Ok P w K mg base 1 "coats_of" ["pane","paintings"] (zOW K):=by
 refine D.ok zRa (λvs H Q E h=>?_) (λf cdv A outer s H vs Q E hr h=>?_)
 .obtain⟨v,pa,S,Hc,H0,x,m,ps,rfl,_⟩:=h;rfl
 .refine Wa λng=>?_
  obtain⟨v,pa,S,Hc,H0,x,m,ps,rfl,⟨a,C1,dx,fs,ca,rfl,a1,a2,a3,a4,a5,a6,a7⟩,hx,s0,⟨pvs,hp,ep⟩,hm,k⟩:=h;refine ng ?_;rw[hx] at a6
  refine⟨_,zF (zu (zj zBX (zP (pv 0) rfl) zL (zZ _)) (zG (zS (yZ zC))) zc)
   (zG (zS (zP (zh zd (pv 1) (zk ZP (zP (pv 0) rfl) zL) (λ_ _=>rfl)) rfl))),?_⟩
  refine⟨_,rfl,a,C1,dx,fs,_,rfl,a1,a2,a4,a6,rfl,_,rfl,?_⟩;rw[deq];refine yA (λhb=>?_) λhb=>?_
  .have h0:m=0:=by have:=WG hb;lia
   refine⟨Ww _,λq nq=>k _ q (zQ (zH.refl H) nq) ?_ (.inl nq)⟩;rw[zE];unfold zDf;rw[Wc h0];rfl
  .have h0:m≠0:=by have:=WJ hb;lia
   have hlt:m-1<ps.length:=by lia
   have e:=yQ hlt;refine Wa λng=>?_
   obtain⟨v,hv,b,C2,d2,f2,cb,rfl,c1,c2,c3,c4,c5,c6,c7,c8,c9⟩:=ep.get e;refine ng ?_;refine⟨_,rfl,_,rfl,a,C1,dx,fs,_,rfl,a1,a2,a4,a6,_,_,rfl,rfl,pa,_,_,_,rfl,rfl,zN.of (s0 _ _ hp),y6 (j:=m-1) (by lia) hv,b,C2,d2,f2,_,rfl,s0 _ _ c1,c2,c4,c6,k _ cb (zH.refl H) ?_ (.inr ⟨_,c9⟩)⟩;rw[s0 _ _ c9];unfold zDf;rw[Wb h0,WC,e];rfl
def YR (S:Gla.Plan)(cs:List Gla.Coats):List Gla.Fired:=S.marks.map λm=>⟨Gla.sizeOfPane S (S.among S.outlines m.at_),Gla.coatsOf cs m⟩
theorem zN3(S:Gla.Plan)(cs:List Gla.Coats):YR S cs=Gla.firedOf cs S:=by
 unfold YR Gla.firedOf Gla.Plan.panes;dsimp only;generalize S.marks=l
 induction l with
|nil=>rfl
|cons m r ih=>
  rw[Wo,Wo,Uc,Wo,ih]
theorem zN4{ps:List (Nat×List Nat)}{m:Gla.Mark}:zDf ps m.painting=Gla.coatsOf (ps.map Prod.snd) m:=by
 unfold zDf Gla.coatsOf;split
 .rfl
 .rw[WC,WC,WQ];cases ps[m.painting-1]? <;> rfl
def zOX (K:Qf):Sp:=λvs H Q _=>∃ (qa pa:Addr) (S:Gla.Plan) (ps:List (Nat×List Nat)),vs=[.ref qa,.ref pa]/\zOM K S H qa/\zBh K H pa ps/\(∀ m∈S.marks,m.painting<=ps.length)/\∀ H' q,zH H H'->YY K H' q (YR S (ps.map Prod.snd))->Q (.ref q) H'
theorem zI2:zO ["panes","paintings","pane"] ["panes","paintings"] (zI zBd):=yE
theorem zRc(D:zV K mg "pieces_of" zBd ["panes","paintings"])(OB:Ok P w K mg base 1 "blank_area" ["corners"] (zOV K))(OC:Ok P w K mg base 1 "coats_of" ["pane","paintings"] (zOW K))(M:Ys P w K mg base 1 C ["self","area","coats"] (zAX C "area" "coats"))(T:zLY K mg C) :
  Ok P w K mg base 3 "pieces_of" ["panes","paintings"] (zOX K):=by
 refine D.ok zI2 (λvs H Q E h=>?_) (λf cdv A outer s H vs Q E hr h=>?_)
 .obtain⟨qa,pa,S,ps,rfl,_⟩:=h;rfl
 .refine Wa λng=>?_
  obtain⟨qa,pa,S,ps,rfl,⟨⟨qvs,hq,eq⟩,B,O,cl⟩,PA,hmp,k⟩:=h;refine ng ?_;have hr1:zn 1 _:=hr.mono (by decide)
  refine⟨_,zG (zS (zKf (own:=[("pane",2)]) rfl zI2.nd (yt (pv 0)) (ZW (show zAg ["panes","paintings","pane"] (zI zBd) _ _=true by decide +kernel))
   (λ_ _ _ _ _=>zT (i:=2) zI2.nd rfl (Or.inl rfl)) (λ_ _ _ _ _=>YF) (λ_ _ _ _ _=>zBt M hr T.mgC (zA (zR OB hr1 (zA (zAw K (pv 2)) zC)) (zA (zR OC hr1 (zA (pv 2) (zA (pv 1) zC))) zC))))),?_⟩
  refine⟨_,rfl,qa,rfl,⟨_,zN.of hq⟩,λL nL=>?_⟩;refine zAp (K:=K) (a:=qa) (xs:=qvs) (λi H'=>zH H H'/\YY K H' L ((YR S (ps.map Prod.snd)).take i)) ⟨zQ (zH.refl H) nL,_,zE,Za.nil⟩ (λi H' _ hh=>zN.of (hh.1 _ _ hq)) ?_ ?_
  .rintro i y H' hi ⟨s1,vs,ev,qv⟩;obtain⟨x,hix,r⟩:=eq.get' hi;obtain⟨m,him,rfl⟩:=zI0 hix;have hmm:=ZM him;refine Wa λng=>?_
   obtain⟨a,C1,dx,fs,ca,rfl,a1,a2,a3,a4,a5,a6,a7⟩:=r;obtain⟨ix,l,w1,w2,w3,w4,w5⟩:=Kt.zJr O (cl m hmm);refine ng ?_;rw[w4] at a7;obtain⟨l1,l2,l3⟩:=zOK O (ZM w1);refine⟨rfl,?_⟩;refine⟨_,rfl,a,C1,dx,fs,_,rfl,s1 _ _ a1,a2,a3,a5,ca,S,l,rfl,zl.same zCC a7 s1,λe=>by rw[e] at l3;exact absurd l3 (by decide),by have:=B.m;lia,B,l1,λH2 s2=>?_⟩;have s12:=s1.trans s2;refine⟨_,rfl,_,rfl,.ref a,pa,S,H,H,((S.among S.outlines m.at_).getD [],(m.painting:Int)),m.painting,ps,rfl,⟨a,C1,dx,fs,ca,rfl,s12 _ _ a1,a2,a3,a4,a5,a6,by rw[w4];exact a7⟩,rfl,s12,PA,hmp m hmm,λH3 cb s3 hcb hw=>?_⟩;intro o dx' no ndx nex;have ev2:=s2 _ _ ev;have ev3:=s3 _ _ ev2
   have cbL:cb≠L:=by
    rcases hw with h|⟨o',h⟩
    .exact λe=>by rw[e,ev2] at h;cases h
    .exact λe=>by rw[e,nL] at h;cases h
   have oL:o≠L:=λe=>by rw[e,ev3] at no;cases no
   refine⟨o,dx',_,_,rfl,zE,λH4 hx k1=>⟨rfl,vs,?_,?_,λb ob eb=>?_,?_⟩⟩
   .exact (zH.made no ndx k1) _ _ ev3
   .rw[qv.1,WF];exact Yv (Xf _ _) (yR (VW (yG him).1 B.k) (by decide))
   .rw[zD (zJ eb nL)];exact (zH.made no ndx k1) _ _ (s3 _ _ (s12 _ _ eb))
   .have s4:zH H' H4:=(s2.trans s3).trans (zH.made no ndx k1)
    have hfi:(YR S (ps.map Prod.snd))[i]?=some ⟨Gla.sizeOfPane S (some l),zDf ps m.painting⟩:=by
     unfold YR;rw[WQ,him,Vl,w4,zN4]
    rw[zv hfi];refine⟨_,zE,(qv.mono λv x r=>zOT ((YX.of s4).trans YX.upd) r).snoc ⟨o,C,dx',_,cb,rfl,?_,T.cl,T.n0,T.n1,zBu (by decide),zDU,oL,cbL,?_⟩⟩
    .rw[zD oL];exact hx
    .rw[zD cbL];exact (zH.made no ndx k1) _ _ hcb
  .rintro H' ⟨s1,PC⟩;rw[eq.1,show (zAZ S).length=(YR S (ps.map Prod.snd)).length by unfold zAZ YR;rw[zX,zX],WV] at PC;exact k _ _ s1 PC
end
structure zI3(K:Qf)(mg:Qm)(C:Addr):Prop where
 cl:Yl K C
 n0:zg K C "kinds"
 n1:zg K C "pieces"
 n2:zg K C "refusal"
 mgC:mg "Work" = some (.ref C)
theorem zQD{K:Qf}{h:Heap}{mg:Qm}{C:Addr}(X:K.In h)(G:h.Ns mainGlobals mg)(aC:PySem.W.nsIn K mainGlobals "Work" = some (some (.ref C)))
  (pg:PySem.W.plainGet K C Str.empty=true)(hd:PySem.W.hasDictIn K C=true)(po:PySem.W.plainOver K C=true)(sa:PySem.W.findIn K (.ref C) "__setattr__" = some (some (.builtin "object.__setattr__")))
  (n0:PySem.W.findIn K (.ref C) "kinds" = some none)(n1:PySem.W.findIn K (.ref C) "pieces" = some none)(n2:PySem.W.findIn K (.ref C) "refusal" = some none):zI3 K mg C:=⟨⟨pg,hd,po,sa⟩,n0,n1,n2,Va X G aC⟩
def OkQ (P:Program)(w:World)(K:Qf)(mg:Qm)(base:Heap)(k:Nat)(x:Str)(ps:List Str)(sp:Sp):Prop:=∃ f fd,Kq.FnQ P w K mg base CX0 k f fd ps sp/\mg x=some (.ref f)/\PySem.W.keepIn K (.ref f)=true/\ZK K fd ps []
def MkQ (P:Program)(w:World)(K:Qf)(mg:Qm)(base:Heap)(k:Nat)(C:Addr)(ps:List Str)(sp:Sp):Prop:=∃ f fd,Mk K C f/\Kq.FnQ P w K mg base CX0 k f fd ps sp/\ZK K fd ps []
section
variable {P:Program}{w:World}{K:Qf}{mg:Qm}{base:Heap}{C:Addr}{k:Nat}{x:Str}{ps:List Str}{sp:Sp}
theorem OkQ.ok(O:OkQ P w K mg base k x ps sp):Ok P w K mg base k x ps sp:=let ⟨f,fd,F,r⟩:=O;⟨f,fd,F.ok,r⟩
theorem MkQ.ok(O:MkQ P w K mg base k C ps sp):Ys P w K mg base k C ps sp:=let ⟨f,fd,M,F,b⟩:=O;⟨f,fd,M,F.ok,b⟩
theorem zLb:zO ["self","kinds","pieces","refusal"] ["self","kinds","pieces","refusal"] (zI zDH):=yE
theorem zGa(D:yj K C "Work.__init__" zDH ["self","kinds","pieces","refusal"])(T:zI3 K mg C):MkQ P w K mg base 1 C ["self","kinds","pieces","refusal"] (zEi C "kinds" "pieces" "refusal"):=by
 obtain⟨f,fd,M,D,b⟩:=D;obtain⟨oc,od,kV,doc,pm,an,cdv,ct,osl,efd,lk,hcd⟩:=D.ex;subst efd;refine⟨f,_,M,Kq.zQ1 lk hcd zLb (λvs H Q E h=>?_) (λA outer s H vs Q E hr h=>?_),b⟩
 .obtain⟨p,dx,v1,v2,v3,rfl,_⟩:=h;rfl
 .obtain⟨p,dx,v1,v2,v3,rfl,hp,k⟩:=h;refine⟨_,zF (yo (pv 0) (pv 1) rfl) (zF (yo (pv 0) (pv 2) rfl) (zG (yo (pv 0) (pv 3) rfl))),?_⟩;refine⟨_,rfl,_,rfl,p,C,dx,_,rfl,hp,T.cl,T.n0,(by show 0<1000;decide),?_⟩;refine⟨_,rfl,_,rfl,p,C,dx,_,rfl,zE,T.cl,T.n1,yR (yO (n:=1) (by show 0<1;decide)) (by decide),?_⟩;refine⟨_,rfl,_,rfl,p,C,dx,_,rfl,zE,T.cl,T.n2,yR (yO (n:=2) (yO (n:=1) (by show 0<1;decide))) (by decide),?_⟩;exact k _ zE λb o e hb=>by rw[zD hb,zD hb,zD hb];exact e
def zRd (K:Qf)(H:Hp)(wk:Addr)(v1 v2 v3:V):Prop:=∃ C dx fs,H wk=some (.ins C dx fs)/\Yl K C/\zg K C "kinds"/\zg K C "pieces"/\zg K C "refusal"/\fs.lookup ("kinds" : Str)=some v1/\fs.lookup ("pieces" : Str)=some v2/\fs.lookup ("refusal" : Str)=some v3
def zLc (K:Qf):Sp:=λvs H Q _=>∃ v:V,vs=[v]/\∀ (H':Hp) (wk ka pa:Addr),zH H H'->zRd K H' wk (.ref ka) (.ref pa) v->Q (.ref wk) H'
theorem zRe:zO ["numbers"] ["numbers"] (zI zEd):=yE
theorem zRf(D:zV K mg "refused" zEd ["numbers"])(M:MkQ P w K mg base 1 C ["self","kinds","pieces","refusal"] (zEi C "kinds" "pieces" "refusal"))(T:zI3 K mg C):OkQ P w K mg base 3 "refused" ["numbers"] (zLc K):=by
 obtain⟨f,fd,D⟩:=D;obtain⟨oc,od,kV,doc,pm,an,cdv,ct,osl,efd,lk,hcd⟩:=D.fn.ex;obtain⟨fi,fdi,Mi,Fi,bi⟩:=M;subst efd;refine⟨f,_,Kq.zQ1 lk hcd zRe (λvs H Q E h=>?_) (λA outer s H vs Q E hr h=>?_),D.at_,D.fn.kp,D.bi⟩
 .obtain⟨v,rfl,_⟩:=h;rfl
 .obtain⟨v,rfl,k⟩:=h;refine⟨_,zG (zS (Kq.zNb Mi Fi hr rfl T.mgC bi .nil zF2 (zA (yZ zC) (zA (yZ zC) (zA (pv 0) zC))))),?_⟩;refine⟨Ww _,λka nka=>⟨Ww _,λpa npa=>⟨_,rfl,?_⟩⟩⟩;intro o dx no ndx nex;refine⟨o,dx,_,_,_,rfl,zE,λH4 hx k1=>⟨rfl,k _ o ka pa ?_ ?_⟩⟩
  .exact (zQ (zQ (zH.refl H) nka) npa).trans (zH.made no ndx k1)
  .exact⟨C,dx,_,hx,T.cl,T.n0,T.n1,T.n2,zIi (by decide) (by decide),zIj (by decide),zIk⟩
def zCk (kr pr:List Nat)(b:Gla.Bytes):Option (List Int):=if Zh kr=false then some [-1] else if Z0 (Zy kr) (ZC pr)=false then some [-1] else match zAf b with
|some z=>some [-5,z.1,z.2]
|none=>match zAM (ZC pr).length (Gla.parts b) with
 |some i=>some [-3,(i:Int)]
 |none=>none
def WkR (K:Qf)(kr pr:List Nat)(b:Gla.Bytes)(H:Hp)(kq pq ra:Addr):Prop:=match zCk kr pr b with
|some l=>H ra=some (.lst (l.map V.int))
|none=>H ra=some (.lst [])/\zl (RKd K) H kq (Zy kr)/\YY K H pq (YR (Gla.parts b) ((ZC pr).map Prod.snd))/\Zh kr=true/\Z0 (Zy kr) (ZC pr)=true/\zAf b=none
def zOY (K:Qf):Sp:=λvs H Q _=>∃ (ca ka pa:Addr) (b:Gla.Bytes) (kr pr:List Nat),vs=[.ref ca,.ref ka,.ref pa]/\zN K H ca ((bI b).map V.int)/\zN K H ka (zm kr)/\zN K H pa (zm pr)/\kr.length<10000/\pr.length<10000/\
 ∀ (H':Hp) (wk kq pq ra:Addr),zH H H'->zRd K H' wk (.ref kq) (.ref pq) (.ref ra)->WkR K kr pr b H' kq pq ra->Q (.ref wk) H'
theorem zI4:∀ (m:Nat) (l:List Nat),(∀ p∈zBE m l,p.2.length<=l.length)
|0,_,p,hp=>by cases hp
|_+1,[],p,hp=>by cases hp
|m+1,n::l,p,hp=>by
  rcases Wd.mp (show p∈(n,l.take n)::zBE m (l.drop n) from hp) with e|e
  .rw[e];simp only[WF,Wn]
   lia
  .have:=zI4 m (l.drop n) p e;rw[Xs] at this;rw[Wn]
   lia
theorem zDg:zO ["cartoon","kinds","paintings","known_kinds","known_paintings","panes","broken","unknown"] ["cartoon","kinds","paintings"] (zI zEe):=yE
theorem zRg{CX CW:Addr}(D:zV K mg "work_of" zEe ["cartoon","kinds","paintings"])(R:XR P w K mg base CX)(OA:Ok P w K mg base 3 "are_kinds" ["row"] (zOP K))(OK:Ok P w K mg base 3 "kinds_of" ["row"] (zOQ K))(OP:Ok P w K mg base 3 "paintings_of" ["row"] (zMx K))(OPs:Ok P w K mg base 3 "are_paintings" ["paintings","kinds"] (zOS K))
  (OPn:Ym P w K mg base 7 "panes_of" ["data"] (zON K CX))(OF:Ok P w K mg base 1 "first_without_painting" ["panes","paintings"] (zOU K))(OPc:Ok P w K mg base 3 "pieces_of" ["panes","paintings"] (zOX K))(OR:OkQ P w K mg base 3 "refused" ["numbers"] (zLc K))(M:MkQ P w K mg base 1 CW ["self","kinds","pieces","refusal"] (zEi CW "kinds" "pieces" "refusal"))(T:zI3 K mg CW)(gN:yl mg "NO_PANE" (-1)) :
  Ok P w K mg base 8 "work_of" ["cartoon","kinds","paintings"] (zOY K):=by
 obtain⟨Nn,fI,fdI,TX,_⟩:=R;obtain⟨fp,fdp,Fp,mp,kp,bp⟩:=OPn;obtain⟨fr,fdr,Fr,mr,kr',br⟩:=id OR;refine D.ok zDg (λvs H Q E h=>?_) (λf cdv A outer s H vs Q E hr h=>?_)
 .obtain⟨ca,ka,pa,b,kr,pr,rfl,_⟩:=h;rfl
 .refine Wa λng=>?_
  obtain⟨ca,ka,pa,b,kr,pr,rfl,hC,hK,hP,lK,lP,k⟩:=h;refine ng ?_;have hr1:zn 1 _:=hr.mono (by decide);have hr2:zn 2 _:=hr.mono (by decide);have hr3:zn 3 _:=hr.mono (by decide)
  refine⟨_,zF (zu (Zq (yY (zR OA hr3 (zA (pv 1) zC)))) (zG (zS (zR OR.ok hr3 (zA (yZ (zA (zDj zCJ zL) zC)) zC)))) zc)
   (zF (za (i:=3) zDg.nd rfl (Or.inl rfl) (zR OK hr3 (zA (pv 1) zC)))
   (zF (za (i:=4) zDg.nd rfl (Or.inl rfl) (zR OP hr3 (zA (pv 2) zC)))
   (zF (zu (Zq (yY (zR OPs hr3 (zA (pv 4) (zA (pv 3) zC))))) (zG (zS (zR OR.ok hr3 (zA (yZ (zA (zDj zCJ zL) zC)) zC)))) zc)
   (zF (Kq.zPD (i:=6) TX rfl rfl rfl zDg.nd rfl rfl rfl Fr (.of hr3) rfl mr kr' br (λE' xe' pn' hx=>za (i:=5) zDg.nd rfl (Or.inl rfl) (zGg Fp hr rfl mp kp bp .nil hx (zA (pv 0) zC))))
   (zF (za (i:=7) zDg.nd rfl (Or.inl rfl) (zR OF hr1 (zA (pv 5) (zA (pv 4) zC))))
   (zF (zu (zj zDk (pv 7) (y8 gN) (zZ _)) (zG (zS (zR OR.ok hr3 (zA (yZ (zA (zDj zCJ zL) (zA (pv 7) zC))) zC)))) zc)
   (zG (zS (zBt M.ok hr2 T.mgC (zA (pv 3) (zA (zR OPc hr3 (zA (pv 5) (zA (pv 4) zC))) (zA (yZ zC) zC)))))))))))),?_⟩
  have ref:∀ {Hx:Hp}{l:List Int}{q:Addr},zH H Hx->Hx q=none->zCk kr pr b=some l->zLc K [.ref q] (upd Hx q (.lst (l.map V.int))) Q E0:=λ{Hx l q} sx nq e=>by
   refine⟨.ref q,rfl,λH' wk ka' pa' s' W=>k H' wk ka' pa' q ((zQ sx nq).trans s') W ?_⟩;unfold WkR;rw[e];exact s' _ _ zE
  refine⟨_,rfl,ka,kr,rfl,hK,lK,_,rfl,yA (λh1=>?_) λh1=>?_⟩
  .rw[WE] at h1;exact⟨_,rfl,(by show 1<=sizeLine;decide),λq nq=>ref (zH.refl H) nq (l:=[-1]) (by unfold zCk;rw[Wc h1])⟩
  rw[WD] at h1
  have h2:kr.length%2=0:=by
   unfold Zh at h1;rw[y9,yr] at h1;exact h1.1
  refine⟨_,rfl,ka,kr,rfl,hK,lK,h2,λH1 kq s1 LK=>?_⟩;refine⟨_,rfl,pa,pr,rfl,s1.seq hP,lP,λH2 pq s2 PA=>?_⟩;have s12:=s1.trans s2;refine⟨_,rfl,_,rfl,pq,kq,ZC pr,Zy kr,rfl,PA,LK.same zCw s2,λp hp=>Yv (zI4 _ _ p hp) lP,_,rfl,yA (λh3=>?_) λh3=>?_⟩
  .rw[WE] at h3;exact⟨_,rfl,(by show 1<=sizeLine;decide),λq nq=>ref s12 nq (l:=[-1]) (by unfold zCk;rw[Wb (by rw[h1];decide),Wc h3])⟩
  rw[WD] at h3;refine⟨_,rfl,ca,b,rfl,s12.seq hC,?_⟩;cases hp:zAf b with
 |some z=>
   intro H' dx s' e;refine⟨rfl,dx,z.1,z.2,rfl,e,λq nq=>?_⟩;exact ref (s12.trans s') nq (l:=[-5,z.1,z.2]) (by unfold zCk;rw[Wb (by rw[h1];decide),Wb (by rw[h3];decide),hp])
 |none=>
  intro H3 qp s3 PO;have s13:=s12.trans s3;refine⟨_,rfl,_,rfl,qp,pq,Gla.parts b,ZC pr,rfl,PO.at_,PA.same s3,λH4 s4=>?_⟩;have s14:=s13.trans s4;refine⟨_,rfl,rfl,_,rfl,?_⟩;rw[deq]
  have ew:zCk kr pr b=match zAM (ZC pr).length (Gla.parts b) with |some i=>some [-3,(i:Int)]|none=>none:=by
   unfold zCk;rw[Wb (by rw[h1];decide),Wb (by rw[h3];decide),hp]
  cases hn:zAM (ZC pr).length (Gla.parts b) with
 |some i=>
   rw[hn] at ew
   have en:(!decide (zDL (some i) = -1))=true:=by
    rw[WE,VA];show ¬ ((i:Int)) = -1
    lia
   rw[en];exact zGl ⟨_,rfl,_,rfl,(by show 2<=sizeLine;decide),λq nq=>ref s14 nq (l:=[-3,(i:Int)]) ew⟩
 |none=>
   rw[hn] at ew
   have hmp:∀ m∈(Gla.parts b).marks,m.painting<=(ZC pr).length:=by
    intro m hm;obtain⟨i,hi⟩:=WY hm;have:=Kt.ZI hn hi;have:=WJ this
    lia
   refine zKk ⟨_,rfl,_,rfl,_,rfl,qp,pq,Gla.parts b,ZC pr,rfl,⟨?_,PO.B,PO.O,PO.cl⟩,(PA.same s3).same s4,hmp,λH5 cq s5 PC=>?_⟩
   .obtain⟨vs,e1,e2⟩:=PO.at_;exact⟨vs,s4 _ _ e1,e2.1,λj v x g1 g2=>let ⟨a,C1,dx,fs,c1,z1,z2,z3,z4,z5,z6,z7,z8⟩:=e2.2 j v x g1 g2;⟨a,C1,dx,fs,c1,z1,s4 _ _ z2,z3,z4,z5,z6,z7,zl.same zCC z8 s4⟩⟩
   .refine⟨Ww _,λra nra=>?_⟩;intro o dx no ndx nex;refine⟨o,dx,_,_,_,rfl,zE,λH6 hx k1=>⟨rfl,k H6 o kq cq ra ?_ ⟨CW,dx,_,hx,T.cl,T.n0,T.n1,T.n2,zIi (by decide) (by decide),zIj (by decide),zIk⟩ ?_⟩⟩
    .exact ((s14.trans s5).trans (zQ (zH.refl H5) nra)).trans (zH.made no ndx k1)
    .have s56:zH H5 H6:=(zQ (zH.refl H5) nra).trans (zH.made no ndx k1);unfold WkR;rw[ew];exact⟨(zH.made no ndx k1) _ _ zE,(LK.same zCw (((s2.trans s3).trans s4).trans s5)).same zCw s56,PC.same s56,h1,h3,hp⟩
end
def gk (xs:List (Nat×Nat)):List Gla.Kind:=xs.map λx=>⟨x.1,x.2⟩
def iL (l:List Nat):List Int:=l.map Int.ofNat
theorem zFK(n:Nat):KilnNeutral.nat (Int.ofNat n)=some n:=by
 have:=zQs (z:=Int.ofNat n) (Xc n);rw[this];rfl
theorem zI5:∀ (l:List Nat),∃ L,KilnNeutral.kinds (iL l)=some L/\(GlaKilns.Kinds.mk L [] |>.kinds.all Gla.Kind.ok)=(decide (l.length%2=0)&&(Zy l).all kB)/\(l.length%2=0->L=gk (Zy l))
|[]=>⟨[],rfl,rfl,λ_=>rfl⟩
|[a]=>⟨[⟨0,0⟩],rfl,rfl,λh=>absurd h (by simp)⟩
|a::b::r=>by
  obtain⟨L,h1,h2,h3⟩:=zI5 r;refine⟨⟨a,b⟩::L,?_,?_,λh=>?_⟩
  .show (do
    let x <-KilnNeutral.kinds (iL r)
    return ⟨<-KilnNeutral.nat (Int.ofNat a),<-KilnNeutral.nat (Int.ofNat b)⟩::x:Option (List Gla.Kind))=_
   rw[h1,zFK,zFK];rfl
  .show (Gla.Kind.ok ⟨a,b⟩&&L.all Gla.Kind.ok)=(decide ((r.length+2)%2=0)&&(kB (a,b)&&(Zy r).all kB))
   have h2':L.all Gla.Kind.ok=(decide (r.length%2=0)&&(Zy r).all kB):=h2;rw[h2',show decide ((r.length+2)%2=0)=decide (r.length%2=0) by rw[Ws];omega]
   have hk:Gla.Kind.ok ⟨a,b⟩=kB (a,b):=by
    unfold Gla.Kind.ok kB YM Gla.within Gla.HOTTEST;rw[WB];simp only[y9,yr];omega
   rw[hk];cases kB (a,b) <;> cases decide (r.length%2=0) <;> rfl
  .rw[h3 (by simp at h;omega)];rfl
def cz (p:Nat×List Nat):List Nat:=if p.1<=p.2.length then p.2 else []
theorem zI6:∀ (l:List Nat),(iL l).mapM KilnNeutral.nat=some l
|[]=>rfl
|a::l=>by
  show ((Int.ofNat a)::iL l).mapM KilnNeutral.nat=_;rw[List.mapM_cons,zFK,zI6 l];rfl
theorem zG9:∀ (m:Nat) (l:List Nat),∀ p∈zBE m l,p.2.length<=p.1
|0,_,p,hp=>by cases hp
|_+1,[],p,hp=>by cases hp
|m+1,n::l,p,hp=>by
  rcases Wd.mp (show p∈(n,l.take n)::zBE m (l.drop n) from hp) with e|e
  .rw[e,WF];exact Xf _ _
  .exact zG9 m _ p e
theorem zI7:∀ (m:Nat) (l:List Nat),KilnNeutral.paintings m (iL l)=some ((zBE m l).map cz)
|0,_=>rfl
|_+1,[]=>rfl
|m+1,n::l=>by
  show (if (Int.ofNat n)<0 then none else if ((iL l).length:Int)<Int.ofNat n then some [[]] else do
   let x <-((iL l).take (Int.ofNat n).toNat).mapM KilnNeutral.nat
   let r <-KilnNeutral.paintings m ((iL l).drop (Int.ofNat n).toNat)
   return x::r)=some (cz (n,l.take n)::(zBE m (l.drop n)).map cz)
  have hl:(iL l).length=l.length:=zX ..;have hn:(Int.ofNat n).toNat=n:=rfl;rw[Wb (show ¬ (Int.ofNat n)<0 from Vz.mpr (Xc n)),hl,hn];by_cases h:l.length<n
  .rw[Wc (show ((l.length:Nat):Int)<Int.ofNat n from Int.ofNat_lt.mpr h)]
   have e1:cz (n,l.take n)=[]:=by
    unfold cz;rw[Wb (by rw[WF];omega)]
   rw[e1,List.drop_eq_nil_of_le (Vi h),zN1];rfl
  .rw[Wb (show ¬ ((l.length:Nat):Int)<Int.ofNat n from λz=>h (Int.ofNat_lt.mp z))]
   have e1:cz (n,l.take n)=l.take n:=by
    unfold cz;rw[Wc (by rw[WF];omega)]
   have t1:(iL l).take n=iL (l.take n):=by unfold iL;rw[Xh]
   have t2:(iL l).drop n=iL (l.drop n):=by unfold iL;rw[Uo]
   rw[t1,t2,zI6,zI7 m (l.drop n),e1];rfl
theorem zKJ{xs:List (Nat×Nat)}{k:Nat}:(((gk xs)[k]?).map Gla.Kind.heat).getD 0=YA xs k:=by
 unfold gk YA;rw[WQ,WC];cases xs[k]? <;> rfl
theorem zKK{xs:List (Nat×Nat)}:∀ (c:List Nat),Gla.rising (λ(a b:Nat)=>decide ((((gk xs)[b]?).map Gla.Kind.heat).getD 0<(((gk xs)[a]?).map Gla.Kind.heat).getD 0)) c=zFJ xs c
|[]=>rfl
|[_]=>rfl
|a::b::r=>by
  show (decide ((((gk xs)[b]?).map Gla.Kind.heat).getD 0<(((gk xs)[a]?).map Gla.Kind.heat).getD 0)&&Gla.rising _ (b::r))=(decide (YA xs b<YA xs a)&&zFJ xs (b::r))
  rw[zKJ,zKJ,zKK (b::r)]
theorem zKL{xs:List (Nat×Nat)}{p:Nat×List Nat}(hp:p.2.length<=p.1):Gla.coatsOk (gk xs) (cz p)=zAa xs p:=by
 unfold Gla.coatsOk zAa cz;by_cases h:p.1<=p.2.length
 .rw[Wc h,zKK,WO h,Xy]
  have e1:Gla.within 1 4 p.2.length=YM (p.1:Int) 1 4:=by
   unfold Gla.within YM;rw[WB];simp only[y9,yr];omega
  have e2:(gk xs).length=xs.length:=zX ..;rw[e1,e2]
 .rw[Wb h,WH h,Xo,V9];rfl
theorem zQE(kr pr:List Nat):∃ KK,KilnNeutral.both (iL kr) (iL pr)=some KK/\KK.ok=(Zh kr&&Z0 (Zy kr) (ZC pr))/\(Zh kr=true->KK.kinds=gk (Zy kr))/\KK.paintings=(ZC pr).map cz:=by
 obtain⟨L,h1,h2,h3⟩:=zI5 kr;refine⟨⟨L,(ZC pr).map cz⟩,?_,?_,λh=>?_,rfl⟩
 .show (do some ⟨<-KilnNeutral.kinds (iL kr),<-KilnNeutral.paintings ((iL pr).length+1) (iL pr)⟩:Option GlaKilns.Kinds)=_;rw[h1,zI7,show (iL pr).length=pr.length from zX ..];rfl
 .have h2':L.all Gla.Kind.ok=(decide (kr.length%2=0)&&(Zy kr).all kB):=h2;show (Gla.within 1 16 L.length&&(L.all Gla.Kind.ok&&(decide (((ZC pr).map cz).length<=256)&&((ZC pr).map cz).all (Gla.coatsOk L))))=_;rw[h2'];unfold Zh;by_cases he:kr.length%2=0
  .have eL:=h3 he
   have e1:Gla.within 1 16 L.length=YM ((kr.length/2:Nat):Int) 1 16:=by
    rw[eL,show (gk (Zy kr)).length=kr.length/2 from (zX ..).trans (zDd kr)];unfold Gla.within YM;rw[WB];simp only[y9,yr];omega
   have e2:((ZC pr).map cz).all (Gla.coatsOk L)=(ZC pr).all (zAa (Zy kr)):=by
    rw[eL,List.all_map,WB,WW,WW];exact⟨λh p hp=>by rw[<-zKL (zG9 _ _ p hp)];exact h p hp,λh p hp=>(zKL (zG9 _ _ p hp)).trans (h p hp)⟩
   rw[e1,e2,zX,WO he];unfold Z0;cases YM ((kr.length/2:Nat):Int) 1 16 <;> cases (Zy kr).all kB <;> rfl
  .rw[WH he];cases Gla.within 1 16 L.length <;> rfl
 .unfold Zh at h;rw[y9,yr] at h;exact h3 h.1
theorem zQF{xs:List (Nat×Nat)}{ps:List (Nat×List Nat)}(h:Z0 xs ps=true):ps.map cz=ps.map Prod.snd:=by
 unfold Z0 at h;rw[y9,WW] at h;refine X9 λp hp=>?_
 have:=h.2 p hp;unfold zAa at this;rw[y9,y9,yr] at this;unfold cz;rw[Wc this.1.2]
theorem zHA:∀ (l:List Int),(∀ x∈l,0<=x)->∃ k:List Nat,l=iL k
|[],_=>⟨[],rfl⟩
|x::l,h=>by
  obtain⟨k,e⟩:=zHA l λy hy=>h y (Wg _ hy)
  obtain⟨n,hn⟩:=Uw (h x Wm);exact⟨n::k,by rw[e,hn];rfl⟩
theorem zI8:∀ (l:List Int),(∀ x∈l,0<=x/\x<=255)->∃ b:Gla.Bytes,l=bI b
|[],_=>⟨[],rfl⟩
|x::l,h=>by
  obtain⟨b,e⟩:=zI8 l λy hy=>h y (Wg _ hy)
  have hx:=h x Wm;refine⟨UInt8.ofNat x.toNat::b,?_⟩;rw[e];show x::bI b=((UInt8.ofNat x.toNat).toNat:Int)::bI b;rw[UInt8.toNat_ofNat',Nat.mod_eq_of_lt (by omega)]
  congr 1
  omega
theorem zN5(b:Gla.Bytes):KilnNeutral.bytes (bI b)=some b:=by
 unfold KilnNeutral.bytes
 have h:NeutralIO.bytes (bI b)=true:=by
  unfold NeutralIO.bytes bI;rw[List.all_map,WW];intro c _;have hc:c.toNat<256:=c.toNat_lt;simp only[Function.comp,y9,yr];omega
 rw[Wc h]
 congr 1
 unfold bI;rw[Vf];refine (X9 λc _=>?_).trans (List.map_id b);show UInt8.ofNat ((c.toNat:Int)).toNat=c;rw[WS];exact UInt8.ofNat_toNat
theorem zN6{b:Gla.Bytes}(h:zAf b=none):Gla.judgePlan b=.ok (Gla.parts b):=by
 unfold zAf at h;cases e:Gla.judgePlan b with
|error z=>rw[e] at h;cases h
|ok S=>
  have:S=Gla.parts b:=by
   unfold Gla.judgePlan at e
   repeat' split at e
   all_goals first|cases e;done|(injection e with e;exact e.symm)
  rw[this]
theorem zM0{b:Gla.Bytes}{cs:List Gla.Coats}(h:zAf b=none):(YR (Gla.parts b) cs).length<10000:=by
 unfold YR;rw[zX]
 have hd:zBe (bI b)=none:=by
  cases e:zBe (bI b) with
 |none=>rfl
 |some z=>rw[(zG8 b).2 z e] at h;cases h
 have:=((zG8 b).1 hd).1.1.k;omega
structure zLd(K:Qf)(mg:Qm)(C:Addr):Prop where
 cl:Yl K C
 n0:zg K C "panes"
 n1:zg K C "area"
 mgC:mg "Load" = some (.ref C)
theorem zQG{K:Qf}{h:Heap}{mg:Qm}{C:Addr}(X:K.In h)(G:h.Ns mainGlobals mg)(aC:PySem.W.nsIn K mainGlobals "Load" = some (some (.ref C)))
  (pg:PySem.W.plainGet K C Str.empty=true)(hd:PySem.W.hasDictIn K C=true)(po:PySem.W.plainOver K C=true)(sa:PySem.W.findIn K (.ref C) "__setattr__" = some (some (.builtin "object.__setattr__")))
  (n0:PySem.W.findIn K (.ref C) "panes" = some none)(n1:PySem.W.findIn K (.ref C) "area" = some none):zLd K mg C:=⟨⟨pg,hd,po,sa⟩,n0,n1,Va X G aC⟩
def zFq (K:Qf)(H:Hp)(x:Addr×Addr)(l:List (Nat×Nat)):Prop:=∃ C dx,H x.1=some (.ins C dx (zB2 "panes" "area" (.ref x.2) (.int (Gla.loadArea l:Int))))/\Yl K C/\zg K C "panes"/\zg K C "area"/\H x.2=some (.lst (zm (l.map Prod.fst)))
theorem zN7{a v v':V}:yk "area" v' (zB2 "panes" "area" a v)=zB2 "panes" "area" a v':=rfl
structure zFr(K:Qf)(H0 H:Hp)(la:Addr)(as:List (Addr×Addr))(q:List (List (Nat×Nat))):Prop where
 lst:H la=some (.lst (as.map λx=>V.ref x.1))
 len:as.length=q.length
 same:zH H0 H
 nla:H0 la=none
 new:∀ x∈as,H0 x.1=none/\H0 x.2=none/\x.2≠la
 nd1:(as.map Prod.fst).Nodup
 nd2:(as.map Prod.snd).Nodup
 at_:∀ (j:Nat) (x:Addr×Addr) (l:List (Nat×Nat)),as[j]?=some x->q[j]?=some l->zFq K H x l
theorem zED{x:Nat×Nat}:∀ {l:List (Nat×Nat)},Gla.loadArea (l++[x])=Gla.loadArea l+x.2
|[]=>by simp[Gla.loadArea]
|a::l=>by
  show a.2+Gla.loadArea (l++[x])=a.2+Gla.loadArea l+x.2;rw[zED]
  lia
theorem zGb{α:Type}{f:α->α}{l:List α}{k j:Nat}:(l.modify k f)[j]?=(l[j]?).map λa=>if k=j then f a else a:=by
 rw[List.getElem?_modify];rfl
theorem zFq.keep{K:Qf}{H H':Hp}{x:Addr×Addr}{l:List (Nat×Nat)}(h:zFq K H x l)(e1:H' x.1=H x.1)(e2:H' x.2=H x.2):zFq K H' x l:=let ⟨C,dx,a1,a2,a3,a4,a8⟩:=h;⟨C,dx,e1.trans a1,a2,a3,a4,e2.trans a8⟩
theorem zFq.same{K:Qf}{H H':Hp}{x:Addr×Addr}{l:List (Nat×Nat)}(h:zFq K H x l)(s:zH H H'):zFq K H' x l:=let ⟨C,dx,a1,a2,a3,a4,a8⟩:=h;⟨C,dx,s _ _ a1,a2,a3,a4,s _ _ a8⟩
theorem zM1{α β:Type}{f:α->β}{as:List α}(nd:(as.map f).Nodup){i j:Nat}{x y:α}(hi:as[i]?=some x)(hj:as[j]?=some y)(e:f x=f y):i=j:=by
 have h1:(as.map f)[i]?=some (f x):=map_some hi;have h2:(as.map f)[j]?=some (f x):=by rw[e];exact map_some hj
 exact zSE nd h1 h2
theorem zFr.put{K:Qf}{H0 H:Hp}{la:Addr}{as:List (Addr×Addr)}{q:List (List (Nat×Nat))}{k:Nat}{x:Addr×Addr}{l:List (Nat×Nat)}(h:zFr K H0 H la as q)(ek:as[k]?=some x)(el:q[k]?=some l)(n a:Nat) :
  ∃ C dx,H x.1=some (.ins C dx (zB2 "panes" "area" (.ref x.2) (.int (Gla.loadArea l:Int))))/\Yl K C/\zg K C "panes"/\zg K C "area"/\H x.2=some (.lst (zm (l.map Prod.fst)))/\x.1≠x.2/\
   zFr K H0 (upd (upd H x.2 (.lst (zm (l.map Prod.fst)++[.int (n:Int)]))) x.1 (.ins C dx (zB2 "panes" "area" (.ref x.2) (.int ((Gla.loadArea l:Int)+(a:Int)))))) la as (q.modify k λl=>l++[(n,a)]):=by
 obtain⟨C,dx,a1,a2,a3,a4,a8⟩:=h.at_ k x l ek el;have mx:=ZM ek;obtain⟨n1,n2,n3⟩:=h.new x mx;have ne:x.1≠x.2:=λe=>by rw[e,a8] at a1;cases a1
 have nl1:la≠x.1:=λe=>by rw[<-e,h.lst] at a1;cases a1
 refine⟨C,dx,a1,a2,a3,a4,a8,ne,?_,by rw[List.length_modify];exact h.len,λb o eb=>?_,h.nla,h.new,h.nd1,h.nd2,λj y l' e1 e2=>?_⟩
 .rw[zD nl1,zD (Ne.symm n3)];exact h.lst
 .rw[zD (zJ eb n1),zD (zJ eb n2)];exact h.same _ _ eb
 .by_cases hj:j=k
  .subst hj;rw[ek] at e1;cases e1;rw[zGb,el,Vl,Wc rfl] at e2;injection e2 with e2
   subst e2;refine⟨C,dx,?_,a2,a3,a4,?_⟩
   .rw[zE,zED];rfl
   .rw[zD (Ne.symm ne),zE,Wq];unfold zm;rw[Wq];rfl
  .rw[zGb] at e2
   have e2':q[j]?=some l':=by
    cases e:q[j]? with
   |none=>rw[e] at e2;cases e2
   |some z=>rw[e,Vl,Wb (λe=>hj e.symm)] at e2;exact e2
   have L:=h.at_ j y l' e1 e2';have my:=ZM e1;obtain⟨C2,d2,b1,b2,b3,b4,b8⟩:=id L;have y1:y.1≠x.1:=λe=>hj (zM1 h.nd1 e1 ek e)
   have y2:y.2≠x.2:=λe=>hj (zM1 h.nd2 e1 ek e)
   have y3:y.1≠x.2:=λe=>by rw[e,a8] at b1;cases b1
   have y4:y.2≠x.1:=λe=>by rw[e,a1] at b8;cases b8
   exact L.keep (by rw[zD y1,zD y3]) (by rw[zD y4,zD y2])
def lfR (q:List (List (Nat×Nat)))(a shelf:Nat)(q':List (List (Nat×Nat)))(k:Nat):Prop:=
 (q'=q/\(∃ l,q[k]?=some l/\Gla.loadArea l+a<=shelf)/\∀ (j:Nat) (l:List (Nat×Nat)),j<k->q[j]?=some l->¬ Gla.loadArea l+a<=shelf)\/
 (q'=q++[[]]/\k=q.length/\∀ (j:Nat) (l:List (Nat×Nat)),q[j]?=some l->¬ Gla.loadArea l+a<=shelf)
theorem zRh{q q':List (List (Nat×Nat))}{n a shelf k:Nat}(h:lfR q a shelf q' k):Gla.putLoad shelf (n,a) q=q'.modify k λl=>l++[(n,a)]:=by
 unfold Gla.putLoad;rcases h with ⟨rfl,⟨l,e1,e2⟩,h3⟩|⟨rfl,rfl,h3⟩
 .have:q'.findIdx? (λ(l:List (Nat×Nat))=>decide (Gla.loadArea l+(n,a).2<=shelf))=some k:=by
   obtain⟨hk,el⟩:=yG e1;rw[List.findIdx?_eq_some_iff_getElem]
   exact⟨hk,by rw[el];exact WO e2,λj hj=>by
    have:=h3 j _ hj (yQ (by lia));simpa using this⟩
  rw[this]
 .have:q.findIdx? (λ(l:List (Nat×Nat))=>decide (Gla.loadArea l+(n,a).2<=shelf))=none:=by
   rw[List.findIdx?_eq_none_iff];intro l hl;obtain⟨j,hj⟩:=WY hl;exact WH (h3 j l hj)
  rw[this];refine Uj λi=>?_
  rw[zGb];by_cases hi:i<q.length
  .rw[WP hi,WP hi,yQ hi,Vl,Wb (by lia)]
  .by_cases he:i=q.length
   .subst he;simp
   .rw[Vq (by simp;lia),Vq (by simp;lia)];rfl
section
variable {P:Program}{w:World}{K:Qf}{mg:Qm}{base:Heap}{C:Addr}
def zOZ (K:Qf):Sp:=λvs H Q _=>∃ (qa:Addr) (fl:List Gla.Fired) (shelf:Nat),vs=[.ref qa,.int (shelf:Int)]/\YY K H qa fl/\∀ H',zH H H'->Q (.int (zDL (Gla.tooWide shelf fl))) H'
theorem zI9:zO ["pieces","shelf","number","piece"] ["pieces","shelf"] (zI zAO):=yE
theorem zRi(D:zV K mg "first_too_large" zAO ["pieces","shelf"])(gN:yl mg "NO_PANE" (-1))(me:mg "enumerate" = none)(ml:mg "len" = none):Ok P w K mg base 1 "first_too_large" ["pieces","shelf"] (zOZ K):=by
 refine D.ok zI9 (λvs H Q E h=>?_) (λf cdv A outer s H vs Q E hr h=>?_)
 .obtain⟨qa,fl,shelf,rfl,_⟩:=h;rfl
 .obtain⟨qa,fl,shelf,rfl,⟨qvs,hq,eq⟩,k⟩:=h
  have gd:∀ x:Gla.Fired,(!x.coats.isEmpty&&decide (shelf<x.area))=(decide ((0:Int)<((zm x.coats).length:Int))&&decide ((shelf:Int)<(x.area:Int))):=λx=>by
   rw[zw];cases x.coats with
  |nil=>rfl
  |cons a r=>
    rw[WO (show (0:Int)<(((a::r).length:Nat):Int) by simp),show decide (((shelf:Nat):Int)<((x.area:Nat):Int))=decide (shelf<x.area) by rw[Ws];lia];rfl
  refine⟨_,zF (yF Wt rfl (YG rfl me (zA (pv 0) zC)) (Z1 rfl (zt (zT (i:=2) zI9.nd rfl (Or.inl rfl)) (zt (zT (i:=3) zI9.nd rfl (Or.inl rfl)) ZV)))
    (zG (zu (PW.pt (zBk (zj YJ (yH ml (zA (zP (pv 3) rfl) zC)) zL (zZ _)) (zAo (zj YJ (zP (pv 3) rfl) (pv 1) (zZ _))))) (zG (zS (pv 2))) zc)))
   (zG (zS (y8 gN))),?_⟩
  refine⟨_,rfl,qa,qvs,rfl,zN.of hq,Z4 (K:=K) (a:=qa) (xs:=qvs) (λi σ H'=>∃ v2 v3:Option V,σ=[some (.ref qa),some (.int (shelf:Int)),v2,v3]/\zH H H'/\∀ (j:Nat) (x:Gla.Fired),j<i->fl[j]?=some x->(!x.coats.isEmpty&&decide (shelf<x.area))=false)
   ⟨none,none,rfl,zH.refl H,λj z hj=>absurd hj (Vb _)⟩ (λi σ H' _ hh=>hh.elim λ_ hh=>hh.elim λ_ hh=>zN.of (hh.2.1 _ _ hq)) ?_ ?_⟩
  .rintro i y σ H' T hi ⟨v2,v3,rfl,s1,hno⟩ hT;have s2:zH H (upd H' T (.tup [.int (i:Nat),y])):=zQ s1 hT;obtain⟨x,hix,b,C1,d1,f1,cb,rfl,c1,c2,c3,c4,c5,c6,c7,c8,c9⟩:=eq.get' hi;refine⟨T,_,rfl,yJ.of zE,rfl,_,_,rfl,_,_,rfl,rfl,?_⟩
   try dsimp only[Zc,Y1,Zj,Yo,YZ,Ya]
   show zEF _ _ _ _ _;refine zAq (c:=decide ((0:Int)<((zm x.coats).length:Int))) (d:=decide ((shelf:Int)<(x.area:Int))) (λR h=>⟨_,rfl,b,C1,d1,f1,_,rfl,s2 _ _ c1,c2,c4,c6,cb,_,rfl,.inl (zN.of (s2 _ _ c9)),_,_,rfl,rfl,_,rfl,h⟩) (λ_ R h=>⟨_,rfl,b,C1,d1,f1,_,rfl,s2 _ _ c1,c2,c3,c5,_,rfl,_,_,rfl,rfl,_,rfl,h⟩) (yA (λhb=>?_) λhb=>?_)
   .rw[<-gd] at hb;have e:Gla.tooWide shelf fl=some i:=zFS (g:=λ(_:Nat) (x:Gla.Fired)=>!x.coats.isEmpty&&decide (shelf<x.area)) hno hix hb;rw[e] at k;exact⟨_,rfl,k _ s2⟩
   .rw[<-gd] at hb;refine⟨_,_,rfl,s2,λj z hj hz=>?_⟩;by_cases e:j=i
    .subst e;rw[hix] at hz;cases hz;exact hb
    .exact hno j z (by lia) hz
  .rintro σ H' ⟨v2,v3,rfl,s1,hno⟩;have e:Gla.tooWide shelf fl=none:=zGY (g:=λ(_:Nat) (x:Gla.Fired)=>!x.coats.isEmpty&&decide (shelf<x.area)) λj m hm=>hno j m (by rw[eq.1];exact (yG hm).1) hm
   rw[e] at k;exact k _ s1
def zOa (C:Addr):Sp:=λvs H Q _=>∃ (p dx:Addr),vs=[.ref p]/\H p=some (.ins C dx [])/\∀ (H':Hp) (pa:Addr),H pa=none->H' p=some (.ins C dx (zB2 "panes" "area" (.ref pa) (.int 0)))->H' pa=some (.lst [])->(∀ b o,H b=some o->b≠p->H' b=some o)->Q .non H'
theorem zRj:zO ["self"] ["self"] (zI zC9):=yE
theorem zLe(D:yj K C "Load.__init__" zC9 ["self"])(T:zLd K mg C):Ys P w K mg base 1 C ["self"] (zOa C):=by
 refine D.ok zRj (λvs H Q E h=>?_) (λf cdv A outer s H vs Q E hr h=>?_)
 .obtain⟨p,dx,rfl,_⟩:=h;rfl
 .obtain⟨p,dx,rfl,hp,k⟩:=h;refine⟨_,zF (yo (pv 0) (yZ zC) rfl) (zG (yo (pv 0) zL rfl)),?_⟩;refine⟨Ww _,λpa npa=>⟨_,rfl,p,C,dx,[],rfl,?_,T.cl,T.n0,(by show 0<1000;decide),?_⟩⟩
  .rw[zD (zJ hp npa)];exact hp
  .refine⟨_,rfl,p,C,dx,_,rfl,zE,T.cl,T.n1,yR (yO (n:=1) (by show 0<1;decide)) (by decide),?_⟩;have ne:pa≠p:=λe=>by rw[e,hp] at npa;cases npa
   refine k _ pa npa zE (by rw[zD ne,zD ne,zE]) λb o e hb=>?_
   rw[zD hb,zD hb,zD (zJ e npa)];exact e
end
theorem zHi{α:Type}{bf:α->α->Bool}{x y:α}:∀ {l:List α},y∈Gla.putIn bf x l↔y=x\/y∈l
|[]=>by simp[Gla.putIn]
|z::r=>by
  unfold Gla.putIn;split
  .simp
  .rw[Wd,zHi,Wd];constructor
   .rintro (h|h|h)
    .exact .inr (.inl h)
    .exact .inl h
    .exact .inr (.inr h)
   .rintro (h|h|h)
    .exact .inr (.inl h)
    .exact .inl h
    .exact .inr (.inr h)
theorem zFT{α:Type}{bf:α->α->Bool}{y:α}:∀ {l:List α},y∈Gla.inOrder bf l↔y∈l
|[]=>by simp[Gla.inOrder]
|x::l=>by
  show y∈Gla.putIn bf x (Gla.inOrder bf l)↔_;rw[zHi,zFT,Wd]
theorem zHj{α:Type}{bf:α->α->Bool}{x:α}:∀ {l:List α},(Gla.putIn bf x l).length=l.length+1
|[]=>rfl
|z::r=>by
  unfold Gla.putIn;split
  .rfl
  .rw[Wn,zHj,Wn]
theorem zBi{α:Type}{bf:α->α->Bool}:∀ {l:List α},(Gla.inOrder bf l).length=l.length
|[]=>rfl
|x::l=>by
  show (Gla.putIn bf x (Gla.inOrder bf l)).length=_;rw[zHj,zBi];rfl
def ZS (fl:List Gla.Fired)(k:Nat):List (Nat×Nat):=Gla.inOrder Gla.wider (Gla.panesOfKind fl k)
theorem zFL{fl:List Gla.Fired}{k:Nat}:∀ x∈ZS fl k,∃ y,fl[x.1]?=some y/\x.2=y.area:=by
 intro x hx;unfold ZS at hx;rw[zFT] at hx;unfold Gla.panesOfKind at hx;obtain⟨⟨y,i⟩,hy,rfl⟩:=Wp.mp hx;exact⟨y,VQ.mp (V1.mp hy).1,rfl⟩
theorem zJA{fl:List Gla.Fired}{k:Nat}:(ZS fl k).length<=fl.length:=by
 unfold ZS;rw[zBi];unfold Gla.panesOfKind;rw[zX];refine WT (XJ _ _) ?_;rw[List.length_zipIdx];exact We _
def zAJ (shelf:Nat)(os:List (Nat×Nat)):List (List (Nat×Nat)):=os.foldl (λ(q:List (List (Nat×Nat))) (x:Nat×Nat)=>Gla.putLoad shelf x q) []
theorem zQH{shelf n:Nat}{x:Nat×Nat}{q:List (List (Nat×Nat))}(h:∀ l∈q,l.length<=n):∀ l∈Gla.putLoad shelf x q,l.length<=n+1:=by
 intro l hl;unfold Gla.putLoad at hl;split at hl
 .obtain⟨j,hj⟩:=WY hl;rw[zGb] at hj;cases e:q[j]? with
 |none=>rw[e] at hj;cases hj
 |some z=>
   have hz:=h z (ZM e);rw[e,Vl] at hj;injection hj with hj
   rw[<-hj];split
   .rw[Wi,W6]
    lia
   .exact Nat.le_succ_of_le hz
 .rcases Wv.mp hl with h'|h'
  .exact Nat.le_succ_of_le (h l h')
  .rw[Wl.mp h'];exact Nat.succ_le_succ (Ww _)
theorem zKM{shelf:Nat}:∀ (os:List (Nat×Nat)) (q:List (List (Nat×Nat))) (n:Nat),(∀ l∈q,l.length<=n)->∀ l∈os.foldl (λ(q:List (List (Nat×Nat))) (x:Nat×Nat)=>Gla.putLoad shelf x q) q,l.length<=n+os.length
|[],_,_,h,l,hl=>h l hl
|x::os,q,n,h,l,hl=>by
  have:=zKM os (Gla.putLoad shelf x q) (n+1) (zQH h) l hl;rw[Wn]
  lia
theorem zQI{q q':List (List (Nat×Nat))}{a shelf k n:Nat}(h:lfR q a shelf q' k)(hn:∀ l∈q,l.length<=n):∀ l∈q',l.length<=n:=by
 rcases h with ⟨rfl,_⟩|⟨rfl,_⟩
 .exact hn
 .intro l hl;rcases Wv.mp hl with h'|h'
  .exact hn l h'
  .rw[Wl.mp h'];exact Ww _
theorem zQJ{q q':List (List (Nat×Nat))}{a shelf k:Nat}(h:lfR q a shelf q' k):q'.length<=q.length+1:=by
 rcases h with ⟨rfl,_⟩|⟨rfl,_⟩
 .exact Jc _
 .simp
def Zi (xs:List (Nat×Nat)):List Nat:=Gla.inOrder (Gla.hotter (gk xs)) (List.range xs.length)
theorem zFM{K:Qf}{h:Heap}{N:Addr}{m:Qm}{x:Str}{r:Option Value}(X:K.In h)(G:h.Ns N m)(e:PySem.W.nsIn K N x=some r):m x=r:=by
 obtain⟨o,es,ep,ho,hd,_,hf⟩:=G;unfold PySem.W.nsIn at e;split at e
 .rename_i c d es' n' sl q
  have:=X _ _ q;rw[ho] at this;cases this;cases hd;split at e
  .rename_i en he
   cases e;rw[<-hf];unfold nsFind findBy;rw[<-UV,he];rfl
  .rename_i he
   split at e
   .cases e
   .cases e;rw[<-hf];unfold nsFind findBy;rw[<-UV,he];rfl
 .cases e
def skB (es:Array DictEntry):Bool:=es.toList.all λe=>match e.key with
|.str _ _=>true
|_=>false
theorem zSX{es:Array DictEntry}(h:skB es=true):StrKeys es:=by
 intro e he;have:=WW.mp h e (Array.mem_toList_iff.mpr he);cases q:e.key with
|str n t=>exact⟨n,t,rfl⟩
|_=>rw[q] at this;cases this
theorem zSY{P:Program}{w:World}{base:Heap}{K:Qf}{h:Heap}{mg:Qm}{C N f:Addr}{nm q:Str}{bs:List Value}{sn:List Str}{sub:List Value}{ab:Bool}{col:Option Bool}{dd:Option Addr}{k0 k1 k2 k3 k5:Option Value}{nc:Value}{nd:Option Addr}{es:Array DictEntry}{n:Nat}{nsl:Array (Option Value)}
  {od an:Option Addr}{osl:Array (Option Value)}{kV doc pm cdv ct:Value}(X:K.In h) (G:h.Ns mainGlobals mg) (aC:PySem.W.nsIn K mainGlobals "NoCartoon" = some (some (.ref C))) (kc:PySem.W.keepIn K (.ref C)=true)
  (cl:K.lookup C=some (excClassObj nm q C N bs Kx.VE true sn sub ab col dd k0 k1 k2 k3 k5 "ValueError.__new__"))(ln:K.lookup N=some ⟨nc,nd,.dict es n,nsl⟩)(sk:StrKeys es)
  (n0:PySem.W.nsIn K N "__init__" = some (some (.ref f)))(n1:PySem.W.nsIn K N "__setattr__" = some none)(n2:PySem.W.nsIn K N "rule" = some none)(n3:PySem.W.nsIn K N "place" = some none)(n4:PySem.W.nsIn K N "__getattribute__" = some none)(n5:PySem.W.nsIn K N "__getattr__" = some none)
  (l:K.lookup f=some ⟨.type "function",od,.func (PySem.W.fnOf "__init__" "NoCartoon.__init__" (Zz ZA) (ZG ZA) (zI ZA) .none kV doc pm an cdv ct),osl⟩)
  (c:PySem.W.codeIn K cdv "NoCartoon.__init__" = true)(k:PySem.W.keepIn K (.ref f)=true)
  (b:∀ (kV doc pm:Value) (an:Option Addr) (cdv ct:Value) (us:List Value),us.length=(["self","rule","place"]:List Str).length->bindArgs (PySem.W.fnOf "__init__" "NoCartoon.__init__" (Zz ZA) (ZG ZA) (zI ZA) .none kV doc pm an cdv ct) ⟨us,[]⟩=pure ((["self","rule","place"]:List Str).zip us)):XR P w K mg base C:=by
 have NS:∀ h:Heap,K.In h->h.Ns N (nsFind es):=λh X=>⟨_,es,n,X _ _ ln,rfl,sk,λ_=>rfl⟩
 have T:Kx.zCQ K mg C N f:=⟨Va X G aC,kc,⟨_,_,_,_,_,_,_,_,_,_,_,_,_,cl⟩,nsFind es,NS,zFM X (NS h X) n0,zFM X (NS h X) n1,zFM X (NS h X) n2,zFM X (NS h X) n3,zFM X (NS h X) n4,zFM X (NS h X) n5⟩
 exact⟨N,f,_,T,⟨_,l,rfl⟩,zNm (zBo l c k) T,(zBo l c k).binds b⟩
theorem zFs{K:Qf}{a:Addr}{i1 i2 i3 i4:Int}{u1 u2 u3 u4:Tok}{d:Option Addr}{n:Nat}{sl:Array (Option Value)}(l:K.lookup a=some ⟨.type "tuple",d,.seq #[.int i1 u1,.int i2 u2,.int i3 u3,.int i4 u4] n,sl⟩):∀ H:Hp,yJ K H a [.int i1,.int i2,.int i3,.int i4]:=λH=>.inr ⟨_,_,n,l,rfl,rfl,(by show 4<=sizeLine;decide),.cons ⟨_,rfl⟩ (.cons ⟨_,rfl⟩ (.cons ⟨_,rfl⟩ (.cons ⟨_,rfl⟩ .nil)))⟩
theorem zSZ{K:Qf}{h:Heap}{mg:Qm}{x:Str}{a:Addr}{i1 i2 i3 i4:Int}{u1 u2 u3 u4:Tok}{d:Option Addr}{n:Nat}{sl:Array (Option Value)}(X:K.In h)(G:h.Ns mainGlobals mg)(e:PySem.W.nsIn K mainGlobals x=some (some (.ref a)))
  (l:K.lookup a=some ⟨.type "tuple",d,.seq #[.int i1 u1,.int i2 u2,.int i3 u3,.int i4 u4] n,sl⟩):zQ9 K mg x [.int i1,.int i2,.int i3,.int i4]:=⟨a,Va X G e,zFs l⟩
theorem zRk{K:Qf}{h:Heap}{mg:Qm}{a t0 t1 t2 t3 t4 t5:Addr}{d d0 d1 d2 d3 d4 d5:Option Addr}{n m0 m1 m2 m3 m4 m5:Nat}{sl s0 s1 s2 s3 s4 s5:Array (Option Value)}{u00 u01 u02 u03 u10 u11 u12 u13 u20 u21 u22 u23 u30 u31 u32 u33 u40 u41 u42 u43 u50 u51 u52 u53:Tok}(X:K.In h)(G:h.Ns mainGlobals mg)(e:PySem.W.nsIn K mainGlobals "HEAD_NUMBERS" = some (some (.ref a)))
  (l:K.lookup a=some ⟨.type "tuple",d,.seq #[.ref t0,.ref t1,.ref t2,.ref t3,.ref t4,.ref t5] n,sl⟩)
  (l0:K.lookup t0=some ⟨.type "tuple",d0,.seq #[.int 4 u00,.int 4 u01,.int 16 u02,.int 1048575 u03] m0,s0⟩)(l1:K.lookup t1=some ⟨.type "tuple",d1,.seq #[.int 8 u10,.int 4 u11,.int 16 u12,.int 1048575 u13] m1,s1⟩)(l2:K.lookup t2=some ⟨.type "tuple",d2,.seq #[.int 12 u20,.int 2 u21,.int 4 u22,.int 4096 u23] m2,s2⟩)
  (l3:K.lookup t3=some ⟨.type "tuple",d3,.seq #[.int 14 u30,.int 2 u31,.int 4 u32,.int 8192 u33] m3,s3⟩)(l4:K.lookup t4=some ⟨.type "tuple",d4,.seq #[.int 16 u40,.int 2 u41,.int 1 u42,.int 2048 u43] m4,s4⟩)(l5:K.lookup t5=some ⟨.type "tuple",d5,.seq #[.int 18 u50,.int 2 u51,.int 0 u52,.int 0 u53] m5,s5⟩):GHN K mg:=by
 refine⟨a,[t0,t1,t2,t3,t4,t5],Va X G e,λH=>.inr ⟨_,_,n,l,rfl,rfl,(by show 6<=sizeLine;decide),.cons rfl (.cons rfl (.cons rfl (.cons rfl (.cons rfl (.cons rfl .nil)))))⟩,rfl,λi t z h1 h2=>?_⟩
 match i,h1,h2 with
|0,h1,h2=>cases h1;cases h2;exact zFs l0
|1,h1,h2=>cases h1;cases h2;exact zFs l1
|2,h1,h2=>cases h1;cases h2;exact zFs l2
|3,h1,h2=>cases h1;cases h2;exact zFs l3
|4,h1,h2=>cases h1;cases h2;exact zFs l4
|5,h1,h2=>cases h1;cases h2;exact zFs l5
open PySem PySem.Spec PyProof.Rows L2 Kl
theorem zKN{k:Nat}:∀ {l:List Nat},inV (.int (k:Int)) (zm l)=l.contains k
|[]=>rfl
|a::l=>by
  show (((a:Int)==(k:Int))||inV (.int (k:Int)) (zm l))=_;rw[zKN,List.contains_cons,W7,W7]
  congr 1
  rw[Ws]
  grind
theorem zHk:∀ (l:List Nat),(zm l).all zBY=true
|[]=>rfl
|a::l=>by
  show (true&&(zm l).all zBY)=true;rw[zHk l];rfl
theorem zQK{K:Qf}{a:Addr}{xs:List V}{g:TG}{tt:TT}{te:TE}{vs:List Nat}{σ:L2.St}{H1:Hp}{D:Addr}{Qd:Hp->Prop}(Pv:Nat->Hp->Prop)(h0:Pv 0 (upd H1 D (.lst [])))(hl:∀ i H,i<=xs.length->Pv i H->zN K H a xs)
  (hs:∀ i x H T,xs[i]?=some x->Pv i H->H T=none->g (.ref T) (ZL σ vs) (upd H T (.tup [.int (i:Nat),x])) λσ2 H2=>ZL σ2 vs=ZL σ vs/\tt σ2 H2 λb H3=>
   if b=true then te σ2 H3 λy H4=>∃ acc,H4 D=some (.lst acc)/\acc.length<sizeLine/\Pv (i+1) (upd H4 D (.lst (acc++[y]))) else Pv (i+1) H3) (hd:∀ H,Pv xs.length H->Qd H) :
  ∃ W:Nat->Nat->Hp->Prop,(∃ m,W 0 m (upd H1 D (.lst [])))/\∀ i m H,W i m H->
   ((Ite K a).stop i H/\Qd H)\/((Ite K a).go i H/\∃ Nx:Hp->Prop,(∀ H',Nx H'->∃ m',m'<m/\W (i+1) m' H')/\∀ x H',(Ite K a).yld i H x H'->g x (ZL σ vs) H' λσ2 H2=>ZL σ2 vs=ZL σ vs/\tt σ2 H2 λb H3=>
    if b=true then te σ2 H3 λy H4=>∃ acc,H4 D=some (.lst acc)/\acc.length<sizeLine/\Nx (upd H4 D (.lst (acc++[y]))) else Nx H3):=by
 refine⟨λi m H=>m=xs.length-i/\i<=xs.length/\Pv i H,⟨xs.length,by simp,Ww _,h0⟩,?_⟩;rintro i m H ⟨rfl,hi,p⟩;have q:=hl i H hi p;by_cases hlt:i<xs.length
 .refine .inr ⟨⟨xs,xs[i],q,by simp[hlt]⟩,Pv (i+1),λH' p'=>⟨xs.length-(i+1),by grind,rfl,hlt,p'⟩,λv H' y=>?_⟩;obtain⟨T,x,e1,e2,e3,e4⟩:=y;subst e1 e3;exact hs i x _ T (e4 xs q) p e2
 .have e:i=xs.length:=by grind
  subst e;exact .inl ⟨⟨xs,q,We _⟩,hd H p⟩
theorem zQL{X:Cx}(K:Qf){es:List Expr}{k:Nat}{t:TGs}{n:Nat}{pos:Pos}(hc:X.calm=true)(h:PGs X es t)(hK:X.K=K:=by rfl)(hn:(assignEach es X.env).length=n:=by rfl)(hst:(assignEach es X.env).findIdx? (·.1)=none:=by rfl):PG X (.Tuple es k pos) (zQW K n t):=by
 subst hK;exact Z1 hc h hn hst
theorem zRl{X:Cx}(K:Qf)(hK:X.K=K:=by rfl):Y5 X (compareOp .In) (rIn K false):=by
 subst hK;exact zLv
def zLf:Pos:=⟨47,41,47,85⟩
def zEA:Pos:=⟨50,31,50,76⟩
def zHy:Str:=(("hottest_first" : Str)++".<locals>.")++"<lambda>"
def zCF:Str:=(("largest_first" : Str)++".<locals>.")++"<lambda>"
def gH (xs:List (Nat×Nat))(n:Int):Int:=-(((xs[n.toNat]?.map Prod.fst).getD 0:Nat):Int)
def gA (fl:List Gla.Fired)(n:Int):Int:=-(((fl[n.toNat]?.map Gla.Fired.area).getD 0:Nat):Int)
theorem zRm{xs:List (Nat×Nat)}{ns':List Int}(hP:ns'.Perm ((List.range xs.length).map λ(i:Nat)=>(i:Int)))(hS:ns'.Pairwise (leK (gH xs))):ns'=(Zi xs).map λ(i:Nat)=>(i:Int):=by
 refine uniq zIb (hP.trans ((zA3 (bf:=Gla.hotter (gk xs)) (List.range xs.length)).map _).symm) hS ?_;rw[Ui]
 have ht:∀ a:Nat,(((gk xs)[a]?).map Gla.Kind.heat).getD 0=(xs[a]?.map Prod.fst).getD 0:=λa=>by
  unfold gk;rw[WQ];cases xs[a]? <;> rfl
 refine zC6 (le:=λ(a b:Nat)=>leK (gH xs) (a:Int) (b:Int)) (λa b h=>?_) (λa b h=>?_) (λa b c h1 h2=>?_) _
 .unfold Gla.hotter at h;dsimp only at h;rw[ht,ht] at h;simp only[Vc,y9,yr,Vj] at h;unfold leK gH;rw[WS,WS]
  grind
 .unfold Gla.hotter at h;dsimp only at h;rw[ht,ht] at h;simp only[WZ,Xl,VA,W8] at h;unfold leK gH;rw[WS,WS]
  grind
 .unfold leK at *
  grind
theorem zQM{fl:List Gla.Fired}{k:Nat}{ns':List Int}(hP:ns'.Perm ((Gla.panesOfKind fl k).map λ(x:Nat×Nat)=>(x.1:Int)))(hS:ns'.Pairwise (leK (gA fl))):ns'=((ZS fl k).map Prod.fst).map λ(i:Nat)=>(i:Int):=by
 rw[Vf];refine uniq zIb (hP.trans ((zA3 (bf:=Gla.wider) (Gla.panesOfKind fl k)).map _).symm) hS ?_;rw[Ui]
 have hw:(ZS fl k).Pairwise λ(x y:Nat×Nat)=>y.2<x.2\/(x.2=y.2/\x.1<=y.1):=by
  refine zC6 (λa b h=>?_) (λa b h=>?_) (λa b c h1 h2=>?_) _
  .unfold Gla.wider at h;simp only[Vc,y9,yr,Vj] at h
   grind
  .unfold Gla.wider at h;simp only[WZ,Xl,VA,W8] at h
   grind
  .grind
 refine hw.imp_of_mem λ{x y} hx hy h=>?_
 obtain⟨u,e1,e2⟩:=zFL x hx;obtain⟨v,e3,e4⟩:=zFL y hy;show leK (gA fl) ((x.1:Nat):Int) ((y.1:Nat):Int);unfold leK gA;rw[WS,WS,e1,e3];show -((u.area:Nat):Int) < -((v.area:Nat):Int)\/(-((u.area:Nat):Int) = -((v.area:Nat):Int)/\_)
 grind
theorem zEq{l:List Nat}:(l.map λ(i:Nat)=>(i:Int)).map V.int=zm l:=by rw[Vf];rfl
theorem zTI{K:Qf}{P:Addr}{H H':Hp}{ka:Addr}{xs:List (Nat×Nat)}{ps:Array Value}(h:zl (RKd K) H ka xs)(hT:H P=some (.tbl ps))(s:zBc P H H'):zl (RKd K) H' ka xs:=by
 obtain⟨vs,e,z⟩:=h;refine⟨vs,s.tab hT e (λz=>by cases z),z.mono λv x r=>?_⟩;obtain⟨a,C,dx,fs,e1,e2,r⟩:=r;exact⟨a,C,dx,fs,e1,s.tab hT e2 (λz=>by cases z),r⟩
theorem zRn{K:Qf}{P:Addr}{H H':Hp}{qa:Addr}{fl:List Gla.Fired}{ps:Array Value}(h:YY K H qa fl)(hT:H P=some (.tbl ps))(s:zBc P H H'):YY K H' qa fl:=by
 obtain⟨vs,e,z⟩:=h;refine⟨vs,s.tab hT e (λz=>by cases z),z.mono λv x r=>?_⟩;obtain⟨a,C,dx,fs,ca,e1,e2,e3,e4,e5,e6,e7,n1,n2,e8⟩:=r;exact⟨a,C,dx,fs,ca,e1,s.tab hT e2 (λz=>by cases z),e3,e4,e5,e6,e7,n1,n2,s.tab hT e8 (λz=>by cases z)⟩
section
variable {P:Program}{w:World}{K:Qf}{mg:Qm}{base:Heap}{C T:Addr}
def zRo (K:Qf)(T:Addr):Sp:=λvs H Q _=>∃ (ka:Addr) (xs:List (Nat×Nat)),vs=[.ref ka]/\zl (RKd K) H ka xs/\xs.length<=16/\ZT H T zLf zHy/\∀ H' q,zBc T H H'->ZT H' T zLf zHy->H q=none->H' q=some (.lst (zm (Zi xs)))->Q (.ref q) H'
theorem zSa:zO ["kinds"] ["kinds"] (zI Y8):=yE
theorem zSb(D:zV K mg "hottest_first" Y8 ["kinds"])(hT:zDt K mg base "hottest_first" T)(ml:mg "len" = none)(mr:mg "range" = none)(ms:mg "sorted" = none):Ok P w K mg base 3 "hottest_first" ["kinds"] (zRo K T):=by
 refine okC D hT zSa (λvs H Q E h=>?_) (λf c A outer s H vs Q E L hr h=>?_)
 .obtain⟨ka,xs,rfl,_⟩:=h;rfl
 .obtain⟨ka,xs,rfl,LK,hx,tb,k⟩:=h;have hr1:zn 1 _:=hr.mono (by decide)
  refine⟨_,zG (zS (zIa (iy:=0) (x:="number") (y:="kinds") ms (zMP rfl mr (zA (yH ml (zA (pv 0) zC)) zC)) hr1 rfl rfl L rfl (λ_ _ _ _ _=>rfl) rfl (by decide) rfl rfl rfl rfl rfl rfl
   (λ_ _ _ _ _ _=>zAC (zA (zDj zCJ (zAw K (zh (zCh K) (pv 1) (pv 0) (λ_ _=>rfl)))) (zA (pv 0) zC))))),?_⟩
  obtain⟨kvs,hk,ek⟩:=id LK;refine⟨_,rfl,ka,_,rfl,.inl (zN.of hk),_,rfl,λr nr=>?_⟩;have s0:zH H (upd H r (.rng 0 ((kvs.length:Nat):Int))):=zQ (zH.refl H) nr;obtain⟨ps,hps⟩:=zCS tb;refine⟨r,(List.range kvs.length).map λ(i:Nat)=>(i:Int),gH xs,_,rfl,.inr ⟨_,zE,rfl,by rw[ek.1];grind⟩,Yr tb s0,rfl,λH' n s1 hn R hR=>?_,λns' p H' s1 tb1 np hp hP hS=>?_⟩
  .obtain⟨i,hi,rfl⟩:=Wp.mp hn;rw[VD,ek.1] at hi;have LK':zl (RKd K) H' ka xs:=zTI (LK.same zCw s0) (s0 _ _ hps) s1;obtain⟨kvs',hk',ek'⟩:=LK';have ex:=yQ hi;obtain⟨v,hv,a,C1,d1,f1,rfl,c1,c2,c3,c4⟩:=ek'.get ex;refine⟨_,rfl,_,rfl,ka,_,_,_,rfl,rfl,zN.of hk',y6 (j:=i) rfl hv,a,C1,d1,f1,_,rfl,c1,c2,c3,c4,_,rfl,_,rfl,(by show 2<=sizeLine;decide),λp np=>?_⟩;have:=hR p np;unfold gH at this;rw[WS,ex] at this;exact this
  .rw[ek.1] at hP;have e:=zRm hP hS;rw[e,zEq] at hp;refine k H' p (λb o nb e=>s1 b o nb (s0 b o e)) tb1 ?_ hp;cases z:H p with
  |none=>rfl
  |some o=>rw[s0 p o z] at np;cases np
def zOb (K:Qf)(T:Addr):Sp:=λvs H Q _=>∃ (k:Nat) (qa:Addr) (fl:List Gla.Fired),vs=[.int (k:Int),.ref qa]/\YY K H qa fl/\fl.length<10000/\ZT H T zEA zCF/\∀ H' q,zBc T H H'->ZT H' T zEA zCF->H q=none->H' q=some (.lst (zm ((ZS fl k).map Prod.fst)))->Q (.ref q) H'
def pkN (fl:List Gla.Fired)(k i:Nat):List Nat:=(Gla.panesOfKind (fl.take i) k).map Prod.fst
theorem zJB{fl:List Gla.Fired}{k i:Nat}{x:Gla.Fired}(h:fl[i]?=some x):pkN fl k (i+1)=if x.coats.contains k=true then pkN fl k i++[i] else pkN fl k i:=by
 have hi:=(yG h).1;unfold pkN Gla.panesOfKind;rw[zv h,List.zipIdx_append,XC,Wq,Wq]
 have e:([x].zipIdx ((fl.take i).length+0))=[(x,i)]:=by
  rw[WF,XA (by grind)];rfl
 have e':([x].zipIdx (0+(fl.take i).length))=[(x,i)]:=by rw[Nat.add_comm];exact e
 first
 |rw[e]
 |rw[e']
 by_cases hc:x.coats.contains k=true
 .rw[Wc hc,Ut (by exact hc)];rfl
 .rw[Wb hc,Uv (by exact hc)];simp
theorem zKO{fl:List Gla.Fired}{k i:Nat}:(pkN fl k i).length<=fl.length:=by
 unfold pkN Gla.panesOfKind;rw[zX,zX];refine WT (XJ _ _) ?_;rw[List.length_zipIdx,WF];exact V7 _ _
theorem zGc:zO ["kind","pieces","numbers","number","piece"] ["kind","pieces"] (zI YO):=yE
theorem zRp(D:zV K mg "largest_first" YO ["kind","pieces"])(hT:zDt K mg base "largest_first" T)(me:mg "enumerate" = none)(ms:mg "sorted" = none):Ok P w K mg base 3 "largest_first" ["kind","pieces"] (zOb K T):=by
 refine okC D hT zGc (λvs H Q E h=>?_) (λf c A outer s H vs Q E L hr h=>?_)
 .obtain⟨kk,qa,fl,rfl,_⟩:=h;rfl
 .obtain⟨kk,qa,fl,rfl,PC,hfl,tb,k⟩:=h;have hr1:zn 1 _:=hr.mono (by decide);obtain⟨qvs,hq,eq⟩:=id PC;obtain⟨ps,hps⟩:=zCS tb
  refine⟨_,zF (YT (i:=2) (own:=[("number",3),("piece",4)]) rfl zGc.nd rfl rfl rfl (YG rfl me (zA (pv 1) zC)) (ZW (show zAg ["kind","pieces","numbers","number","piece"] (zI YO) _ _=true by decide +kernel))
    (λ_ _ _ _ _=>zQL K (n:=2) rfl (zt (zT (i:=3) zGc.nd rfl (Or.inl rfl)) (zt (zT (i:=4) zGc.nd rfl (Or.inl rfl)) ZV))) (λ_ _ _ _ _=>zOu (zj (zRl K) (pv 0) (zAw K (pv 4)) rfl)) (λ_ _ _ _ _=>pv 3))
   (zG (zS (zIa (iy:=1) (x:="number") (y:="pieces") ms (pv 2) hr1 rfl rfl L rfl (λ_ _ _ _ _=>rfl) rfl (by decide) rfl rfl rfl rfl rfl rfl
    (λ_ _ _ _ _ _=>zAC (zA (zDj zCJ (zAw K (zh (zCh K) (pv 1) (pv 0) (λ_ _=>rfl)))) (zA (pv 0) zC)))))),?_⟩
  refine⟨_,rfl,qa,_,rfl,zN.of hq,λN nN=>?_⟩;refine zQK (K:=K) (a:=qa) (xs:=qvs) (λi H'=>zH H H'/\H' N=some (.lst (zm (pkN fl kk i)))) ⟨zQ (zH.refl H) nN,zE⟩ (λi H' _ hh=>zN.of (hh.1 _ _ hq)) ?_ ?_
  .rintro i y H' T' hi ⟨s1,e1⟩ nT;refine Wa λng=>?_
   obtain⟨x,hix,b,C1,d1,f1,cb,rfl,c1,c2,c3,c4,c5,c6,c7,c8,c9⟩:=eq.get' hi;refine ng ?_;have s2:zH H (upd H' T' (.tup [.int (i:Nat),.ref b])):=zQ s1 nT;have eN:upd H' T' (.tup [.int (i:Nat),.ref b]) N=some (.lst (zm (pkN fl kk i))):=by rw[zD (zJ e1 nT)];exact e1
   refine⟨T',_,rfl,yJ.of zE,rfl,_,_,rfl,_,_,rfl,rfl,rfl,?_⟩;refine⟨_,rfl,_,rfl,b,C1,d1,f1,_,rfl,s2 _ _ c1,c2,c4,c6,cb,_,rfl,.inl (zN.of (s2 _ _ c9)),rfl,zHk _,_,rfl,?_⟩;show if inV (.int (kk:Int)) (zm x.coats)=true then _ else _
   rw[zKN];refine yA (λhb=>?_) λhb=>?_
   .refine⟨_,rfl,_,eN,?_,λb' o' eb=>?_,?_⟩
    .rw[zw];exact Yv zKO (yR hfl (by decide))
    .rw[zD (zJ eb nN)];exact s2 _ _ eb
    .rw[zE,zJB hix,Wc hb];unfold zm;rw[Wq];rfl
   .refine⟨s2,?_⟩;rw[zJB hix,Wb (by rw[hb];exact Wr)];exact eN
  .rintro H1 ⟨s1,e1⟩;rw[eq.1,show pkN fl kk fl.length=(Gla.panesOfKind fl kk).map Prod.fst by unfold pkN;rw[WV]] at e1;have hlen:((Gla.panesOfKind fl kk).map Prod.fst).length<=fl.length:=by have:=zKO (fl:=fl) (k:=kk) (i:=fl.length);unfold pkN at this;rw[WV] at this;exact this
   refine⟨_,rfl,N,((Gla.panesOfKind fl kk).map Prod.fst).map λ(i:Nat)=>(i:Int),gA fl,_,rfl,.inl ⟨by rw[zEq];exact zN.of e1,by rw[zX];exact WT (Vi (Yv hlen hfl)) (by decide)⟩,Yr tb s1,rfl,λH' n s2 hn R hR=>?_,λns' p H' s2 tb1 np hp hP hS=>?_⟩
   .obtain⟨i,hi,rfl⟩:=Wp.mp hn;obtain⟨z,hz,rfl⟩:=Wp.mp hi;have PC':YY K H' qa fl:=zRn (PC.same s1) (s1 _ _ hps) s2;obtain⟨qvs',hq',eq'⟩:=PC';have hz':z∈ZS fl kk:=(zA3 _).mem_iff.mpr hz;obtain⟨x,ex,_⟩:=zFL z hz';refine Wa λng=>?_
    obtain⟨v,hv,b,C1,d1,f1,cb,rfl,c1,c2,c3,c4,c5,c6,c7,c8,c9⟩:=eq'.get ex;refine ng ?_;refine⟨_,rfl,_,rfl,qa,_,_,_,rfl,rfl,zN.of hq',y6 (j:=z.1) rfl hv,b,C1,d1,f1,_,rfl,c1,c2,c3,c5,_,rfl,_,rfl,(by show 2<=sizeLine;decide),λp np=>?_⟩;have:=hR p np;unfold gA at this;rw[WS,ex] at this;exact this
   .rw[Vf] at hP;have e:=zQM hP hS;rw[e,zEq] at hp;refine k H' p (λb o nb e=>s2 b o nb (s1 b o e)) tb1 ?_ hp;cases z:H p with
   |none=>rfl
   |some o=>rw[s1 p o z] at np;cases np
def zOc (K:Qf):Sp:=λvs H Q _=>∃ (a shelf:Nat) (la ol:Addr) (vo:List V) (H0:Hp) (as:List (Addr×Addr)) (q:List (List (Nat×Nat))),vs=[.int (a:Int),.ref la,.int (shelf:Int)]/\zFr K H0 H la as q/\q.length<100000/\H ol=some (.lst vo)/\(∀ x∈as,x.2≠ol)/\ol≠la/\
 ∀ (H':Hp) (as':List (Addr×Addr)) (q':List (List (Nat×Nat))) (k:Nat) (x:Addr×Addr),zFr K H0 H' la as' q'->as'[k]?=some x->lfR q a shelf q' k->H' ol=some (.lst vo)->(∀ x∈as',x.2≠ol)->Q (.ref x.1) H'
theorem zJC:zO ["area","loads","shelf","load","begun"] ["area","loads","shelf"] (zI zDv):=yE
theorem zRq(D:zV K mg "load_for" zDv ["area","loads","shelf"])(M:Ys P w K mg base 1 C ["self"] (zOa C))(T:zLd K mg C):Ok P w K mg base 3 "load_for" ["area","loads","shelf"] (zOc K):=by
 obtain⟨fi,fdi,Mi,Fi,bi⟩:=M;refine D.ok zJC (λvs H Q E h=>?_) (λf cdv A outer s H vs Q E hr h=>?_)
 .obtain⟨a,shelf,la,ol,vo,H0,as,q,rfl,_⟩:=h;rfl
 .obtain⟨a,shelf,la,ol,vo,H0,as,q,rfl,L,hq,ho,hno,hol,k⟩:=h
  refine⟨_,zF (yF Wt rfl (yt (pv 1)) (zT (i:=3) zJC.nd rfl (Or.inl rfl))
    (zG (zu (zj zFw (zk ZH (zP (pv 3) rfl) (pv 0)) (pv 2) (zZ _)) (zG (zS (pv 3))) zc)))
   (zF (za (i:=4) zJC.nd rfl (Or.inl rfl) (zND Mi Fi hr rfl T.mgC bi .nil zF2))
   (zF (yK (YK Wy WM WL ZE (pv 1) (zA (pv 4) zC)))
   (zG (zS (pv 4))))),?_⟩
  refine⟨_,rfl,la,rfl,⟨_,zN.of L.lst⟩,Zl (K:=K) (a:=la) (xs:=as.map λx=>V.ref x.1) (λi σ H'=>∃ v3 v4:Option V,σ=[some (.int (a:Int)),some (.ref la),some (.int (shelf:Int)),v3,v4]/\H'=H/\∀ (j:Nat) (l:List (Nat×Nat)),j<i->q[j]?=some l->¬ Gla.loadArea l+a<=shelf) ⟨none,none,rfl,rfl,λj l hj=>absurd hj (Vb _)⟩ (λi σ H' _ hh=>hh.elim λ_ hh=>hh.elim λ_ hh=>by rw[hh.2.1];exact zN.of L.lst) ?_ ?_⟩
  .rintro i y σ H' hi ⟨v3,v4,rfl,rfl,hno'⟩;obtain⟨x,hix,rfl⟩:=yV hi;have hiq:i<q.length:=by rw[<-L.len];exact (yG hix).1
   have el:=yQ hiq;generalize q[i]=l at el;refine Wa λng=>?_
   obtain⟨C1,d1,a1,a2,a3,a4,a5⟩:=L.at_ i x l hix el;refine ng ?_;refine⟨_,rfl,x.1,C1,d1,_,_,rfl,a1,a2,a4,zDU,_,rfl,_,_,rfl,rfl,_,rfl,_,_,rfl,rfl,_,rfl,yA (λhb=>?_) λhb=>?_⟩
   .have hle:=WG hb;exact⟨_,rfl,k H' as q i x L hix (.inl ⟨rfl,⟨l,el,by lia⟩,hno'⟩) ho hno⟩
   .have hle:=WJ hb;refine⟨_,_,rfl,rfl,λj l' hj hj'=>?_⟩;by_cases e:j=i
    .subst e;rw[el] at hj';cases hj'
     lia
    .exact hno' j l' (by lia) hj'
  .rintro σ H' ⟨v3,v4,rfl,rfl,hno'⟩;rw[zX,L.len] at hno';intro x dx nx ndx nex;refine⟨x,dx,rfl,zE,λH1 pa npa hx hpa keep=>⟨rfl,?_⟩⟩;have s1:zH H' H1:=zH.made nx ndx keep;have pax:pa≠x:=λe=>by rw[e,zE] at npa;cases npa
   have npa':H' pa=none:=by
    rw[zD pax] at npa;have:pa≠dx:=λe=>by rw[e,zE] at npa;cases npa
    rw[zD this] at npa;exact npa
   have hl1:=s1 _ _ L.lst;refine⟨_,rfl,.inl ⟨rfl,_,zN.of hl1⟩,_,rfl,la,_,_,rfl,rfl,hl1,?_,?_⟩
   .rw[zX,L.len];exact yR hq (by decide)
   have xla:x≠la:=λe=>by rw[e,L.lst] at nx;cases nx
   have pla:pa≠la:=λe=>by rw[e,L.lst] at npa';cases npa'
   refine⟨_,rfl,k _ (as++[(x,pa)]) (q++[[]]) as.length (x,pa) ⟨?_,?_,?_,L.nla,?_,?_,?_,?_⟩ (by simp) (.inr ⟨rfl,L.len,λj l hj=>hno' j l (yG hj).1 hj⟩) ?_ ?_⟩
   .rw[zE,Wq];rfl
   .rw[Wi,Wi,L.len];rfl
   .intro b o eb;rw[zD (zJ eb L.nla)];exact s1 _ _ (L.same _ _ eb)
   .intro y hy;rcases Wv.mp hy with h|h
    .exact L.new y h
    .rw[Wl.mp h];exact⟨zAu L.same _ nx,zAu L.same _ npa',pla⟩
   .rw[Wq,XE];refine⟨L.nd1,by simp,λu hu v hv e=>?_⟩;have hv':v=x:=by simpa using hv
    obtain⟨y,hy,rfl⟩:=Wp.mp hu;obtain⟨j,hj⟩:=WY hy;have hjq:j<q.length:=by rw[<-L.len];exact (yG hj).1
    obtain⟨C1,d1,a1,_⟩:=L.at_ j y _ hj (yQ hjq);rw[e,hv',nx] at a1;cases a1
   .rw[Wq,XE];refine⟨L.nd2,by simp,λu hu v hv e=>?_⟩;have hv':v=pa:=by simpa using hv
    obtain⟨y,hy,rfl⟩:=Wp.mp hu;obtain⟨j,hj⟩:=WY hy;have hjq:j<q.length:=by rw[<-L.len];exact (yG hj).1
    obtain⟨C1,d1,_,_,_,_,a5⟩:=L.at_ j y _ hj (yQ hjq);rw[e,hv',npa'] at a5;cases a5
   .intro j y l e1 e2;by_cases hj:j<as.length
    .rw[WP hj] at e1;rw[WP (by rw[<-L.len];exact hj)] at e2;have LA:=(L.at_ j y l e1 e2).same s1;obtain⟨C1,d1,a1,_⟩:=id LA;have y1:y.1≠la:=λe=>by rw[e,hl1] at a1;cases a1
     have y2:=(L.new y (ZM e1)).2.2;exact LA.keep (by rw[zD y1]) (by rw[zD y2])
    .have hj2:j=as.length:=by
      have:=(yG e1).1;rw[Wi,W6] at this
      lia
     subst hj2;rw[W5 (We _),Xa] at e1;rw[W5 (by rw[L.len];exact We _),L.len,Xa] at e2;cases e1;cases e2;exact⟨C,dx,by rw[zD xla];exact hx,T.cl,T.n0,T.n1,by rw[zD pla];exact hpa⟩
   .rw[zD hol];exact s1 _ _ ho
   .intro y hy;rcases Wv.mp hy with h|h
    .exact hno y h
    .rw[Wl.mp h];exact λe=>by rw[show (x,pa).2=pa from rfl] at e;rw[e,ho] at npa';cases npa'
def zFt (T:Addr)(H:Hp):Hp:=λa=>if a=T then none else H a
def zOd (K:Qf)(T:Addr):Sp:=λvs H Q _=>∃ (k shelf:Nat) (qa:Addr) (fl:List Gla.Fired),vs=[.int (k:Int),.ref qa,.int (shelf:Int)]/\YY K H qa fl/\fl.length<10000/\ZT H T zEA zCF/\∀ H' la as,zFr K (zFt T H) H' la as (zAJ shelf (ZS fl k))->ZT H' T zEA zCF->Q (.ref la) H'
theorem zEr:zO ["kind","pieces","shelf","loads","number","area","load"] ["kind","pieces","shelf"] (zI zDw):=yE
theorem zRr(D:zV K mg "loads_of" zDw ["kind","pieces","shelf"])(OL:Ok P w K mg base 3 "largest_first" ["kind","pieces"] (zOb K T))(OF:Ok P w K mg base 3 "load_for" ["area","loads","shelf"] (zOc K)):Ok P w K mg base 4 "loads_of" ["kind","pieces","shelf"] (zOd K T):=by
 refine D.ok zEr (λvs H Q E h=>?_) (λf cdv A outer s H vs Q E hr h=>?_)
 .obtain⟨kk,shelf,qa,fl,rfl,_⟩:=h;rfl
 .obtain⟨kk,shelf,qa,fl,rfl,PC,hfl,tb,k⟩:=h
  refine⟨_,zF (za (i:=3) zEr.nd rfl (Or.inl rfl) (yZ zC))
   (zF (yF Wt rfl (yt (zR OL hr (zA (pv 0) (zA (pv 1) zC)))) (zT (i:=4) zEr.nd rfl (Or.inl rfl))
    (zF (za (i:=5) zEr.nd rfl (Or.inl rfl) (zP (zh zd (pv 1) (pv 4) (λ_ _=>rfl)) rfl))
    (zF (za (i:=6) zEr.nd rfl (Or.inl rfl) (zR OF hr (zA (pv 5) (zA (pv 3) (zA (pv 2) zC)))))
    (zF (yK (YK Wy WM WL ZE (zP (pv 6) rfl) (zA (pv 4) zC)))
    (zG (yo (pv 6) (zk ZH (zP (pv 6) rfl) (pv 5)) rfl))))))
   (zG (zS (pv 3)))),?_⟩
  refine⟨Ww _,λla nla=>?_⟩;have s0:zH H (upd H la (.lst [])):=zQ (zH.refl H) nla;obtain⟨ps,hps⟩:=zCS tb;have laT:la≠T:=λe=>by rw[e,hps] at nla;cases nla
  refine⟨_,rfl,_,rfl,kk,qa,fl,rfl,PC.same s0,hfl,Yr tb s0,λH1 ol s1 tb1 nol hol=>?_⟩;have hla1:=s1 _ _ laT (show upd H la (.lst []) la=some (.lst []) from zE);have ne:ol≠la:=λe=>by rw[e,zE] at nol;cases nol
  have nol':H ol=none:=by rw[zD ne] at nol;exact nol
  generalize eH0:(λa=>if a=la\/a=ol then none else H1 a:Hp)=H0;have h0:∀ a,a≠la->a≠ol->H0 a=H1 a:=λa n1 n2=>by rw[<-eH0];exact Wb (λz=>z.elim n1 n2)
  have h0la:H0 la=none:=by rw[<-eH0];exact Wc (.inl rfl)
  have S01:zH H0 H1:=λb o e=>by
   rw[<-eH0] at e;by_cases z:b=la\/b=ol
   .have e2:(if b=la\/b=ol then none else H1 b)=some o:=e;rw[Wc z] at e2;cases e2
   .have e2:(if b=la\/b=ol then none else H1 b)=some o:=e;rw[Wb z] at e2;exact e2
  have keepH:∀ b o,b≠T->H b=some o->H0 b=some o:=λb o nb e=>by
   rw[h0 b (zJ e nla) (zJ e nol')];exact s1 b o nb (s0 b o e)
  have tb0:ZT H0 T zEA zCF:=by
   rcases tb1 with h|⟨c,h1,h2⟩
   .exact .inl (by rw[h0 T (λe=>by rw[e,hla1] at h;cases h) (λe=>by rw[e,hol] at h;cases h)];exact h)
   .exact .inr ⟨c,by rw[h0 T (λe=>by rw[e,hla1] at h1;cases h1) (λe=>by rw[e,hol] at h1;cases h1)];exact h1,by rw[h0 c (λe=>by rw[e,hla1] at h2;cases h2) (λe=>by rw[e,hol] at h2;cases h2)];exact h2⟩
  refine⟨ol,rfl,⟨_,zN.of hol⟩,Zl (K:=K) (a:=ol) (xs:=zm ((ZS fl kk).map Prod.fst)) (λi σ Hx=>∃ (as:List (Addr×Addr)) (v4 v5 v6:Option V),σ=[some (.int (kk:Int)),some (.ref qa),some (.int (shelf:Int)),some (.ref la),v4,v5,v6]/\zFr K H0 Hx la as (zAJ shelf ((ZS fl kk).take i))/\Hx ol=some (.lst (zm ((ZS fl kk).map Prod.fst)))/\(∀ x∈as,x.2≠ol)/\(zAJ shelf ((ZS fl kk).take i)).length<=i)
   ⟨[],none,none,none,rfl,⟨hla1,rfl,S01,h0la,λx hx=>(by cases hx),VY,VY,λj x l e=>by simp at e⟩,hol,λx hx=>(by cases hx),We _⟩ (λi σ Hx _ hh=>hh.elim λ_ hh=>hh.elim λ_ hh=>hh.elim λ_ hh=>hh.elim λ_ hh=>zN.of hh.2.2.1) ?_ ?_⟩
  .rintro i y σ Hx hi ⟨as,v4,v5,v6,rfl,L,ho,hno,hql⟩;obtain⟨n,hin,rfl⟩:=zDc hi;obtain⟨o,hio,rfl⟩:=yV hin;obtain⟨z,ez,ea⟩:=zFL o (ZM hio);have hil:=(yG hio).1;have hle:=zJA (fl:=fl) (k:=kk);have PC':YY K Hx qa fl:=zRn PC hps λb o nb e=>L.same _ _ (keepH b o nb e)
   obtain⟨qvs,hq,eq⟩:=PC';refine Wa λng=>?_
   obtain⟨v,hv,b,C1,d1,f1,cb,rfl,c1,c2,c3,c4,c5,c6,c7,c8,c9⟩:=eq.get ez;refine ng ?_;refine⟨_,rfl,_,rfl,qa,_,_,_,rfl,rfl,zN.of hq,y6 (j:=o.1) rfl hv,b,C1,d1,f1,_,rfl,c1,c2,c3,c5,?_⟩;refine⟨_,rfl,_,rfl,_,rfl,z.area,shelf,la,ol,_,H0,as,_,rfl,L,by lia,ho,hno,ne,λH2 as2 q2 k2 x L2' ek lf ho2 hno2=>?_⟩;have hk2:k2<q2.length:=by rw[<-L2'.len];exact (yG ek).1
   have el:=yQ hk2;generalize q2[k2]=l at el;refine Wa λng=>?_
   obtain⟨C2,d2,b1,b2,b3,b4,b5,b6,b7⟩:=L2'.put ek el o.1 z.area;refine ng ?_;refine⟨_,rfl,x.1,C2,d2,_,_,rfl,b1,b2,b3,zBu (by decide),.inl ⟨rfl,_,zN.of b5⟩,_,rfl,x.2,_,_,rfl,rfl,b5,?_,?_⟩
   .rw[zw,zX];have h1:=zQI lf (λl hl=>zKM ((ZS fl kk).take i) [] 0 (λl h=>by cases h) l hl) l (ZM el);rw[WA,WF] at h1;exact Yv (WT h1 (V7 _ _)) (yR (by lia:(ZS fl kk).length<10000) (by decide))
   .have e1:upd H2 x.2 (.lst (zm (l.map Prod.fst)++[.int ((o.1:Nat):Int)])) x.1=some (.ins C2 d2 (zB2 "panes" "area" (.ref x.2) (.int (Gla.loadArea l:Int)))):=by rw[zD b6];exact b1
    refine⟨_,rfl,x.1,C2,d2,_,_,rfl,e1,b2,b4,zDU,_,rfl,_,_,rfl,rfl,_,rfl,x.1,C2,d2,_,rfl,e1,b2,b4,(by show 2<1000;decide),?_⟩;rw[zN7]
    have est:zAJ shelf ((ZS fl kk).take (i+1))=q2.modify k2 λl=>l++[(o.1,z.area)]:=by
     rw[zv hio];unfold zAJ;rw[XF];show Gla.putLoad shelf o (zAJ shelf ((ZS fl kk).take i))=_;rw[show o=(o.1,z.area) from Jn rfl ea];exact zRh lf
    refine⟨as2,_,_,_,rfl,by rw[est];exact b7,?_,hno2,?_⟩
    .have xo:ol≠x.1:=λe=>by rw[<-e,ho2] at b1;cases b1
     rw[zD xo,zD (Ne.symm (hno2 x (ZM ek)))];exact ho2
    .rw[est,List.length_modify];have:=zQJ lf
     lia
  .rintro σ Hx ⟨as,v4,v5,v6,rfl,L,ho,hno,hql⟩;rw[zw,zX,WV] at L
   have nn:∀ b,H0 b=none->zFt T H b=none:=λb e=>by
    unfold zFt;by_cases hb:b=T
    .rw[Wc hb]
    .rw[Wb hb];cases z:H b with
    |none=>rfl
    |some o=>rw[keepH b o hb z] at e;cases e
   refine⟨_,rfl,k _ _ _ ⟨L.lst,L.len,λb o e=>?_,nn _ L.nla,λx hx=>⟨nn _ (L.new x hx).1,nn _ (L.new x hx).2.1,(L.new x hx).2.2⟩,L.nd1,L.nd2,L.at_⟩ (Yr tb0 L.same)⟩;unfold zFt at e;by_cases hb:b=T
   .rw[Wc hb] at e;cases e
   .rw[Wb hb] at e;exact L.same _ _ (keepH b o hb e)
end
def Yk (q:List (List (Nat×Nat))):Nat:=(q.map λl=>2+l.length).foldr (λa b=>a+b) 0
theorem zM2{x:Nat×Nat}:∀ (q:List (List (Nat×Nat))) (k:Nat),Yk (q.modify k λl=>l++[x])<=Yk q+1
|[],k=>by cases k <;> simp[Yk]
|l::q,0=>by
  show 2+(l++[x]).length+Yk q<=2+l.length+Yk q+1;rw[Wi,W6]
  lia
|l::q,k+1=>by
  have:=zM2 q k (x:=x);show 2+l.length+Yk (q.modify k λl=>l++[x])<=2+l.length+Yk q+1
  lia
theorem zM3{q r:List (List (Nat×Nat))}:Yk (q++r)=Yk q+Yk r:=by
 induction q with
|nil=>simp[Yk]
|cons l q ih=>
  show 2+l.length+Yk (q++r)=2+l.length+Yk q+Yk r
  lia
theorem zRs{shelf:Nat}{x:Nat×Nat}{q:List (List (Nat×Nat))}:Yk (Gla.putLoad shelf x q)<=Yk q+3:=by
 unfold Gla.putLoad;split
 .have:=zM2 (x:=x) q;exact WT (this _) (by lia)
 .rw[zM3];show _+(2+1+0)<=_
  lia
theorem zM4{shelf:Nat}:∀ (os:List (Nat×Nat)) (q:List (List (Nat×Nat))),Yk (os.foldl (λ(q:List (List (Nat×Nat))) (x:Nat×Nat)=>Gla.putLoad shelf x q) q)<=Yk q+3*os.length
|[],q=>by simp
|x::os,q=>by
  have h1:=zM4 (shelf:=shelf) os (Gla.putLoad shelf x q);have h2:=zRs (shelf:=shelf) (x:=x) (q:=q);rw[Vm,Wn]
  lia
def zCl (k:Nat)(q:List (List (Nat×Nat))):List Nat:=Gla.loadRow (q.map λ(l:List (Nat×Nat))=>(k,l.map λ(x:Nat×Nat)=>x.1))
theorem zHl{k:Nat}{q:List (List (Nat×Nat))}{l:List (Nat×Nat)}:zCl k (q++[l])=zCl k q++([k,l.length]++l.map Prod.fst):=by
 unfold zCl Gla.loadRow;rw[Wq,UP];simp
theorem zFu{k:Nat}:∀ {q:List (List (Nat×Nat))},(zCl k q).length=Yk q
|[]=>rfl
|l::q=>by
  have:=zFu (k:=k) (q:=q);unfold zCl Gla.loadRow at *
  rw[Wo,U3,Wi,this];simp[Yk]
  lia
theorem zQN{q:List (List (Nat×Nat))}{j:Nat}:Yk (q.take j)<=Yk q:=by
 have:Yk q=Yk (q.take j)+Yk (q.drop j):=by rw[<-zM3,List.take_append_drop]
 lia
def Zx (shelf:Nat)(fl:List Gla.Fired)(ks:List Nat):List Nat:=ks.flatMap λk=>zCl k (zAJ shelf (ZS fl k))
theorem zLg{shelf:Nat}{fl:List Gla.Fired}{ks:List Nat}{k:Nat}:Zx shelf fl (ks++[k])=Zx shelf fl ks++zCl k (zAJ shelf (ZS fl k)):=by
 unfold Zx;rw[UP];simp
theorem zKP{shelf:Nat}{fl:List Gla.Fired}{k:Nat}:Yk (zAJ shelf (ZS fl k))<=3*fl.length:=by
 have h1:=zM4 (shelf:=shelf) (ZS fl k) [];have h2:=zJA (fl:=fl) (k:=k);unfold zAJ;have h0:Yk []=0:=rfl
 lia
theorem zEs{shelf:Nat}{fl:List Gla.Fired}:∀ (ks:List Nat),(Zx shelf fl ks).length<=ks.length*(3*fl.length)
|[]=>by simp[Zx]
|k::ks=>by
  have h1:=zEs (shelf:=shelf) (fl:=fl) ks;have h2:=zKP (shelf:=shelf) (fl:=fl) (k:=k);unfold Zx at *
  rw[U3,Wi,zFu,Wn,Nat.succ_mul]
  lia
theorem zRt{shelf:Nat}{fl:List Gla.Fired}{xs:List (Nat×Nat)}:Zx shelf fl (Zi xs)=Gla.loadRow (Gla.loadsOf (gk xs) shelf fl):=by
 unfold Zx Zi Gla.loadsOf;rw[show (gk xs).length=xs.length from zX ..];generalize Gla.inOrder (Gla.hotter (gk xs)) (List.range xs.length)=ks;unfold Gla.loadRow;rw[List.flatMap_assoc];rfl
section
variable {P:Program}{w:World}{K:Qf}{mg:Qm}{base:Heap}{C T1 T2:Addr}
def zLh (H H':Hp):Prop:=∀ b o,H b=some o->(∀ ps,o≠.tbl ps)->H' b=some o
theorem zTJ{H H':Hp}{qa:Addr}{fl:List Gla.Fired}(h:YY K H qa fl)(s:zLh H H'):YY K H' qa fl:=by
 obtain⟨vs,e,z⟩:=h;refine⟨vs,s _ _ e (λ_ z=>by cases z),z.mono λv x r=>?_⟩;obtain⟨a,C,dx,fs,ca,e1,e2,e3,e4,e5,e6,e7,n1,n2,e8⟩:=r;exact⟨a,C,dx,fs,ca,e1,s _ _ e2 (λ_ z=>by cases z),e3,e4,e5,e6,e7,n1,n2,s _ _ e8 (λ_ z=>by cases z)⟩
theorem zOe{H H':Hp}{T z:Addr}{pos:Pos}{q:Str}{o:HO}(h:ZT H T pos q)(s:∀ b o,b≠z->H b=some o->H' b=some o)(hz:H z=some o)(n1:z≠T)(n2:∀ c,o≠.ext (zE6 c q)):ZT H' T pos q:=by
 rcases h with h|⟨c,h1,h2⟩
 .exact .inl (s _ _ (Ne.symm n1) h)
 .exact .inr ⟨c,s _ _ (Ne.symm n1) h1,s _ _ (λe=>by rw[e,hz] at h2;exact n2 _ (Wu h2)) h2⟩
def zOf (K:Qf)(T1 T2:Addr):Sp:=λvs H Q _=>∃ (ka qa:Addr) (xs:List (Nat×Nat)) (fl:List Gla.Fired) (shelf:Nat),vs=[.ref ka,.ref qa,.int (shelf:Int)]/\zl (RKd K) H ka xs/\xs.length<=16/\YY K H qa fl/\fl.length<10000/\ZT H T1 zLf zHy/\ZT H T2 zEA zCF/\∀ H' q,H' q=some (.lst (zm (Zx shelf fl (Zi xs))))->Q (.ref q) H'
theorem zGd:zO ["kinds","pieces","shelf","row","kind","load"] ["kinds","pieces","shelf"] (zI zBH):=yE
theorem zRu(D:zV K mg "row_of_loads" zBH ["kinds","pieces","shelf"])(OH:Ok P w K mg base 3 "hottest_first" ["kinds"] (zRo K T1))(OL:Ok P w K mg base 4 "loads_of" ["kind","pieces","shelf"] (zOd K T2))(ml:mg "len" = none)(h12:T2≠T1):Ok P w K mg base 5 "row_of_loads" ["kinds","pieces","shelf"] (zOf K T1 T2):=by
 refine D.ok zGd (λvs H Q E h=>?_) (λf cdv A outer s H vs Q E hr h=>?_)
 .obtain⟨ka,qa,xs,fl,shelf,rfl,_⟩:=h;rfl
 .refine Wa λng=>?_
  obtain⟨ka,qa,xs,fl,shelf,rfl,LK,hx,PC,hfl,tb1,tb2,k⟩:=h;refine ng ?_;have hr3:zn 3 _:=hr.mono (by decide);have hhl:(Zi xs).length=xs.length:=by unfold Zi;rw[zBi,VP]
  refine⟨_,zF (za (i:=3) zGd.nd rfl (Or.inl rfl) (yZ zC))
   (zF (yF Wt rfl (yt (zR OH hr3 (zA (pv 0) zC))) (zT (i:=4) zGd.nd rfl (Or.inl rfl))
    (zG (yF Wt rfl (yt (zR OL hr (zA (pv 4) (zA (pv 1) (zA (pv 2) zC))))) (zT (i:=5) zGd.nd rfl (Or.inl rfl))
     (zF (yK (YK Wy PySem.F.slot_list_extend PySem.F.type_list_extend zHK (pv 3) (zA (yZ (zA (pv 4) (zA (yH ml (zA (zP (pv 5) rfl) zC)) zC))) zC)))
     (zG (yK (YK Wy PySem.F.slot_list_extend PySem.F.type_list_extend zHK (pv 3) (zA (zP (pv 5) rfl) zC))))))))
   (zG (zS (pv 3)))),?_⟩
  refine⟨Ww _,λra nra=>?_⟩;have s0:zH H (upd H ra (.lst [])):=zQ (zH.refl H) nra;obtain⟨p1,hp1⟩:=zCS tb1;have raT1:ra≠T1:=λe=>by rw[e,hp1] at nra;cases nra
  refine⟨_,rfl,ka,xs,rfl,LK.same zCw s0,hx,Yr tb1 s0,λH1 hl s1 tb1' nhl hhl1=>?_⟩;have hne:hl≠ra:=λe=>by rw[e,zE] at nhl;cases nhl
  have hra1:=s1 _ _ raT1 (show upd H ra (.lst []) ra=some (.lst []) from zE);have tb2':ZT H1 T2 zEA zCF:=zOe (z:=T1) (Yr tb2 s0) s1 (s0 _ _ hp1) (Ne.symm h12) (λc z=>by cases z);have st1:zLh H H1:=λb o e n=>s1 b o (λz=>by rw[z,hp1] at e;exact n _ (Wu e).symm) (s0 b o e)
  have big:∀ i,i<=(Zi xs).length->(Zx shelf fl ((Zi xs).take i)).length<=480000:=λi hi=>by
   have h1:=zEs (shelf:=shelf) (fl:=fl) ((Zi xs).take i);rw[WF] at h1;have h2:min i (Zi xs).length*(3*fl.length)<=16*30000:=Nat.mul_le_mul (by lia) (by lia)
   lia
  refine⟨hl,rfl,⟨_,zN.of hhl1⟩,Zl (K:=K) (a:=hl) (xs:=zm (Zi xs)) (λi σ Hx=>∃ v4 v5:Option V,σ=[some (.ref ka),some (.ref qa),some (.int (shelf:Int)),some (.ref ra),v4,v5]/\zLh H Hx/\Hx hl=some (.lst (zm (Zi xs)))/\ZT Hx T2 zEA zCF/\Hx ra=some (.lst (zm (Zx shelf fl ((Zi xs).take i)))))
   ⟨none,none,rfl,st1,hhl1,tb2',hra1⟩ (λi σ Hx _ hh=>hh.elim λ_ hh=>hh.elim λ_ hh=>zN.of hh.2.2.1) ?_ ?_⟩
  .rintro i y σ Hx hi ⟨v4,v5,rfl,s2,hhl2,tbx,hra2⟩;obtain⟨kk,hik,rfl⟩:=zDc hi;have hib:=big i (Vi (yG hik).1);obtain⟨p2,hp2⟩:=zCS tbx;have raT2:ra≠T2:=λe=>by rw[e,hp2] at hra2;cases hra2
   have hlT2:hl≠T2:=λe=>by rw[e,hp2] at hhl2;cases hhl2
   refine⟨_,rfl,_,rfl,_,rfl,kk,shelf,qa,fl,rfl,zTJ PC s2,hfl,tbx,λH2 la as L tb3=>?_⟩;have s3:∀ b o,b≠T2->Hx b=some o->H2 b=some o:=λb o nb e=>L.same _ _ (by unfold zFt;rw[Wb nb];exact e)
   have nra':∀ b,zFt T2 Hx b=none->b≠ra:=λb e z=>by rw[z] at e;unfold zFt at e;rw[Wb raT2,hra2] at e;cases e
   have hwt:=zKP (shelf:=shelf) (fl:=fl) (k:=kk)
   refine⟨la,rfl,⟨_,zN.of L.lst⟩,Zl (K:=K) (a:=la) (xs:=as.map λx=>V.ref x.1) (λj σ Hy=>∃ v5:Option V,σ=[some (.ref ka),some (.ref qa),some (.int (shelf:Int)),some (.ref ra),some (.int (kk:Int)),v5]/\(∀ b o,b≠ra->H2 b=some o->Hy b=some o)/\Hy ra=some (.lst (zm (Zx shelf fl ((Zi xs).take i)++zCl kk ((zAJ shelf (ZS fl kk)).take j)))))
    ⟨_,rfl,λb o _ e=>e,by rw[List.take_zero];show _=some (HO.lst (zm (_++[])));rw[VU];exact s3 _ _ raT2 hra2⟩ (λj σ Hy _ hh=>hh.elim λ_ hh=>zN.of (hh.2.1 _ _ (nra' _ L.nla) L.lst)) ?_ ?_⟩
   .rintro j y σ Hy hj ⟨v5,rfl,sy,hra3⟩;obtain⟨x,hjx,rfl⟩:=yV hj;have hjq:j<(zAJ shelf (ZS fl kk)).length:=by rw[<-L.len];exact (yG hjx).1
    have el:=yQ hjq;generalize hlj:(zAJ shelf (ZS fl kk))[j]=l at el;refine Wa λng=>?_
    obtain⟨C1,d1,a1,a2,a3,a4,a5⟩:=L.at_ j x l hjx el;refine ng ?_;obtain⟨n1,n2,n3⟩:=L.new x (ZM hjx);have x1:x.1≠ra:=nra' _ n1;have x2:x.2≠ra:=nra' _ n2;have b1:=sy _ _ x1 a1;have b2:=sy _ _ x2 a5
    have hpre:(Zx shelf fl ((Zi xs).take i)++zCl kk ((zAJ shelf (ZS fl kk)).take (j+1))).length<=480000+30000:=by
     rw[Wi,zFu];have:=zQN (q:=zAJ shelf (ZS fl kk)) (j:=j+1)
     lia
    rw[zv el,zHl,<-Uk] at hpre;rw[Wi,Wi] at hpre;have hsz:∀ n,n<=510000->n<=sizeLine:=λn hn=>WT hn (by decide)
    refine⟨_,rfl,.inl ⟨rfl,_,zN.of hra3⟩,_,rfl,_,rfl,x.1,C1,d1,_,_,rfl,b1,a2,a3,zBu (by decide),x.2,_,rfl,.inl (zN.of b2),(by show 2<=sizeLine;decide),λt nt=>?_⟩;rw[zw,zX];have st:zH Hy (upd Hy t (.lst [.int (kk:Int),.int ((l.length:Nat):Int)])):=zQ (zH.refl Hy) nt;have tr:t≠ra:=λe=>by rw[e,hra3] at nt;cases nt
    refine⟨ra,t,_,_,rfl,rfl,st _ _ hra3,zE,?_,?_⟩
    .rw[zw];exact hsz _ (by simp only[Wi,Wn,VS,zX] at hpre ⊢;lia)
    .have c1:upd (upd Hy t (.lst [.int (kk:Int),.int ((l.length:Nat):Int)])) ra (.lst (zm (Zx shelf fl ((Zi xs).take i)++zCl kk ((zAJ shelf (ZS fl kk)).take j))++[.int (kk:Int),.int ((l.length:Nat):Int)])) ra=some (.lst (zm (Zx shelf fl ((Zi xs).take i)++zCl kk ((zAJ shelf (ZS fl kk)).take j))++[.int (kk:Int),.int ((l.length:Nat):Int)])):=zE;refine⟨_,rfl,.inl ⟨rfl,_,zN.of c1⟩,_,rfl,x.1,C1,d1,_,_,rfl,by rw[zD x1];exact st _ _ b1,a2,a3,zBu (by decide),ra,x.2,_,_,rfl,rfl,c1,by rw[zD x2];exact st _ _ b2,?_,?_⟩
     .rw[Wi,zw,zw];exact hsz _ (by simp only[Wi,Wn,VS,zX] at hpre ⊢;lia)
     .refine⟨_,rfl,λb o nb e=>by rw[zD nb,zD nb];exact st _ _ (sy b o nb e),?_⟩;rw[zE,zv el,zHl];unfold zm;simp only[Wq,Wo,Xr,Uk]
   .rintro σ Hy ⟨v5,rfl,sy,hra3⟩;rw[zX,L.len,WV,<-zLg,<-zv hik] at hra3;refine⟨_,_,rfl,λb o eb n=>sy b o (zJ eb nra) (s3 _ _ (λz=>?_) (s2 _ _ eb n)),?_,?_,hra3⟩
    .have e:=s2 _ _ eb n;rw[z,hp2] at e;exact n _ (Wu e).symm
    .exact sy _ _ hne (s3 _ _ hlT2 hhl2)
    .exact zOe (z:=ra) tb3 sy (s3 _ _ raT2 hra2) raT2 (λc z=>by cases z)
  .rintro σ Hx ⟨v4,v5,rfl,s2,hhl2,tbx,hra2⟩;rw[zw,WV] at hra2;exact⟨_,rfl,k _ _ hra2⟩
end
def ldA (o:Option Nat)(row:List Nat):List Int:=match o with
|some i=>[-3,(i:Int)]
|none=>0::(row.length:Int)::iL row
def ldR (shelf:Nat)(b:Gla.Bytes)(kr pr:List Nat):List Int:=match zCk kr pr b with
|some l=>l
|none=>ldA (Gla.tooWide shelf (YR (Gla.parts b) ((ZC pr).map Prod.snd))) (Zx shelf (YR (Gla.parts b) ((ZC pr).map Prod.snd)) (Zi (Zy kr)))
theorem zQO(o:Option Nat)(row:List Nat):KilnNeutral.told (match o with
 |some i=>.refused [-3,(i:Int)]
 |none=>.row row)=ldA o row:=by
 cases o with
|some i=>rfl
|none=>
  show (0:Int)::KilnNeutral.rowN (KilnNeutral.ints row)=0::(row.length:Int)::iL row;unfold KilnNeutral.rowN KilnNeutral.ints iL;rw[zX];rfl
theorem zLi(shelf:Nat)(b:Gla.Bytes)(kr pr:List Nat)(hb:b.length<=100000):PyYqglga.loads (Int.ofNat shelf) (bI b) (iL kr) (iL pr)=ldR shelf b kr pr:=by
 obtain⟨KK,e1,e2,e3,e4⟩:=zQE kr pr;show KilnNeutral.f [[4,Int.ofNat shelf],bI b,iL kr,iL pr]=_
 have ec:KilnNeutral.callOf [[4,Int.ofNat shelf],bI b,iL kr,iL pr]=some (.loads b KK shelf):=by
  show (do some (GlaKilns.Call.loads (<-KilnNeutral.bytes (bI b)) (<-KilnNeutral.both (iL kr) (iL pr)) (<-KilnNeutral.nat (Int.ofNat shelf))):Option GlaKilns.Call)=_;rw[zN5,e1,zFK];rfl
 unfold KilnNeutral.f;rw[ec];show KilnNeutral.told (GlaKilns.answer (.loads b KK shelf))=_;unfold GlaKilns.answer;have ea:GlaKilns.asked (.loads b KK shelf)=(Zh kr&&Z0 (Zy kr) (ZC pr)):=e2;rw[ea];unfold ldR zCk;by_cases h1:Zh kr=true
 .by_cases h2:Z0 (Zy kr) (ZC pr)=true
  .rw[h1,h2,Wb (by decide),Wb (by decide),Wb (by decide)];dsimp only;unfold GlaKilns.ofPlan;rw[Wb (by unfold GlaKilns.BYTES GlaKilns.ROW;lia)];cases hp:zAf b with
  |some z=>
    unfold zAf at hp;cases e:Gla.judgePlan b with
   |ok S=>rw[e] at hp;cases hp
   |error x=>
     rw[e] at hp;cases hp;rfl
  |none=>
    rw[zN6 hp];dsimp only;unfold GlaKilns.withCoats
    have hbp:Gla.badPainting KK.paintings (Gla.parts b)=zAM (ZC pr).length (Gla.parts b):=by
     unfold Gla.badPainting zAM;rw[e4,zX]
    rw[hbp];cases zAM (ZC pr).length (Gla.parts b) with
   |some i=>rfl
   |none=>
     dsimp only;rw[e3 h1,e4,zQF h2,<-zN3,zRt];exact zQO _ _
  .have h2':Z0 (Zy kr) (ZC pr)=false:=by simpa using h2
   rw[h1,h2',Wc (by rfl),Wb (by decide),Wc rfl];rfl
 .have h1':Zh kr=false:=by simpa using h1
  rw[h1',Wc (by rfl),Wc rfl];rfl
theorem zKQ{kr:List Nat}(h:Zh kr=true):(Zy kr).length<=16:=by
 unfold Zh YM at h;rw[y9,y9,y9,yr,yr,yr] at h;rw[zDd]
 lia
section
variable {P:Program}{w:World}{K:Qf}{mg:Qm}{base:Heap}{C T1 T2:Addr}
def zKR (K:Qf)(T1 T2:Addr):Sp:=λvs H Q _=>∃ (shelf:Nat) (ca ka pa:Addr) (b:Gla.Bytes) (kr pr:List Nat),vs=[.int (shelf:Int),.ref ca,.ref ka,.ref pa]/\zN K H ca ((bI b).map V.int)/\zN K H ka (zm kr)/\zN K H pa (zm pr)/\kr.length<10000/\pr.length<10000/\ZT H T1 zLf zHy/\ZT H T2 zEA zCF/\
 ∀ (H':Hp) (q:Addr),H' q=some (.lst ((ldR shelf b kr pr).map V.int))->Q (.ref q) H'
theorem zEB:zO ["shelf","cartoon","kinds","paintings","work","too_large","row"] ["shelf","cartoon","kinds","paintings"] (zI zGw):=yE
theorem zQP{shelf:Nat}{fl:List Gla.Fired}{xs:List (Nat×Nat)}(hx:xs.length<=16)(hf:fl.length<10000):(Zx shelf fl (Zi xs)).length<=480000:=by
 have h1:=zEs (shelf:=shelf) (fl:=fl) (Zi xs);have hhl:(Zi xs).length=xs.length:=by unfold Zi;rw[zBi,VP]
 have h2:(Zi xs).length*(3*fl.length)<=16*30000:=Nat.mul_le_mul (by lia) (by lia)
 lia
theorem zN8{f0:Addr}{fd0:FuncData}(D:Def K mg "loads" zGw ["shelf","cartoon","kinds","paintings"] f0 fd0)(OW:Ok P w K mg base 8 "work_of" ["cartoon","kinds","paintings"] (zOY K))(OF:Ok P w K mg base 1 "first_too_large" ["pieces","shelf"] (zOZ K))(OR:Ok P w K mg base 5 "row_of_loads" ["kinds","pieces","shelf"] (zOf K T1 T2))(gN:yl mg "NO_PANE" (-1))(ml:mg "len" = none):Y2 P w K mg base CX0 9 f0 fd0 ["shelf","cartoon","kinds","paintings"] (zKR K T1 T2):=by
 refine D.fn.ok zEB (λvs H Q E h=>?_) (λcdv A outer s H vs Q E hr h=>?_)
 .obtain⟨shelf,ca,ka,pa,b,kr,pr,rfl,_⟩:=h;rfl
 .obtain⟨shelf,ca,ka,pa,b,kr,pr,rfl,hC,hK,hP,lK,lP,tb1,tb2,k⟩:=h;have hr1:zn 1 _:=hr.mono (by decide);have hr5:zn 5 _:=hr.mono (by decide)
  refine⟨_,zF (za (i:=4) zEB.nd rfl (Or.inl rfl) (zR OW hr (zA (pv 1) (zA (pv 2) (zA (pv 3) zC)))))
   (zF (zu (zj YJ (yH ml (zA (zP (pv 4) rfl) zC)) zL (zZ _)) (zG (zS (zP (pv 4) rfl))) zc)
   (zF (za (i:=5) zEB.nd rfl (Or.inl rfl) (zR OF hr1 (zA (zP (pv 4) rfl) (zA (pv 0) zC))))
   (zF (zu (zj zDk (pv 5) (y8 gN) (zZ _)) (zG (zS (yZ (zA (zDj zCJ zL) (zA (pv 5) zC))))) zc)
   (zF (za (i:=6) zEB.nd rfl (Or.inl rfl) (zR OR hr5 (zA (zP (pv 4) rfl) (zA (zP (pv 4) rfl) (zA (pv 0) zC)))))
   (zG (zS (zk zQi (yZ (zA zL (zA (yH ml (zA (pv 6) zC)) zC))) (pv 6)))))))),?_⟩
  refine⟨_,rfl,_,rfl,_,rfl,ca,ka,pa,b,kr,pr,rfl,hC,hK,hP,lK,lP,λH1 wk kq pq rq s1 W WR=>?_⟩;obtain⟨C1,d1,f1,a1,a2,a3,a4,a5,a6,a7,a8⟩:=W;unfold WkR at WR;unfold ldR at k;cases hw:zCk kr pr b with
 |some l=>
   rw[hw] at WR k
   have hl:0<l.length:=by
    unfold zCk at hw;split at hw
    .cases hw;decide
    .split at hw
     .cases hw;decide
     .split at hw
      .cases hw;exact UZ _
      .split at hw
       .cases hw;exact UZ _
       .cases hw
   refine⟨_,rfl,wk,C1,d1,f1,_,rfl,a1,a2,a5,a8,rq,_,rfl,.inl (zN.of WR),_,_,rfl,rfl,_,rfl,?_⟩;rw[zX,WO (by lia)];exact zGl ⟨_,rfl,wk,C1,d1,f1,_,rfl,a1,a2,a5,a8,k _ _ WR⟩
 |none=>
   rw[hw] at WR k;obtain⟨w1,w2,w3,w4,w5,w6⟩:=WR;refine⟨_,rfl,wk,C1,d1,f1,_,rfl,a1,a2,a5,a8,rq,_,rfl,.inl (zN.of w1),_,_,rfl,rfl,_,rfl,zKk ?_⟩;refine⟨_,rfl,wk,C1,d1,f1,_,rfl,a1,a2,a4,a7,_,rfl,pq,_,shelf,rfl,w3,λH2 s2=>?_⟩;have hf:=zM0 (cs:=(ZC pr).map Prod.snd) w6;generalize YR (Gla.parts b) ((ZC pr).map Prod.snd)=fl at *
   cases ht:Gla.tooWide shelf fl with
  |some i=>
    rw[ht] at k;refine⟨_,rfl,rfl,_,rfl,?_⟩;show if (!decide (V.int ((i:Nat):Int)=V.int (-1)))=true then _ else _
    rw[WH (λz=>by injection z with z;lia)];refine zGl ⟨_,rfl,_,rfl,(by show 2<=sizeLine;decide),λp np=>k _ p zE⟩
  |none=>
    rw[ht] at k;refine⟨_,rfl,rfl,_,rfl,?_⟩;show if (!decide (V.int (-1)=V.int (-1)))=true then _ else _
    refine zSD rfl ?_;have s12:=s1.trans s2;refine⟨_,rfl,wk,C1,d1,f1,_,rfl,s2 _ _ a1,a2,a3,a6,_,rfl,wk,C1,d1,f1,_,rfl,s2 _ _ a1,a2,a4,a7,_,rfl,kq,pq,Zy kr,fl,shelf,rfl,w2.same zCw s2,zKQ w4,w3.same s2,hf,Yr tb1 s12,Yr tb2 s12,λH3 q hq=>?_⟩;refine⟨_,rfl,q,_,rfl,.inl (zN.of hq),(by show 2<=sizeLine;decide),λz nz=>?_⟩;have s4:zH H3 (upd H3 z (.lst [.int 0,.int (((zm (Zx shelf fl (Zi (Zy kr)))).length:Nat):Int)])):=zQ (zH.refl H3) nz;refine⟨_,rfl,z,q,_,_,rfl,rfl,zE,s4 _ _ hq,?_,λp np=>k _ p ?_⟩
    .rw[zw];have:=zQP (shelf:=shelf) (zKQ w4) hf;exact WT (show 2+(Zx shelf fl (Zi (Zy kr))).length<=480002 by lia) (by decide)
    .rw[zE,zw,zAI];rfl
end
def zN9 (K:Qf)(mg:Qm)(x:Str)(T:Addr):Prop:=∃ f c o oc fd vs,mg x=some (.ref f)/\K.lookup f=some o/\o.data=.func fd/\fd.code=.ref c/\K.lookup c=some oc/\oc.data=.fields vs/\vs[11]?=some (.ref T)
theorem zKS{K:Qf}{h:Heap}{mg:Qm}{x:Str}{st:Stmt}{f c T:Addr}{oc cc:Value}{od an cd:Option Addr}{osl csl:Array (Option Value)}{kV doc pm ct:Value}{vs:Array Value}(X:K.In h)(G:h.Ns mainGlobals mg)
  (a:PySem.W.nsIn K mainGlobals x=some (some (.ref f)))(l:K.lookup f=some ⟨oc,od,.func (PySem.W.fnOf x x (Zz st) (ZG st) (zI st) .none kV doc pm an (.ref c) ct),osl⟩)(lc:K.lookup c=some ⟨cc,cd,.fields vs,csl⟩)(e:vs[11]?=some (.ref T)):zN9 K mg x T:=
 ⟨f,c,_,_,_,vs,Va X G a,l,rfl,rfl,lc,rfl,e⟩
end Kn
open PySem PySem.W PyProof.Rows
set_option maxRecDepth 100000 in
set_option maxHeartbeats 0 in
theorem PySem.Challenge.cw_kilnloads_s04_loads_holds : PySem.Challenge.rw_kilnloads_s04_loads.Holds := by
 w_on;k_headS;(case hw=>exact⟨[.int 0,.list [],.list [],.list []],by decide +kernel,by decide +kernel⟩)
 k_fillS
 refine Kl.zKz (r:=PySem.Challenge.rw_kilnloads_s04_loads) (k:=9) (CX:=L2.CX0) (ps:=["shelf","cartoon","kinds","paintings"]) (x1:="hottest_first") (x2:="largest_first") (sp:=Kn.zKR) (by decide +kernel) rfl rfl ⟨rfl,by decide,by decide⟩ (λw h Y=>PySem.W.kIn_of Y) (λp=>by kernel_rfl) (by decide +kernel) (by decide +kernel) ?F ?S (λ_ _ _ _ z=>z)
 case F=>
  intro w mg fa h Y KX G hmg;have D15:=Kn.yI "is_within" Kn.zC7 ["number","least","greatest"] KX G (λ_ _ _ _ _ _=>Kn.bn3 λ_ _ _=>rfl);have g150:Kn.yl mg "HOTTEST" (1400):=Kn.Yc KX G (by k_is);have g55:Kn.yl mg "LONGEST_HOLD" (9999):=Kn.Yc KX G (by k_is);obtain⟨C176,T156,I165⟩:∃ C,Kn.zLS _ mg C/\Kn.yj _ C "Kind.__init__" Kn.zC8 ["self","heat","hold"]:=⟨_,Kn.zP5 KX G (by k_is) (by k_is) (by k_is) (by k_is) (by k_is) (by k_is) (by k_is),Kn.Zv KX (by k_is) (by k_is) (by k_is) (by k_is) (by k_is) (by k_is) (by k_is) (λ_ _ _ _ _ _=>Kn.bn3 λ_ _ _=>rfl)⟩
  have D151:=Kn.yI "is_kind" Kn.zEZ ["heat","hold"] KX G (λ_ _ _ _ _ _=>Kn.bn2 λ_ _=>rfl);have g12:Kn.yl mg "NO_PANE" (-1):=Kn.Yc KX G (by k_is);obtain⟨C170,T114,I160⟩:∃ C,Kn.zLY _ mg C/\Kn.yj _ C "Piece.__init__" Kn.zCT ["self","area","coats"]:=⟨_,Kn.zQC KX G (by k_is) (by k_is) (by k_is) (by k_is) (by k_is) (by k_is) (by k_is),Kn.Zv KX (by k_is) (by k_is) (by k_is) (by k_is) (by k_is) (by k_is) (by k_is) (λ_ _ _ _ _ _=>Kn.bn3 λ_ _ _=>rfl)⟩
  obtain⟨C172,T149,I166⟩:∃ C,Kn.zLd _ mg C/\Kn.yj _ C "Load.__init__" Kn.zC9 ["self"]:=⟨_,Kn.zQG KX G (by k_is) (by k_is) (by k_is) (by k_is) (by k_is) (by k_is) (by k_is),Kn.Zv KX (by k_is) (by k_is) (by k_is) (by k_is) (by k_is) (by k_is) (by k_is) (λ_ _ _ _ _ _=>Kn.YL λ_=>rfl)⟩
  have D7:=Kn.yI "first_without_painting" Kn.Z6 ["panes","paintings"] KX G (λ_ _ _ _ _ _=>Kn.bn2 λ_ _=>rfl);have D87:=Kn.yI "blank_area" Kn.zAF ["corners"] KX G (λ_ _ _ _ _ _=>Kn.YL λ_=>rfl);have D135:=Kn.yI "coats_of" Kn.zDu ["pane","paintings"] KX G (λ_ _ _ _ _ _=>Kn.bn2 λ_ _=>rfl);have D109:=Kn.yI "pieces_of" Kn.zBd ["panes","paintings"] KX G (λ_ _ _ _ _ _=>Kn.bn2 λ_ _=>rfl);have D30:=Kn.yI "first_too_large" Kn.zAO ["pieces","shelf"] KX G (λ_ _ _ _ _ _=>Kn.bn2 λ_ _=>rfl);have D44:=Kn.yI "hottest_first" Kn.Y8 ["kinds"] KX G (λ_ _ _ _ _ _=>Kn.YL λ_=>rfl);have D42:=Kn.yI "largest_first" Kn.YO ["kind","pieces"] KX G (λ_ _ _ _ _ _=>Kn.bn2 λ_ _=>rfl);have D129:=Kn.yI "load_for" Kn.zDv ["area","loads","shelf"] KX G (λ_ _ _ _ _ _=>Kn.bn3 λ_ _ _=>rfl);have D118:=Kn.yI "loads_of" Kn.zDw ["kind","pieces","shelf"] KX G (λ_ _ _ _ _ _=>Kn.bn3 λ_ _ _=>rfl);have D51:=Kn.yI "row_of_loads" Kn.zBH ["kinds","pieces","shelf"] KX G (λ_ _ _ _ _ _=>Kn.bn3 λ_ _ _=>rfl);obtain⟨C171,T113,I159⟩:∃ C,Kn.zK4 _ mg C/\Kn.yj _ C "Point.__init__" Kn.zCU ["self","x","y"]:=⟨_,Kn.zPO KX G (by k_is) (by k_is) (by k_is) (by k_is) (by k_is) (by k_is) (by k_is),Kn.Zv KX (by k_is) (by k_is) (by k_is) (by k_is) (by k_is) (by k_is) (by k_is) (λ_ _ _ _ _ _=>Kn.bn3 λ_ _ _=>rfl)⟩
  have D161:=Kn.yI "turn" Kn.zId ["p","q","r"] KX G (λ_ _ _ _ _ _=>Kn.bn3 λ_ _ _=>rfl);have D68:=Kn.yI "is_on" Kn.zGv ["r","p","q"] KX G (λ_ _ _ _ _ _=>Kn.bn3 λ_ _ _=>rfl);have D137:=Kn.yI "crosses" Kn.zEa ["p","q","r","s"] KX G (λ_ _ _ _ _ _=>Kn.bn4 λ_ _ _ _=>rfl);have D106:=Kn.yI "is_behind" Kn.zDA ["point","other"] KX G (λ_ _ _ _ _ _=>Kn.bn2 λ_ _=>rfl);have g81:=Kn.zSZ (x:="FIRST_BYTES") KX G (by k_is) (by k_is);have g6:Kn.yl mg "HEAD_SIZE" (20):=Kn.Yc KX G (by k_is);have g9:Kn.yl mg "POINT_SIZE" (8):=Kn.Yc KX G (by k_is);have g13:Kn.yl mg "LINE_SIZE" (4):=Kn.Yc KX G (by k_is);have g14:Kn.yl mg "MARK_SIZE" (12):=Kn.Yc KX G (by k_is);have g59:=Kn.zRk KX G (by k_is) (by k_is) (by k_is) (by k_is) (by k_is) (by k_is) (by k_is) (by k_is);obtain⟨CX,R_X⟩:∃ CX,∀ (P:PySem.Program) (w':PySem.World) (base:PySem.Heap),Kn.XR P w' _ mg base CX:=⟨_,λP w' base=>Kn.zSY KX G (by k_is) (by k_is) (by k_is) (by k_is) (Kn.zSX rfl) (by k_is) (by k_is) (by k_is) (by k_is) (by k_is) (by k_is) (by k_is) (by k_is) (by k_is) (λ_ _ _ _ _ _=>Kn.bn3 λ_ _ _=>rfl)⟩
  obtain⟨C173,T140,I163⟩:∃ C,Kn.zK5 _ mg C/\Kn.yj _ C "Mark.__init__" Kn.zDB ["self","x","y","painting"]:=⟨_,Kn.zPP KX G (by k_is) (by k_is) (by k_is) (by k_is) (by k_is) (by k_is) (by k_is) (by k_is),Kn.Zv KX (by k_is) (by k_is) (by k_is) (by k_is) (by k_is) (by k_is) (by k_is) (λ_ _ _ _ _ _=>Kn.bn4 λ_ _ _ _=>rfl)⟩
  obtain⟨C169,T70,I148⟩:∃ C,Kn.zK6 _ mg C/\Kn.yj _ C "Cartoon.__init__" Kn.zBI ["self","width","height","points","lines","marks"]:=⟨_,Kn.zPQ KX G (by k_is) (by k_is) (by k_is) (by k_is) (by k_is) (by k_is) (by k_is) (by k_is) (by k_is) (by k_is),Kn.Zv KX (by k_is) (by k_is) (by k_is) (by k_is) (by k_is) (by k_is) (by k_is) (λ_ _ _ _ _ _=>Kn.bn6 λ_ _ _ _ _ _=>rfl)⟩
  have D107:=Kn.yI "number_at" Kn.zDC ["data","place","size"] KX G (λ_ _ _ _ _ _=>Kn.bn3 λ_ _ _=>rfl);have D82:=Kn.yI "point_place" Kn.zBy ["number"] KX G (λ_ _ _ _ _ _=>Kn.YL λ_=>rfl);have D95:=Kn.yI "line_place" Kn.zCV ["cartoon","number"] KX G (λ_ _ _ _ _ _=>Kn.bn2 λ_ _=>rfl);have D103:=Kn.yI "mark_place" Kn.zCW ["cartoon","number"] KX G (λ_ _ _ _ _ _=>Kn.bn2 λ_ _=>rfl);have D100:=Kn.yI "lines_from" Kn.zCX ["data"] KX G (λ_ _ _ _ _ _=>Kn.YL λ_=>rfl);have D92:=Kn.yI "marks_from" Kn.zCY ["data"] KX G (λ_ _ _ _ _ _=>Kn.YL λ_=>rfl);have D105:=Kn.yI "marks_end" Kn.zDD ["data"] KX G (λ_ _ _ _ _ _=>Kn.YL λ_=>rfl);have D89:=Kn.yI "judge_head" Kn.zCZ ["data"] KX G (λ_ _ _ _ _ _=>Kn.YL λ_=>rfl);have D119:=Kn.yI "point_at" Kn.zDx ["data","place"] KX G (λ_ _ _ _ _ _=>Kn.bn2 λ_ _=>rfl);have D153:=Kn.yI "line_at" Kn.zEb ["data","place"] KX G (λ_ _ _ _ _ _=>Kn.bn2 λ_ _=>rfl);have D145:=Kn.yI "mark_at" Kn.zEc ["data","place"] KX G (λ_ _ _ _ _ _=>Kn.bn2 λ_ _=>rfl);have D141:=Kn.yI "told_by" Kn.zAt ["data"] KX G (λ_ _ _ _ _ _=>Kn.YL λ_=>rfl);have D54:=Kn.yI "judge_points" Kn.zBJ ["cartoon"] KX G (λ_ _ _ _ _ _=>Kn.YL λ_=>rfl);have D84:=Kn.yI "judge_lines" Kn.zBz ["cartoon"] KX G (λ_ _ _ _ _ _=>Kn.YL λ_=>rfl);have g101:Kn.yl mg "MOST_KINDS" (16):=Kn.Yc KX G (by k_is);have g33:Kn.yl mg "MOST_PAINTINGS" (256):=Kn.Yc KX G (by k_is);have g91:Kn.yl mg "MOST_COATS" (4):=Kn.Yc KX G (by k_is);obtain⟨C168,T41,I124⟩:∃ C,Kn.zLT _ mg C/\Kn.yj _ C "Painting.__init__" Kn.zA4 ["self","how_many","coats"]:=⟨_,Kn.zP6 KX G (by k_is) (by k_is) (by k_is) (by k_is) (by k_is) (by k_is) (by k_is),Kn.Zv KX (by k_is) (by k_is) (by k_is) (by k_is) (by k_is) (by k_is) (by k_is) (λ_ _ _ _ _ _=>Kn.bn3 λ_ _ _=>rfl)⟩
  have D110:=Kn.yI "are_kinds" Kn.zDE ["row"] KX G (λ_ _ _ _ _ _=>Kn.YL λ_=>rfl);have D128:=Kn.yI "kinds_of" Kn.zCA ["row"] KX G (λ_ _ _ _ _ _=>Kn.YL λ_=>rfl);have D69:=Kn.yI "paintings_of" Kn.zBK ["row"] KX G (λ_ _ _ _ _ _=>Kn.YL λ_=>rfl);have D102:=Kn.yI "heats_fall" Kn.zCa ["coats","kinds"] KX G (λ_ _ _ _ _ _=>Kn.bn2 λ_ _=>rfl);have D72:=Kn.yI "is_painting" Kn.zB0 ["painting","kinds"] KX G (λ_ _ _ _ _ _=>Kn.bn2 λ_ _=>rfl);have D46:=Kn.yI "are_paintings" Kn.zA5 ["paintings","kinds"] KX G (λ_ _ _ _ _ _=>Kn.bn2 λ_ _=>rfl);have g36:Kn.yl mg "NO_POINT" (-1):=Kn.Yc KX G (by k_is);have D75:=Kn.yI "has_corners" Kn.zAc ["cartoon"] KX G (λ_ _ _ _ _ _=>Kn.YL λ_=>rfl);have D127:=Kn.yI "edges_of" Kn.zDy ["cartoon"] KX G (λ_ _ _ _ _ _=>Kn.YL λ_=>rfl);have D111:=Kn.yI "is_joined" Kn.zDF ["edge","joined"] KX G (λ_ _ _ _ _ _=>Kn.bn2 λ_ _=>rfl);have D83:=Kn.yI "judge_frame" Kn.zAd ["cartoon"] KX G (λ_ _ _ _ _ _=>Kn.YL λ_=>rfl);have D17:=Kn.yI "has_point_between" Kn.Y3 ["points","line"] KX G (λ_ _ _ _ _ _=>Kn.bn2 λ_ _=>rfl);have D98:=Kn.yI "is_crossed" Kn.zCb ["points","line","others"] KX G (λ_ _ _ _ _ _=>Kn.bn3 λ_ _ _=>rfl);have D26:=Kn.yI "judge_crossings" Kn.zAP ["cartoon"] KX G (λ_ _ _ _ _ _=>Kn.YL λ_=>rfl);have D40:=Kn.yI "neighbours_of" Kn.Y9 ["cartoon"] KX G (λ_ _ _ _ _ _=>Kn.YL λ_=>rfl);have D65:=Kn.yI "reached_from" Kn.zAL ["start","neighbours","left_out"] KX G (λ_ _ _ _ _ _=>Kn.bn3 λ_ _ _=>rfl);have D99:=Kn.yI "judge_ends" Kn.zCc ["neighbours"] KX G (λ_ _ _ _ _ _=>Kn.YL λ_=>rfl);have D88:=Kn.yI "judge_ways" Kn.zCd ["neighbours"] KX G (λ_ _ _ _ _ _=>Kn.YL λ_=>rfl);have D58:=Kn.yI "judge_joints" Kn.zBL ["neighbours"] KX G (λ_ _ _ _ _ _=>Kn.YL λ_=>rfl);have D35:=Kn.yI "judge_drawing" Kn.zA6 ["cartoon"] KX G (λ_ _ _ _ _ _=>Kn.YL λ_=>rfl);obtain⟨C175,T146,I162⟩:∃ C,Kn.zLK _ mg C/\Kn.yj _ C "Pane.__init__" Kn.zDG ["self","corners","painting"]:=⟨_,Kn.zPy KX G (by k_is) (by k_is) (by k_is) (by k_is) (by k_is) (by k_is) (by k_is),Kn.Zv KX (by k_is) (by k_is) (by k_is) (by k_is) (by k_is) (by k_is) (by k_is) (λ_ _ _ _ _ _=>Kn.bn3 λ_ _ _=>rfl)⟩
  have D52:=Kn.yI "is_more_left" Kn.zBM ["before","here","point","other"] KX G (λ_ _ _ _ _ _=>Kn.bn4 λ_ _ _ _=>rfl);have D134:=Kn.yI "leftmost" Kn.zDz ["points","joined","before","here"] KX G (λ_ _ _ _ _ _=>Kn.bn4 λ_ _ _ _=>rfl);have D62:=Kn.yI "outline_from" Kn.zBN ["first","second","points","neighbours"] KX G (λ_ _ _ _ _ _=>Kn.bn4 λ_ _ _ _=>rfl);have D25:=Kn.yI "goes_round_left" Kn.zAQ ["corners"] KX G (λ_ _ _ _ _ _=>Kn.YL λ_=>rfl);have D71:=Kn.yI "outlines_of" Kn.zAe ["cartoon"] KX G (λ_ _ _ _ _ _=>Kn.YL λ_=>rfl);have D131:=Kn.yI "is_round" Kn.zD0 ["corners","mark"] KX G (λ_ _ _ _ _ _=>Kn.bn2 λ_ _=>rfl);have D38:=Kn.yI "outline_round" Kn.zA7 ["outlines","mark"] KX G (λ_ _ _ _ _ _=>Kn.bn2 λ_ _=>rfl);have D66:=Kn.yI "is_on_a_line" Kn.zBO ["cartoon","mark"] KX G (λ_ _ _ _ _ _=>Kn.bn2 λ_ _=>rfl);have D24:=Kn.yI "is_within_frame" Kn.zAR ["cartoon","mark"] KX G (λ_ _ _ _ _ _=>Kn.bn2 λ_ _=>rfl);have D80:=Kn.yI "judge_marks" Kn.zB1 ["cartoon"] KX G (λ_ _ _ _ _ _=>Kn.YL λ_=>rfl);have D61:=Kn.yI "marked_panes" Kn.zBP ["cartoon"] KX G (λ_ _ _ _ _ _=>Kn.YL λ_=>rfl);have D122:=Kn.yI "panes_of" Kn.zD1 ["data"] KX G (λ_ _ _ _ _ _=>Kn.YL λ_=>rfl);obtain⟨C174,T34,I143⟩:∃ C,Kn.zI3 _ mg C/\Kn.yj _ C "Work.__init__" Kn.zDH ["self","kinds","pieces","refusal"]:=⟨_,Kn.zQD KX G (by k_is) (by k_is) (by k_is) (by k_is) (by k_is) (by k_is) (by k_is) (by k_is),Kn.Zv KX (by k_is) (by k_is) (by k_is) (by k_is) (by k_is) (by k_is) (by k_is) (λ_ _ _ _ _ _=>Kn.bn4 λ_ _ _ _=>rfl)⟩
  have D152:=Kn.yI "refused" Kn.zEd ["numbers"] KX G (λ_ _ _ _ _ _=>Kn.YL λ_=>rfl);have D136:=Kn.yI "work_of" Kn.zEe ["cartoon","kinds","paintings"] KX G (λ_ _ _ _ _ _=>Kn.bn3 λ_ _ _=>rfl);obtain⟨fd,D53,hbind⟩:=Kn.zOz (x:="loads") (st:=Kn.zGw) (ps:=["shelf","cartoon","kinds","paintings"]) KX G hmg (by k_is) (by k_is) (by k_is) (by k_is) (λ_ _ _ _ _ _=>Kn.bn4 λ_ _ _ _=>rfl);have m167:=Vk (n:="ValueError") KX G (by k_is);have m164:=Vk (n:="dict") KX G (by k_is);have m0:=Vk (n:="enumerate") KX G (by k_is);have m1:=Vk (n:="len") KX G (by k_is);have m116:=Vk (n:="max") KX G (by k_is);have m157:=Vk (n:="min") KX G (by k_is);have m5:=Vk (n:="range") KX G (by k_is);have m117:=Vk (n:="reversed") KX G (by k_is);have m86:=Vk (n:="sorted") KX G (by k_is);have m158:=Vk (n:="tuple") KX G (by k_is)
  obtain⟨T1,T2,h12,hT1,hT2⟩:∃ T1 T2:PySem.Addr,T2≠T1/\Kn.zN9 _ mg "hottest_first" T1/\Kn.zN9 _ mg "largest_first" T2:=by
   refine'⟨_,_,?tne,Kn.zKS (st:=Kn.Y8) KX G ?ta1 ?tl1 ?tc1 ?te1,Kn.zKS (st:=Kn.YO) KX G ?ta2 ?tl2 ?tc2 ?te2⟩
   (case ta1=>k_is);(case tl1=>k_is);(case tc1=>k_is);(case te1=>exact rfl)
   (case ta2=>k_is);(case tl2=>k_is);(case tc2=>k_is);(case te2=>exact rfl)
   decide
  refine⟨fd,T1,T2,hbind,hT1,hT2,λbase _ _ t1 t2=>?_⟩;have O3:=λP=>Kn.zMS (P:=P) (w:=w) (base:=base) D15
  have O45:=λP=>Kn.zPJ (P:=P) (w:=w) (base:=base) D161
  have O22:=λP=>Kn.zSQ (P:=P) (w:=w) (base:=base) D68 (O3 P) (O45 P) m157 m116
  have O138:=λP=>Kn.zNk (P:=P) (w:=w) (base:=base) D137 (O45 P)
  have O32:=λP=>Kn.zK1 (P:=P) (w:=w) (base:=base) D106
  have O2:=λP=>Kn.zQ8 (P:=P) (w:=w) (base:=base) D107 m117
  have O4:=λP=>Kn.zK3 (P:=P) (w:=w) (base:=base) D82 g6 g9
  have O19:=λP=>Kn.zIf (P:=P) (w:=w) (base:=base) D100 (O2 P) g6 g9
  have O21:=λP=>Kn.zIh (P:=P) (w:=w) (base:=base) D92 (O19 P) (O2 P) g13
  have O31:=λP=>Kn.zJQ (P:=P) (w:=w) (base:=base) D105 (O21 P) (O2 P) g14
  have O93:=λP=>Kn.zPN (P:=P) (w:=w) (base:=base) D89 (R_X P w base) (O2 P) (O3 P) (O31 P) g6 g81 g59 m1 m158
  have O126:=λP=>Kn.zPT (P:=P) (w:=w) (base:=base) D119 (O2 P) (Kn.zK8 I159 T113) T113
  have O139:=λP=>Kn.zPV (P:=P) (w:=w) (base:=base) D153 (O2 P)
  have O144:=λP=>Kn.zPX (P:=P) (w:=w) (base:=base) D145 (O2 P) (Kn.zLA I163 T140) T140
  have O155:=λP=>Kn.zPY (P:=P) (w:=w) (base:=base) D141 (O2 P) (O126 P) (O139 P) (O144 P) (O19 P) (O21 P) (O31 P) (Kn.zLC I148 T70) T70 g6 g9 g13 g14 m5
  have O8:=λP=>Kn.zPb (P:=P) (w:=w) (base:=base) D95 (O4 P) g13 m1
  have O20:=λP=>Kn.zPd (P:=P) (w:=w) (base:=base) D103 (O8 P) g14 m1
  have O56:=λP=>Kn.zPe (P:=P) (w:=w) (base:=base) D54 (R_X P w base) (O32 P) (O4 P) m0
  have O74:=λP=>Kn.zPf (P:=P) (w:=w) (base:=base) D84 (R_X P w base) (O8 P) m0 m1
  have O78:=λP=>Kn.zPg (P:=P) (w:=w) (base:=base) D75
  have O132:=λP=>Kn.zRA (P:=P) (w:=w) (base:=base) D127 m0
  have O104:=λP=>Kn.zRB (P:=P) (w:=w) (base:=base) D111 m5 m1
  have O77:=λP=>Kn.zPh (P:=P) (w:=w) (base:=base) D83 (R_X P w base) (O78 P) (O132 P) (O104 P) g6 m164
  have O18:=λP=>Kn.zRC (P:=P) (w:=w) (base:=base) D17 (O22 P) m0
  have O90:=λP=>Kn.zRD (P:=P) (w:=w) (base:=base) D98 (O138 P)
  have O29:=λP=>Kn.zPi (P:=P) (w:=w) (base:=base) D26 (R_X P w base) (O18 P) (O90 P) (O8 P) m0
  have O11:=λP=>Kn.zRE (P:=P) (w:=w) (base:=base) D40
  have O16:=λP=>Kn.zRF (P:=P) (w:=w) (base:=base) D65 m1
  have O96:=λP=>Kn.zPk (P:=P) (w:=w) (base:=base) D99 (R_X P w base) (O4 P) m0 m1
  have O97:=λP=>Kn.zPl (P:=P) (w:=w) (base:=base) D88 (R_X P w base) (O4 P) (O16 P) g36 m0
  have O64:=λP=>Kn.zPm (P:=P) (w:=w) (base:=base) D58 (R_X P w base) (O4 P) (O16 P) m5 m1
  have O39:=λP=>Kn.zPn (P:=P) (w:=w) (base:=base) D35 (O77 P) (O29 P) (O11 P) (O96 P) (O97 P) (O64 P)
  have O60:=λP=>Kn.zPp (P:=P) (w:=w) (base:=base) D52 (O45 P)
  have O120:=λP=>Kn.zSS (P:=P) (w:=w) (base:=base) D134 (O60 P) g36
  have O57:=λP=>Kn.zPq (P:=P) (w:=w) (base:=base) D62 (O120 P)
  have O28:=λP=>Kn.zRI (P:=P) (w:=w) (base:=base) D25 m5 m1
  have O73:=λP=>Kn.zPw (P:=P) (w:=w) (base:=base) D71 (O11 P) (O57 P) (O28 P) m5 m1
  have O121:=λP=>Kn.zRJ (P:=P) (w:=w) (base:=base) D131 (O45 P) m5 m1
  have O37:=λP=>Kn.zST (P:=P) (w:=w) (base:=base) D38 (O121 P)
  have O49:=λP=>Kn.zRL (P:=P) (w:=w) (base:=base) D66 (O22 P)
  have O27:=λP=>Kn.zRN (P:=P) (w:=w) (base:=base) D24
  have O79:=λP=>Kn.zPx (P:=P) (w:=w) (base:=base) D80 (R_X P w base) (O27 P) (O49 P) (O32 P) (O20 P) m0
  have O50:=λP=>Kn.zRP (P:=P) (w:=w) (base:=base) D61 (R_X P w base) (O73 P) (O37 P) (O20 P) (Kn.zLN I162 T146) T146 m0 m1
  have O133:=λP=>Kn.zRR (P:=P) (w:=w) (base:=base) D122 (O93 P) (O155 P) (O56 P) (O74 P) (O39 P) (O79 P) (O50 P)
  have O142:=λP=>Kn.zP9 (P:=P) (w:=w) (base:=base) D151 (O3 P) g150 g55
  have O108:=λP=>Kn.zRS (P:=P) (w:=w) (base:=base) D110 (O3 P) (O142 P) g101 m1 m5
  have O125:=λP=>Kn.zRT (P:=P) (w:=w) (base:=base) D128 (Kn.zLV I165 T156) T156 m1 m5
  have O63:=λP=>Kn.zQA (P:=P) (w:=w) (base:=base) D69 (Kn.zLX I124 T41) T41 m1
  have O94:=λP=>Kn.zQB (P:=P) (w:=w) (base:=base) D102 m1 m5
  have O76:=λP=>Kn.zRW (P:=P) (w:=w) (base:=base) D72 (O3 P) (O94 P) g91 m1 m116
  have O43:=λP=>Kn.zRX (P:=P) (w:=w) (base:=base) D46 (O76 P) g33 m1
  have O10:=λP=>Kn.zRY (P:=P) (w:=w) (base:=base) D7 g12 m0 m1
  have O85:=λP=>Kn.zRZ (P:=P) (w:=w) (base:=base) D87 m116 m157
  have O123:=λP=>Kn.zRb (P:=P) (w:=w) (base:=base) D135
  have O112:=λP=>Kn.zRc (P:=P) (w:=w) (base:=base) D109 (O85 P) (O123 P) (Kn.zLa I160 T114) T114
  have O154:=λP=>Kn.zRf (P:=P) (w:=w) (base:=base) D152 (Kn.zGa I143 T34) T34
  have O147:=λP=>Kn.zRg (P:=P) (w:=w) (base:=base) D136 (R_X P w base) (O108 P) (O125 P) (O63 P) (O43 P) (O133 P) (O10 P) (O112 P) (O154 P) (Kn.zGa I143 T34) T34 g12
  have O23:=λP=>Kn.zRi (P:=P) (w:=w) (base:=base) D30 g12 m0 m1
  have O47:=λP=>Kn.zSb (P:=P) (w:=w) (base:=base) D44 t1 m1 m5 m86
  have O48:=λP=>Kn.zRp (P:=P) (w:=w) (base:=base) D42 t2 m0 m86
  have O115:=λP=>Kn.zRq (P:=P) (w:=w) (base:=base) D129 (Kn.zLe I166 T149) T149
  have O130:=λP=>Kn.zRr (P:=P) (w:=w) (base:=base) D118 (O48 P) (O115 P)
  have O67:=λP=>Kn.zRu (P:=P) (w:=w) (base:=base) D51 (O47 P) (O130 P) m1 h12
  exact Kn.zN8 D53 (O147 _) (O23 _) (O67 _) g12 m1
 case S=>
  intro K T1 T2 H H2 xs a hO hwi hask hx s12 g1 g2;obtain⟨n,c,k,p,u⟩:=a;have q:(Codec.inInt 0 18446744073709551615 n&&((Codec.inLen 0 100000 c&&c.all (Codec.inInt 0 255))&&((Codec.inLen 0 60 k&&k.all (Codec.inInt 0 18446744073709551615))&&((Codec.inLen 0 1500 p&&p.all (Codec.inInt 0 18446744073709551615))&&true))))=true:=hwi;rw[y9,y9,y9,y9,y9,y9,y9] at q;obtain⟨q1,⟨q2,q3⟩,⟨q4,q5⟩,⟨q6,q7⟩,_⟩:=q;cases hx with |cons h1 hx=>
  cases hx with |cons h2 hx=>
  cases hx with |cons h3 hx=>
  cases hx with |cons h4 hx=>
  cases hx;cases h1;cases h2 with |lst s2 a2=>
  cases h3 with |lst s3 a3=>
  cases h4 with |lst s4 a4=>
  have e2:=L2.zEu c _ a2;have e3:=L2.zEu k _ a3;have e4:=L2.zEu p _ a4;subst e2 e3 e4;obtain⟨n,rfl⟩:=Uw (Codec.inInt_iff.mp q1).1;obtain⟨b,rfl⟩:=Kn.zI8 c λx hx=>Codec.inInt_iff.mp (WW.mp q3 x hx)
  obtain⟨k,rfl⟩:=Kn.zHA k λx hx=>(Codec.inInt_iff.mp (WW.mp q5 x hx)).1
  obtain⟨p,rfl⟩:=Kn.zHA p λx hx=>(Codec.inInt_iff.mp (WW.mp q7 x hx)).1
  have l2:=(Codec.inNat_iff.mp q2).2;have l4:=(Codec.inNat_iff.mp q4).2;have l6:=(Codec.inNat_iff.mp q6).2;rw[show (Kn.iL k).length=k.length from zX ..] at l4;rw[show (Kn.iL p).length=p.length from zX ..] at l6;rw[show (Kn.bI b).length=b.length from zX ..] at l2;refine⟨n,_,_,_,b,k,p,rfl,s12.seq s2,by rw[Kn.zAI];exact s12.seq s3,by rw[Kn.zAI];exact s12.seq s4,by omega,by omega,.inl g1,.inl g2,λH' q hq=>?_⟩;rw[<-Kn.zLi n b k p l2] at hq;exact .lst (L2.zN.of hq) (L2.zJe _)
#print axioms PySem.Challenge.cw_kilnloads_s04_loads_holds
