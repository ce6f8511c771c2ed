import PyProof.Rows.All
import Wide.All
import OpenK.AllK
import Wide.FinOn
import Lean
import PyProof.EqAt
import PyProof.EqKinds
import PyProof.TupleCall
import PySem.Str
import PyProof.StationsW
import PyProof.PassesOwn
import PyProof.RulesAs
import PyProof.ExcClass2
import PyProof.InstStore
import PyProof.ExcArgs
import PyProof.ExcClass
import PyProof.InstStoreFacts
import PyProof.ExcBaseAll.Exception
import PyProof.ExcAttrAll.Exception
import PyProof.DictValues
import PyProof.DictWalks
import PyProof.MinMaxWalk
import PyProof.SeqI3
import PyProof.WalkInts
import PyProof.Walks
import PySem.Challenge.RW_spikebook_k06_whole_never_twice
set_option Elab.async false
set_option linter.all false
set_option maxRecDepth 100000
set_option maxHeartbeats 4000000
def ae:=@List.length_map
def af:=@List.getElem?_eq_getElem
def ai:=@List.getD_eq_getElem?_getD
def ak:=@List.mem_singleton
def ao:=@List.getElem?_eq_some_iff
def av:=@List.mem_cons
def ax:=@PySem.Heap.get?_push_of_some
def aA:=@PySem.wpAny_bind
def aB:=@Nat.le_refl
def aD:=@List.getElem?_map
def aE:=@Option.some.inj
def aF:=@List.length_append
def aH:=@PySem.Heap.lt_size
def aJ:=@decide_eq_true
def aL:=@if_neg
def aM:=@List.map_append
def aQ:=@List.mem_cons_of_mem
def aS:=@PySem.Paired.length
def aU:=@Nat.ne_of_lt
def aV:=@Nat.le_trans
def aW:=@Bool.false_ne_true
def aX:=@of_decide_eq_true
def aY:=@List.length_filter_le
def aZ:=@if_pos
def a8:=@List.take_length
def ba:=@Nat.lt_of_lt_of_le
def bb:=@List.mem_append
def bg:=@List.size_toArray
def bh:=@List.mem_cons_self
def bo:=@List.length_take
def bp:=@List.mem_append_right
def bq:=@Nat.zero_le
def br:=@PySem.wpAny_loadPart_at
def bA:=@PySem.wpAny_pure
def bB:=@Option.map_eq_some_iff
def bC:=@decide_eq_false
def bD:=@List.getElem_mem
def bE:=@List.mem_map
def bH:=@PySem.Heap.get?_push_size
def bN:=@PySem.PassesOwn.never
def bT:=@PySem.W.mg_none_of
def bU:=@List.length_cons
def bZ:=@List.append_nil
def b0:=@PySem.mem_of_lookup
def b9:=@PySem.wpAny_mono
def ck:=@Int.eq_ofNat_of_zero_le
def cB:=@PySem.Paired.snoc
def cD:=@Nat.le_succ
def cE:=@List.filter_cons_of_pos
def cK:=@List.mem_range
def cL:=@PySem.wpAny_isSubtype_exc
def cO:=@List.mem_append_left
def cQ:=@congrArg
def cS:=@List.map_cons
def cU:=@PySem.W.mg_of
def c8:=@Nat.le_of_lt
def c9:=@List.replicate_succ
def df:=@List.length_range
def dz:=@List.length_set
def dA:=@List.foldl_cons
def dH:=@PySem.wpAny_passesOwn
def dR:=@PySem.W.kia_one
def dS:=@List.nodup_cons
def dU:=@PySem.W.kia_tup
def ej:=@PySem.wpAny_Call_Name_kw
def eo:=@Int.toNat_natCast
def eu:=@Int.le_refl
def ez:=@List.map_congr_left
def eJ:=@PySem.sizeLine_eq
def eP:=@List.pairwise_cons
def eT:=@Nat.lt_succ_self
def fh:=@List.map_map
def fC:=@List.mem_filter
def fE:=@Nat.not_lt_zero
def fJ:=@PySem.wpAny_truthy_bool
def fR:=@List.filter_append
def gh:=@List.mem_of_getElem?
def gi:=@List.append_assoc
def gj:=@Nat.lt_succ_of_lt
def gz:=@beq_eq_false_iff_ne
def hJ:=@PySem.wpAny_holding
def hV:=@PySem.wpAny_standAt
def iz:=@Nat.le_of_eq
def iA:=@List.length_replicate
def iE:=@Nat.lt_irrefl
def iF:=@PySem.Calls.callWith_builtin
def iG:=@List.flatten_cons
def i9:=@PySem.wpAny_execs_nil
def jU:=@PySem.Heap.size_push
def jV:=@PySem.W.callWith_K
def jW:=@List.filter_cons_of_neg
def jX:=@Int.emod_nonneg
def kG:=@List.getElem?_set_self
def kH:=@PySem.W.cellsFrom_some
def lx:=@Int.le_trans
def ly:=@Int.zero_add
def lV:=@PyProof.Rows.take_snoc
def l6:=@List.length_drop
def l7:=@decide_eq_decide
def md:=@List.getElem?_set_ne
def me:=@PySem.Heap.get?_update_other
def mf:=@PySem.Heap.get?_push_ne
def nP:=@PyProof.Rows.callWith_type1
def nQ:=@Bool.eq_iff_iff
def nR:=@List.of_mem_zip
def nS:=@Option.map_some
def nU:=@Array.length_toList
def oP:=@List.getElem?_append_right
def oQ:=@PySem.Heap.size_update
def pM:=@Nat.ne_of_gt
def pN:=@Nat.lt_of_le_of_lt
def pO:=@Int.emod_lt_of_pos
def pW:=@List.getElem?_eq_none_iff
def pX:=@Nat.mul_le_mul
def q0:=@List.any_eq_false
def ra:=@PySem.W.kitx_list
def rg:=@PySem.W.kitx_dict
def rh:=@List.pairwise_map
def rj:=@List.foldl_append
def rm:=@Nat.le_succ_of_le
def rn:=@PySem.Heap.SameBut.update
def rq:=@Array.size_setIfInBounds
def sR:=@PySem.wpAny_newFunctionEnv_cells
def sS:=@List.any_cons
def tu:=@PySem.tupleKind_room_in1
def tw:=@List.nodup_range
def vH:=@PyProof.Rows.listUpdate_at
def vI:=@Ne.symm
def vJ:=@PySem.W.methodCall_KW
def vK:=@List.map_nil
def vL:=@Nat.succ_mul
def vM:=@List.length_nil
def vN:=@List.getElem?_eq_none
def vO:=@List.map_set
def vP:=@List.range_succ
def xh:=@Nat.not_lt
def yi:=@List.getElem?_of_mem
def Ak:=@List.take_succ
def As:=@PySem.W.plainGet_of
def Au:=@PySem.W.callWith_K0
def Av:=@List.toList_toArray
def CB:=@PySem.codeAny_mono
def CC:=@PySem.Heap.get?_update_self
def CD:=@List.filter_filter
def DZ:=@PySem.wpAny_call
def E9:=@beq_iff_eq
def Fb:=@PySem.Calls.evalArgs_plain
def Fc:=@Option.isSome_map
def Fd:=@List.take_add_one
def Fe:=@List.filter_congr
def Ff:=@Classical.not_not
def Fg:=@PySem.codeAny_call_builtin
def Hj:=@Bool.and_eq_true
def Hl:=@PySem.Heap.get?_update_ne
def Hm:=@List.getElem_map
def Hn:=@PySem.wpAny_field
def Km:=@Array.getD_eq_getD_getElem?
def Kn:=@Array.Perm.refl
def Ko:=@PySem.wpAny_newList
def Kp:=@List.sum_append
def Kq:=@List.map_id
def Mr:=@PyProof.Rows.get?_update_seq
def M8:=@Bool.false_and
def M9:=@PySem.wpAny_pyIter_list
def Na:=@PySem.plainObj_wpAny_Assign_Attribute
def Nb:=@List.Perm.refl
def Nc:=@List.mem_of_find?_eq_some
def Nd:=@List.getElem?_append_left
def Nf:=@PySem.F.excBase_Exception
def Ng:=@List.drop_eq_getElem_cons
def PL:=@Option.isSome_iff_exists
def PM:=@PySem.F.slot_dict_values
open PySem.W (Frag findIn keepIn typeIn fnOf nsIn codeIn codeHdIn mg_of mg_none_of specialIn readsIn findCls makesIn hasDictIn plainGet plainOver)
namespace PySem.W.Fast
def tw14022299551594847706:=0
def tw13526198826891588169:=0
def tw4912031221451985621:=0
def tw4623946641587711138:=0
def tw16062588948585678331:=0
def tw6572256780918612580:=0
def tw17089873693262644167:=0
def tw11228977500097295471:=0
def tw3900433670688817468:=0
def tw213138828710993448:=0
def tw4330188353166818328:=0
def tw12063611194520655998:=0
def tw1080514255679656164:=0
def tw16253736511227037985:=0
def tw15628117625980976085:=0
def tw17395881676441019162:=0
def tw2397355953893640308:=0
def tw14635716856656099251:=0
def tw4114679242595707076:=0
def tw5370142945126779638:=0
def tw5051353824925386903:=0
def tw15597031534550946518:=0
def tw14551266158909479931:=0
def tw10383744284898921506:=0
def tw4957563955094549771:=0
def tw58964029712384315:=0
def tw3899648389700144313:=0
def tw18429945364523116284:=0
def tw11990771118460647842:=0
def tw3176775368749508667:=0
def tw12964137895620979075:=0
def tw3772913626439916267:=0
def tw6080779229583761446:=0
def tw5093814649780539161:=0
def tw14740550325877277760:=0
def tw9327676142865557528:=0
def tw10963088036708320954:=0
def tw530232142699999703:=0
def tw17470211785459359991:=0
def tw17180460444310765980:=0
def tw15624213547420937433:=0
def tw1164902392523242172:=0
def tw1625239327652559668:=0
def tw18241593786127951608:=0
def tw4180727499276533774:=0
def tw12061520423381617851:=0
def tw8947734936241091088:=0
def tw4942875931580521305:=0
def tw2159092700924229936:=0
def tw3806606381401095530:=0
def tw8255753064531430807:=0
def tw14587658928049202508:=0
def tw18359404277727230374:=0
def tw12042861229953849623:=0
def tw16080468168373537307:=0
def tw16580129473721561738:=0
def tw3442150933056267937:=0
def tw17037484536597719203:=0
def tw8049150779251538742:=0
def tw3965666026804550444:=0
def tw3504367925111945117:=0
def tw562142411522927622:=0
def tw13216821320684646571:=0
def tw12746755237541236523:=0
def tw4316131025938902606:=0
def tw7380419991382587951:=0
def tw7877809359300109669:=0
def tw6273986925917825731:=0
def tw17448666526593350624:=0
def tw1042737853096420425:=0
def tw7256965990786609148:=0
def tw9208478869363231091:=0
def tw1386312664144678524:=0
def tw3270201003815460191:=0
def tw8585657837461493655:=0
def tw14186730041126974482:=0
def tw12882683636445634039:=0
def tw17744029395400621735:=0
def tw15911337137939577919:=0
def tw17980551955842576331:=0
def tw15912256544308095381:=0
def tw15575875530672919749:=0
def tw5312275755393446752:=0
def tw350304087288924357:=0
def tw13223312883686859808:=0
def tw14930350033287922222:=0
def tw9604178359201924372:=0
def tw17403242621697026970:=0
def tw9149836188242420259:=0
def tw460119872775914121:=0
def tw14466837909230864584:=0
def tw7140228719544721580:=0
def tw2573249965294809915:=0
def tw5664947002924544367:=0
def tw2787066778574756558:=0
def tw949266960358259449:=0
def tw14677674387452936661:=0
def tw11100134961394480221:=0
def tw2053255401583273048:=0
def tw6142528130627338244:=0
def tw12653586956198871060:=0
def tw17556125523699456305:=0
def tw10441739798326663627:=0
def tw16199513169618367497:=0
def tw5579939405806017863:=0
def tw11810912249037907698:=0
def tw15072203842609481119:=0
def tw4481521627299555338:=0
def tw8489061925221159097:=0
def tw15082832694589358755:=0
def tw7575071280053058712:=0
def tw9263015737049644611:=0
def tw3395487409642116419:=0
def tw11265378075669955032:=0
def tw16276117062066737167:=0
def tw9406548516514970168:=0
def tw8840964173882196088:=0
def tw18146894079029790758:=0
def tw12997000942469095237:=0
def tw13719732004425588681:=0
def tw2451097591943367484:=0
def tw1541727375974594724:=0
def tw18301442463017682102:=0
def tw5248550479318512966:=0
def tw390365333655180350:=0
def tw81102872590649012:=0
def tw14561602910730247855:=0
def tw12285847693006835321:=0
def tw7353631925589711849:=0
def tw11643706962567908204:=0
def tw7944163416203648783:=0
def tw1876206932051985287:=0
def tw10209979037377098323:=0
def tw1326207246783621216:=0
def tw10198538047318363245:=0
def tw2717672439803108069:=0
def tw12563490922930285790:=0
def tw15193914097439142426:=0
def tw6018501585638934203:=0
def tw5341392997683059135:=0
def tw16434210699608508994:=0
def tw14524768183075652813:=0
def tw9013377710980678173:=0
def tw5293810388046257652:=0
def tw6579522453197436635:=0
def tw16888494952636728751:=0
def tw4905415955061166204:=0
def tw13184731736090240778:=0
def tw5112042477930374812:=0
def tw6363604315344296473:=0
def tw8467612599875209159:=0
def tw15753032963631056390:=0
def tw15006367785427377982:=0
def tw2621428063695331872:=0
def tw17816978316885647416:=0
def tw15695443425158142346:=0
def tw9782232780796353824:=0
def tw15096420850384519656:=0
def tw12155854653708377197:=0
def tw9404016648190603528:=0
def tw13189065411558378901:=0
def tw4230168161760599505:=0
def tw3401069315432973803:=0
def tw3688595815332802626:=0
def tw15070620559790779257:=0
def tw13253354150045713491:=0
def tw3234555603319858430:=0
def tw467788375229310431:=0
def tw729280719330838037:=0
def tw7535574743065693516:=0
def tw18410852029283973366:=0
def tw16068667220413043591:=0
def tw1906828051430015609:=0
def tw16181793743350399243:=0
def tw11911376367107028755:=0
def tw11421135894396960981:=0
def tw14617644207856590493:=0
def tw1258033290420654669:=0
def tw18430567617519562158:=0
def tw14925469470990708039:=0
def tw6153267928767631028:=0
def tw16405749302019179105:=0
def tw15797635569952977958:=0
def tw482759232938496384:=0
def tw16382755125014288526:=0
def tw3435023072502443252:=0
def tw10103118824055922221:=0
def tw2237655465192369066:=0
def tw16161321435044019915:=0
def tw5363514261903461266:=0
def tw1999535702013142367:=0
def tw2986424440870188442:=0
def tw3541175896910813674:=0
def tw9539844722093354312:=0
def tw6715309598282114585:=0
def tw13765701161983867885:=0
def tw13110413492089477729:=0
def tw1995923177339685835:=0
def tw9280984669468704924:=0
def tw17480121870614892831:=0
def tw4064294896248824093:=0
def tw1331304944240565952:=0
def tw12025818197454523384:=0
def tw15472623261990001254:=0
def tw14154138617689899781:=0
def tw5874807083931815371:=0
def tw721403816146915599:=0
def tw909638903721991673:=0
def tw4993998471002442947:=0
def tw10535806527163431596:=0
def tw8660715940778375901:=0
def tw1440338789412065750:=0
def tw9946601177025231880:=0
def tw4872750169490665664:=0
def tw3226235746537910773:=0
def tw14354914736506405805:=0
def tw1751924759623485915:=0
def tw9837739653618769626:=0
def tw16201621792233344099:=0
def tw9491872617673246311:=0
def tw4286424756777586448:=0
def tw777132012718471739:=0
def tw12174716835903478894:=0
def tw9775164771534490175:=0
def tw5876161460848335325:=0
def tw11849712929578383806:=0
def tw14545376028987575958:=0
def tw15519928198519445333:=0
def tw576245537051299243:=0
def tw12514793794153256165:=0
def tw6646105180308214084:=0
def tw2862520521817663086:=0
def tw2141123526592931469:=0
def tw2714365163736881027:=0
def tw1352497133515467616:=0
def tw5951030039472224232:=0
def tw1344303285369693097:=0
def tw6943176150314709791:=0
def tw4147461398541575274:=0
def tw14855738941578730482:=0
def tw6778454711226389113:=0
def tw10298678385261635754:=0
def tw7066049229899269372:=0
def tw15250878069463092596:=0
def tw290442281731618198:=0
def tw17977564538360496264:=0
def tw4671556026900512903:=0
def tw13290911274302093792:=0
def tw1456022412904103402:=0
def tw17814226488735644570:=0
def tw583205096397909767:=0
def tw12085375534361020891:=0
def tw1902234953185183921:=0
def tw18069728918312141563:=0
def tw15124124597446231396:=0
def tw14791256743691806676:=0
def tw2604473145720991607:=0
def tw16008614327360789439:=0
def tw1552987791375240085:=0
def tw11661024227466605214:=0
def tw3037335175347728800:=0
def tw10041633162196303627:=0
def tw1901859254339049705:=0
def tw15040316363727768496:=0
def tw10325287676684015226:=0
def tw9004745594832891392:=0
def tw10223383035769731287:=0
def tw9165262366521492106:=0
def tw2056167386785750225:=0
def tw8120349759036736885:=0
def tw17607646514180953679:=0
def tw2254207478265752815:=0
def tw16023324475251818754:=0
def tw13018613700266055485:=0
def tw14129502391537150117:=0
def tw14699871049394203716:=0
def tw18030409763818177242:=0
def tw14008989814440931828:=0
def tw14321222502195320621:=0
def tw6280565230640501145:=0
def tw16088901237011010949:=0
def tw12640794603792052652:=0
def tw14676848321834892771:=0
def tw14851961859189852662:=0
def tw8960331620208556999:=0
def tw15785439626115620916:=0
def tw10766557066093634429:=0
def tw2521619344246219480:=0
def tw1324312491237246260:=0
def tw11120710644982592980:=0
def tw16150891844524206480:=0
def tw11127642713912138888:=0
def tw17200124134178781557:=0
def tw10096114575862782802:=0
def tw4228303742700291643:=0
def tw14286862837014413929:=0
def tw1609331503386449602:=0
def tw116763515945733305:=0
def tw4740029485116414702:=0
def tw11590159430370429467:=0
def tw7341912514042608312:=0
def tw14332781916541929394:=0
def tw6823763612909245333:=0
def tw5799323992152063968:=0
def tw3564426143407866175:=0
def tw8177665203823814961:=0
def tw18400616234417749152:=0
def tw8388997356289592282:=0
def tw1866001455578988555:=0
def tw9563444251980973682:=0
def tw14674244241581938318:=0
def tw12111870484396253746:=0
def tw11294594950011002852:=0
def tw12942538958004417224:=0
def tw2550339443816318192:=0
def tw6933668561664727856:=0
def tw13815082931633323545:=0
def tw10402021838740910505:=0
def tw16664514156228366921:=0
def tw1153232907872569903:=0
def tw11337094279599183707:=0
def tw14542317151834344986:=0
def tw13964174224841948442:=0
def tw72581039910288360:=0
def tw1566220538026931471:=0
def tw17222429057808316606:=0
def tw4282718420814553034:=0
def tw4746863243923780592:=0
def tw5655273671375436086:=0
def tw17994900535158019116:=0
def tw13149347299001342268:=0
def tw10247535831986688965:=0
def tw5442390019631427061:=0
def tw13474039695891385984:=0
def tw6841594666677331107:=0
def tw2928112206733740711:=0
def tw15349365769132889444:=0
def tw9839025500164941663:=0
def tw18288659607799035569:=0
def tw14588561375053842956:=0
def tw13235287005009380402:=0
def tw11789006027110736304:=0
def tw6380960330033774774:=0
def tw17729105503117205092:=0
def tw1966753823924279170:=0
def tw168554749468372238:=0
def tw15633415235088251451:=0
def tw6534085261836070270:=0
def tw6818516127330827738:=0
def tw6548376509504470430:=0
def tw9131204612381509844:=0
def tw2711498144855994061:=0
def tw14549523596577589317:=0
def tw15261555253140801092:=0
def tw9808264669165299494:=0
def tw10968723360723637215:=0
def tw11895839888973633236:=0
def tw7779715155447886104:=0
def tw3087709485886330420:=0
def tw9818652940557250123:=0
def tw14758433080853200169:=0
def tw6574687435933378965:=0
def tw3107283317435114034:=0
def tw10687671510510488082:=0
def tw693918977877495855:=0
def tw15600145534543205967:=0
def tw13532918034910655414:=0
def tw3029719083388402986:=0
def tw18016745147177441537:=0
def tw9294475266599410216:=0
def tw16839136744511011959:=0
def tw8410862906262506803:=0
def tw2834057151262113374:=0
def tw145432599000301387:=0
def tw17598568952414224429:=0
def tw3331027744504747195:=0
def tw1499436962762455374:=0
def tw13659391748767532828:=0
def tw1301894328361243540:=0
def tw160699787832254725:=0
def tw2222171489991367984:=0
def tw5125121291224628097:=0
def tw14067895576407561620:=0
def tw15728520966733201572:=0
def tw16606087399608828500:=0
def tw11886367131177385219:=0
def tw7698796716787669226:=0
def tw1935357298737137099:=0
def tw3936823338021033582:=0
def tw9277598217276834357:=0
def tw11013919419017098188:=0
def tw17628766751569040957:=0
def tw10281491731400018781:=0
def tw16871117121875088226:=0
def tw3213927286217032246:=0
def tw13358311354064017513:=0
def tw7107735888953621100:=0
def tw6034160977446803647:=0
def tw17368540176594383364:=0
def tw4470951879590595029:=0
end PySem.W.Fast
namespace L2
open PySem PySem.Spec PyProof.Rows
abbrev Key:=Sum Int Str
def xi:Key->Value->Bool
 | .inl k,v=>Value.isInt k v
 | .inr x,v=>Value.isStrOf x v
def US (w:World):Key->Int
 | .inl k=>hashInt k
 | .inr x=>hashStr w x
def eU: ∀{k:Key} {v:Value},xi k v=true->(∃i t,k=Sum.inl i/\v=Value.int i t)∨(∃x t,k=Sum.inr x/\v=Value.str x t)
 | .inl i,v,h=>by
  obtain⟨t,e⟩:=Value.isInt_shape (k:=i) (v:=v) h;exact .inl ⟨i,t,rfl,e⟩
 | .inr x,v,h=>by
  obtain⟨t,e⟩:=Value.isStrOf_shape (x:=x) (v:=v) h;exact .inr ⟨x,t,rfl,e⟩
def Fh (i:Int)(t:Tok):xi (.inl i) (.int i t)=true:=by simp[xi,Value.isInt]
def Fj (x:Str)(t:Tok):xi (.inr x) (.str x t)=true:=by simp[xi,Value.isStrOf]
def Nh (a b:Int):decide ((Sum.inl a:Key)=Sum.inl b)=(a == b):=by
 by_cases e:a=b
 ·subst e; simp
 ·have h: ¬ (Sum.inl a:Key)=Sum.inl b:=fun q=>e (Sum.inl.inj q);rw[bC h];exact(gz.mpr e).symm
def Ni (a b:Str):decide ((Sum.inr a:Key)=Sum.inr b)=decide (a=b):=by
 by_cases e:a=b
 ·subst e; simp
 ·have h: ¬ (Sum.inr a:Key)=Sum.inr b:=fun q=>e (Sum.inr.inj q);rw[bC h,bC e]
def Nj (a:Int)(b:Str):decide ((Sum.inl a:Key)=Sum.inr b)=false:=bC (fun q=>nomatch q)
def Nk (a:Str)(b:Int):decide ((Sum.inr a:Key)=Sum.inl b)=false:=bC (fun q=>nomatch q)
def dI (prog:Program)(w:World):PySem.KeyKind prog w Key where
 is:=xi
 hash:=US w
 inj:=fun v a b ha hb=>by
  rcases eU ha with⟨i,t,rfl,rfl⟩|⟨x,t,rfl,rfl⟩
  ·rcases eU hb with⟨j,u,rfl,e⟩|⟨y,u,rfl,e⟩
   ·injection e with e1 _; rw[e1]
   ·exact nomatch e
  ·rcases eU hb with⟨j,u,rfl,e⟩|⟨y,u,rfl,e⟩
   ·exact nomatch e
   ·injection e with e1 _; rw[e1]
 byValue:=fun k v h=>by
  rcases eU h with⟨i,t,rfl,rfl⟩|⟨x,t,rfl,rfl⟩ <;> rfl
 pyHash:=fun hv h=>by
  rcases eU hv with⟨i,t,rfl,rfl⟩|⟨x,t,rfl,rfl⟩
  ·exact wpAny_pyHash_int h
  ·exact wpAny_pyHash_str h
 eqBool:=fun hu hv h=>by
  rcases eU hu with⟨i,t,rfl,rfl⟩|⟨x,t,rfl,rfl⟩
  ·rcases eU hv with⟨j,u,rfl,rfl⟩|⟨y,u,rfl,rfl⟩
   ·rw[Nh] at h; exact wpAny_eqBool_int h
   ·rw[Nj] at h; exact SeqAt.EqAt.int_str i t y u _ _ _ _ h
  ·rcases eU hv with⟨j,u,rfl,rfl⟩|⟨y,u,rfl,rfl⟩
   ·rw[Nk] at h; exact SeqAt.EqAt.str_int x t j u _ _ _ _ h
   ·rw[Ni] at h; exact wpAny_eqBool_str h
 «strs»:=fun k x t v h=>by
  rcases eU h with⟨i,u,rfl,e⟩|⟨y,u,rfl,e⟩
  ·exact nomatch e
  ·injection e with e1 _;subst e1;cases v <;> rfl
def Aw (prog:Program)(w:World)(i:Int)(t:Tok):(dI prog w).is (.inl i) (.int i t)=true:=Fh i t
def Ax (prog:Program)(w:World)(x:Str)(t:Tok):(dI prog w).is (.inr x) (.str x t)=true:=Fj x t
inductive V where
 |dW|bl (b:Bool)|int (i:Int)|str (x:Str)|Fl (b:Array UInt8)|Kr (b:UInt64)|ref (a:Addr)|ty (n:String)
 deriving DecidableEq
def RelV:V->Value->Prop
 | .dW,u=>u=Value.none
 | .bl b,u=>u=Value.bool b
 | .int i,u=> ∃t,u=Value.int i t
 | .str x,u=> ∃t,u=Value.str x t
 | .Fl b,u=> ∃t,u=Value.bytes b t
 | .Kr b,u=> ∃t,u=Value.float b t
 | .ref a,u=>u=Value.ref a
 | .ty n,u=>u=Value.type n
abbrev Vals:List V->List Value->Prop:=Paired RelV
def Vals.length {xs:List V}{us:List Value}(r:Vals xs us):xs.length=us.length:=aS r
def Vals.get: ∀{xs:List V} {us:List Value} {i:Nat} {x:V},Vals xs us->xs[i]? =some x-> ∃u,us[i]? =some u/\RelV x u
 |_,_,_,_,.nil,e=>by simp at e
 |_,_,0,_,.cons r _,e=>by simp at e; subst e; exact⟨_,rfl,r⟩
 |_,_,i + 1,x,.cons _ t,e=>by
  obtain⟨u,h1,h2⟩:=Vals.get (i:=i) (x:=x) t (by simpa using e);exact⟨u,by simpa using h1,h2⟩
def Vals.set {x:V}{u:Value}(r:RelV x u): ∀{xs:List V} {us:List Value} (i:Nat),Vals xs us->Vals (xs.set i x) (us.set i u)
 |_,_,_,.nil=> .nil
 |_,_,0,.cons _ t=> .cons r t
 |_,_,i + 1,.cons q t=> .cons q (Vals.set r i t)
def Vals.append: ∀{xs ys:List V} {us ws:List Value},Vals xs us->Vals ys ws->Vals (xs ++ ys) (us ++ ws)
 |_,_,_,_,.nil,s=>s
 |_,_,_,_,.cons r t,s=> .cons r (Vals.append t s)
def Vals.take: ∀{xs:List V} {us:List Value} (n:Nat),Vals xs us->Vals (xs.take n) (us.take n)
 |_,_,0,_=> .nil
 |_,_,_ + 1,.nil=> .nil
 |_,_,n + 1,.cons r t=> .cons r (Vals.take n t)
def Vals.drop: ∀{xs:List V} {us:List Value} (n:Nat),Vals xs us->Vals (xs.drop n) (us.drop n)
 |_,_,0,r=>r
 |_,_,_ + 1,.nil=> .nil
 |_,_,n + 1,.cons _ t=>Vals.drop n t
def Vals.none_of: ∀{xs:List V} {us:List Value} {i:Nat},Vals xs us->xs[i]? =none->us[i]? =none:=fun{xs us i} r e=>by
 have h1:=r.length;have h2:xs.length<=i:=pW.mp e;exact pW.mpr (by lia)
def kI:Option V->Option Value->Prop
 |some v,some u=>RelV v u
 |none,none=>True
 |_,_=>False
def KV {κ:Type}:List (κ×V)->List (κ×Value)->Prop:=Paired fun(p:κ×V) (q:κ×Value)=>p.1=q.1/\RelV p.2 q.2
def kV:Key->V
 | .inl i=> .int i
 | .inr x=> .str x
inductive HO where
 |lst (xs:List V)
 |tup (xs:List V)
 |dK (a9:List (Key×V))|dT (a9:List (List Key×V))
 |set (S:Int->Bool) (n:Nat)
 |ins (C dx:Addr) (fs:List (Str×V))
 |own (x:Addr)
 |xd (fs:List (Str×V))
 |met (f x:Addr)
 |UT (lo hi:Int)
 |Cp (o:Obj) (u:HO)
 |mh (ps:Array Value)
 |ext (φ:Heap->Prop)
abbrev Hp:=Addr->Option HO
def upd (H:Hp)(a:Addr)(o:HO):Hp:=fun b=>if b=a then some o else H b
def ag {H:Hp}{a:Addr}{o:HO}:upd H a o a=some o:=by unfold upd; rw[if_pos rfl]
def az {H:Hp}{a b:Addr}{o:HO}(h:b≠a):upd H a o b=H b:=by unfold upd; rw[if_neg h]
def lW {H:Hp}{a b:Addr}{o u:HO}(h:H a=some o)(h':H b=some u)(d:o≠u):a≠b:=by
 intro e; subst e; rw[h] at h'; exact d (aE h')
def aI {H:Hp}{a b:Addr}{o:HO}(h:H a=some o)(h':H b=none):a≠b:=by
 intro e; subst e; rw[h] at h'; cases h'
section
variable (P:Program)(w:World)
def di (H:Hp)(h:Heap)(a:Addr):HO->Prop
 | .lst xs=>xs.length<=sizeLine/\ ∃(bX:List Value) (n:Nat),Vals xs bX/\h.get? a=some {cls:= .type "list",data:= .seq bX.toArray n}
 | .tup xs=>xs.length<=sizeLine/\ ∃bX:List Value,Vals xs bX/\IsTup h a bX.toArray
 | .dK a9=>a9.length<=sizeLine/\(a == sysModules)=false/\ ∃vs,KV a9 vs/\h.DictOf (dI P w) a vs
 | .dT a9=>a9.length<=sizeLine/\(a == sysModules)=false/\ ∃xs:List (List Key×Addr×Value),
   Paired (fun(p:List Key×V) (q:List Key×Addr×Value)=>p.1=q.1/\H q.2.1=some (.tup (p.1.map kV))/\RelV p.2 q.2.2) a9 xs/\
   ∃o es ep,h.get? a=some o/\o.ExactDict/\o.data= .dict es ep/\es.toList=xs.map (entryOfKey (tupleKind (dI P w)))/\(xs.map (·.1)).Nodup
 | .set S n=>h.SetOf (intKind P w) a S n
 | .ins C dx fs=>H dx=some (.own a)/\fs.length<=1000/\dx≠a/\h.get? a=some (PySem.W.instObj C dx)/\
   ∃mA,h.Ns1 dx mA/\(∀f,kI (fs.lookup f) (mA f))/\PySem.Within mA (fs.map (·.1))
 | .own _=> ∃o,h.get? a=some o
 | .xd fs=> ∃mA,h.Ns1 a mA/\ ∀f,kI (fs.lookup f) (mA f)
 | .UT lo hi=> ∃t u v,h.get? a=some {cls:= .type "range",data:= .fields #[.int lo t,.int hi u,.int 1 v]}
 | .Cp o u=>h.get? a=some o/\di H h a u
 | .mh ps=>h.get? a=some {cls:= .none,data:= .fields ps}
 | .met f x=>h.get? a=some (PySem.W.methodObj (.ref f) (.ref x))
 | .ext φ=>φ h/\(∃o,h.get? a=some o)/\ ∀h1 h2:Heap,φ h1->(∀o,h1.get? a=some o->h2.get? a=some o)->φ h2
def nV (H:Hp)(h:Heap):Prop:= ∀a o,H a=some o->di P w H h a o
end
section
variable {P:Program}{w:World}{H H':Hp}{h h':Heap}{a:Addr}{o:HO}
def di.lt (x:di P w H h a o):a < h.objs.size:=by
 cases o with
 |lst xs=>obtain⟨_,_,_,_,e⟩:=x; exact aH e
 |tup xs=>obtain⟨_,_,_,p⟩:=x; exact p.lt
 |dK a9=>obtain⟨_,_,_,_,o,_,_,e,_⟩:=x; exact aH e
 |dT a9=>obtain⟨_,_,_,_,o,_,_,e,_⟩:=x; exact aH e
 |set S n=>obtain⟨o,_,_,_,e,_⟩:=x; exact aH e
 |ins C dx fs=>obtain⟨_,_,_,e,_⟩:=x; exact aH e
 |own y=>obtain⟨_,e⟩:=x; exact aH e
 |xd fs=>obtain⟨_,⟨_,_,_,e,_⟩,_⟩:=x; exact aH e
 |UT lo hi=>obtain⟨_,_,_,e⟩:=x; exact aH e
 |Cp ob u=>obtain⟨e,_⟩:=x; exact aH e
 |mh ps=>exact aH (show h.get? a=some _ from x)
 |met f y=>exact aH (show h.get? a=some _ from x)
 |ext φ=>obtain⟨_,⟨_,e⟩,_⟩:=x; exact aH e
def Paired.iH {α β:Type}{F G:α->β->Prop}: ∀{l₁:List α} {l₂:List β},Paired F l₁ l₂->(∀a b,F a b->G a b)->Paired G l₁ l₂
 |_,_,.nil,_=> .nil
 |_,_,.cons r t,f=> .cons (f _ _ r) (Paired.iH t f)
def di.sT (x:di P w H h a o)(k: ∀b u,(b=a∨H b=some (.own a))->h.get? b=some u->h'.get? b=some u)
  (ho: ∀b,H b=some (.own a)->H' b=some (.own a)) (ht: ∀b xs,H b=some (.tup xs)->H' b=some (.tup xs)):di P w H' h' a o:=by
 induction o with
 |lst xs=>obtain⟨z,bX,n,r,e⟩:=x; exact⟨z,bX,n,r,k _ _ (.inl rfl) e⟩
 |tup xs=>obtain⟨z,bX,r,ob,e,c⟩:=x; exact⟨z,bX,r,ob,k _ _ (.inl rfl) e,c⟩
 |dK a9=>obtain⟨z,y,vs,r,ob,es,ep,e,c⟩:=x; exact⟨z,y,vs,r,ob,es,ep,k _ _ (.inl rfl) e,c⟩
 |dT a9=>
  obtain⟨z,y,xs,r,ob,es,ep,e,c⟩:=x;exact⟨z,y,xs,Paired.iH r fun p q z=>⟨z.1,ht _ _ z.2.1,z.2.2⟩,ob,es,ep,k _ _ (.inl rfl) e,c⟩
 |set S n=>obtain⟨ob,es,ep,t,e,c⟩:=x; exact⟨ob,es,ep,t,k _ _ (.inl rfl) e,c⟩
 |ins C dx fs=>
  obtain⟨d,z,ne,e,mA,⟨od,es,ep,e2,c⟩,r⟩:=x;exact⟨ho _ d,z,ne,k _ _ (.inl rfl) e,mA,⟨od,es,ep,k _ _ (.inr d) e2,c⟩,r⟩
 |own y=>obtain⟨ob,e⟩:=x; exact⟨ob,k _ _ (.inl rfl) e⟩
 |xd fs=>obtain⟨mA,⟨od,es,ep,e,c⟩,r⟩:=x; exact⟨mA,⟨od,es,ep,k _ _ (.inl rfl) e,c⟩,r⟩
 |UT lo hi=>obtain⟨t,u,v,e⟩:=x; exact⟨t,u,v,k _ _ (.inl rfl) e⟩
 |Cp ob u ih=>obtain⟨e,q⟩:=x; exact⟨k _ _ (.inl rfl) e,ih q⟩
 |mh ps=>
  have e:h.get? a=some {cls:= .none,data:= .fields ps}:=x;show h'.get? a=some {cls:= .none,data:= .fields ps};exact k a _ (.inl rfl) e
 |met f y=>
  have e:h.get? a=some (PySem.W.methodObj (.ref f) (.ref y)):=x;show h'.get? a=some (PySem.W.methodObj (.ref f) (.ref y));exact k a _ (.inl rfl) e
 |ext φ=>obtain⟨p,⟨o,e⟩,st⟩:=x; exact⟨st _ _ p fun o q=>k _ _ (.inl rfl) q,⟨o,k _ _ (.inl rfl) e⟩,st⟩
def nV.lt (x:nV P w H h)(e:H a=some o):a < h.objs.size:=(x a o e).lt
def nV.fresh (x:nV P w H h)(e:h.objs.size<=a):H a=none:=by
 cases q:H a with
 |none=>rfl
 |some u=>exact absurd (ba (x.lt q) e) (iE _)
def nV.kept (x:nV P w H h)(k: ∀b u,h.get? b=some u->h'.get? b=some u):nV P w H h':=fun a o e=>
 (x a o e).sT (fun b u _ q=>k b u q) (fun _ q=>q) fun _ _ q=>q
def nV.laid (x:nV P w H h)(k: ∀b u,h.get? b=some u->h'.get? b=some u)(hp:h.objs.size<=a)(new:di P w (upd H a o) h' a o):nV P w (upd H a o) h':=fun b u e=>by
 have hn:=x.fresh hp;by_cases hb:b=a
 ·subst hb; rw[ag] at e; cases e; exact new
 ·rw[az hb] at e;exact(x b u e).sT (fun c v _ q=>k c v q) (fun c q=>by rw[az (aI q hn)]; exact q) fun c xs q=>by rw[az (aI q hn)]; exact q
end
def Rd (H:Hp)(a:Addr)(u:HO):Prop:=H a=some u∨ ∃o,H a=some (.Cp o u)
def Rd.ok {P:Program}{w:World}{H:Hp}{h:Heap}{a:Addr}{u:HO}(r:Rd H a u)(x:nV P w H h):di P w H h a u:=by
 rcases r with r|⟨o,r⟩
 ·exact x a u r
 ·obtain⟨_,q⟩:=x a _ r;exact q
def Qt:Option HO->Prop
 |some (.lst _)=>True
 |some (.dK _)=>True
 |some (.dT _)=>True
 |some (.set _ _)=>True
 |some (.ins _ _ _)=>True
 |some (.ext _)=>True
 |_=>False
section
variable {P:Program}{w:World}{H:Hp}{h h':Heap}{x e:Addr}{o':HO}
def nV.write (ok:nV P w H h)(mu:Qt (H x))(he:e=x∨H e=some (.own x))(k: ∀b u,b≠e->h.get? b=some u->h'.get? b=some u)(PN: ∃u,h'.get? e=some u)
  (new:di P w (upd H x o') h' x o'):nV P w (upd H x o') h':=fun b u q=>by
 have Qu: ∀c y,H c=some (.own y)->c≠x:=fun c y r z=>by subst z; rw[r] at mu; exact mu
 have UU: ∀c xs,H c=some (.tup xs)->c≠x:=fun c xs r z=>by subst z; rw[r] at mu; exact mu
 by_cases hb:b=x
 ·subst hb; rw[ag] at q; cases q; exact new
 ·rw[az hb] at q;by_cases Nl:b=e
  ·have q':H b=some (.own x):=by
    rcases he with z|z
    ·exact absurd (Nl.trans z) hb
    ·rw[Nl]; exact z
   rw[q] at q'; cases q';obtain⟨v,hv⟩:=PN;exact⟨v,by rw[Nl]; exact hv⟩
  ·refine(ok b u q).sT (fun c v hc r=>k c v ?_ r) (fun c r=>by rw[az (Qu c b r)]; exact r) fun c xs r=>by rw[az (UU c xs r)]; exact r
   rcases hc with rfl|hc
   ·exact Nl
   ·rintro rfl;rcases he with z|z
    ·exact Qu c b hc z
    ·rw[hc] at z; cases z; exact hb rfl
end
structure Un (fs ex:List Addr)(H H':Hp)(h h':Heap):Prop where
 keep: ∀b o,h.get? b=some o->H b=none->b∉fs->b∉ex->h'.get? b=some o
 slot: ∀b o,h.get? b=some o->H b=none->b∈fs->b∉ex-> ∃sl,h'.get? b=some {o with slots:=sl}
 free: ∀b o,h.get? b=some o->H b=none->b∉ex->H' b=none
 there: ∀b o,h.get? b=some o->b∉ex-> ∃o',h'.get? b=some o'
 pY: ∀b xs,H b=some (.tup xs)->H' b=some (.tup xs)
 oR: ∀b o u,H b=some (.Cp o u)->H' b=some (.Cp o u)
 oS: ∀b ps,H b=some (.mh ps)-> ∃more,H' b=some (.mh (ps ++ more))
section
variable {fs Z4 ex ex':List Addr}{H H1 H2:Hp}{h h1 h2 h':Heap}{a x e:Addr}{o:HO}
def Un.any (u:Un fs ex H H1 h h1){b:Addr}{ob:Obj}(q:h.get? b=some ob)(n:H b=none)(hx:b∉ex): ∃sl,h1.get? b=some {ob with slots:=sl}:=by
 by_cases hb:b∈fs
 ·exact u.slot b ob q n hb hx
 ·exact⟨ob.slots,u.keep b ob q n hb hx⟩
def Un.kept (k: ∀b u,h.get? b=some u->h'.get? b=some u):Un fs ex H H h h':=
 ⟨fun b ob q _ _ _=>k b ob q,fun b ob q _ _ _=>⟨ob.slots,k b ob q⟩,fun _ _ _ n _=>n,fun b ob q _=>⟨ob,k b ob q⟩,fun _ _ q=>q,fun _ _ _ q=>q,fun _ ps q=>⟨#[],by rw[q]; simp⟩⟩
def Un.refl:Un fs ex H H h h:=Un.kept fun _ _ q=>q
def Un.laid (k: ∀b u,h.get? b=some u->h'.get? b=some u)(hp:h.objs.size<=a)(hn:H a=none):Un fs ex H (upd H a o) h h' where
 keep:=fun b u q _ _ _=>k b u q
 slot:=fun b u q _ _ _=>⟨u.slots,k b u q⟩
 free:=fun b u q n _=>by rw[az (aU (ba (aH q) hp))]; exact n
 there:=fun b u q _=>⟨u,k b u q⟩
 pY:=fun b xs q=>by rw[az (aI q hn)]; exact q
 oR:=fun b u xs q=>by rw[az (aI q hn)]; exact q
 oS:=fun b ps q=>⟨#[],by rw[az (aI q hn),q]; simp⟩
def Un.write (mu:Qt (H x))(he:e=x∨H e=some (.own x))(k: ∀b u,b≠e->h.get? b=some u->h'.get? b=some u)(PN: ∃u,h'.get? e=some u):Un fs ex H (upd H x o) h h':=by
 have hx: ∀b,H b=none->b≠x:=fun b n z=>by subst z; rw[n] at mu; exact mu
 have hb: ∀b,H b=none->b≠e:=fun b n z=>by
  subst z;rcases he with r|r
  ·exact hx b n r
  ·rw[n] at r; cases r
 have hm: ∀b u,H b=some u-> ¬ Qt (some u)->b≠x:=fun b u q nm z=>by subst z; rw[q] at mu; exact nm mu
 refine⟨fun b u q n _ _=>k b u (hb b n) q,fun b u q n _ _=>⟨u.slots,k b u (hb b n) q⟩,fun b u q n _=>by rw[az (hx b n)]; exact n,fun b u q _=>?_,
  fun b xs q=>by rw[az (hm b _ q fun z=>z)]; exact q,fun b u xs q=>by rw[az (hm b _ q fun z=>z)]; exact q,fun b ps q=>⟨#[],by rw[az (hm b _ q fun z=>z),q]; simp⟩⟩
 by_cases Nl:b=e
 ·subst Nl; exact PN
 ·exact⟨u,k b u Nl q⟩
end
def TM (h:Heap)(H:Hp):List Addr:=(List.range h.objs.size).filter fun a=>(H a).isSome
def vQ (h:Heap)(H:Hp):Heap:=PySem.W.hideAll h (TM h H)
def Fm (h:Heap)(H:Hp):(vQ h H).objs.size=h.objs.size:=PySem.W.hideAll_size _ _
def Ho {h:Heap}{H:Hp}{b:Addr}{o:Obj}(e:h.get? b=some o)(n:H b=none):(vQ h H).get? b=some o:=
 PySem.W.hideAll_get _ e fun hm=>by
  have q:(H b).isSome=true:=(fC.mp hm).2;rw[n] at q; simp at q
def Ks {h:Heap}{H:Hp}{b:Addr}{o:Obj}(e:(vQ h H).get? b=some o):h.get? b=some o/\H b=none:=by
 have e':h.get? b=some o:=PySem.W.of_hideAll (TM h H) e;refine⟨e',?_⟩;cases q:H b with
 |none=>rfl
 |some x=>
  have hm:b∈TM h H:=List.mem_filter.mpr ⟨List.mem_range.mpr (Heap.lt_size e'),by simp[q]⟩;have z:(vQ h H).get? b=none:=PySem.W.hideAll_none (TM h H) hm;rw[z] at e; cases e
structure Mod (K:Frag)(mg:Str->Option Value)(base:Heap):Prop where
 Kt:K.In base
 glob:base.Ns mainGlobals mg
 blt: ∃mb,base.Ns builtinsNs mb/\ ∀x:Str,x≠"__name__"->mb x=bootBuiltins x
 nolimit:base.NoLimit
structure Cx where
 prog:Program
 w:World
 K:Frag
 mg:Str->Option Value
 base:Heap
 A:Around
 N:List Str
 s₀:Shared
 H₀:Hp
 env:Env
 outer:List Env
 stack:List Env
 ex:List Addr
 fn:Str->Bool
 calm:Bool
 pn:List (Addr×Obj)
 xe:Value->Shared->Prop
def CF (l:List Env):List Addr:=l.filterMap (·.frame)
abbrev Cx.fs (X:Cx):List Addr:=CF X.outer
def Qv (sc:Scope)(x:Str):Prop:=sc.names.lookup x=some .local∨sc.names.lookup x=some .cell∨sc.names.lookup x=some .free
def Loc (sc:Scope)(x:Str):Prop:=sc.names.lookup x=some .local∨sc.names.lookup x=some .cell
def Look (env:Env)(h:Heap)(m:Str->Option Value)(x:Str)(u:Value):Prop:=
 (env.kindOf x=some .local/\m x=some u)∨((env.kindOf x=some .cell∨env.kindOf x=some .free)/\ ∃c,env.cells.lookup x=some c/\h.IsCell c (some u))
structure Cx.Ok (X:Cx):Prop where
 mod:Mod X.K X.mg X.base
 kind:X.env.scope.kind= .function
 glob:X.env.globals=mainGlobals
 blt:X.env.builtins=builtinsNs
 above:X.s₀.heap.objs.size<=X.env.locals
 inj: ∀x y c,X.env.cells.lookup x=some c->X.env.cells.lookup y=some c->x=y
 has: ∀x,(X.env.kindOf x=some .cell∨X.env.kindOf x=some .free)-> ∃c,X.env.cells.lookup x=some c
 JX: ∀x c,X.fn x=true->X.env.cells.lookup x=some c->X.s₀.heap.objs.size<=c
 hd:X.calm=true->X.A.handled=none
 frames:X.A.frames=some X.stack
 G7:X.stack=X.outer∨(X.stack=X.env :: X.outer/\X.env.frame=some X.env.locals)
 Ku: ∀b∈X.ex,b≠X.env.locals/\ ∀x c,X.env.cells.lookup x=some c->c≠b
 bs: ∀b o,X.base.get? b=some o->X.s₀.heap.get? b=some o/\X.H₀ b=none
 Ay:X.base.objs.size<=X.s₀.heap.objs.size
 vR: ∀b o,X.base.get? b=some o->b∉X.ex
 vS: ∀b∈X.ex,b∉X.fs
 lz:X.s₀.heap.FunFrames X.base X.outer
 D0: ∀b∈X.fs,X.H₀ b=none
structure Inv (X:Cx)(pins:List (Addr×Obj))(σ:List (Option V))(H:Hp)(s:Shared):Prop where
 ok:X.Ok
 os:s.os=X.s₀.os
 bare:AllBare s.gens
 base:Un X.fs X.ex X.H₀ H X.s₀.heap s.heap
 loc: ∃m,s.heap.Ns X.env.locals m/\ ∀(i:Nat) (x:Str) (v:V),X.N[i]? =some x->σ[i]? =some (some v)->Qv X.env.scope x-> ∃u,RelV v u/\Look X.env s.heap m x u
 cell: ∀x c,X.env.cells.lookup x=some c-> ∃v,s.heap.IsCell c v
 free:H X.env.locals=none
 iC: ∀x c,X.env.cells.lookup x=some c->H c=none
 pin: ∀p∈X.pn ++ pins,s.heap.get? p.1=some p.2/\H p.1=none/\p.1≠X.env.locals/\p.1∉X.fs/\ ∀v,p.2.data≠ .cell v
 cm:nV X.prog X.w H s.heap
 len:σ.length=X.N.length
section
variable {X:Cx}{pins:List (Addr×Obj)}{σ:List (Option V)}{H H':Hp}{s:Shared}{h':Heap}
def Cx.Ok.UW (ok:X.Ok){b:Addr}{o:Obj}(e:X.base.get? b=some o):b∉X.fs:=fun hb=>by
 have:=(ok.lz.mem hb).1;rw[e] at this; cases this
def Inv.bs (I:Inv X pins σ H s): ∀b o,X.base.get? b=some o->s.heap.get? b=some o/\H b=none:=fun b o e=>
 ⟨I.base.keep b o (I.ok.bs b o e).1 (I.ok.bs b o e).2 (I.ok.UW e) (I.ok.vR b o e),I.base.free b o (I.ok.bs b o e).1 (I.ok.bs b o e).2 (I.ok.vR b o e)⟩
def Inv.bk (I:Inv X pins σ H s): ∀b o,X.base.get? b=some o->s.heap.get? b=some o:=fun b o e=>(I.bs b o e).1
def Inv.mod (I:Inv X pins σ H s):Mod X.K X.mg X.base:=I.ok.mod
def Inv.gx (I:Inv X pins σ H s):X.K.In s.heap:=I.ok.mod.Kt.keeps I.bk
def Inv.nolimit (I:Inv X pins σ H s):s.heap.NoLimit:=I.ok.mod.nolimit.keeps I.bk
def Inv.fr (I:Inv X pins σ H s): ∃m,Fr X.base X.env.locals s.heap m:=
 let⟨m,hn,_⟩:=I.loc
 ⟨m,hn,I.bk,aV I.ok.Ay I.ok.above⟩
def Inv.lt (I:Inv X pins σ H s):X.env.locals < s.heap.objs.size:=let⟨_,hn,_⟩:=I.loc; hn.lt
def Inv.sz (I:Inv X pins σ H s):X.s₀.heap.objs.size<=s.heap.objs.size:=aV I.ok.above (c8 I.lt)
def Inv.Fn (I:Inv X pins σ H s){a:Addr}(h:s.heap.objs.size<=a):a∉X.fs:=fun hb=>by
 obtain⟨_,o,ho,_⟩:=I.ok.lz.mem hb;exact absurd (ba (aH ho) (aV I.sz h)) (iE _)
def Inv.Ms (I:Inv X pins σ H s): ∀x c,X.env.cells.lookup x=some c->c≠X.env.locals:=fun x c e z=>by
 obtain⟨v,o,ho,hd⟩:=I.cell x c e;obtain⟨m,⟨o',es,ep,Kv,Fo,_⟩,_⟩:=I.loc;rw[z,Kv] at ho; cases ho; rw[Fo] at hd; cases hd
def Inv.lz (I:Inv X pins σ H s):s.heap.FunFrames X.base X.outer:=by
 have all: ∀(l:List Env),(∀b∈CF l,b∈X.fs)->X.s₀.heap.FunFrames X.base l->s.heap.FunFrames X.base l:=by
  intro l
  induction l with
  |nil=>intro _ _; trivial
  |cons env r ih=>
   intro hs hl;obtain⟨hk,⟨L,o,hf,hn,ho,hd⟩,hr⟩:=hl;have hL:L∈X.fs:=hs L (by unfold CF; rw[List.filterMap_cons,hf]; exact List.mem_cons_self);obtain⟨sl,e⟩:=I.base.slot L o ho (I.ok.D0 L hL) hL fun z=>I.ok.vS L z hL;exact⟨hk,⟨L,_,hf,hn,e,hd⟩,ih (fun b hb=>hs b (by unfold CF; rw[List.filterMap_cons,hf]; exact List.mem_cons_of_mem _ hb)) hr⟩
 exact all X.outer (fun _ hb=>hb) I.ok.lz
def Inv.stack (I:Inv X pins σ H s):s.heap.FunFrames X.base X.stack:=by
 rcases I.ok.G7 with e|⟨e,hf⟩
 ·rw[e]; exact I.lz
 ·rw[e];obtain⟨m,hn,_⟩:=I.loc;refine .cons (by rw[I.ok.kind]; decide) hf hn ?_ I.lz;exact Heap.get?_none_of_le (aV I.ok.Ay I.ok.above)
def Inv.tW (I:Inv X pins σ H s): ∀b∈CF X.stack,b∈X.env.locals :: X.fs:=fun b hb=>by
 rcases I.ok.G7 with e|⟨e,hf⟩
 ·rw[e] at hb; exact aQ _ hb
 ·rw[e] at hb;unfold CF at hb;rw[List.filterMap_cons,hf] at hb;exact hb
def Inv.pZ (I:Inv X pins σ H s): ∀b∈CF X.stack,H b=none:=fun b hb=>by
 rcases av.mp (I.tW b hb) with e|hb
 ·rw[e]; exact I.free
 ·obtain⟨_,o,ho,_⟩:=I.ok.lz.mem hb;exact I.base.free b o ho (I.ok.D0 b hb) fun z=>I.ok.vS b z hb
def Inv.step {g':Array GenState}{t':Nat}{d':Drawn}{ch:List Addr}(I:Inv X pins σ H s)
  (Az: ∀b∈ch,(b∈X.ex∨X.s₀.heap.objs.size<=b)/\b≠X.env.locals/\(∀x c,X.env.cells.lookup x=some c->c≠b)/\ ∀p∈X.pn ++ pins,p.1≠b)
  (keep: ∀b o,b≠X.env.locals->b∉X.fs->b∉ch->s.heap.get? b=some o->H b=none->h'.get? b=some o)
  (slot: ∀b o,b≠X.env.locals->b∈X.fs->b∉ch->s.heap.get? b=some o->H b=none-> ∃sl,h'.get? b=some {o with slots:=sl}) (free: ∀b o,b∉ch->s.heap.get? b=some o->H b=none->H' b=none)
  (there: ∀b o,b∉ch->s.heap.get? b=some o-> ∃o',h'.get? b=some o')
  (pY: ∀b xs,H b=some (.tup xs)->H' b=some (.tup xs)) (oR: ∀b o u,H b=some (.Cp o u)->H' b=some (.Cp o u)) (oS: ∀b ps,H b=some (.mh ps)-> ∃more,H' b=some (.mh (ps ++ more)))
  (ns: ∀m,s.heap.Ns X.env.locals m->h'.Ns X.env.locals m) (cm:nV X.prog X.w H' h') (hg:AllBare g'):
  Inv X pins σ H' {s with heap:=h',gens:=g',drawn:=d',toks:=t'}:=by
 have X4: ∀b o,X.s₀.heap.get? b=some o->b≠X.env.locals:=fun b o e=>aU (ba (aH e) I.ok.above);have TN: ∀b o,X.s₀.heap.get? b=some o->b∉X.ex->b∉ch:=fun b o e hx hb=>by
  rcases(Az b hb).1 with z|z
  ·exact hx z
  ·exact absurd (ba (aH e) z) (iE _)
 have cellK: ∀x c,X.env.cells.lookup x=some c-> ∀v,s.heap.IsCell c v->h'.IsCell c v:=fun x c e v ⟨o,ho,hd⟩=>by
  have Qw:c∉ch:=fun z=>(Az c z).2.2.1 x c e rfl;by_cases hc:c∈X.fs
  ·obtain⟨sl,q⟩:=slot c o (I.Ms x c e) hc Qw ho (I.iC x c e);exact⟨_,q,hd⟩
  ·exact⟨o,keep c o (I.Ms x c e) hc Qw ho (I.iC x c e),hd⟩
 refine⟨I.ok,I.os,hg,⟨fun b o e n hb hx=>?_,fun b o e n hb hx=>?_,fun b o e n hx=>?_,fun b o e hx=>?_,fun b xs e=>pY b xs (I.base.pY b xs e),fun b o xs e=>oR b o xs (I.base.oR b o xs e),fun b ps e=>?_⟩,?_,fun x c e=>?_,?_,fun x c e=>?_,fun p hp=>?_,cm,I.len⟩
 ·exact keep b o (X4 b o e) hb (TN b o e hx) (I.base.keep b o e n hb hx) (I.base.free b o e n hx)
 ·obtain⟨sl,e1⟩:=I.base.slot b o e n hb hx;obtain⟨Z5,e2⟩:=slot b _ (X4 b o e) hb (TN b o e hx) e1 (I.base.free b o e n hx);exact⟨Z5,e2⟩
 ·obtain⟨o',e1⟩:=I.base.there b o e hx;exact free b o' (TN b o e hx) e1 (I.base.free b o e n hx)
 ·obtain⟨o',e1⟩:=I.base.there b o e hx;exact there b o' (TN b o e hx) e1
 ·obtain⟨m1,e1⟩:=I.base.oS b ps e;obtain⟨m2,e2⟩:=oS b _ e1;exact⟨m1 ++ m2,by rw[e2,Array.append_assoc]⟩
 ·obtain⟨m,hn,hl⟩:=I.loc;refine⟨m,ns m hn,fun i x v e1 e2 e3=>?_⟩;obtain⟨u,r,l⟩:=hl i x v e1 e2 e3;refine⟨u,r,?_⟩;rcases l with l|⟨k,c,e,z⟩
  ·exact .inl l
  ·exact .inr ⟨k,c,e,cellK x c e _ z⟩
 ·obtain⟨v,z⟩:=I.cell x c e;exact⟨v,cellK x c e v z⟩
 ·obtain⟨m,⟨o,_,_,ho,_⟩,_⟩:=I.loc;exact free _ o (fun z=>(Az _ z).2.1 rfl) ho I.free
 ·obtain⟨v,o,ho,hd⟩:=I.cell x c e;exact free c o (fun z=>(Az c z).2.2.1 x c e rfl) ho (I.iC x c e)
 ·obtain⟨e,n,ne,nf,d⟩:=I.pin p hp;have Qw:p.1∉ch:=fun z=>(Az p.1 z).2.2.2 p hp rfl;exact⟨keep p.1 p.2 ne nf Qw e n,free p.1 p.2 Qw e n,ne,nf,d⟩
def Inv.un {t':Nat}(I:Inv X pins σ H s)(u:Un X.fs [] H H' s.heap h')(cm:nV X.prog X.w H' h'):Inv X pins σ H' {s with heap:=h',toks:=t'}:=by
 obtain⟨m,⟨o,es,ep,ho,r⟩,_⟩:=id I.loc;obtain⟨sl,hL⟩:=u.any ho I.free (by simp);exact I.step (g':=s.gens) (d':=s.drawn) (ch:=[]) (fun _ z=>nomatch z) (fun b o _ hb _ e n=>u.keep b o e n hb (by simp)) (fun b o _ hb _ e n=>u.slot b o e n hb (by simp)) (fun b o _ e n=>u.free b o e n (by simp)) (fun b o _ e=>u.there b o e (by simp)) u.pY u.oR u.oS (fun m' hm=>by
  obtain⟨o',UX,UY,Kv,r'⟩:=hm;rw[ho] at Kv; cases Kv;exact⟨_,UX,UY,hL,r'⟩) cm I.bare
def Inv.call {g':Array GenState}{t':Nat}{d':Drawn}{ch:List Addr}(I:Inv X pins σ H s)(u:Un (CF X.stack) ch H H' s.heap h')(cm:nV X.prog X.w H' h')(hg:AllBare g')
  (Az: ∀b∈ch,(b∈X.ex∨X.s₀.heap.objs.size<=b)/\b≠X.env.locals/\(∀x c,X.env.cells.lookup x=some c->c≠b)/\ ∀p∈X.pn ++ pins,p.1≠b):
  Inv X pins σ H' {s with heap:=h',gens:=g',drawn:=d',toks:=t'}:=by
 obtain⟨m,⟨o,es,ep,ho,r⟩,_⟩:=id I.loc;obtain⟨sl,hL⟩:=u.any ho I.free fun z=>(Az _ z).2.1 rfl;exact I.step (ch:=ch) Az (fun b o hL hb hc e n=>u.keep b o e n (fun z=>(av.mp (I.tW b z)).elim hL hb) hc) (fun b o _ _ hc e n=>u.any e n hc) (fun b o hc e n=>u.free b o e n hc) (fun b o hc e=>u.there b o e hc) u.pY u.oR u.oS (fun m' hm=>by
  obtain⟨o',UX,UY,Kv,r'⟩:=hm;rw[ho] at Kv; cases Kv;exact⟨_,UX,UY,hL,r'⟩) cm hg
def Inv.turned {t':Nat}{it:Addr}(I:Inv X pins σ H s)(k: ∀b o,b≠it->s.heap.get? b=some o->h'.get? b=some o)(hn:H it=none)(hL:it≠X.env.locals)
  (h1:it∈X.ex∨X.s₀.heap.objs.size<=it) (h2: ∀x c,X.env.cells.lookup x=some c->c≠it) (h3: ∀p∈X.pn ++ pins,p.1≠it):Inv X pins σ H {s with heap:=h',toks:=t'}:=by
 have Qx: ∀b u,H b=some u->b≠it:=fun b u e z=>by rw[z,hn] at e; cases e
 refine I.step (g':=s.gens) (d':=s.drawn) (ch:=[it]) (fun b hb=>?_) (fun b o _ _ hc e _=>k b o (fun z=>hc (by simp[z])) e) (fun b o _ _ hc e _=>⟨o.slots,k b o (fun z=>hc (by simp[z])) e⟩) (fun _ _ _ _ n=>n)
  (fun b o hc e=>⟨o,k b o (fun z=>hc (by simp[z])) e⟩) (fun _ _ e=>e) (fun _ _ _ e=>e) (fun b ps e=>⟨#[],by rw[e]; simp⟩) (fun m hm=>?_) (fun b u e=>?_) I.bare
 ·have e:b=it:=by simpa using hb
  subst e;exact⟨h1,hL,h2,h3⟩
 ·obtain⟨o,es,ep,ho,r⟩:=hm;exact⟨o,es,ep,k _ o (vI hL) ho,r⟩
 ·refine(I.cm b u e).sT (fun c v hc q=>k c v ?_ q) (fun _ q=>q) fun _ _ q=>q;rcases hc with z|z
  ·rw[z]; exact Qx b u e
  ·exact Qx c _ z
def Inv.tok (I:Inv X pins σ H s)(t:Nat):Inv X pins σ H {s with toks:=t}:=I.un (h':=s.heap) (t':=t) Un.refl I.cm
def Inv.kept {t':Nat}(I:Inv X pins σ H s)(k: ∀b u,s.heap.get? b=some u->h'.get? b=some u):Inv X pins σ H {s with heap:=h',toks:=t'}:=I.un (Un.kept k) (I.cm.kept k)
def Inv.laid {a:Addr}{o:HO}{t':Nat}(I:Inv X pins σ H s)(k: ∀b u,s.heap.get? b=some u->h'.get? b=some u)(hp:s.heap.objs.size<=a)(new:di X.prog X.w (upd H a o) h' a o):
  Inv X pins σ (upd H a o) {s with heap:=h',toks:=t'}:=I.un (Un.laid k hp (I.cm.fresh hp)) (I.cm.laid k hp new)
def Inv.write {x e:Addr}{o:HO}{t':Nat}(I:Inv X pins σ H s)(mu:Qt (H x))(he:e=x∨H e=some (.own x))(k: ∀b u,b≠e->s.heap.get? b=some u->h'.get? b=some u)(PN: ∃u,h'.get? e=some u)
  (new:di X.prog X.w (upd H x o) h' x o):Inv X pins σ (upd H x o) {s with heap:=h',toks:=t'}:=I.un (Un.write mu he k PN) (I.cm.write mu he k PN new)
def Inv.tE {AA:List (Addr×Obj)}(I:Inv X pins σ H s)(h: ∀p∈AA,s.heap.get? p.1=some p.2/\H p.1=none/\p.1≠X.env.locals/\p.1∉X.fs/\ ∀v,p.2.data≠ .cell v):Inv X AA σ H s:=
 ⟨I.ok,I.os,I.bare,I.base,I.loc,I.cell,I.free,I.iC,fun p hp=>(bb.mp hp).elim (fun z=>I.pin p (cO _ z)) (h p),I.cm,I.len⟩
def AB {N:List Str}(hN:N.Nodup){i j:Nat}{x:Str}(a:N[i]? =some x)(b:N[j]? =some x):i=j:=by
 obtain⟨h1,e1⟩:=ao.mp a;obtain⟨h2,e2⟩:=ao.mp b;exact(List.getElem_inj hN).mp (e1.trans e2.symm)
def xj {M:Model}{A:Around}{E:Value->Shared->Prop}{i:Nat}{x:Str}{v:V}{u:Value}{Q:Unit->Shared->Prop}(I:Inv X pins σ H s)(hN:X.N.Nodup)(hi:X.N[i]? =some x)(hx:Loc X.env.scope x)(r:RelV v u)
  (h: ∀s',Inv X pins (σ.set i (some v)) H s'->(∃a,Heap.SameBut a s.heap s'.heap/\(a=X.env.locals∨X.env.cells.lookup x=some a))->Q () s') (hf:X.fn x=true∨X.env.scope.names.lookup x=some .local:=by first|exact .inl rfl|exact .inr rfl|assumption):wpAny M A (storeName X.env x u) Q E s:=by
 obtain⟨m,hn,hl⟩:=id I.loc;have Nm:(X.env.scope.kind == .class || (X.env.scope.kind == .module && X.env.locals != X.env.globals))=false:=by rw[I.ok.kind]; rfl
 have X5:i < σ.length:=by rw[I.len]; exact(ao.mp hi).1
 have Ms:=I.Ms;have tracked: ∀{a:Addr} {h':Heap},(∃o,s.heap.get? a=some o/\H a=none)->Heap.SameBut a s.heap h'->nV X.prog X.w H h':=fun{a h'} ha hs b ob e=>by
  obtain⟨_,_,xk⟩:=ha;refine(I.cm b ob e).sT (fun c w' hc q=>(hs.2 c ?_).trans q) (fun _ q=>q) fun _ _ q=>q;rintro rfl;rcases hc with rfl|hc
  ·rw[xk] at e; cases e
  ·rw[xk] at hc; cases hc
 rcases hx with hk|hk
 ·refine wpAny_storeName_local hk hn (fun h' UZ hs=>?_) Nm;obtain⟨oL,_,_,Nn,_⟩:=id hn;refine h _ ⟨I.ok,I.os,I.bare,⟨fun b o e n hb hx=>?_,fun b o e n hb hx=>?_,I.base.free,fun b o e hx=>?_,I.base.pY,I.base.oR,I.base.oS⟩,⟨_,UZ,fun j y v' e1 e2 e3=>?_⟩,fun y c e=>?_,I.free,I.iC,fun p hp=>?_,tracked ⟨oL,Nn,I.free⟩ hs,by simpa using I.len⟩ ⟨_,hs,.inl rfl⟩
  ·exact(hs.2 b (aU (ba (aH e) I.ok.above))).trans (I.base.keep b o e n hb hx)
  ·obtain⟨sl,e1⟩:=I.base.slot b o e n hb hx;exact⟨sl,(hs.2 b (aU (ba (aH e) I.ok.above))).trans e1⟩
  ·obtain⟨o',e1⟩:=I.base.there b o e hx;exact⟨o',(hs.2 b (aU (ba (aH e) I.ok.above))).trans e1⟩
  ·by_cases hj:j=i
   ·subst hj;rw[hi] at e1; cases e1;rw[kG X5] at e2;cases e2;exact⟨u,r,.inl ⟨hk,by simp⟩⟩
   ·rw[md (vI hj)] at e2;obtain⟨u',r',q⟩:=hl j y v' e1 e2 e3;refine⟨u',r',?_⟩;rcases q with⟨k,e⟩|⟨k,c,e,z⟩
    ·refine .inl ⟨k,?_⟩;have:y≠x:=fun e=>hj (AB hN e1 (e▸hi));simp[this,e]
    ·exact .inr ⟨k,c,e,z.sameBut hs (Ms y c e)⟩
  ·obtain⟨w',z⟩:=I.cell y c e;exact⟨w',z.sameBut hs (Ms y c e)⟩
  ·obtain⟨e,n,ne,nf,d⟩:=I.pin p hp;exact⟨(hs.2 p.1 ne).trans e,n,ne,nf,d⟩
 ·have Kw:X.fn x=true:=by
   rcases hf with z|z
   ·exact z
   ·rw[z] at hk; cases hk
  obtain⟨c,hc⟩:=I.ok.has x (.inl hk);obtain⟨w',z⟩:=I.cell x c hc;refine wpAny_storeName_cell I.ok.kind hk hc z (fun h' Kx hs=>?_);obtain⟨oc,PQ,U0⟩:=id z;refine h {s with heap:=h'} ⟨I.ok,I.os,I.bare,⟨fun b o e n hb hx=>?_,fun b o e n hb hx=>?_,I.base.free,fun b o e hx=>?_,I.base.pY,I.base.oR,I.base.oS⟩,⟨m,hn.sameBut hs (Ne.symm (Ms x c hc)),fun j y v' e1 e2 e3=>?_⟩,fun y c' e=>?_,I.free,I.iC,fun p hp=>?_,tracked ⟨oc,PQ,I.iC x c hc⟩ hs,by simpa using I.len⟩ ⟨c,hs,.inr hc⟩
  ·exact(hs.2 b (aU (ba (aH e) (I.ok.JX x c Kw hc)))).trans (I.base.keep b o e n hb hx)
  ·obtain⟨sl,e1⟩:=I.base.slot b o e n hb hx;exact⟨sl,(hs.2 b (aU (ba (aH e) (I.ok.JX x c Kw hc)))).trans e1⟩
  ·obtain⟨o',e1⟩:=I.base.there b o e hx;exact⟨o',(hs.2 b (aU (ba (aH e) (I.ok.JX x c Kw hc)))).trans e1⟩
  ·by_cases hj:j=i
   ·subst hj;rw[hi] at e1; cases e1;rw[kG X5] at e2;cases e2;exact⟨u,r,.inr ⟨.inl hk,c,hc,Kx⟩⟩
   ·rw[md (vI hj)] at e2;obtain⟨u',r',q⟩:=hl j y v' e1 e2 e3;refine⟨u',r',?_⟩;rcases q with q|⟨k,c',e,z'⟩
    ·exact .inl q
    ·refine .inr ⟨k,c',e,z'.sameBut hs ?_⟩;rintro rfl;exact hj (AB hN e1 (I.ok.inj _ _ _ e hc▸hi))
  ·by_cases TQ:c'=c
   ·subst TQ; exact⟨_,Kx⟩
   ·obtain⟨w2,z2⟩:=I.cell y c' e;exact⟨w2,z2.sameBut hs TQ⟩
  ·obtain⟨e,n,ne,nf,d⟩:=I.pin p hp;refine⟨(hs.2 p.1 ?_).trans e,n,ne,nf,d⟩;intro q;rw[q,PQ] at e;have q':oc=p.2:=aE e;exact d w' (by rw[← q']; exact U0)
def tX {M:Model}{A:Around}{E:Value->Shared->Prop}{i:Nat}{x:Str}{v:V}{u:Value}{Q:Unit->Shared->Prop}(I:Inv X pins σ H s)(hN:X.N.Nodup)(hi:X.N[i]? =some x)(hx:Loc X.env.scope x)(r:RelV v u)
  (h: ∀s',Inv X pins (σ.set i (some v)) H s'->Q () s') (hf:X.fn x=true∨X.env.scope.names.lookup x=some .local:=by first|exact .inl rfl|exact .inr rfl|assumption):wpAny M A (storeName X.env x u) Q E s:=
 xj I hN hi hx r (fun s' I' _=>h s' I') hf
def Inv.D3 {s':Shared}{ch:List Addr}(I:Inv X pins σ H s)(ho:s'.os=s.os)(u:Un (CF X.stack) ch H H' s.heap s'.heap)(cm:nV X.prog X.w H' s'.heap)(hg:AllBare s'.gens)
  (Az: ∀b∈ch,(b∈X.ex∨X.s₀.heap.objs.size<=b)/\b≠X.env.locals/\(∀x c,X.env.cells.lookup x=some c->c≠b)/\ ∀p∈X.pn ++ pins,p.1≠b):Inv X pins σ H' s':=by
 obtain⟨h',g',d',t',o'⟩:=s';have e:o'=s.os:=ho;subst e;exact I.call (g':=g') (t':=t') (d':=d') u cm hg Az
end
abbrev XK:=Value->Option Addr->Hp->Prop
abbrev St:=List (Option V)
abbrev VK:=V->Hp->Prop
abbrev TE:=St->Hp->VK->Prop
abbrev TT:=St->Hp->(Bool->Hp->Prop)->Prop
abbrev TA:=St->Hp->(List V->Hp->Prop)->Prop
structure Ends where
 nx:St->Hp->Prop
 rt:VK
 bk:St->Hp->Prop:=fun _ _=>False
 ct:St->Hp->Prop:=fun _ _=>False
abbrev TS:=Ends->St->Hp->Prop
def EP (X:Cx)(pins:List (Addr×Obj))(σ:St)(Q:VK)(u:Value)(s':Shared):Prop:= ∃v H',Inv X pins σ H' s'/\RelV v u/\Q v H'
def TP (X:Cx)(pins:List (Addr×Obj))(σ:St)(Q:Bool->Hp->Prop)(b:Bool)(s':Shared):Prop:= ∃H',Inv X pins σ H' s'/\Q b H'
def AP (X:Cx)(pins:List (Addr×Obj))(σ:St)(Q:List V->Hp->Prop)(us:List Value)(s':Shared):Prop:= ∃vs H',Inv X pins σ H' s'/\Vals vs us/\Q vs H'
def SP (X:Cx)(pins:List (Addr×Obj))(D:Ends)(f:Flow)(s':Shared):Prop:=
 match f with
 | .next=> ∃σ' H',Inv X pins σ' H' s'/\D.nx σ' H'
 | .brk=> ∃σ' H',Inv X pins σ' H' s'/\D.bk σ' H'
 | .cont=> ∃σ' H',Inv X pins σ' H' s'/\D.ct σ' H'
 | .ret u=> ∃v σ' H',Inv X pins σ' H' s'/\RelV v u/\D.rt v H'
def PE (X:Cx)(e:Expr)(t:TE):Prop:=
 ∀(pins:List (Addr×Obj)) (s:Shared) (σ:St) (H:Hp) (Q:VK),Inv X pins σ H s->t σ H Q->wpAny (model X.prog X.w) X.A (eval e X.env) (EP X pins σ Q) X.xe s
def PT (X:Cx)(e:Expr)(t:TT):Prop:=
 ∀(pins:List (Addr×Obj)) (s:Shared) (σ:St) (H:Hp) (Q:Bool->Hp->Prop),Inv X pins σ H s->t σ H Q->wpAny (model X.prog X.w) X.A (isTrue e X.env (eval e X.env)) (TP X pins σ Q) X.xe s
def PW (X:Cx)(e:Expr)(t:TT):Prop:=
 ∀(whole:Sem Value) (pins:List (Addr×Obj)) (s:Shared) (σ:St) (H:Hp) (Q:Bool->Hp->Prop),Inv X pins σ H s->t σ H Q->wpAny (model X.prog X.w) X.A (isTrue e X.env whole) (TP X pins σ Q) X.xe s
def PW.pt {X:Cx}{e:Expr}{t:TT}(h:PW X e t):PT X e t:=h _
def PA (X:Cx)(es:List Expr)(t:TA):Prop:=
 ∀(pos:Pos) (pins:List (Addr×Obj)) (s:Shared) (σ:St) (H:Hp) (Q:List V->Hp->Prop),Inv X pins σ H s->t σ H Q->wpAny (model X.prog X.w) X.A (spliced (backTo pos (starEach es X.env))) (AP X pins σ Q) X.xe s
def PS (X:Cx)(st:Stmt)(t:TS):Prop:=
 ∀(pins:List (Addr×Obj)) (s:Shared) (σ:St) (H:Hp) (D:Ends),Inv X pins σ H s->t D σ H->wpAny (model X.prog X.w) X.A (exec st X.env) (SP X pins D) X.xe s
def oq (X:Cx)(st:List Stmt)(t:TS):Prop:=
 ∀(pins:List (Addr×Obj)) (s:Shared) (σ:St) (H:Hp) (D:Ends),Inv X pins σ H s->t D σ H->wpAny (model X.prog X.w) X.A (execs st X.env) (SP X pins D) X.xe s
def dN {α:Type}{t:Sem α}{Q Q':α->Shared->Prop}{M:Model}{A:Around}{E:Value->Shared->Prop}{s:Shared}(h:wpAny M A t Q E s)(hQ: ∀a s,Q a s->Q' a s):wpAny M A t Q' E s:=b9 h hQ fun _ _ x=>x
section
variable {X:Cx}
inductive X6 (o:Option (Option V))(k:V->Prop):Prop
 |mk (v:V)(h:o=some (some v))(q:k v):X6 o k
def Qy (i:Nat):TE:=fun σ H Q=>X6 σ[i]? fun v=>Q v H
def tC (v:V):TE:=fun _ H Q=>Q v H
def CG {i:Nat}{x:Str}{pos:Pos}(hN:X.N[i]? =some x)(hv:Qv X.env.scope x)(hd:(x == ("__debug__":Str))=false:=by decide)(qY:(x == ("__classdict__":Str))=false:=by decide):PE X (.Name x pos) (Qy i):=by
 intro pins s σ H Q I h;obtain⟨v,e,h⟩:=h;obtain⟨m,hn,hl⟩:=I.loc;obtain⟨u,r,l⟩:=hl i x v hN e hv;have fin:EP X pins σ Q u s:=⟨v,H,I,r,h⟩;rcases l with⟨hk,hm⟩|⟨hk,c,hc,lX⟩
 ·exact wpAny_Name (wpAny_loadName_local I.ok.kind hk hn hm fin) hd
 ·rcases hk with hk|hk
  ·exact wpAny_Name (wpAny_loadName_cell I.ok.kind hk hc lX fin) hd
  ·exact wpAny_Name (wpAny_loadName_free I.ok.kind hk hc lX fin qY) hd
def aj {i j pos}:PE X (.Constant (.int i) j pos) (tC (.int i)):=fun _ _ _ H _ I h=>wpAny_Constant_int ⟨.int i,H,I.tok _,⟨_,rfl⟩,h⟩
def mi {b j pos}:PE X (.Constant (.bool b) j pos) (tC (.bl b)):=fun _ _ _ H _ I h=>Constant_bool ⟨.bl b,H,I,rfl,h⟩
def CI {j pos}:PE X (.Constant .none j pos) (tC .dW):=fun _ _ _ H _ I h=>Constant_none ⟨.dW,H,I,rfl,h⟩
def aN {x j pos}:PE X (.Constant (.str x) j pos) (tC (.str x)):=fun _ _ _ H _ I h=>Calls.Constant_str ⟨.str x,H,I.tok _,⟨_,rfl⟩,h⟩
def Gl (X:Cx)(x:Str):Prop:=X.env.kindOf x=some .globalImplicit
def ji {E:Value->Shared->Prop}{pins:List (Addr×Obj)}{s:Shared}{σ:St}{H:Hp}{x:Str}{u:Value}{pos:Pos}{Q:Value->Shared->Prop}(I:Inv X pins σ H s)(hg:Gl X x)(hm:X.mg x=some u)(h:Q u s)
  (hd:(x == ("__debug__":Str))=false:=by decide):wpAny (model X.prog X.w) X.A (eval (.Name x pos) X.env) Q E s:=
 Calls.Name_function_global I.ok.kind hg (Calls.loadGlobal_global (by rw[I.ok.glob]; exact I.mod.glob.keeps I.bk) hm h) hd
def oT {E:Value->Shared->Prop}{pins:List (Addr×Obj)}{s:Shared}{σ:St}{H:Hp}{x:Str}{u:Value}{pos:Pos}{Q:Value->Shared->Prop}(I:Inv X pins σ H s)(hg:Gl X x)(hm:X.mg x=none)(hv:bootBuiltins x=some u)(h:Q u s)
  (hn:x≠"__name__":=by decide) (hd:(x == ("__debug__":Str))=false:=by decide):wpAny (model X.prog X.w) X.A (eval (.Name x pos) X.env) Q E s:=by
 obtain⟨mb,h1,h2⟩:=I.mod.blt;exact Calls.Name_function_global I.ok.kind hg (Calls.loadGlobal_builtin (by rw[I.ok.glob]; exact I.mod.glob.keeps I.bk) hm (by rw[I.ok.blt]; exact h1.keeps I.bk) ((h2 x hn).trans hv) h) hd
def D4 {x:Str}{v:V}{u:Value}{pos:Pos}(hg:Gl X x)(hm:X.mg x=some u)(r:RelV v u)(hd:(x == ("__debug__":Str))=false:=by decide):PE X (.Name x pos) (tC v):=
 fun _ _ _ H _ I h=>ji I hg hm ⟨v,H,I,r,h⟩ hd
def yj {x:Str}{v:V}{u:Value}{pos:Pos}(hg:Gl X x)(hm:X.mg x=none)(hv:bootBuiltins x=some u)(r:RelV v u)(hn:x≠"__name__":=by decide)(hd:(x == ("__debug__":Str))=false:=by decide):PE X (.Name x pos) (tC v):=
 fun _ _ _ H _ I h=>oT I hg hm hv ⟨v,H,I,r,h⟩ hn hd
variable {a b:Expr}{ta tb:TE}{pos:Pos}
def PC (X:Cx)(op:CmpOp)(a b:Expr)(t:TE):Prop:=
 ∀(pins:List (Addr×Obj)) (s:Shared) (σ:St) (H:Hp) (Q:VK),Inv X pins σ H s->t σ H Q->
  wpAny (model X.prog X.w) X.A (eval a X.env) (fun v s₁=>wpAny (model X.prog X.w) X.A (eval b X.env) (fun u s₂=>wpAny (model X.prog X.w) X.A (compareOp op v u) (EP X pins σ Q) X.xe s₂) X.xe s₁) X.xe s
def AD (b:Expr){op:CmpOp}(h:op≠ .In)(h2:op≠ .NotIn):behindInMarks op b=false:=by
 have e1:(op == CmpOp.In)=false:=by cases op <;> first|rfl|exact absurd rfl h
 have e2:(op == CmpOp.NotIn)=false:=by cases op <;> first|rfl|exact absurd rfl h2
 cases b <;> simp[behindInMarks,e1,e2]
def U1 (ta:TE):TE:=fun σ H Q=>ta σ H fun x H1=>Q (.bl (decide (x= .dW))) H1
def Qz (ta:TE):TE:=fun σ H Q=>ta σ H fun x H1=>Q (.bl (!decide (x= .dW))) H1
def RelV.AE {x:V}{v:Value}(r:RelV x v):(v == Value.none)=decide (x= .dW):=by
 cases x with
 |dW=>cases r; rfl
 |bl _=>cases r; rfl
 |int _=>obtain⟨t,rfl⟩:=r; rfl
 |str _=>obtain⟨t,rfl⟩:=r; rfl
 |Fl _=>obtain⟨t,rfl⟩:=r; rfl
 |Kr _=>obtain⟨t,rfl⟩:=r; rfl
 |ref _=>cases r; rfl
 |ty _=>cases r; rfl
def Hq {j pos'}(ha:PE X a ta):PC X .Is a (.Constant .none j pos') (U1 ta):=by
 intro pins s σ H Q I h;refine dN (ha pins s σ H _ I h) fun v s1 ⟨x,H1,I1,r1,q1⟩=>?_;exact Constant_none (is_none_gen ⟨.bl _,H1,I1,by rw[r1.AE]; rfl,q1⟩)
def Ky {j pos'}(ha:PE X a ta):PC X .IsNot a (.Constant .none j pos') (Qz ta):=by
 intro pins s σ H Q I h;refine dN (ha pins s σ H _ I h) fun v s1 ⟨x,H1,I1,r1,q1⟩=>?_;exact Constant_none (isnot_none_gen ⟨.bl _,H1,I1,by rw[r1.AE]; rfl,q1⟩)
def tB (t:TE):TT:=fun σ H Q=>t σ H fun x H1=> ∃c,x= .bl c/\Q c H1
def Np {op:CmpOp}{t:TE}(h:PC X op a b t)(h1:behindInMarks op b=false:=by first|exact AD _ (by decide) (by decide)|rfl):PE X (.Compare a [op] [b] pos) t:=fun pins s σ H Q I hw=>wpAny_Compare1 (h pins s σ H Q I hw) h1
def yk {op:CmpOp}{t:TE}(h:PC X op a b t)(h1:behindInMarks op b=false:=by first|exact AD _ (by decide) (by decide)|rfl):PT X (.Compare a [op] [b] pos) (tB t):=by
 intro pins s σ H Q I hw;refine wpAny_isTrue_Compare1 (dN (h pins s σ H _ I hw) fun v s1 h1=>dN h1 fun u s2 h2=>dN h2 fun c s3 ⟨x,H1,I1,r1,q1⟩=>?_) h1;obtain⟨d,rfl,q⟩:=q1;cases r1;exact fJ ⟨H1,I1,q⟩
def fS {e:Expr}{t:TE}(h:PE X e t)(he: ∀whole,isTrue e X.env whole=(do let v ← whole; standAt e.pos; holding [v] (truthy v)):=by intro _; rfl):PT X e (tB t):=by
 intro pins s σ H Q I hw;refine isTrue_plain (dN (h pins s σ H _ I hw) fun v s1 ⟨x,H1,I1,r1,q1⟩=>?_) (he _);obtain⟨d,rfl,q⟩:=q1;cases r1;exact fJ ⟨H1,I1,q⟩
variable {tA TR:TT}{rest:List Expr}
def U2 (t u:TT):TT:=fun σ H Q=>t σ H fun c H1=>if c=true then u σ H1 Q else Q false H1
def Z6 (t u:TT):TT:=fun σ H Q=>t σ H fun c H1=>if c=true then Q true H1 else u σ H1 Q
def U3 (t:TT):TT:=fun σ H Q=>t σ H fun c H1=>Q (!c) H1
def pw_and1 (ha:PT X a tA):PW X (.BoolOp .And [a] pos) tA:=by
 intro wh pins s σ H Q I h;refine isTrue_and (dN (ha pins s σ H Q I h) fun c s1 e=>?_);cases c with
 |true=>exact isTrue_and_nil e
 |false=>exact e
def pw_or1 (ha:PT X a tA):PW X (.BoolOp .Or [a] pos) tA:=by
 intro wh pins s σ H Q I h;refine isTrue_or (dN (ha pins s σ H Q I h) fun c s1 e=>?_);cases c with
 |false=>exact isTrue_or_nil e
 |true=>exact e
def pw_and (ha:PT X a tA)(hb:PW X (.BoolOp .And (b :: rest) pos) TR):PW X (.BoolOp .And (a :: b :: rest) pos) (U2 tA TR):=by
 intro wh pins s σ H Q I h;refine isTrue_and (dN (ha pins s σ H _ I h) fun c s1 ⟨H1,I1,q1⟩=>?_);cases c with
 |true=>exact hb wh pins s1 σ H1 Q I1 q1
 |false=>exact⟨H1,I1,q1⟩
def pw_or (ha:PT X a tA)(hb:PW X (.BoolOp .Or (b :: rest) pos) TR):PW X (.BoolOp .Or (a :: b :: rest) pos) (Z6 tA TR):=by
 intro wh pins s σ H Q I h;refine isTrue_or (dN (ha pins s σ H _ I h) fun c s1 ⟨H1,I1,q1⟩=>?_);cases c with
 |true=>exact⟨H1,I1,q1⟩
 |false=>exact hb wh pins s1 σ H1 Q I1 q1
def jy (ha:PT X a tA):PT X (.UnaryOp .Not a pos) (U3 tA):=by
 intro pins s σ H Q I h;exact isTrue_not (ha pins s σ H (fun c H1=>Q (!c) H1) I h)
def QA (ta tb:TE):TE:=fun σ H Q=>ta σ H fun x H1=> ∃c,x= .bl c/\if c=true then tb σ H1 Q else Q (.bl false) H1
def U4 (ta tb:TE):TE:=fun σ H Q=>ta σ H fun x H1=> ∃c,x= .bl c/\if c=true then Q (.bl true) H1 else tb σ H1 Q
def QB (ta:TE):TE:=fun σ H Q=>ta σ H fun x H1=> ∃c,x= .bl c/\Q (.bl (!c)) H1
def mj {op}{t:TE}(h:PE X a t):PE X (.BoolOp op [a] pos) t:=fun pins s σ H Q I hw=>BoolOp_one (h pins s σ H Q I hw)
def oU (ha:PE X a ta)(hb:PE X (.BoolOp .And (b :: rest) pos) tb):PE X (.BoolOp .And (a :: b :: rest) pos) (QA ta tb):=by
 intro pins s σ H Q I h;refine BoolOp_and (dN (ha pins s σ H _ I h) fun v s1 ⟨x,H1,I1,r1,q1⟩=>?_);obtain⟨c,rfl,q1⟩:=q1;cases r1;refine fJ ?_;cases c with
 |true=>exact hb pins s1 σ H1 Q I1 q1
 |false=>exact⟨.bl false,H1,I1,rfl,q1⟩
def QC (ha:PE X a ta)(hb:PE X (.BoolOp .Or (b :: rest) pos) tb):PE X (.BoolOp .Or (a :: b :: rest) pos) (U4 ta tb):=by
 intro pins s σ H Q I h;refine BoolOp_or (dN (ha pins s σ H _ I h) fun v s1 ⟨x,H1,I1,r1,q1⟩=>?_);obtain⟨c,rfl,q1⟩:=q1;cases r1;refine fJ ?_;cases c with
 |false=>exact hb pins s1 σ H1 Q I1 q1
 |true=>exact⟨.bl true,H1,I1,rfl,q1⟩
def Nq (ha:PE X a ta):PE X (.UnaryOp .Not a pos) (QB ta):=by
 intro pins s σ H Q I h;refine UnaryOp_ (dN (ha pins s σ H _ I h) fun v s1 ⟨x,H1,I1,r1,q1⟩=>?_);obtain⟨c,rfl,q1⟩:=q1;cases r1;exact not_of (fJ ⟨.bl (!c),H1,I1,rfl,q1⟩)
end
def bF (K:Frag)(H:Hp)(a:Addr)(xs:List V):Prop:=
 Rd H a (.lst xs)∨
  ∃(o:Obj) (bX:Array Value) (n:Nat),K.lookup a=some o/\o.cls= .type "list"/\o.dict=none/\o.data= .seq bX n/\bX.size<=sizeLine/\Vals xs bX.toList
def cv (K:Frag)(H:Hp)(a:Addr)(xs:List V):Prop:=
 Rd H a (.tup xs)∨
  ∃(o:Obj) (bX:Array Value) (n:Nat),K.lookup a=some o/\o.cls= .type "tuple"/\o.data= .seq bX n/\bX.size<=sizeLine/\Vals xs bX.toList
def U5:Value->Option V
 | .none=>some .dW
 | .bool b=>some (.bl b)
 | .int i _=>some (.int i)
 | .str x _=>some (.str x)
 | .bytes b _=>some (.Fl b)
 | .float b _=>some (.Kr b)
 | .ref a=>some (.ref a)
 | .type n=>some (.ty n)
 |_=>none
def RelV.abs {x:V}{u:Value}(r:RelV x u):U5 u=some x:=by
 cases x with
 |dW=>cases r; rfl
 |bl _=>cases r; rfl
 |int _=>obtain⟨t,rfl⟩:=r; rfl
 |str _=>obtain⟨t,rfl⟩:=r; rfl
 |Fl _=>obtain⟨t,rfl⟩:=r; rfl
 |Kr _=>obtain⟨t,rfl⟩:=r; rfl
 |ref _=>cases r; rfl
 |ty _=>cases r; rfl
def RelV.inj {x y:V}{u:Value}(r:RelV x u)(q:RelV y u):x=y:=aE (r.abs.symm.trans q.abs)
def Vals.inj: ∀{xs ys:List V} {us:List Value},Vals xs us->Vals ys us->xs=ys
 |_,_,_,.nil,.nil=>rfl
 |_,_,_,.cons r t,.cons r' t'=>by rw[r.inj r',Vals.inj t t']
section
variable {X:Cx}{pins:List (Addr×Obj)}{σ:St}{H:Hp}{s:Shared}{a:Addr}{xs ys:List V}
def bF.of {K:Frag}(h:H a=some (.lst xs)):bF K H a xs:= .inl (.inl h)
def cv.of {K:Frag}(h:H a=some (.tup xs)):cv K H a xs:= .inl (.inl h)
def Inv.list (I:Inv X pins σ H s)(h:bF X.K H a xs): ∃bX:List Value,Vals xs bX/\PlainL s.heap a bX.toArray/\xs.length<=sizeLine:=by
 rcases h with h|⟨o,bX,n,hk,hc,hd,hs,hz,r⟩
 ·obtain⟨z,bX,n,r,e⟩:=h.ok I.cm;exact⟨bX,r,⟨_,n,e,rfl,rfl,rfl⟩,z⟩
 ·refine⟨bX.toList,r,⟨o,n,I.gx a o hk,hc,hd,by simpa using hs⟩,?_⟩;have e:=r.length;simp only[Array.length_toList] at e;lia
def Inv.tuple (I:Inv X pins σ H s)(h:cv X.K H a xs): ∃bX:List Value,Vals xs bX/\IsTup s.heap a bX.toArray/\xs.length<=sizeLine:=by
 rcases h with h|⟨o,bX,n,hk,hc,hs,hz,r⟩
 ·obtain⟨z,bX,r,p⟩:=h.ok I.cm;exact⟨bX,r,p,z⟩
 ·refine⟨bX.toList,r,⟨o,I.gx a o hk,hc,n,by simpa using hs⟩,?_⟩;have e:=r.length;simp only[Array.length_toList] at e;lia
def Inv.AF (I:Inv X pins σ H s)(h:bF X.K H a xs)(h':bF X.K H a ys):xs=ys:=by
 obtain⟨bX,r,⟨o,n,e,_,_,d⟩,_⟩:=I.list h;obtain⟨qa,r',⟨o',n',e',_,_,d'⟩,_⟩:=I.list h';rw[e] at e'; cases e';rw[d] at d';injection d' with d1 _;have:bX=qa:=by simpa using congrArg Array.toList d1
 subst this;exact r.inj r'
def Inv.Fp (I:Inv X pins σ H s)(h:cv X.K H a xs)(h':cv X.K H a ys):xs=ys:=by
 obtain⟨bX,r,⟨o,e,_,n,d⟩,_⟩:=I.tuple h;obtain⟨qa,r',⟨o',e',_,n',d'⟩,_⟩:=I.tuple h';rw[e] at e'; cases e';rw[d] at d';injection d' with d1 _;have:bX=qa:=by simpa using congrArg Array.toList d1
 subst this;exact r.inj r'
end
abbrev Cx.tY (X:Cx)(E:Value->Shared->Prop):Cx:={X with xe:=E}
abbrev Cx.CJ (X:Cx):Cx:=X.tY fun _ _=>False
def Cx.Ok.tY {X:Cx}(ok:X.Ok)(E:Value->Shared->Prop):(X.tY E).Ok:=
 ⟨ok.mod,ok.kind,ok.glob,ok.blt,ok.above,ok.inj,ok.has,ok.JX,ok.hd,ok.frames,ok.G7,ok.Ku,ok.bs,ok.Ay,ok.vR,ok.vS,ok.lz,ok.D0⟩
def Cx.Ok.mm {X:Cx}{E:Value->Shared->Prop}(ok:(X.tY E).Ok):X.Ok:=
 ⟨ok.mod,ok.kind,ok.glob,ok.blt,ok.above,ok.inj,ok.has,ok.JX,ok.hd,ok.frames,ok.G7,ok.Ku,ok.bs,ok.Ay,ok.vR,ok.vS,ok.lz,ok.D0⟩
section
variable {X:Cx}{pins:List (Addr×Obj)}{σ:St}{H:Hp}{s:Shared}{E:Value->Shared->Prop}
def Inv.tY (I:Inv X pins σ H s)(E:Value->Shared->Prop):Inv (X.tY E) pins σ H s:=⟨I.ok.tY E,I.os,I.bare,I.base,I.loc,I.cell,I.free,I.iC,I.pin,I.cm,I.len⟩
def Inv.mm (I:Inv (X.tY E) pins σ H s):Inv X pins σ H s:=⟨I.ok.mm,I.os,I.bare,I.base,I.loc,I.cell,I.free,I.iC,I.pin,I.cm,I.len⟩
def SP.mm {D:Ends}{f:Flow}{s':Shared}(h:SP (X.tY E) pins D f s'):SP X pins D f s':=by
 cases f with
 |next=>obtain⟨σ',H',I,q⟩:=h; exact⟨σ',H',I.mm,q⟩
 |brk=>obtain⟨σ',H',I,q⟩:=h; exact⟨σ',H',I.mm,q⟩
 |cont=>obtain⟨σ',H',I,q⟩:=h; exact⟨σ',H',I.mm,q⟩
 |ret u=>obtain⟨v,σ',H',I,r,q⟩:=h; exact⟨v,σ',H',I.mm,r,q⟩
def oq.CJ {st:List Stmt}{t:TS}(h:oq X.CJ st t):oq X st t:=fun pins s σ H D I hw=>
 b9 (h pins s σ H D (I.tY _) hw) (fun _ _ q=>q.mm) fun _ _ z=>False.elim z
end
section
variable {X:Cx}{st:Stmt}{rest:List Stmt}{t u:TS}{e:Expr}{te:TE}{pos:Pos}
def QD:TS:=fun D σ H=>D.nx σ H
def U6 (t u:TS):TS:=fun D σ H=>t {D with nx:=u D} σ H
def bf:oq X [] QD:=fun _ _ σ H _ I h=>i9 ⟨σ,H,I,h⟩
def ah (h1:PS X st t)(h2:oq X rest u):oq X (st :: rest) (U6 t u):=by
 intro pins s σ H D I h;refine wpAny_execs_cons (dN (h1 pins s σ H {D with nx:=u D} I h) fun f s1 q=>?_);cases f with
 |next=>
  obtain⟨σ',H',I',q⟩:=q;exact h2 pins s1 σ' H' D I' q
 |ret v=>exact q
 |brk=>exact q
 |cont=>exact q
def au (h1:PS X st t):oq X [st] t:=by
 intro pins s σ H D I h;refine wpAny_execs_cons (dN (h1 pins s σ H D I h) fun f s1 q=>?_);cases f with
 |next=>exact i9 q
 |ret v=>exact q
 |brk=>exact q
 |cont=>exact q
def Inv.quiet {pins:List (Addr×Obj)}{σ:St}{H:Hp}{s:Shared}(I:Inv X pins σ H s):interactive X.env=false:=by simp[interactive,I.ok.kind]
def QE (te:TE):TS:=fun D σ H=>te σ H fun _ H1=>D.nx σ H1
def bG (he:PE X e te)(hs:swapsWith e none pos.line X.env=pure false:=by rfl):PS X (.Expr e pos) (QE te):=by
 intro pins s σ H D I h;exact wpAny_Expr_any (dN (he pins s σ H _ I h) fun v s1 ⟨x,H1,I1,r1,q1⟩=>⟨σ,H1,I1,q1⟩) I.quiet hs
def U7 (te:TE):TS:=fun D σ H=>te σ H D.rt
def a6 (he:PE X e te):PS X (.Return (some e) pos) (U7 te):=by
 intro pins s σ H D I h;exact wpAny_Return_some (dN (he pins s σ H _ I h) fun v s1 ⟨x,H1,I1,r1,q1⟩=>⟨x,σ,H1,I1,r1,q1⟩)
def U8 (c:TT)(t u:TS):TS:=fun D σ H=>c σ H fun b H1=>if b=true then t D σ H1 else u D σ H1
def bO {c:Expr}{a b:List Stmt}{tc:TT}(hc:PT X c tc)(ha:oq X a t)(hb:oq X b u):PS X (.If c a b pos) (U8 tc t u):=by
 intro pins s σ H D I h;refine wpAny_If (dN (hc pins s σ H _ I h) fun d s1 ⟨H1,I1,q1⟩=>?_);cases d with
 |true=>exact ha pins s1 σ H1 D I1 q1
 |false=>exact hb pins s1 σ H1 D I1 q1
end
abbrev TG:=V->St->Hp->(St->Hp->Prop)->Prop
abbrev Kz:=List V->St->Hp->(St->Hp->Prop)->Prop
def PG (X:Cx)(target:Expr)(t:TG):Prop:=
 ∀(pins:List (Addr×Obj)) (s:Shared) (σ:St) (H:Hp) (v:V) (u:Value) (Q:St->Hp->Prop),Inv X pins σ H s->RelV v u->t v σ H Q->
  wpAny (model X.prog X.w) X.A (assign target X.env u) (fun _ s'=> ∃σ' H',Inv X pins σ' H' s'/\Q σ' H') X.xe s
def Hr (X:Cx)(ts:List Expr)(t:Kz):Prop:=
 ∀(pins:List (Addr×Obj)) (s:Shared) (σ:St) (H:Hp) (vs:List V) (us:List Value) (Q:St->Hp->Prop),Inv X pins σ H s->Vals vs us->t vs σ H Q->
  wpAny (model X.prog X.w) X.A (assignInOrder ((assignEach ts X.env).map (·.2)) us) (fun _ s'=> ∃σ' H',Inv X pins σ' H' s'/\Q σ' H') X.xe s
abbrev Nr:=V->V->V->Hp->(Hp->Prop)->Prop
def QF (X:Cx)(t:Nr):Prop:=
 ∀(pins:List (Addr×Obj)) (s:Shared) (σ:St) (H:Hp) (o i v:V) (ov iv u:Value) (Q:Hp->Prop),Inv X pins σ H s->RelV o ov->RelV i iv->RelV v u->t o i v H Q->
  wpAny (model X.prog X.w) X.A (setItem ov iv u) (fun _ s'=> ∃H',Inv X pins σ H' s'/\Q H') X.xe s
section
variable {X:Cx}{pos:Pos}
def AG (i:Nat):TG:=fun v σ H Q=>Q (σ.set i (some v)) H
def en {i:Nat}{x:Str}(hN:X.N.Nodup)(hi:X.N[i]? =some x)(hx:Loc X.env.scope x)(hf:X.fn x=true∨X.env.scope.names.lookup x=some .local:=by first|exact .inl rfl|exact .inr rfl|assumption):PG X (.Name x pos) (AG i):=by
 intro pins s σ H v u Q I r h;exact wpAny_assign_Name (tX I hN hi hx r (fun s' I'=>⟨_,H,I',h⟩) hf)
def U9:Kz:=fun vs σ H Q=>vs=[]/\Q σ H
inductive X7 (vs:List V)(k:V->List V->Prop):Prop
 |mk (v:V)(r:List V)(h:vs=v :: r)(q:k v r):X7 vs k
def QG (t:TG)(u:Kz):Kz:=fun vs σ H Q=>X7 vs fun v r=>t v σ H fun σ' H'=>u r σ' H' Q
def gp:Hr X [] U9:=by
 intro pins s σ H vs us Q I r h;obtain⟨e,h⟩:=h;subst e;cases r;exact assignInOrder_nil ⟨σ,H,I,h⟩
def bW {e:Expr}{es:List Expr}{t:TG}{u:Kz}(h1:PG X e t)(h2:Hr X es u)
  (hs:(assignEach (e :: es) X.env).map (·.2)=assign e X.env :: (assignEach es X.env).map (·.2):=by rfl):Hr X (e :: es) (QG t u):=by
 intro pins s σ H vs us Q I r h;obtain⟨v,vr,e1,h⟩:=h;subst e1;cases r with
 |cons r rr=>
  rw[hs];refine assignInOrder_cons (dN (h1 pins s σ H _ _ _ I r h) fun _ s1 ⟨σ1,H1,I1,q1⟩=>?_);exact h2 pins s1 σ1 H1 _ _ Q I1 rr q1
inductive X8 (K:Frag)(H:Hp)(n:Nat)(v:V)(k:List V->Prop):Prop
 |mk (a:Addr)(xs:List V)(h1:v= .ref a)(h2:cv K H a xs)(h3:xs.length=n)(q:k xs):X8 K H n v k
def Nt (K:Frag)(n:Nat)(t:Kz):TG:=fun v σ H Q=>X8 K H n v fun xs=>t xs σ H Q
def Hs {es:List Expr}{k:Nat}{t:Kz}{n:Nat}(hc:X.calm=true)(h:Hr X es t)
  (hn:(assignEach es X.env).length=n:=by rfl) (qZ:(assignEach es X.env).findIdx? (·.1)=none:=by rfl):PG X (.Tuple es k pos) (Nt X.K n t):=by
 intro pins s σ H v u Q I r hw;obtain⟨a,xs,e1,hq,hl,hw⟩:=hw;subst e1;cases r;obtain⟨bX,rv,ht,hz⟩:=I.tuple hq;refine assign_Tuple_tuple (I.ok.hd hc) ht (by simp[hn,← hl,rv.length]) qZ fun h' hx=>?_;have I1:Inv X pins σ H {s with heap:=h'}:=I.kept (t':=s.toks) fun b o e=>hx b o (aU (aH e)) e;exact h pins _ σ H xs _ Q I1 (by simpa using rv) hw
def Va (to ti:TE)(t:Nr):TG:=fun v σ H Q=>to σ H fun o H1=>ti σ H1 fun i H2=>t o i v H2 fun H3=>Q σ H3
def mq {o i:Expr}{to ti:TE}{t:Nr}(ho:PE X o to)(hi:PE X i ti)(hs:QF X t)
  (ha: ∀v,assign (.Subscript o i pos) X.env v=(do
   let ov ← holding [v] (eval o X.env)
   let iv ← holding [v,ov] (eval i X.env)
   standAt pos
   holding [v,ov,iv] (setItem ov iv v)
   release [v,ov,iv] []):=by intro _; rfl):PG X (.Subscript o i pos) (Va to ti t):=by
 intro pins s σ H v u Q I r h;rw[ha];refine aA (hJ (dN (ho pins s σ H _ I h) fun ov s1 ⟨x,H1,I1,r1,q1⟩=>?_));refine aA (hJ (dN (hi pins s1 σ H1 _ I1 q1) fun iv s2 ⟨y,H2,I2,r2,q2⟩=>?_));refine aA (hV (aA (hJ (dN (hs pins s2 σ H2 x y v ov iv u _ I2 r1 r2 r q2) fun _ s3 ⟨H3,I3,q3⟩=>?_))));exact wpAny_release ⟨σ,H3,I3,q3⟩
def KA (te:TE)(g:TG):TS:=fun D σ H=>te σ H fun x H1=>g x σ H1 D.nx
def kq {tg e:Expr}{te:TE}{g:TG}(he:PE X e te)(hg:PG X tg g)(hs:swapsWithSole [tg] e pos.line X.env=pure false:=by rfl)(hw:swappedStores [tg] e X.env=pure none:=by rfl)
  (h1:(assignEach [tg] X.env).map (·.2)=[assign tg X.env]:=by rfl):PS X (.Assign [tg] e pos) (KA te g):=by
 intro pins s σ H D I h;refine wpAny_Assign_stores (dN (he pins s σ H _ I h) fun v s1 ⟨x,H1,I1,r1,q1⟩=>?_) hs hw;rw[h1];exact dN (hg pins s1 σ H1 x v _ I1 r1 q1) fun _ s2 q=>q
def Nu {i:Nat}{x:Str}{e:Expr}{te:TE}{pos':Pos}(hN:X.N.Nodup)(hi:X.N[i]? =some x)(hx:Loc X.env.scope x)(he:PE X e te)(hs:swapsWith e (some (.Name x pos')) pos.line X.env=pure false:=by rfl)(hf:X.fn x=true∨X.env.scope.names.lookup x=some .local:=by first|exact .inl rfl|exact .inr rfl|assumption):
  PS X (.Assign [.Name x pos'] e pos) (KA te (AG i)):=by
 intro pins s σ H D I h;refine wpAny_Assign_Name (dN (he pins s σ H _ I h) fun v s1 ⟨y,H1,I1,r1,q1⟩=>?_) hs;exact tX I1 hN hi hx r1 (fun s2 I2=>⟨_,H1,I2,q1⟩) hf
def Nv (c:TT)(tb:TS):TS:=fun D σ H=> ∃W:Nat->St->Hp->Prop,(∃m,W m σ H)/\ ∀m σ H,W m σ H->
 c σ H fun b H1=>if b=true then ∃N:St->Hp->Prop,(∀σ' H',N σ' H'-> ∃m',m' < m/\W m' σ' H')/\tb {D with nx:=N,ct:=N,bk:=D.nx} σ H1 else D.nx σ H1
def Ht {c:Expr}{body:List Stmt}{tc:TT}{tb:TS}(hp:PassesOwn (model X.prog X.w) X.A X.env X.xe)(hc:PT X c tc)(hb:oq X body tb):PS X (.While c body [] pos) (Nv tc tb):=by
 intro pins s σ H D I h;obtain⟨W,⟨m0,w0⟩,turn⟩:=h;refine wpAny_While (codeAny_whileLoop (fun n s'=> ∃σ' H',Inv X pins σ' H' s'/\W n σ' H') ?_ m0 ⟨σ,H,I,w0⟩);rintro n s1 ⟨σ1,H1,I1,w1⟩;refine dH hp (dN (hc pins s1 σ1 H1 _ I1 (turn n σ1 H1 w1)) fun b s2 ⟨H2,I2,q2⟩=>?_);cases b with
 |true=>
  obtain⟨N,hN,q2⟩:=q2;rw[aZ rfl];refine dH hp (dN (hb pins s2 σ1 H2 _ I2 q2) fun f s3 q3=>?_);cases f with
  |next=>
   obtain⟨σ3,H3,I3,n3⟩:=q3;obtain⟨m',hm,w3⟩:=hN σ3 H3 n3;exact⟨m',hm,σ3,H3,I3,w3⟩
  |cont=>
   obtain⟨σ3,H3,I3,n3⟩:=q3;obtain⟨m',hm,w3⟩:=hN σ3 H3 n3;exact⟨m',hm,σ3,H3,I3,w3⟩
  |brk=>exact q3
  |ret v=>exact q3
 |false=>
  rw[aL aW];exact i9 ⟨σ1,H2,I2,q2⟩
end
structure It where
 go:Nat->Hp->Prop
 PR:Nat->Hp->V->Hp->Prop
 stop:Nat->Hp->Prop
def tZ (X:Cx)(pins:List (Addr×Obj))(H:Hp)(b:Addr):Prop:=
 H b=none/\b≠X.env.locals/\b∉X.fs/\(b∈X.ex∨X.s₀.heap.objs.size<=b)/\(∀x c,X.env.cells.lookup x=some c->c≠b)/\ ∀p∈X.pn ++ pins,p.1≠b
def Inv.Fq {X:Cx}{pins:List (Addr×Obj)}{σ:St}{H H':Hp}{s:Shared}{b:Addr}(I:Inv X pins σ H s)(hb:s.heap.objs.size<=b)(hn:H' b=none):tZ X pins H' b:=by
 refine⟨hn,pM (ba I.lt hb),I.Fn hb,.inr (aV I.sz hb),fun x c e z=>?_,fun p hp z=>?_⟩
 ·obtain⟨v,q⟩:=I.cell x c e;exact absurd (ba q.lt (by rw[z]; exact hb)) (iE _)
 ·exact absurd (ba (aH (I.pin p hp).1) (by rw[z]; exact hb)) (iE _)
structure Turn (P:Program)(w:World)(K:Frag)(tg:Expr)(J:It)(fp:List Addr)(it:Addr)(tn:Nat->Heap->Prop):Prop where
 mem:it∈fp
 obj: ∀i h,tn i h-> ∀b∈fp,∃o,h.get? b=some o/\ ∀v,o.data≠ .cell v
 keep: ∀i h h',tn i h->(∀b∈fp,∀o,h.get? b=some o->h'.get? b=some o)->tn i h'
 item: ∀(X:Cx),X.prog=P->X.w=w->X.K=K->X.calm=true-> ∀(i:Nat) (pins:List (Addr×Obj)) (s:Shared) (σ:St) (H:Hp) (E:Value->Shared->Prop),Inv X pins σ H s->(∀b∈fp,tZ X pins H b)->tn i s.heap->J.go i H->
  wpAny (model P w) X.A (pyNext (.ref it)) (fun r s1=> ∃u,r=some u/\
   wpAny (model P w) X.A (letOwnedTupleGo tg (.ref it) u) (fun _ s2=> ∃x H',Inv X pins σ H' s2/\RelV x u/\J.PR i H x H'/\tn (i + 1) s2.heap/\ ∀b∈fp,H' b=none) E s1) E s
 done: ∀(X:Cx),X.prog=P->X.w=w->X.K=K->X.calm=true-> ∀(i:Nat) (pins:List (Addr×Obj)) (s:Shared) (σ:St) (H:Hp) (E:Value->Shared->Prop),Inv X pins σ H s->(∀b∈fp,tZ X pins H b)->tn i s.heap->J.stop i H->
  wpAny (model P w) X.A (pyNext (.ref it)) (fun r s1=>r=none/\Inv X pins σ H s1) E s
 self: ∀(A:Around) (i:Nat) (s:Shared) (Q:Value->Shared->Prop) (E:Value->Shared->Prop),tn i s.heap->Q (.ref it) s->wpAny (model P w) A (pyIter (.ref it)) Q E s
abbrev TI:=St->Hp->(It->Hp->Prop)->Prop
def X9 (X:Cx)(pins:List (Addr×Obj))(σ:St)(tg:Expr)(R:It->Hp->Prop)(TU:Value)(s2:Shared):Prop:=
 ∃(it:Addr) (fp:List Addr) (tn:Nat->Heap->Prop) (J:It) (H':Hp),TU= .ref it/\Inv X pins σ H' s2/\Turn X.prog X.w X.K tg J fp it tn/\tn 0 s2.heap/\(∀b∈fp,tZ X pins H' b)/\R J H'
def PI (X:Cx)(tg iter:Expr)(wi:TI):Prop:=
 ∀(pins:List (Addr×Obj)) (s:Shared) (σ:St) (H:Hp) (R:It->Hp->Prop),Inv X pins σ H s->wi σ H R->
  wpAny (model X.prog X.w) X.A (eval iter X.env) (fun v s1=>wpAny (model X.prog X.w) X.A (pyIter v) (X9 X pins σ tg R) X.xe s1) X.xe s
def D5 {M:Model}{A:Around}{E:Value->Shared->Prop}{s:Shared}{tg:Expr}{it:Addr}{u:Value}{o:Obj}{n:String}{vs:Array Value}{Q:Unit->Shared->Prop}(ho:s.heap.get? it=some o)(hc:o.cls= .type n)(hd:o.data= .fields vs)
  (hn:["enumerate","zip","dict_itemiterator","dict_reverseitemiterator","odict_iterator","itertools.zip_longest","itertools.pairwise"].contains n=false) (hQ:Q () s):wpAny M A (letOwnedTupleGo tg (.ref it) u) Q E s:=by
 unfold letOwnedTupleGo;cases tg <;> first
  |exact bA hQ
  |(cases u <;> first
    |exact bA hQ
    |(refine aA (wpAny_load ho ?_)
      rw[hc,hd];show wpAny M A (if(["enumerate","zip","dict_itemiterator","dict_reverseitemiterator","odict_iterator","itertools.zip_longest","itertools.pairwise"].contains n && vs[0]? == some (rawInt _))=true then _ else _) Q E s;rw[aL (by intro h; rw[hn,M8] at h; cases h)];exact bA hQ))
def PU (K:Frag)(a:Addr):It:=
 ⟨fun i H=> ∃xs x,bF K H a xs/\xs[i]? =some x,fun i H x H'=>H'=H/\ ∀xs,bF K H a xs->xs[i]? =some x,fun i H=> ∃xs,bF K H a xs/\xs.length<=i⟩
def Vb (K:Frag)(a:Addr):It:=
 ⟨fun i H=> ∃xs x,cv K H a xs/\xs[i]? =some x,fun i H x H'=>H'=H/\ ∀xs,cv K H a xs->xs[i]? =some x,fun i H=> ∃xs,cv K H a xs/\xs.length<=i⟩
def Mt (lo:Int)(n:Nat):It:=⟨fun i _=>i < n,fun i H x H'=>H'=H/\x= .int (lo + i),fun i _=>n<=i⟩
def Fs {P:Program}{w:World}{K:Frag}{tg:Expr}(a it:Addr):Turn P w K tg (PU K a) [it] it (fun i h=>h.IsListIter it a i) where
 mem:=by simp
 obj:=fun i h st b hb=>by
  have e:b=it:=by simpa using hb
  subst e;obtain⟨o,e,c,d⟩:=st;exact⟨o,e,fun v z=>by rw[d] at z; cases z⟩
 keep:=fun i h h' st k=>st.at fun o e=>k it (by simp) o e
 item:=by
  intro X hP hw hK hc i pins s σ H E I hf st hg;subst hP hw hK;obtain⟨xs,x,hq,hx⟩:=hg;obtain⟨bX,rv,p,hz⟩:=I.list hq;obtain⟨u,hu,ru⟩:=rv.get hx;obtain⟨f0,f1,f2,f3,f4,f5⟩:=hf it (by simp);refine wpAny_pyNext_list_item st p.isList (x:=u) (by simpa using hu) fun h' Al sb=>?_;have I1:Inv X pins σ H {s with heap:=h'}:=I.turned (t':=s.toks) (fun b o hb e=>(sb.2 b hb).trans e) f0 f1 f3 f4 f5;obtain⟨o,e,c,d⟩:=id Al;exact⟨u,rfl,D5 (s:={s with heap:=h'}) e c d (by decide) ⟨x,H,I1,ru,⟨rfl,fun ys hy=>by rw[I.AF hy hq]; exact hx⟩,Al,fun b hb=>(hf b hb).1⟩⟩
 done:=by
  intro X hP hw hK hc i pins s σ H E I hf st hg;subst hP hw hK;obtain⟨xs,hq,hx⟩:=hg;obtain⟨bX,rv,p,hz⟩:=I.list hq;obtain⟨f0,f1,f2,f3,f4,f5⟩:=hf it (by simp);have hl:=rv.length;exact wpAny_pyNext_list_end (I.ok.hd hc) st p.isList (by simp; lia) fun h' eb=>⟨rfl,I.turned (t':=s.toks) (fun b o hb e=>eb b o hb e) f0 f1 f3 f4 f5⟩
 self:=fun _ _ _ _ _ st h=>wpAny_pyIter_listiter st h
def CK {P:Program}{w:World}{K:Frag}{tg:Expr}(a it:Addr):Turn P w K tg (Vb K a) [it] it (fun i h=>h.IsTupleIter it a i) where
 mem:=by simp
 obj:=fun i h st b hb=>by
  have e:b=it:=by simpa using hb
  subst e;obtain⟨o,e,c,d⟩:=st;exact⟨o,e,fun v z=>by rw[d] at z; cases z⟩
 keep:=fun i h h' st k=>st.at fun o e=>k it (by simp) o e
 item:=by
  intro X hP hw hK hc i pins s σ H E I hf st hg;subst hP hw hK;obtain⟨xs,x,hq,hx⟩:=hg;obtain⟨bX,rv,p,hz⟩:=I.tuple hq;obtain⟨u,hu,ru⟩:=rv.get hx;obtain⟨f0,f1,f2,f3,f4,f5⟩:=hf it (by simp);refine wpAny_pyNext_tuple_item st (show s.heap.IsTuple a bX.toArray from p) (x:=u) (by simpa using hu) fun h' Al sb=>?_;have I1:Inv X pins σ H {s with heap:=h'}:=I.turned (t':=s.toks) (fun b o hb e=>(sb.2 b hb).trans e) f0 f1 f3 f4 f5;obtain⟨o,e,c,d⟩:=id Al;exact⟨u,rfl,D5 (s:={s with heap:=h'}) e c d (by decide) ⟨x,H,I1,ru,⟨rfl,fun ys hy=>by rw[I.Fp hy hq]; exact hx⟩,Al,fun b hb=>(hf b hb).1⟩⟩
 done:=by
  intro X hP hw hK hc i pins s σ H E I hf st hg;subst hP hw hK;obtain⟨xs,hq,hx⟩:=hg;obtain⟨bX,rv,p,hz⟩:=I.tuple hq;obtain⟨f0,f1,f2,f3,f4,f5⟩:=hf it (by simp);have hl:=rv.length;exact wpAny_pyNext_tuple_end (I.ok.hd hc) st (show s.heap.IsTuple a bX.toArray from p) (by simp; lia) fun h' eb=>⟨rfl,I.turned (t':=s.toks) (fun b o hb e=>eb b o hb e) f0 f1 f3 f4 f5⟩
 self:=fun _ _ _ _ _ st h=>wpAny_pyIter_tupleiter st h
def CL {P:Program}{w:World}{K:Frag}{tg:Expr}(it:Addr)(lo:Int)(n:Nat):Turn P w K tg (Mt lo n) [it] it (fun i h=>IsRangeIter h it (lo + (i:Nat) * 1) ((n:Int) - (i:Nat)) 1) where
 mem:=by simp
 obj:=fun i h st b hb=>by
  have e:b=it:=by simpa using hb
  subst e;exact⟨_,st,fun v z=>by
   have z':Data.fields _ =Data.cell v:=z;cases z'⟩
 keep:=fun i h h' st k=>k it (by simp) _ st
 item:=by
  intro X hP hw hK hc i pins s σ H E I hf st hg;subst hP hw hK;obtain⟨f0,f1,f2,f3,f4,f5⟩:=hf it (by simp);have W:=Walks.range (prog:=X.prog) (w:=X.w) (I.ok.hd hc) it lo 1 n;refine W.item i s _ _ hg st fun v h' tk hv Al kk=>?_;obtain⟨t,rfl⟩:=hv;have I1:Inv X pins σ H {s with heap:=h',toks:=tk}:=I.turned (fun b o hb e=>kk b o (by simpa using hb) e) f0 f1 f3 f4 f5;refine⟨_,rfl,D5 (s:={s with heap:=h',toks:=tk}) (n:="range_iterator") Al rfl rfl (by decide) ⟨.int (lo + i),H,I1,⟨t,?_⟩,⟨rfl,rfl⟩,Al,fun b hb=>(hf b hb).1⟩⟩;rw[Int.mul_one]
 done:=by
  intro X hP hw hK hc i pins s σ H E I hf st hg;subst hP hw hK;obtain⟨f0,f1,f2,f3,f4,f5⟩:=hf it (by simp);exact wpAny_pyNext_range_end (I.ok.hd hc) st (by have:n<=i:=hg; lia) fun h' eb=>⟨rfl,I.turned (t':=s.toks) (fun b o hb e=>eb b o hb e) f0 f1 f3 f4 f5⟩
 self:=fun _ _ _ _ _ st h=>wpAny_pyIter_rangeiter st h
section
variable {X:Cx}{tg:Expr}
inductive Ya (x:V)(S k:Addr->Prop):Prop
 |mk (a:Addr)(h:x= .ref a)(s:S a)(q:k a):Ya x S k
def Mu (K:Frag)(tl:TE):TI:=fun σ H R=>tl σ H fun x H1=>Ya x (fun a=> ∃xs,bF K H1 a xs) fun a=>R (PU K a) H1
def Vc (K:Frag)(tl:TE):TI:=fun σ H R=>tl σ H fun x H1=> ∃a,x= .ref a/\(∃xs,cv K H1 a xs)/\R (Vb K a) H1
def KC {l:Expr}{tl:TE}(hl:PE X l tl):PI X tg l (Mu X.K tl):=by
 intro pins s σ H R I h;refine dN (hl pins s σ H _ I h) fun v s1 ⟨x,H1,I1,r1,q1⟩=>?_;obtain⟨a,e,⟨xs,hq⟩,q⟩:=q1;subst e;cases r1;obtain⟨bX,rv,p,hz⟩:=I1.list hq;refine M9 p.isList ?_;refine⟨s1.heap.objs.size,[s1.heap.objs.size],_,_,H1,rfl,I1.kept (t':=s1.toks) fun b o e=>ax _ e,Fs a _,⟨_,bH _ rfl,rfl,rfl⟩,fun b hb=>?_,q⟩;have e:b=s1.heap.objs.size:=by simpa using hb
 subst e;exact I1.Fq (aB _) (I1.cm.fresh (aB _))
def Nw {l:Expr}{tl:TE}(hl:PE X l tl):PI X tg l (Vc X.K tl):=by
 intro pins s σ H R I h;refine dN (hl pins s σ H _ I h) fun v s1 ⟨x,H1,I1,r1,q1⟩=>?_;obtain⟨a,e,⟨xs,hq⟩,q⟩:=q1;subst e;cases r1;obtain⟨bX,rv,p,hz⟩:=I1.tuple hq;refine wpAny_pyIter_tuple (show s1.heap.IsTuple a bX.toArray from p) ?_;refine⟨s1.heap.objs.size,[s1.heap.objs.size],_,_,H1,rfl,I1.kept (t':=s1.toks) fun b o e=>ax _ e,CK a _,⟨_,bH _ rfl,rfl,rfl⟩,fun b hb=>?_,q⟩;have e:b=s1.heap.objs.size:=by simpa using hb
 subst e;exact I1.Fq (aB _) (I1.cm.fresh (aB _))
def Hu {pins:List (Addr×Obj)}{σ:St}{H:Hp}{s:Shared}{R:It->Hp->Prop}{E:Value->Shared->Prop}{lo hi:Int}{t u v:Tok}{tk:Nat}(I:Inv X pins σ H s)(h1: -(2 ^ 62)<=lo)(h2:lo < 2 ^ 62)(h3: -(2 ^ 62)<=hi)(h4:hi < 2 ^ 62)
  (q:R (Mt lo (hi - lo).toNat) H):wpAny (model X.prog X.w) X.A (pyIter (.ref s.heap.objs.size)) (X9 X pins σ tg R) E {s with heap:=s.heap.push {cls:= .type "range",data:= .fields #[.int lo t,.int hi u,.int 1 v]},toks:=tk}:=by
 refine wpAny_pyIter_range (IsRange.new ..) (small_one h1 h2 h3 h4) ?_;have I1:Inv X pins σ H {s with heap:=s.heap.push {cls:= .type "range",data:= .fields #[.int lo t,.int hi u,.int 1 v]},toks:=tk}:=I.kept fun b o e=>ax _ e;refine⟨(s.heap.push {cls:= .type "range",data:= .fields #[.int lo t,.int hi u,.int 1 v]}).objs.size,[(s.heap.push {cls:= .type "range",data:= .fields #[.int lo t,.int hi u,.int 1 v]}).objs.size],_,_,H,rfl,
  I1.kept (t':=tk) fun b o e=>ax _ e,CL _ lo (hi - lo).toNat,?_,fun b hb=>?_,q⟩
 ·have e1:lo + ((0:Nat):Int) * 1=lo:=by simp
  have e2:(((hi - lo).toNat:Nat):Int) - ((0:Nat):Int)=Builtin.Range.rangeSize lo hi 1:=by rw[rangeSize_one]; split <;> lia
  show IsRangeIter _ _ (lo + ((0:Nat):Int) * 1) ((((hi - lo).toNat:Nat):Int) - ((0:Nat):Int)) 1;rw[e1,e2];exact bH _ rfl
 ·have e:b=(s.heap.push {cls:= .type "range",data:= .fields #[.int lo t,.int hi u,.int 1 v]}).objs.size:=by simpa using hb
  subst e;exact I1.Fq (aB _) (I1.cm.fresh (aB _))
def QH (ta:TA):TI:=fun σ H R=>ta σ H fun vs H1=> ∃j:Int,vs=[.int j]/\ -(2 ^ 62)<=j/\j < 2 ^ 62/\R (Mt 0 j.toNat) H1
def jq {a:Expr}{ta:TA}{p pos:Pos}(hg:Gl X "range")(hm:X.mg "range"=none)(ha:PA X [a] ta)(hs:starEach [a] X.env=[(false,eval a X.env)]:=by rfl):PI X tg (.Call (.Name "range" p) [a] [] pos) (QH ta):=by
 intro pins s σ H R I h;refine Call_ (oT I hg hm boot_range (nP (dN (ha pos pins s σ H _ I h) fun us s1 ⟨vs,H1,I1,r1,q1⟩=>?_) hs rfl));obtain⟨j,e,q1,q2,q⟩:=q1;subst e;cases r1 with
 |cons r rr=>
  cases rr;obtain⟨t,rfl⟩:=r;exact call_range_1 (Hu I1 (by lia) (by lia) q1 q2 (by simpa using q))
def Vd (wi:TI)(g:TG)(tb:TS):TS:=fun D σ H=>wi σ H fun J H1=> ∃W:Nat->Nat->St->Hp->Prop,(∃m,W 0 m σ H1)/\ ∀i m σ H,W i m σ H->
 (J.stop i H/\D.nx σ H)∨(J.go i H/\ ∃N:St->Hp->Prop,(∀σ' H',N σ' H'-> ∃m',m' < m/\W (i + 1) m' σ' H')/\ ∀x H',J.PR i H x H'->g x σ H' fun σ2 H2=>tb {D with nx:=N,ct:=N,bk:=D.nx} σ2 H2)
def oV (fp:List Addr)(h:Heap):List (Addr×Obj):=fp.filterMap fun b=>(h.get? b).map fun o=>(b,o)
def jz {fp:List Addr}{h:Heap}{b:Addr}{o:Obj}(hb:b∈fp)(e:h.get? b=some o):(b,o)∈oV fp h:=List.mem_filterMap.mpr ⟨b,hb,by rw[e]; rfl⟩
def Ft {fp:List Addr}{h:Heap}{p:Addr×Obj}(hp:p∈oV fp h):p.1∈fp/\h.get? p.1=some p.2:=by
 obtain⟨b,hb,e⟩:=List.mem_filterMap.mp hp;cases q:h.get? b with
 |none=>rw[q] at e; cases e
 |some o=>
  rw[q] at e;have e':(b,o)=p:=aE e;subst e';exact⟨hb,q⟩
def Inv.pinned {pins:List (Addr×Obj)}{σ:St}{H:Hp}{s:Shared}{fp:List Addr}(I:Inv X pins σ H s)(hf: ∀b∈fp,tZ X pins H b)(ho: ∀b∈fp,∃o,s.heap.get? b=some o/\ ∀v,o.data≠ .cell v):Inv X (pins ++ oV fp s.heap) σ H s:=
 I.tE fun p hp=>(bb.mp hp).elim (fun z=>I.pin p (bp _ z)) fun z=>by
  obtain⟨hb,e⟩:=Ft z;obtain⟨f0,f1,f2,_⟩:=hf p.1 hb;obtain⟨o,e',d⟩:=ho p.1 hb;rw[e] at e'; cases e';exact⟨e,f0,f1,f2,d⟩
def Inv.iR {pins pl:List (Addr×Obj)}{σ:St}{H:Hp}{s:Shared}(I:Inv X (pins ++ pl) σ H s):Inv X pins σ H s:=I.tE fun p hp=>I.pin p (bp _ (cO _ hp))
def fk {iter:Expr}{body:List Stmt}{wi:TI}{g:TG}{tb:TS}{pos:Pos}(hp:PassesOwn (model X.prog X.w) X.A X.env X.xe)(hc:X.calm=true)(hi:PI X tg iter wi)(hg:PG X tg g)(hb:oq X body tb)
  (hs: ∀x,foldedSetIterable iter X.env x=pure x:=by intro _; rfl):PS X (.For tg iter body [] pos) (Vd wi g tb):=by
 intro pins s σ H D I h;refine wpAny_For (dN (hi pins s σ H _ I h) fun v s1 h1=>dN h1 fun TU s2 h2=>?_) hs;obtain⟨it,fp,tn,J,H2,e,I2,T,Mv,f2,W,⟨m0,w0⟩,turn⟩:=h2;subst e;have rz: ∀{H':Hp},(∀b∈fp,H' b=none)-> ∀b∈fp,tZ X pins H' b:=fun hn b hb=>⟨hn b hb,(f2 b hb).2⟩;refine codeAny_forLoop_any (fun n s'=> ∃i σ' H',Inv X pins σ' H' s'/\tn i s'.heap/\(∀b∈fp,H' b=none)/\W i n σ' H') ?_ m0 ⟨0,σ,H2,I2,Mv,fun b hb=>(f2 b hb).1,w0⟩;rintro n s3 ⟨i,σ3,H3,I3,QI,KD,w3⟩;rcases turn i n σ3 H3 w3 with⟨stop,qn⟩|⟨go,N,hN,step⟩
 ·refine dH hp (dN (T.done X rfl rfl rfl hc i pins s3 σ3 H3 X.xe I3 (rz KD) QI stop) fun r s4 ⟨hr,I4⟩=>?_);subst hr;exact i9 ⟨σ3,H3,I4,qn⟩
 ·refine dH hp (dN (T.item X rfl rfl rfl hc i pins s3 σ3 H3 X.xe I3 (rz KD) QI go) fun r s4 ⟨u,hr,h4⟩=>?_);subst hr;refine dH hp (dN h4 fun _ s5 ⟨x,H5,I5,r5,y5,Nx,PV⟩=>?_);have Z7:=I5.pinned (rz PV) (T.obj _ _ Nx);refine dH hp (dN (hg _ s5 σ3 H5 x u _ Z7 r5 (step x H5 y5)) fun _ s6 ⟨σ6,H6,I6,q6⟩=>?_);refine dH hp (dN (hb _ s6 σ6 H6 _ I6 q6) fun f s7 q7=>?_);have again: ∀{σ7:St} {H7:Hp},Inv X (pins ++ oV fp s5.heap) σ7 H7 s7->N σ7 H7-> ∃m,m < n/\ ∃i σ' H',Inv X pins σ' H' s7/\tn i s7.heap/\(∀b∈fp,H' b=none)/\W i m σ' H':=fun{σ7 H7} I7 n7=>by
   obtain⟨m',hm,w7⟩:=hN σ7 H7 n7;refine⟨m',hm,i + 1,σ7,H7,I7.iR,T.keep _ _ _ Nx fun b hb o e=>(I7.pin (b,o) (bp _ (bp _ (jz hb e)))).1,fun b hb=>?_,w7⟩;obtain⟨o,e,d⟩:=T.obj _ _ Nx b hb;exact(I7.pin (b,o) (bp _ (bp _ (jz hb e)))).2.1
  cases f with
  |next=>obtain⟨σ7,H7,I7,n7⟩:=q7; exact again I7 n7
  |cont=>obtain⟨σ7,H7,I7,n7⟩:=q7; exact again I7 n7
  |brk=>obtain⟨σ7,H7,I7,q7⟩:=q7; exact⟨σ7,H7,I7.iR,q7⟩
  |ret v=>obtain⟨x7,σ7,H7,I7,r7,q7⟩:=q7; exact⟨x7,σ7,H7,I7.iR,r7,q7⟩
end
def gA {K:Frag}{a:Addr}{xs:List V}{g:TG}{tb:TS}{D:Ends}{σ:St}{H:Hp}(Pv:Nat->St->Hp->Prop)(h0:Pv 0 σ H)(hl: ∀i σ H,i<=xs.length->Pv i σ H->bF K H a xs)
  (hs: ∀i x σ H,xs[i]? =some x->Pv i σ H->g x σ H fun σ2 H2=>tb {D with nx:=Pv (i + 1),ct:=Pv (i + 1),bk:=D.nx} σ2 H2) (hd: ∀σ H,Pv xs.length σ H->D.nx σ H):
  ∃W:Nat->Nat->St->Hp->Prop,(∃m,W 0 m σ H)/\ ∀i m σ H,W i m σ H->
   ((PU K a).stop i H/\D.nx σ H)∨((PU K a).go i H/\ ∃N:St->Hp->Prop,(∀σ' H',N σ' H'-> ∃m',m' < m/\W (i + 1) m' σ' H')/\ ∀x H',(PU K a).PR i H x H'->g x σ H' fun σ2 H2=>tb {D with nx:=N,ct:=N,bk:=D.nx} σ2 H2):=by
 refine⟨fun i m σ H=>m=xs.length - i/\i<=xs.length/\Pv i σ H,⟨xs.length,by simp,Nat.zero_le _,h0⟩,?_⟩;rintro i m σ H ⟨rfl,hi,p⟩;have q:=hl i σ H hi p;by_cases iI:i < xs.length
 ·refine .inr ⟨⟨xs,xs[i],q,by simp[iI]⟩,Pv (i + 1),fun σ' H' p'=>⟨xs.length - (i + 1),by lia,rfl,iI,p'⟩,fun x H' y=>?_⟩;obtain⟨e,y⟩:=y;subst e;exact hs i x σ _ (y xs q) p
 ·have e:i=xs.length:=by lia
  subst e;exact .inl ⟨⟨xs,q,aB _⟩,hd σ H p⟩
def kJ {lo:Int}{n:Nat}{g:TG}{tb:TS}{D:Ends}{σ:St}{H:Hp}(Pv:Nat->St->Hp->Prop)(h0:Pv 0 σ H)
  (hs: ∀i σ H,i < n->Pv i σ H->g (.int (lo + i)) σ H fun σ2 H2=>tb {D with nx:=Pv (i + 1),ct:=Pv (i + 1),bk:=D.nx} σ2 H2) (hd: ∀σ H,Pv n σ H->D.nx σ H):
  ∃W:Nat->Nat->St->Hp->Prop,(∃m,W 0 m σ H)/\ ∀i m σ H,W i m σ H->
   ((Mt lo n).stop i H/\D.nx σ H)∨((Mt lo n).go i H/\ ∃N:St->Hp->Prop,(∀σ' H',N σ' H'-> ∃m',m' < m/\W (i + 1) m' σ' H')/\ ∀x H',(Mt lo n).PR i H x H'->g x σ H' fun σ2 H2=>tb {D with nx:=N,ct:=N,bk:=D.nx} σ2 H2):=by
 refine⟨fun i m σ H=>m=n - i/\i<=n/\Pv i σ H,⟨n,by simp,Nat.zero_le _,h0⟩,?_⟩;rintro i m σ H ⟨rfl,hi,p⟩;by_cases iI:i < n
 ·refine .inr ⟨iI,Pv (i + 1),fun σ' H' p'=>⟨n - (i + 1),by lia,rfl,iI,p'⟩,fun x H' y=>?_⟩;obtain⟨e,y⟩:=y;subst e y;exact hs i σ _ iI p
 ·have e:i=n:=by lia
  subst e;exact .inl ⟨aB _,hd σ H p⟩
abbrev R2:=V->V->Hp->VK->Prop
def nW (X:Cx)(f:Value->Value->Sem Value)(r:R2):Prop:=
 ∀(pins:List (Addr×Obj)) (s:Shared) (σ:St) (H:Hp) (x y:V) (v u:Value) (Q:VK),Inv X pins σ H s->RelV x v->RelV y u->r x y H Q->
  wpAny (model X.prog X.w) X.A (f v u) (EP X pins σ Q) X.xe s
def Mw (X:Cx)(f:Value->Sem Value)(r:V->Hp->VK->Prop):Prop:=
 ∀(pins:List (Addr×Obj)) (s:Shared) (σ:St) (H:Hp) (x:V) (v:Value) (Q:VK),Inv X pins σ H s->RelV x v->r x H Q->
  wpAny (model X.prog X.w) X.A (f v) (EP X pins σ Q) X.xe s
def gE (X:Cx)(f:Value)(r:List V->Hp->VK->Prop):Prop:=
 ∀(pins:List (Addr×Obj)) (s:Shared) (σ:St) (H:Hp) (xs:List V) (us:List Value) (Q:VK),Inv X pins σ H s->Vals xs us->r xs H Q->
  wpAny (model X.prog X.w) X.A (call f us) (EP X pins σ Q) X.xe s
def PX (r:R2)(ta tb:TE):TE:=fun σ H Q=>ta σ H fun x H1=>tb σ H1 fun y H2=>r x y H2 Q
def Z8 (r:V->Hp->VK->Prop)(ta:TE):TE:=fun σ H Q=>ta σ H fun x H1=>r x H1 Q
inductive Yb (x y:V)(C k:Int->Int->Prop):Prop
 |mk (i j:Int)(h1:x= .int i)(h2:y= .int j)(c:C i j)(q:k i j):Yb x y C k
inductive Yc (x y:V)(k:Int->Int->Prop):Prop
 |mk (i j:Int)(h1:x= .int i)(h2:y= .int j)(q:k i j):Yc x y k
def rI (C:Int->Int->Prop)(g:Int->Int->V):R2:=fun x y H Q=>Yb x y C fun i j=>Q (g i j) H
def JY (g:Int->Int->V):R2:=fun x y H Q=>Yc x y fun i j=>Q (g i j) H
def rU (g:Int->V):V->Hp->VK->Prop:=fun x H Q=> ∃i,x= .int i/\Q (g i) H
section
variable {X:Cx}{a b c:Expr}{ta tb tc:TE}{pos:Pos}
def Ny (ha:PE X a ta)(hb:PE X b tb){pins:List (Addr×Obj)}{s:Shared}{σ:St}{H:Hp}{R:V->V->Hp->Prop}(I:Inv X pins σ H s)
  (h:ta σ H fun x H1=>tb σ H1 fun y H2=>R x y H2) {Q:Value->Shared->Prop} {f:Value->Value->Sem Value}
  (hf: ∀v u s2 x y H2,Inv X pins σ H2 s2->RelV x v->RelV y u->R x y H2->wpAny (model X.prog X.w) X.A (f v u) Q X.xe s2):
  wpAny (model X.prog X.w) X.A (eval a X.env) (fun v s₁=>wpAny (model X.prog X.w) X.A (eval b X.env) (fun u s₂=>wpAny (model X.prog X.w) X.A (f v u) Q X.xe s₂) X.xe s₁) X.xe s:=by
 refine dN (ha pins s σ H _ I h) fun v s1 ⟨x,H1,I1,r1,q1⟩=>?_;refine dN (hb pins s1 σ H1 _ I1 q1) fun u s2 ⟨y,H2,I2,r2,q2⟩=>?_;exact hf v u s2 x y H2 I2 r1 r2 q2
def aR {op:Operator}{r:R2}(ho:nW X (binaryOp op) r)(ha:PE X a ta)(hb:PE X b tb):PE X (.BinOp a op b pos) (PX r ta tb):=by
 intro pins s σ H Q I h;exact wpAny_BinOp (Ny ha hb I h fun v u s2 x y H2 I2 rx ry q=>ho pins s2 σ H2 x y v u Q I2 rx ry q)
def ou {op:UnaryOp}{r:V->Hp->VK->Prop}(ho:Mw X (unaryOp op) r)(ha:PE X a ta):PE X (.UnaryOp op a pos) (Z8 r ta):=by
 intro pins s σ H Q I h;exact UnaryOp_ (dN (ha pins s σ H _ I h) fun v s1 ⟨x,H1,I1,r1,q1⟩=>ho pins s1 σ H1 x v Q I1 r1 q1)
def QJ {f:Value->Value->Sem Value}{C:Int->Int->Prop}{g:Int->Int->Int}
  (rule: ∀(i j:Int) (t u:Tok) (s:Shared) (Q:Value->Shared->Prop) (E:Value->Shared->Prop),C i j->Q (.int (g i j) s.toks) {s with toks:=s.toks + 1}->wpAny (model X.prog X.w) X.A (f (.int i t) (.int j u)) Q E s):
  nW X f (rI C fun i j=> .int (g i j)):=by
 intro pins s σ H x y v u Q I rx ry h;obtain⟨i,j,rfl,rfl,hc,q⟩:=h;obtain⟨t,rfl⟩:=rx;obtain⟨t',rfl⟩:=ry;exact rule i j t t' s _ _ hc ⟨.int (g i j),H,I.tok _,⟨_,rfl⟩,q⟩
def QK {f:Value->Value->Sem Value}{g:Int->Int->Int}
  (rule: ∀(i j:Int) (t u:Tok) (s:Shared) (Q:Value->Shared->Prop) (E:Value->Shared->Prop),Q (.int (g i j) s.toks) {s with toks:=s.toks + 1}->wpAny (model X.prog X.w) X.A (f (.int i t) (.int j u)) Q E s):
  nW X f (JY fun i j=> .int (g i j)):=by
 intro pins s σ H x y v u Q I rx ry h;obtain⟨i,j,rfl,rfl,q⟩:=h;obtain⟨t,rfl⟩:=rx;obtain⟨t',rfl⟩:=ry;exact rule i j t t' s _ _ ⟨.int (g i j),H,I.tok _,⟨_,rfl⟩,q⟩
def KG {f:Value->Value->Sem Value}{g:Int->Int->Bool}
  (rule: ∀(i j:Int) (t u:Tok) (s:Shared) (Q:Value->Shared->Prop) (E:Value->Shared->Prop),Q (.bool (g i j)) s->wpAny (model X.prog X.w) X.A (f (.int i t) (.int j u)) Q E s):
  nW X f (JY fun i j=> .bl (g i j)):=by
 intro pins s σ H x y v u Q I rx ry h;obtain⟨i,j,rfl,rfl,q⟩:=h;obtain⟨t,rfl⟩:=rx;obtain⟨t',rfl⟩:=ry;exact rule i j t t' s _ _ ⟨.bl (g i j),H,I,rfl,q⟩
def Ve (i j:Int):Prop:=0 < j/\j < 1073741824
def Vf (i j:Int):Prop:=0<=j/\j<=1000000/\i.natAbs < 2 ^ 64
def Nz (i j:Int):Prop:=(-(2 ^ 64) < i/\i < 2 ^ 64)∨(-(2 ^ 64) < j/\j < 2 ^ 64)
def Nz.ok {i j:Int}(h:Nz i j):IntMulOk i j:=by
 rcases h with⟨h1,h2⟩|⟨h1,h2⟩
 ·exact .of_left (intBits_le_64 h1 h2)
 ·exact .of_right (intBits_le_64 h1 h2)
def dB:nW X (binaryOp .Add) (JY fun i j=> .int (i + j)):=QK fun _ _ _ _ _ _ _ q=>add_int q
def eK:nW X (binaryOp .Sub) (JY fun i j=> .int (i - j)):=QK fun _ _ _ _ _ _ _ q=>sub_int q
def lA:nW X (binaryOp .Mult) (rI Nz fun i j=> .int (i * j)):=QJ fun _ _ _ _ _ _ _ hc q=>mul_int q hc.ok
def jj:nW X (binaryOp .FloorDiv) (rI Ve fun i j=> .int (i / j)):=QJ fun i j _ _ _ _ _ hc q=>by
 have h1:(0:Int) < j:=hc.1;have h2:j < 1073741824:=hc.2;exact floordiv_int (by lia) (by rw[Int.fdiv_eq_ediv_of_nonneg i (by lia)]; exact q) (.inl (PyProof.noPylong_small (by lia)))
def cf:nW X (binaryOp .Mod) (rI (fun _ j=>0 < j) fun i j=> .int (i % j)):=QJ fun i j _ _ _ _ _ hc q=>by
 have h1:(0:Int) < j:=hc;exact mod_int' (by lia) (by rw[Int.fmod_eq_emod_of_nonneg i (by lia)]; exact q)
def ja:nW X (binaryOp .Pow) (rI Vf fun i j=> .int (i ^ j.toNat)):=QJ fun _ _ _ _ _ _ _ hc q=>pow_int_small hc.1 hc.2.1 hc.2.2 q
def Z9 {f:Value->Sem Value}{g:Int->Int}
  (rule: ∀(i:Int) (t:Tok) (s:Shared) (Q:Value->Shared->Prop) (E:Value->Shared->Prop),Q (.int (g i) s.toks) {s with toks:=s.toks + 1}->wpAny (model X.prog X.w) X.A (f (.int i t)) Q E s):
  Mw X f (rU fun i=> .int (g i)):=by
 intro pins s σ H x v Q I rx h;obtain⟨i,rfl,q⟩:=h;obtain⟨t,rfl⟩:=rx;exact rule i t s _ _ ⟨.int (g i),H,I.tok _,⟨_,rfl⟩,q⟩
def kr:Mw X (unaryOp .USub) (rU fun i=> .int (-i)):=Z9 fun _ _ _ _ _ q=>neg_int q
end
def QL:V->V->Bool
 | .dW,.dW=>true| .dW,.int _=>true| .int _,.dW=>true| .dW,.bl _=>true| .bl _,.dW=>true| .dW,.str _=>true| .str _,.dW=>true
 | .int _,.int _=>true| .bl _,.bl _=>true| .str _,.str _=>true| .Fl _,.Fl _=>true
 | .int _,.str _=>true| .str _,.int _=>true| .bl _,.str _=>true| .str _,.bl _=>true
 |_,_=>false
def rEq:R2:=fun x y H Q=>QL x y=true/\Q (.bl (decide (x=y))) H
def rNe:R2:=fun x y H Q=>QL x y=true/\Q (.bl (!decide (x=y))) H
def D7 {i j:Int}:decide (V.int i=V.int j)=(i == j):=by
 rw[nQ];simp
def Hv {i j:Bool}:decide (V.bl i=V.bl j)=(i == j):=by
 rw[nQ];simp
def D8 {i j:Str}:decide (V.str i=V.str j)=(i == j):=by
 rw[nQ];simp
def D9 {i j:Array UInt8}:decide (V.Fl i=V.Fl j)=(i.toList == j.toList):=by
 rw[nQ];cases i;cases j;simp
section
variable {X:Cx}{a b c:Expr}{ta tb tc:TE}{pos:Pos}
def dg {pins:List (Addr×Obj)}{σ:St}{H:Hp}{s:Shared}{Q:VK}{k k':Bool}(I:Inv X pins σ H s)(q:Q (.bl k) H)(e:k=k'):EP X pins σ Q (.bool k') s:=by
 subst e;exact⟨.bl k,H,I,rfl,q⟩
def cW:nW X (compareOp .Eq) rEq:=by
 intro pins s σ H x y v u Q I rx ry h;obtain⟨hs,q⟩:=h;cases x with
 |dW=>
  cases rx;cases y with
  |dW=>cases ry; exact PySem.EqNone.eq_none_none (dg I q (by simp))
  |bl j=>cases ry; exact PySem.EqNone.eq_none_bool (dg I q (by simp))
  |int j=>obtain⟨t',rfl⟩:=ry; exact PySem.EqNone.eq_none_int (dg I q (by simp))
  |str j=>obtain⟨t',rfl⟩:=ry; exact PySem.EqNone.eq_none_str (dg I q (by simp))
  |_=>exact absurd (show false=true from hs) aW
 |bl i=>
  cases rx;cases y with
  |dW=>cases ry; exact PySem.EqNone.eq_bool_none (dg I q (by simp))
  |bl j=>cases ry; exact eq_bool (dg I q Hv)
  |str j=>obtain⟨t',rfl⟩:=ry; exact PySem.EqMixed.eq_bool_str (dg I q (by simp))
  |_=>exact absurd (show false=true from hs) aW
 |int i=>
  obtain⟨t,rfl⟩:=rx;cases y with
  |dW=>cases ry; exact PySem.EqNone.eq_int_none (dg I q (by simp))
  |int j=>obtain⟨t',rfl⟩:=ry; exact eq_int (dg I q D7)
  |str j=>obtain⟨t',rfl⟩:=ry; exact PySem.EqMixed.eq_int_str (dg I q (by simp))
  |_=>exact absurd (show false=true from hs) aW
 |str i=>
  obtain⟨t,rfl⟩:=rx;cases y with
  |dW=>cases ry; exact PySem.EqNone.eq_str_none (dg I q (by simp))
  |bl j=>cases ry; exact PySem.EqMixed.eq_str_bool (dg I q (by simp))
  |int j=>obtain⟨t',rfl⟩:=ry; exact PySem.EqMixed.eq_str_int (dg I q (by simp))
  |str j=>obtain⟨t',rfl⟩:=ry; exact eq_str (dg I q D8)
  |_=>exact absurd (show false=true from hs) aW
 |Fl i=>
  obtain⟨t,rfl⟩:=rx;cases y with
  |Fl j=>obtain⟨t',rfl⟩:=ry; exact PySem.W.eq_bytes (dg I q D9)
  |_=>exact absurd (show false=true from hs) aW
 |_=>cases y <;> exact absurd (show false=true from hs) aW
def r9:nW X (compareOp .NotEq) rNe:=by
 intro pins s σ H x y v u Q I rx ry h;obtain⟨hs,q⟩:=h;cases x with
 |dW=>
  cases rx;cases y with
  |dW=>cases ry; exact PySem.EqNone.ne_none_none (dg I q (by simp))
  |bl j=>cases ry; exact PySem.EqNone.ne_none_bool (dg I q (by simp))
  |int j=>obtain⟨t',rfl⟩:=ry; exact PySem.EqNone.ne_none_int (dg I q (by simp))
  |str j=>obtain⟨t',rfl⟩:=ry; exact PySem.EqNone.ne_none_str (dg I q (by simp))
  |_=>exact absurd (show false=true from hs) aW
 |bl i=>
  cases rx;cases y with
  |dW=>cases ry; exact PySem.EqNone.ne_bool_none (dg I q (by simp))
  |bl j=>cases ry; exact ne_bool (dg I q (cQ not Hv))
  |str j=>obtain⟨t',rfl⟩:=ry; exact PySem.EqMixed.ne_bool_str (dg I q (by simp))
  |_=>exact absurd (show false=true from hs) aW
 |int i=>
  obtain⟨t,rfl⟩:=rx;cases y with
  |dW=>cases ry; exact PySem.EqNone.ne_int_none (dg I q (by simp))
  |int j=>obtain⟨t',rfl⟩:=ry; exact ne_int (dg I q (cQ not D7))
  |str j=>obtain⟨t',rfl⟩:=ry; exact PySem.EqMixed.ne_int_str (dg I q (by simp))
  |_=>exact absurd (show false=true from hs) aW
 |str i=>
  obtain⟨t,rfl⟩:=rx;cases y with
  |dW=>cases ry; exact PySem.EqNone.ne_str_none (dg I q (by simp))
  |bl j=>cases ry; exact PySem.EqMixed.ne_str_bool (dg I q (by simp))
  |int j=>obtain⟨t',rfl⟩:=ry; exact PySem.EqMixed.ne_str_int (dg I q (by simp))
  |str j=>obtain⟨t',rfl⟩:=ry; exact ne_str (dg I q (cQ not D8))
  |_=>exact absurd (show false=true from hs) aW
 |Fl i=>
  obtain⟨t,rfl⟩:=rx;cases y with
  |Fl j=>obtain⟨t',rfl⟩:=ry; exact PySem.W.ne_bytes (dg I q (cQ not D9))
  |_=>exact absurd (show false=true from hs) aW
 |_=>cases y <;> exact absurd (show false=true from hs) aW
def jA:nW X (compareOp .Lt) (JY fun i j=> .bl (decide (i < j))):=KG fun _ _ _ _ _ _ _ q=>lt_int q
def xm:nW X (compareOp .LtE) (JY fun i j=> .bl (decide (i<=j))):=KG fun _ _ _ _ _ _ _ q=>le_int q
def jd:nW X (compareOp .Gt) (JY fun i j=> .bl (decide (j < i))):=KG fun _ _ _ _ _ _ _ q=>gt_int q
def AH:nW X (compareOp .GtE) (JY fun i j=> .bl (decide (j<=i))):=KG fun _ _ _ _ _ _ _ q=>ge_int q
def a7 (b:Expr){op:CmpOp}(h:op≠ .In:=by decide)(h2:op≠ .NotIn:=by decide):behindInMarks op b=false:=by
 have e1:(op == CmpOp.In)=false:=by cases op <;> first|rfl|exact absurd rfl h
 have e2:(op == CmpOp.NotIn)=false:=by cases op <;> first|rfl|exact absurd rfl h2
 cases b <;> simp[behindInMarks,e1,e2]
def eG {op:CmpOp}{r:R2}(ho:nW X (compareOp op) r)(ha:PE X a ta)(hb:PE X b tb)(hm:behindInMarks op b=false):PE X (.Compare a [op] [b] pos) (PX r ta tb):=by
 intro pins s σ H Q I h;exact wpAny_Compare1 (Ny ha hb I h fun v u s2 x y H2 I2 rx ry q=>ho pins s2 σ H2 x y v u Q I2 rx ry q) hm
inductive Yd (x:V)(k:Bool->Prop):Prop
 |mk (b:Bool)(h:x= .bl b)(q:k b):Yd x k
def Hw (t:TE):TT:=fun σ H Q=>t σ H fun x H'=>Yd x fun b=>Q b H'
def a0 {op:CmpOp}{r:R2}(ho:nW X (compareOp op) r)(ha:PE X a ta)(hb:PE X b tb)(hm:behindInMarks op b=false):PT X (.Compare a [op] [b] pos) (Hw (PX r ta tb)):=by
 intro pins s σ H Q I h;refine wpAny_isTrue_Compare1 (dN (ha pins s σ H _ I h) fun v s1 ⟨x,H1,I1,r1,q1⟩=>dN (hb pins s1 σ H1 _ I1 q1) fun u s2 ⟨y,H2,I2,r2,q2⟩=>
  dN (ho pins s2 σ H2 x y v u _ I2 r1 r2 q2) fun c s3 ⟨z,H3,I3,r3,k,e,q3⟩=>?_) hm
 subst e;cases r3;exact fJ ⟨H3,I3,q3⟩
def Hx (r r':R2)(ta tb tc:TE):TE:=fun σ H Q=>ta σ H fun x H1=>tb σ H1 fun y H2=>r x y H2 fun z H3=> ∃k,z= .bl k/\
 (if k=true then tc σ H3 fun w' H4=>r' y w' H4 Q else Q (.bl false) H3)
def AI {op Vg:CmpOp}{r r':R2}(ho:nW X (compareOp op) r)(Kv:nW X (compareOp Vg) r')(ha:PE X a ta)(hb:PE X b tb)(hc:PE X c tc)
  (hm:lastMarks [op,Vg] [b,c]=false:=by with_unfolding_all rfl):PT X (.Compare a [op,Vg] [b,c] pos) (Hw (Hx r r' ta tb tc)):=by
 intro pins s σ H Q I h;refine isTrue_chain (dN (ha pins s σ H _ I h) fun v s1 ⟨x,H1,I1,r1,q1⟩=>test_link (dN (hb pins s1 σ H1 _ I1 q1) fun u s2 ⟨y,H2,I2,r2,q2⟩=>
  dN (ho pins s2 σ H2 x y v u _ I2 r1 r2 q2) fun d s3 ⟨z,H3,I3,r3,k,e,q3⟩=>?_)) hm
 subst e;cases r3;refine fJ ?_;cases k with
 |false=>
  obtain⟨k',e',q'⟩:=q3;cases e';exact ite_ff ⟨H3,I3,q'⟩
 |true=>
  refine ite_tt (test_last (dN (hc pins s3 σ H3 _ I3 q3) fun w' s4 ⟨z',H4,I4,r4,q4⟩=>dN (Kv pins s4 σ H4 y z' u w' _ I4 r2 r4 q4) fun d' s5 ⟨z2,H5,I5,r5,k2,e2,q5⟩=>?_));subst e2;cases r5;exact fJ ⟨H5,I5,q5⟩
def yl:(sizeLine:Nat) < 2 ^ 63:=by rw[eJ]; decide
def ua:nW X (binaryOp .Add) (fun x y H Q=> ∃i j,x= .str i/\y= .str j/\i.length + j.length<=sizeLine/\Q (.str (i ++ j)) H):=by
 intro pins s σ H x y v u Q I rx ry h;obtain⟨i,j,rfl,rfl,hz,q⟩:=h;obtain⟨t,rfl⟩:=rx;obtain⟨t',rfl⟩:=ry;exact add_str (fun t' tk=>⟨.str (i ++ j),H,I.tok _,⟨_,rfl⟩,q⟩) hz
def vals1 {x:V}{us:List Value}(r:Vals [x] us): ∃u,us=[u]/\RelV x u:=by
 cases r with
 |cons r1 r2=>cases r2; exact⟨_,rfl,r1⟩
def vals2 {x y:V}{us:List Value}(r:Vals [x,y] us): ∃u w',us=[u,w']/\RelV x u/\RelV y w':=by
 cases r with
 |cons r1 r2=>
  cases r2 with
  |cons r3 r4=>cases r4; exact⟨_,_,rfl,r1,r3⟩
def Fu (hc:X.calm=true):gE X (.builtin "max") (fun xs H Q=> ∃i j,xs=[.int i,.int j]/\Q (.int (if j > i then j else i)) H):=by
 intro pins s σ H xs us Q I r h;obtain⟨i,j,rfl,q⟩:=h;obtain⟨u,w',rfl,⟨t,rfl⟩,⟨t',rfl⟩⟩:=vals2 r;refine max_two_ints (I.ok.hd hc) fun h' tk k=>⟨_,H,I.kept k,?_,q⟩;by_cases hj:j > i
 ·rw[aZ hj,aZ hj]; exact⟨_,rfl⟩
 ·rw[aL hj,aL hj]; exact⟨_,rfl⟩
def rA (hc:X.calm=true):gE X (.builtin "min") (fun xs H Q=> ∃i j,xs=[.int i,.int j]/\Q (.int (if j < i then j else i)) H):=by
 intro pins s σ H xs us Q I r h;obtain⟨i,j,rfl,q⟩:=h;obtain⟨u,w',rfl,⟨t,rfl⟩,⟨t',rfl⟩⟩:=vals2 r;refine min_two_ints (I.ok.hd hc) fun h' tk k=>⟨_,H,I.kept k,?_,q⟩;by_cases hj:j < i
 ·rw[aZ hj,aZ hj]; exact⟨_,rfl⟩
 ·rw[aL hj,aL hj]; exact⟨_,rfl⟩
def kK:gE X (.type "int") (fun xs H Q=>(∃i,xs=[.int i]/\Q (.int i) H)∨ ∃k,xs=[.bl k]/\Q (.int (if k then 1 else 0)) H):=by
 intro pins s σ H xs us Q I r h;rcases h with⟨i,rfl,q⟩|⟨k,rfl,q⟩
 ·obtain⟨u,rfl,t,rfl⟩:=vals1 r;exact call_int_int ⟨.int i,H,I,⟨_,rfl⟩,q⟩
 ·obtain⟨u,rfl,r1⟩:=vals1 r;cases r1;exact call_int_bool ⟨.int (if k then 1 else 0),H,I.tok _,⟨_,rfl⟩,q⟩
end
structure CM (h:Heap)(x dx C:Addr)(mA:Str->Option Value):Prop where
 obj:h.get? x=some (PySem.W.instObj C dx)
 ns:h.Ns1 dx mA
 ne:dx≠x
def Fv {h:Heap}{dx:Addr}{mA:Str->Option Value}(n:h.Ns1 dx mA): ∃od,h.get? dx=some od/\ ∀name,PySem.W.lookIn name od=some (mA name):=by
 obtain⟨o,es,ep,ho,hd,hk,_,hm⟩:=n;refine⟨o,ho,fun name=>?_⟩;have e:=hm name;unfold nsFind findBy at e;rw[← Array.find?_toList] at e;unfold PySem.W.lookIn;rw[hd];dsimp only;split
 ·rename_i y q;rw[q] at e;exact cQ some e
 ·rename_i q;rw[q] at e;have a:es.toList.any (·.refKey)=false:=by
   rw[q0];intro y hy;obtain⟨z,t,Hy⟩:=hk y (Array.mem_toList_iff.mp hy);simp[DictEntry.refKey,Hy]
  have a': ¬ es.toList.any (·.refKey)=true:=by rw[a]; exact aW
  rw[aL a'];exact cQ some e
def CM.look {h:Heap}{x dx C:Addr}{mA:Str->Option Value}(I:CM h x dx C mA): ∃od,PySem.W.InstAt h x (PySem.W.instObj C dx) C (some od)/\ ∀name,PySem.W.lookIn name od=some (mA name):=
 let⟨od,ho,hl⟩:=Fv I.ns
 ⟨od,⟨I.obj,rfl,rfl,ho⟩,hl⟩
section
variable {prog:Program}{w:World}{A:Around}{E:Value->Shared->Prop}{s:Shared}{K:Frag}{x dx C f:Addr}{mA:Str->Option Value}{name:Str}{v:Value}
def get_map {expr:Bool}{Q:Value->Shared->Prop}(X:K.In s.heap)(I:CM s.heap x dx C mA)(hg:plainGet K C name=true)(hh:hasDictIn K C=true)
  (ha:findIn K (.ref C) name=some none) (hv:mA name=some v) (hv':PySem.W.handedIn v=true) (h:Q v {s with toks:=s.toks + 1}):
  wpAny (model prog w) A (getAttr (.ref x) name expr) Q E s:=by
 obtain⟨od,J,hl⟩:=I.look;exact PySem.W.get_value X J (As hg).1 (PySem.W.findObj_own hh ha rfl (by rw[hl,hv])) hv' h
def HA {pl:Sem Bool}{Q:Value×List Value->Shared->Prop}(X:K.In s.heap)(I:CM s.heap x dx C mA)(hg:plainGet K C name=true)
  (hf:findIn K (.ref C) name=some (some (.ref f))) (ht:PySem.W.isFn K (.ref f)=true) (hv:mA name=none) (h:Q (.ref f,[.ref x]) s):
  wpAny (model prog w) A (getMethod (.ref x) name pl) Q E s:=by
 obtain⟨od,J,hl⟩:=I.look;exact PySem.W.method_fn X J (As hg).1 (As hg).2 hf (E9.mp ht) (by show(PySem.W.lookIn name od).map (·.isSome)=some false; rw[hl,hv]; rfl) h
def KH {ns:List Str}{Q:Unit->Shared->Prop}(X:K.In s.heap)(I:CM s.heap x dx C mA)
  (hs:findIn K (.ref C) "__setattr__"=some (some (.builtin "object.__setattr__"))) (hp:plainOver K C=true) (ht:PySem.W.takerIn K C name=some none) (hh:hasDictIn K C=true)
  (hw:PySem.Within mA ns) (hsz:ns.length<=sizeLine)
  (h: ∀h',CM h' x dx C (fun y=>if y=name then some v else mA y)->Heap.SameBut dx s.heap h'->Q () {s with heap:=h',toks:=s.toks + 2}):
  wpAny (model prog w) A (setAttr (.ref x) name v) Q E s:=by
 obtain⟨od,J,hl⟩:=I.look;refine PySem.W.set_plain X J hs (PySem.W.osa_open (s:={s with toks:=s.toks + 1}) (r:=none) X J hp ht fun b=>?_);obtain⟨cd,hc,Fo⟩:=PySem.W.any_some hh;have hx:s.heap.get? x=some ⟨.ref C,some dx,.plain,#[]⟩:=I.obj;refine aA (bA (aA (aA (wpAny_loadPart hx (aA (PySem.W.Looks.here (s:={s with toks:=s.toks + 1}) (PySem.W.looks_clsIn X hc) ?_))))));rw[Fo];refine bA (a:=some dx) (aA (bA (aA ?_)));refine wpAny_nsSet1 (s:={s with toks:=s.toks + 1}) I.ns fun h' TV PY=>?_;obtain⟨oD,esD,epD,Vh,Vi,Vj⟩:=TV.count (PySem.Within.cons name v hw);refine aA (wpAny_lookBehind Vh (by rw[Vi]; exact pastItsLine_dict (aV Vj (by rw[bU]; lia))) ?_);exact bA (h _ ⟨(PY.2 _ (vI I.ne)).trans I.obj,TV,I.ne⟩ PY)
def HB {R:Result->Shared->Prop}{vs:List Value}{kw:List (Str×Value)}(X:K.In s.heap)(hm:makesIn K C=true)
  (hi:findIn K (.ref C) "__init__"=some (some (.ref f))) (hf:typeIn K (.ref f)=some (.type "function"))
  (h:codeAny (model prog w) (A.under (.builtin "type.__call__" ⟨.ref C :: vs,kw⟩)) (.call (.ref f) ⟨.ref (s.heap.objs.size + 1) :: vs,kw⟩) (PySem.W.InitBack (s.heap.objs.size + 1) R)
   {s with heap:=(s.heap.push PySem.W.emptyDict).push (PySem.W.instObj C s.heap.objs.size)}):
  codeAny (model prog w) A (.call (.ref C) ⟨vs,kw⟩) R s:=by
 obtain⟨hh,g,d,t,os⟩:=s;exact PySem.W.make_core (PySem.W.makes_of X hm) (PySem.W.looks_findIn X hi) (fun self=>PySem.W.bind_fn X self hf) (.inl rfl) h
end
def ee (f:Str)(v:V):List (Str×V)->List (Str×V)
 |[]=>[(f,v)]
 |(g,x) :: r=>if g=f then(g,v) :: r else(g,x) :: ee f v r
def se (f g:Str)(v:V): ∀fs:List (Str×V),(ee f v fs).lookup g=if g=f then some v else fs.lookup g
 |[]=>by
  show List.lookup g [(f,v)]=_;by_cases h:g=f
  ·have hb:(g == f)=true:=E9.mpr h;simp only[List.lookup,hb,if_pos h]
  ·have hb:(g == f)=false:=gz.mpr h;simp only[List.lookup,hb,if_neg h]
 |(k,x) :: r=>by
  have ih:=se f g v r;rw[show ee f v ((k,x) :: r)=(if k=f then(k,v) :: r else(k,x) :: ee f v r) from rfl];by_cases hk:k=f
  ·rw[aZ hk];by_cases h:g=k
   ·have hb:(g == k)=true:=E9.mpr h;simp only[List.lookup,hb,if_pos (h.trans hk)]
   ·have hb:(g == k)=false:=gz.mpr h;simp only[List.lookup,hb,if_neg (fun e:g=f=>h (e.trans hk.symm))]
  ·rw[aL hk];by_cases h:g=k
   ·have hb:(g == k)=true:=E9.mpr h;simp only[List.lookup,hb,if_neg (fun e:g=f=>hk (h.symm.trans e))]
   ·have hb:(g == k)=false:=gz.mpr h;simp only[List.lookup,hb];exact ih
def rB (f:Str)(v:V): ∀fs:List (Str×V),f∈(ee f v fs).map (·.1)/\ ∀g,g∈fs.map (·.1)->g∈(ee f v fs).map (·.1)
 |[]=>⟨by simp[ee],fun g h=>by simp at h⟩
 |(k,x) :: r=>by
  obtain⟨i1,i2⟩:=rB f v r;rw[show ee f v ((k,x) :: r)=(if k=f then(k,v) :: r else(k,x) :: ee f v r) from rfl];by_cases hk:k=f
  ·rw[aZ hk];subst hk;exact⟨by simp,fun g h=>by simpa using h⟩
  ·rw[aL hk];refine⟨?_,fun g h=>?_⟩
   ·rw[cS];exact aQ _ i1
   ·rw[cS] at h ⊢;rcases av.mp h with e|e
    ·exact av.mpr (.inl e)
    ·exact aQ _ (i2 g e)
def mr (f:Str)(v:V): ∀fs:List (Str×V),(ee f v fs).length<=fs.length + 1
 |[]=>by simp[ee]
 |(k,x) :: r=>by
  have ih:=mr f v r;rw[show ee f v ((k,x) :: r)=(if k=f then(k,v) :: r else(k,x) :: ee f v r) from rfl];by_cases hk:k=f
  ·rw[aZ hk,bU,bU]; lia
  ·rw[aL hk,bU,bU]; lia
def kI.some_of {v:V}{o:Option Value}(r:kI (some v) o): ∃u,o=some u/\RelV v u:=by
 cases o with
 |none=>exact(show False from r).elim
 |some u=>exact⟨u,rfl,r⟩
def kI.none_of {o:Option Value}(r:kI none o):o=none:=by
 cases o with
 |none=>rfl
 |some u=>exact(show False from r).elim
def Fw {v:V}{u:Value}(r:RelV v u):PySem.W.handedIn u=true:=by
 cases v with
 |dW=>cases(show u=Value.none from r); rfl
 |bl b=>cases(show u=Value.bool b from r); rfl
 |int i=>obtain⟨t,e⟩:=(show ∃t,u=Value.int i t from r); cases e; rfl
 |str x=>obtain⟨t,e⟩:=(show ∃t,u=Value.str x t from r); cases e; rfl
 |Fl b=>obtain⟨t,e⟩:=(show ∃t,u=Value.bytes b t from r); cases e; rfl
 |Kr b=>obtain⟨t,e⟩:=(show ∃t,u=Value.float b t from r); cases e; rfl
 |ref a=>cases(show u=Value.ref a from r); rfl
 |ty n=>cases(show u=Value.type n from r); rfl
section
variable {P:Program}{w:World}{H H':Hp}{h h':Heap}{a C dx:Addr}{fs Z4:List (Str×V)}
def qb (cm:nV P w H h)(e:H a=some (.ins C dx fs)): ∃mA,CM h a dx C mA/\(∀f,kI (fs.lookup f) (mA f))/\PySem.Within mA (fs.map (·.1))/\fs.length<=1000/\H dx=some (.own a):=by
 obtain⟨d,z,ne,ob,mA,n,r,q⟩:=(show di P w H h a (.ins C dx fs) from cm a _ e);exact⟨mA,⟨ob,n,ne⟩,r,q,z,d⟩
end
structure vT (K:Frag)(C:Addr):Prop where
 pg:plainGet K C Str.empty=true
 hd:hasDictIn K C=true
 po:plainOver K C=true
 sa:findIn K (.ref C) "__setattr__"=some (some (.builtin "object.__setattr__"))
def vT.get {K:Frag}{C:Addr}(c:vT K C)(f:Str):plainGet K C f=true:=c.pg
def bY (K:Frag)(C:Addr)(f:Str):Prop:=findIn K (.ref C) f=some none
def bY.QM {K:Frag}{C:Addr}{f:Str}(n:bY K C f):PySem.W.takerIn K C f=some none:=by
 unfold PySem.W.takerIn;rw[show findIn K (.ref C) f=some none from n];rfl
structure Meth (K:Frag)(C:Addr)(m:Str)(f:Addr):Prop where
 at_:findIn K (.ref C) m=some (some (.ref f))
 fn:PySem.W.isFn K (.ref f)=true
 kp:keepIn K (.ref f)=true
section
variable {X:Cx}{pins:List (Addr×Obj)}{σ:St}{H:Hp}{s:Shared}{a C dx:Addr}{fs:List (Str×V)}{f:Str}{v:V}{A:Around}{E:Value->Shared->Prop}
def CO {b:Bool}{Q:Value->Shared->Prop}(I:Inv X pins σ H s)(e:H a=some (.ins C dx fs))(c:vT X.K C)(n:bY X.K C f)(l:fs.lookup f=some v)
  (h: ∀u s',Inv X pins σ H s'->RelV v u->Q u s'):wpAny (model X.prog X.w) A (getAttr (.ref a) f b) Q E s:=by
 obtain⟨mA,O,r,_,_,_⟩:=qb I.cm e;obtain⟨u,hu,ru⟩:=kI.some_of (v:=v) (o:=mA f) (by rw[← l]; exact r f);exact get_map I.gx O (c.get f) c.hd n hu (Fw ru) (h u _ (I.tok _) ru)
def CP {m:Str}{g:Addr}{pl:Sem Bool}{Q:Value×List Value->Shared->Prop}(I:Inv X pins σ H s)(e:H a=some (.ins C dx fs))(c:vT X.K C)(k:Meth X.K C m g)(l:fs.lookup m=none)
  (h:Q (.ref g,[.ref a]) s):wpAny (model X.prog X.w) A (getMethod (.ref a) m pl) Q E s:=by
 obtain⟨mA,O,r,_,_,_⟩:=qb I.cm e;have hn:mA m=none:=kI.none_of (by rw[← l]; exact r m);exact HA I.gx O (c.get m) k.at_ k.fn hn h
def CQ {y:V}{u:Value}{Q:Unit->Shared->Prop}(I:Inv X pins σ H s)(e:H a=some (.ins C dx fs))(c:vT X.K C)(n:bY X.K C f)(hl:fs.length < 1000)(ry:RelV y u)
  (h: ∀s',Inv X pins σ (upd H a (.ins C dx (ee f y fs))) s'->Q () s'):wpAny (model X.prog X.w) A (setAttr (.ref a) f u) Q E s:=by
 obtain⟨mA,O,r,wi,_,ho⟩:=qb I.cm e;have hz:(fs.map (·.1)).length<=sizeLine:=by rw[ae,eJ]; lia
 refine KH I.gx O c.sa c.po n.QM c.hd wi hz fun h' O' sb=>h _ ?_;have hd: ∃o,h'.get? dx=some o:=let⟨o,_,_,e',_⟩:=O'.ns; ⟨o,e'⟩
 refine I.write (x:=a) (e:=dx) (by rw[e]; exact True.intro) (.inr ho) (fun b q hb z=>(sb.2 b hb).trans z) hd ?_;refine⟨by rw[az O.ne]; exact ho,?_,O.ne,O'.obj,_,O'.ns,fun g=>?_,fun g hg=>?_⟩
 ·have:=mr f y fs; lia
 ·show kI ((ee f y fs).lookup g) (if g=f then some u else mA g);rw[se];by_cases q:g=f
  ·rw[aZ q,aZ q]; exact ry
  ·rw[aL q,aL q]; exact r g
 ·by_cases q:g=f
  ·rw[q]; exact(rB f y fs).1
  ·refine(rB f y fs).2 g (wi g fun z=>hg ?_);show(if g=f then some u else mA g)=none;rw[aL q]; exact z
def Inv.made (I:Inv X pins σ H s):Inv X pins σ (upd (upd H s.heap.objs.size (.own (s.heap.objs.size + 1))) (s.heap.objs.size + 1) (.ins C s.heap.objs.size []))
  {s with heap:=(s.heap.push PySem.W.emptyDict).push (PySem.W.instObj C s.heap.objs.size)}:=by
 have e1:(s.heap.push PySem.W.emptyDict).get? s.heap.objs.size=some PySem.W.emptyDict:=bH s.heap rfl;have e2:((s.heap.push PySem.W.emptyDict).push (PySem.W.instObj C s.heap.objs.size)).get? (s.heap.objs.size + 1)=some (PySem.W.instObj C s.heap.objs.size):=by
  have:=bH (s.heap.push PySem.W.emptyDict) (o:=PySem.W.instObj C s.heap.objs.size) rfl;rwa [jU] at this
 have e3:(s.heap.push PySem.W.emptyDict).Ns s.heap.objs.size (fun _=>none):=⟨PySem.W.emptyDict,#[],_,e1,rfl,(fun e he=>absurd he (by simp)),fun _=>rfl⟩;have I1:=I.laid (a:=s.heap.objs.size) (o:= .own (s.heap.objs.size + 1)) (h':=s.heap.push PySem.W.emptyDict) (t':=s.toks) (fun b u q=>ax _ q) (aB _) ⟨_,e1⟩;refine I1.laid (a:=s.heap.objs.size + 1) (o:= .ins C s.heap.objs.size []) (t':=s.toks) (fun b u q=>ax _ q) (iz (jU _ _)) ?_;have ne:s.heap.objs.size≠s.heap.objs.size + 1:=aU (eT _);refine⟨by rw[az ne,ag],bq _,ne,e2,fun _=>none,(Heap.Ns1.of_empty e3).at fun o q=>ax _ q,fun _=>True.intro,fun y hy=>absurd rfl hy⟩
def Ea {prog:Program}{w:World}{env:Env}{e:Expr}{f:Str}{pos:Pos}{s:Shared}{Q:Value->Shared->Prop}(hb:attributeBase e f env (eval e env)=eval e env)
  (h:wpAny (model prog w) A (eval e env) (fun o s₁=>wpAny (model prog w) A (getAttr o f true) Q E s₁) E s):wpAny (model prog w) A (eval (.Attribute e f pos) env) Q E s:=
 Attribute_any_ h (by rw[arm_eval_Attribute,hb])
end
inductive Ye (K:Frag)(H:Hp)(x:V)(f:Str)(k:V->Prop):Prop
 |mk (a C dx:Addr)(fs:List (Str×V))(v:V)(h1:x= .ref a)(h2:H a=some (.ins C dx fs))(c:vT K C)(n:bY K C f)(l:fs.lookup f=some v)(q:k v):Ye K H x f k
def NA (K:Frag)(ta:TE)(f:Str):TE:=fun σ H Q=>ta σ H fun x H1=>Ye K H1 x f fun v=>Q v H1
inductive Yf (K:Frag)(H:Hp)(x:V)(f:Str)(k:Addr->Addr->Addr->List (Str×V)->Prop):Prop
 |mk (a C dx:Addr)(fs:List (Str×V))(h1:x= .ref a)(h2:H a=some (.ins C dx fs))(c:vT K C)(n:bY K C f)(l:fs.length < 1000)(q:k a C dx fs):Yf K H x f k
def QN (K:Frag)(ta tv:TE)(f:Str):TS:=fun D σ H=>tv σ H fun y H1=>ta σ H1 fun x H2=>Yf K H2 x f fun a C dx fs=>D.nx σ (upd H2 a (.ins C dx (ee f y fs)))
section
variable {X:Cx}{o e value:Expr}{f:Str}{pos pos' NB:Pos}{ta tv:TE}
def HC (he:PE X e ta)(hb:attributeBase e f X.env (eval e X.env)=eval e X.env):PE X (.Attribute e f pos) (NA X.K ta f):=by
 intro pins s σ H Q I h;refine Ea hb (dN (he pins s σ H _ I h) fun u s1 ⟨x,H1,I1,rx,a,C,dx,fs,v,ex,ea,c,n,l,q⟩=>?_);subst ex;obtain rfl:u=Value.ref a:=rx;exact CO I1 ea c n l fun u' s2 I2 ru=>⟨v,H1,I2,ru,q⟩
def NC (ha:PE X o ta)(hv:PE X value tv)(hs:swapsWith value (some (.Attribute o f pos')) pos.line X.env=pure false):PS X (.Assign [.Attribute o f pos'] value pos) (QN X.K ta tv f):=by
 intro pins s σ H D I h;refine Na (dN (hv pins s σ H _ I h) fun u s1 ⟨y,H1,I1,ry,q⟩=>dN (ha pins s1 σ H1 _ I1 q) fun ov s2 ⟨x,H2,I2,rx,a,C,dx,fs,ex,ea,c,n,l,q2⟩=>?_) hs;subst ex;obtain rfl:ov=Value.ref a:=rx;exact CQ I2 ea c n l ry fun s3 I3=>⟨σ,_,I3,q2⟩
end
section
variable {X:Cx}{pins:List (Addr×Obj)}{σ:St}{H:Hp}{s:Shared}{A:Around}{E:Value->Shared->Prop}{Q:Value->Shared->Prop}{c:Value}{b:Bool}
inductive l8 (K:Frag)(H:Hp):V->Value->Prop where
 |dW:l8 K H .dW (.type "NoneType")
 |bl (x:Bool):l8 K H (.bl x) (.type "bool")
 |int (i:Int):l8 K H (.int i) (.type "int")
 |str (x:Str):l8 K H (.str x) (.type "str")
 |Kr (x:UInt64):l8 K H (.Kr x) (.type "float")
 |lst {a:Addr} {xs:List V} (e:H a=some (.lst xs)):l8 K H (.ref a) (.type "list")
 |Cp {a:Addr} {o:Obj} {xs:List V} (e:H a=some (.Cp o (.lst xs))):l8 K H (.ref a) (.type "list")
 |tup {a:Addr} {xs:List V} (e:H a=some (.tup xs)):l8 K H (.ref a) (.type "tuple")
 |dK {a:Addr} {a9:List (Key×V)} (e:H a=some (.dK a9)):l8 K H (.ref a) (.type "dict")
 |dT {a:Addr} {a9:List (List Key×V)} (e:H a=some (.dT a9)):l8 K H (.ref a) (.type "dict")
 |ins {a C dx:Addr} {fs:List (Str×V)} (e:H a=some (.ins C dx fs)) (cl:vT K C) (ha:findIn K (.ref C) "__class__"=some (some (.builtin "object.__class__")))
   (hn:specialIn K (.builtin "object.__class__") "__get__"=some (some (.builtin "getset_descriptor.__get__"))) (mv:PySem.W.takesIn K (.builtin "object.__class__")=some true)
   (hm:PySem.W.mroIn K C (.type "object")=some true):l8 K H (.ref a) (.ref C)
def Fx {x:V}{u t:Value}(I:Inv X pins σ H s)(rx:RelV x u)(ty:l8 X.K H x t)(e:PySem.W.kitOne X.K t c=some b)(h: ∀tk,Q (.bool b) {s with toks:=tk}):
  wpAny (model X.prog X.w) A (call (.builtin "isinstance") [u,c]) Q E s:=by
 cases ty with
 |dW=>cases(show u=Value.none from rx); exact dR PySem.W.kitx_none I.gx True.intro e (fun z=>nomatch z) h
 |bl y=>cases(show u=Value.bool y from rx); exact dR PySem.W.kitx_bool I.gx True.intro e (fun z=>nomatch z) h
 |int i=>obtain⟨t,q⟩:=(show ∃t,u=Value.int i t from rx); cases q; exact dR PySem.W.kitx_int I.gx True.intro e (fun z=>nomatch z) h
 |str y=>obtain⟨t,q⟩:=(show ∃t,u=Value.str y t from rx); cases q; exact dR PySem.W.kitx_str I.gx True.intro e (fun z=>nomatch z) h
 |Kr y=>obtain⟨t,q⟩:=(show ∃t,u=Value.float y t from rx); cases q; exact dR PySem.W.kitx_float I.gx True.intro e (fun z=>nomatch z) h
 | @lst a xs ea=>
  cases(show u=Value.ref a from rx);obtain⟨_,_,n,_,h1⟩:=(show di X.prog X.w H s.heap a (.lst xs) from I.cm a _ ea);exact dR ra I.gx ⟨_,h1,rfl⟩ e (fun z=>nomatch z) h
 | @Cp a ob xs ea=>
  cases(show u=Value.ref a from rx);obtain⟨_,_,_,n,_,h1⟩:=(show di X.prog X.w H s.heap a (.Cp ob (.lst xs)) from I.cm a _ ea);exact dR ra I.gx ⟨_,h1,rfl⟩ e (fun z=>nomatch z) h
 | @tup a xs ea=>
  cases(show u=Value.ref a from rx);obtain⟨_,_,_,p⟩:=(show di X.prog X.w H s.heap a (.tup xs) from I.cm a _ ea);obtain⟨o,h1,h2,_⟩:=p;exact dR PySem.W.kitx_tuple I.gx ⟨o,h1,h2⟩ e (fun z=>nomatch z) h
 | @dK a a9 ea=>
  cases(show u=Value.ref a from rx);obtain⟨_,_,vs,_,p⟩:=(show di X.prog X.w H s.heap a (.dK a9) from I.cm a _ ea);obtain⟨o,es,ep,h1,h2,_⟩:=p;exact dR rg I.gx ⟨o,h1,h2.1⟩ e (fun z=>nomatch z) h
 | @dT a a9 ea=>
  cases(show u=Value.ref a from rx);obtain⟨_,_,xs,_,o,es,ep,h1,h2,_⟩:=(show di X.prog X.w H s.heap a (.dT a9) from I.cm a _ ea);exact dR rg I.gx ⟨o,h1,h2.1⟩ e (fun z=>nomatch z) h
 | @ins a C dx fs ea cl ha hn mv hm=>
  cases(show u=Value.ref a from rx);obtain⟨mA,O,_⟩:=qb I.cm ea;obtain⟨od,J,_⟩:=O.look;exact dR (PySem.W.kitx_own (cl.get _) cl.hd ha hn mv hm) I.gx J e (fun z=>nomatch z) h
end
structure eL (k:Nat)(A:Around):Prop where
 hd:A.handled=none
 dp:A.depth + 3 * k + 5 < recursionLimit
 un:A.units + 16 * k + 200 < cLine
def eL.mono {j k:Nat}{A:Around}(r:eL k A)(h:j<=k):eL j A:=⟨r.hd,by have:=r.dp; lia,by have:=r.un; lia⟩
def eL.deeper {k:Nat}{A:Around}(r:eL (k + 1) A)(env:Env):eL k (A.deeper env):=
 ⟨r.hd,by have:=r.dp; show A.depth + 1 + 3 * k + 5 < _; lia,by have:=r.un; show A.units + 3 + 16 * k + 200 < _; lia⟩
def ub {A:Around}{C:Addr}{us:List Value}{kw:List (Str×Value)}:(A.under (.builtin "type.__call__" ⟨.ref C :: us,kw⟩)).depth=A.depth + 1:=by
 first|rfl|simp[Around.under,Code.weight,Code.isCreation,Code.isGuard,Code.isCaller,Code.frames,Code.isFrame,guardIds]
def uc {A:Around}{C:Addr}{us:List Value}{kw:List (Str×Value)}:(A.under (.builtin "type.__call__" ⟨.ref C :: us,kw⟩)).units=A.units + 1:=by
 first|rfl|simp[Around.under,Code.cUnits,Code.frames,Code.isFrame]
def eL.make {k:Nat}{A:Around}(r:eL (k + 1) A)(C:Addr)(us:List Value)(kw:List (Str×Value)):eL k (A.under (.builtin "type.__call__" ⟨.ref C :: us,kw⟩)):=
 ⟨r.hd,by have:=r.dp; rw[ub]; lia,by have:=r.un; rw[uc]; lia⟩
def eL.depth {k:Nat}{A:Around}(r:eL k A):A.depth < recursionLimit:=by have:=r.dp; lia
def eL.units {k:Nat}{A:Around}(r:eL k A):A.units + 64 < cLine:=by have:=r.un; lia
def AJ:TA:=fun _ H Q=>Q [] H
def AK (ta:TE)(tr:TA):TA:=fun σ H Q=>ta σ H fun x H1=>tr σ H1 fun xs H2=>Q (x :: xs) H2
section
variable {X:Cx}{e:Expr}{es:List Expr}{te:TE}{t:TA}{pos:Pos}
def aw:PA X [] AJ:=fun _ _ _ _ H Q I h=>Calls.spliced_nil ⟨[],H,I,.nil,h⟩
def aa (ha:PE X e te)(hr:PA X es t)(hs:starEach (e :: es) X.env=(false,eval e X.env) :: starEach es X.env:=by rfl):PA X (e :: es) (AK te t):=by
 intro pos pins s σ H Q I h;rw[hs];show wpAny _ _ (spliced ((false,eval e X.env) :: backTo pos (starEach es X.env))) _ _ s;refine Calls.spliced_cons (dN (ha pins s σ H _ I h) fun u s1 ⟨x,H1,I1,r1,q1⟩=>?_);exact dN (hr pos pins s1 σ H1 _ I1 q1) fun us s2 ⟨xs,H2,I2,r2,q2⟩=>⟨x :: xs,H2,I2,.cons r1 r2,q2⟩
def Vk (t:TA):TE:=fun σ H Q=>t σ H fun xs H1=>xs.length<=sizeLine/\ ∀p,H1 p=none->Q (.ref p) (upd H1 p (.tup xs))
def Vl (t:TA):TE:=fun σ H Q=>t σ H fun xs H1=>xs.length<=sizeLine/\ ∀p,H1 p=none->Q (.ref p) (upd H1 p (.lst xs))
def dh {x1}(h:PA X es t):PE X (.Tuple es x1 pos) (Vk t):=by
 intro pins s σ H Q I hq;refine wpAny_Tuple_spliced (dN (h pos pins s σ H _ I hq) fun us s1 ⟨xs,H1,I1,r,z,q⟩=>⟨by rw[← r.length]; exact z,?_⟩);have hf:H1 s1.heap.objs.size=none:=I1.cm.fresh (aB _);refine⟨.ref s1.heap.objs.size,upd H1 s1.heap.objs.size (.tup xs),I1.laid (t':=s1.toks) (fun b u e=>ax _ e) (aB _) ?_,rfl,q _ hf⟩;exact⟨z,us,r,⟨_,bH _ rfl,rfl,_,rfl⟩⟩
def bP (h:PA X es t):PE X (.List es pos) (Vl t):=by
 intro pins s σ H Q I hq;refine wpAny_List_spliced (dN (h pos pins s σ H _ I hq) fun us s1 ⟨xs,H1,I1,r,z,q⟩=>⟨by rw[← r.length]; exact z,?_⟩);have hf:H1 s1.heap.objs.size=none:=I1.cm.fresh (aB _);refine⟨.ref s1.heap.objs.size,upd H1 s1.heap.objs.size (.lst xs),I1.laid (t':=s1.toks) (fun b u e=>ax _ e) (aB _) ?_,rfl,q _ hf⟩;exact⟨z,us,0,r,bH _ rfl⟩
end
abbrev Sp:=List V->Hp->VK->XK->Prop
abbrev Eb:=List Env->Hp->Shared->XK->Value->Shared->Prop
structure qc (P:Program)(w:World)(K:Frag)(mg:Str->Option Value)(base:Heap)(A:Around)(outer:List Env)(s:Shared)(H:Hp):Prop where
 frames:A.frames=some outer
 mod:Mod K mg base
 bs: ∀b o,base.get? b=some o->s.heap.get? b=some o/\H b=none
 Ay:base.objs.size<=s.heap.objs.size
 lz:s.heap.FunFrames base outer
 D0: ∀b∈CF outer,H b=none
 cm:nV P w H s.heap
 bare:AllBare s.gens
def CE (outer:List Env)(P:Program)(w:World)(H:Hp)(s:Shared)(Q:VK)(u:Value)(s':Shared):Prop:=
 ∃v H',s'.os=s.os/\AllBare s'.gens/\Un (CF outer) [] H H' s.heap s'.heap/\nV P w H' s'.heap/\RelV v u/\Q v H'
def CR (CX:Eb)(outer:List Env)(P:Program)(w:World)(H:Hp)(s:Shared)(Q:VK)(E:XK)(r:Result)(s':Shared):Prop:=
 match r with
 | .ok (.ret u)=>CE outer P w H s Q u s'
 | .ok _=>False
 | .error e=>CX outer H s E e s'
structure lB (P:Program)(w:World)(K:Frag)(mg:Str->Option Value)(base:Heap)(CX:Eb)(k:Nat)(f:Addr)(fd:FuncData)(ps:List Str)(sp:Sp):Prop where
 len: ∀vs H Q E,sp vs H Q E->vs.length=ps.length
 run: ∀(A:Around) (outer:List Env) (s:Shared) (H:Hp) (args:Args) (us:List Value) (vs:List V) (Q:VK) (E:XK),eL k A->qc P w K mg base A outer s H->BindsTo s fd args (ps.zip us)->Vals vs us->sp vs H Q E->
  codeAny (model P w) A (.call (.ref f) args) (CR CX outer P w H s Q E) s
def qc.make {P:Program}{w:World}{K:Frag}{mg:Str->Option Value}{base:Heap}{A:Around}{outer:List Env}{s:Shared}{H:Hp}(e:qc P w K mg base A outer s H)(C:Addr)(us:List Value)(kw:List (Str×Value)):
  qc P w K mg base (A.under (.builtin "type.__call__" ⟨.ref C :: us,kw⟩)) outer s H:=⟨by first|exact e.frames|(simpa[Around.under,Code.envs,Code.isFrame,pushEnvs] using e.frames),e.mod,e.bs,e.Ay,e.lz,e.D0,e.cm,e.bare⟩
def qc.in1 {P:Program}{w:World}{K:Frag}{mg:Str->Option Value}{base:Heap}{A:Around}{outer:List Env}{s:Shared}{H:Hp}(e:qc P w K mg base A outer s H):
  qc P w K mg base A.in1 outer s H:=⟨e.frames,e.mod,e.bs,e.Ay,e.lz,e.D0,e.cm,e.bare⟩
section
variable {X:Cx}{pins:List (Addr×Obj)}{σ:St}{H:Hp}{s s':Shared}
def Inv.HE (I:Inv X pins σ H s):qc X.prog X.w X.K X.mg X.base X.A X.stack s H:=
 ⟨I.ok.frames,I.ok.mod,I.bs,aV I.ok.Ay I.sz,I.stack,I.pZ,I.cm,I.bare⟩
def Inv.after {Q:VK}{u:Value}(I:Inv X pins σ H s)(h:CE X.stack X.prog X.w H s Q u s'):EP X pins σ Q u s':=by
 obtain⟨v,H',os,bare,un,cm,r,q⟩:=h;obtain⟨hh,g,d,t,os'⟩:=s';obtain rfl:os'=s.os:=os;exact⟨v,H',I.call (h':=hh) (g':=g) (d':=d) (t':=t) (ch:=[]) un cm bare (fun b z=>absurd z (by simp)),r,q⟩
end
def ud (sp:Sp)(ue:List V)(E:XK)(t:TA):TE:=fun σ H Q=>t σ H fun vs H1=>sp (vs ++ ue) H1 Q E
def Mx (C:Addr)(m:Str)(sp:Sp)(ue:List V)(E:XK)(ta:TE)(t:TA):TE:=fun σ H Q=>ta σ H fun x H1=> ∃a dx fs,x= .ref a/\H1 a=some (.ins C dx fs)/\fs.lookup m=none/\
 t σ H1 fun vs H2=>sp (x :: (vs ++ ue)) H2 Q E
def Ec (C:Addr)(sp:Sp)(ue:List V)(E:XK)(t:TA):TE:=fun σ H Q=>t σ H fun vs H1=> ∀x dx,H1 x=none->H1 dx=none->dx≠x->
 sp (.ref x :: (vs ++ ue)) (upd (upd H1 dx (.own x)) x (.ins C dx [])) (fun v H2=>v= .dW/\Q (.ref x) H2) E
def Binds (K:Frag)(fd:FuncData)(ps:List Str)(ds:List Value):Prop:=
 ∀(s:Shared) (us:List Value),K.In s.heap->(us ++ ds).length=ps.length->BindsTo s fd ⟨us,[]⟩ (ps.zip (us ++ ds))
def Binds.all {K:Frag}{fd:FuncData}{ps:List Str}(h: ∀us:List Value,us.length=ps.length->bindArgs fd ⟨us,[]⟩=pure (ps.zip us)):Binds K fd ps []:=fun s us _ hl=>by
 rw[bZ] at hl ⊢;exact .of_eq (h us hl)
def Passes (CX:Eb)(X:Cx)(E:XK):Prop:= ∀(pins:List (Addr×Obj)) (σ:St) (H:Hp) (s:Shared) (e:Value) (s':Shared),Inv X pins σ H s->CX X.stack H s E e s'->X.xe e s'
section
variable {X:Cx}{CX:Eb}{k:Nat}{f C:Addr}{fd:FuncData}{ps:List Str}{sp:Sp}{ue:List V}{ds:List Value}{E:XK}{x m:Str}{p pos apos:Pos}{e o:Expr}{es:List Expr}{ta:TE}{t:TA}
def ym {pins:List (Addr×Obj)}{σ:St}{H:Hp}{s:Shared}{Q:VK}{us:List Value}{vs:List V}(F:lB X.prog X.w X.K X.mg X.base CX k f fd ps sp)(hr:eL k X.A)(hb:Binds X.K fd ps ds)(hd:Vals ue ds)(hx:Passes CX X E)
  (I:Inv X pins σ H s) (r:Vals vs us) (h:sp (vs ++ ue) H Q E):wpAny (model X.prog X.w) X.A (call (.ref f) us) (EP X pins σ Q) X.xe s:=by
 have r2:Vals (vs ++ ue) (us ++ ds):=r.append hd;have hl:(us ++ ds).length=ps.length:=by rw[← r2.length]; exact F.len _ _ _ _ h
 refine DZ (CB (F.run X.A X.stack s H ⟨us,[]⟩ (us ++ ds) (vs ++ ue) Q E hr I.HE (hb s us I.gx hl) r2 h) fun r s' hq=>?_);cases r with
 |error e=>exact hx pins σ H s e s' I hq
 |ok fl=>
  cases fl with
  |ret u=>exact I.after hq
  |next=>exact False.elim hq
  |brk=>exact False.elim hq
  |cont=>exact False.elim hq
def Ed (F:lB X.prog X.w X.K X.mg X.base CX k f fd ps sp)(hr:eL k X.A)(hg:Gl X x)(hm:X.mg x=some (.ref f))(hk:keepIn X.K (.ref f)=true)(hb:Binds X.K fd ps ds)(hd:Vals ue ds)(hx:Passes CX X E)
  (ha:PA X (e :: es) t) (qd:(x == ("__debug__":Str))=false:=by decide) (he:starEach (e :: es) X.env=(false,eval e X.env) :: starEach es X.env:=by rfl) (gN:(backTo pos (starEach es X.env)).any (·.1)=false:=by rfl):
  PE X (.Call (.Name x p) (e :: es) [] pos) (ud sp ue E t):=by
 intro pins s σ H Q I h;refine ej (ji I hg hm ?_ qd);refine jV (h₀:=X.base) I.ok.mod.Kt hk (dN (ha pos pins s σ H _ I h) fun us s1 ⟨vs,H1,I1,r,q⟩=>⟨I1.gx,?_⟩) he gN;exact ym F hr hb hd hx I1 r q
def HF (F:lB X.prog X.w X.K X.mg X.base CX k f fd ps sp)(hr:eL k X.A)(hg:Gl X x)(hm:X.mg x=some (.ref f))(hk:keepIn X.K (.ref f)=true)(hb:Binds X.K fd ps ds)(hd:Vals ue ds)(hx:Passes CX X E)
  (qd:(x == ("__debug__":Str))=false:=by decide):PE X (.Call (.Name x p) [] [] pos) (ud sp ue E AJ):=by
 intro pins s σ H Q I h;refine ej (ji I hg hm ?_ qd);exact Au I.gx hk (ym (us:=[]) F hr hb hd hx I .nil h)
def KI {pl:Sem Bool}(he:PE X o ta)(c:vT X.K C)(hm:Meth X.K C m f)(F:lB X.prog X.w X.K X.mg X.base CX k f fd ps sp)(hr:eL k X.A)(hb:Binds X.K fd ps ds)(hd:Vals ue ds)(hx:Passes CX X E)(ha:PA X (e :: es) t)
  (qZ:starEach (e :: es) X.env=(false,eval e X.env) :: starEach es X.env:=by rfl) (gN:(backTo pos (starEach es X.env)).any (·.1)=false:=by rfl)
  (ht:eval (.Call (.Attribute o m apos) (e :: es) [] pos) X.env=(do
   let ov ← eval o X.env
   standAt apos.atName
   let(f,first) ← holding [ov] (getMethod ov m pl)
   callWith pos f first (backTo pos (starEach (e :: es) X.env)) (backToKw pos (keywordEach [] X.env))):=by rfl):
  PE X (.Call (.Attribute o m apos) (e :: es) [] pos) (Mx C m sp ue E ta t):=by
 intro pins s σ H Q I h;refine vJ (pl:=pl) (dN (he pins s σ H _ I h) fun u s1 ⟨x,H1,I1,rx,a,dx,fs,ex,ea,l,q⟩=>?_) ht;subst ex;obtain rfl:u=Value.ref a:=rx;refine CP I1 ea c hm l ?_;refine jV (first:=[.ref a]) (h₀:=X.base) I.ok.mod.Kt hm.kp (dN (ha pos pins s1 σ H1 _ I1 q) fun us s2 ⟨vs,H2,I2,r,q2⟩=>⟨I2.gx,?_⟩) qZ gN;exact ym (us:= .ref a :: us) (vs:= .ref a :: vs) F hr hb hd hx I2 (.cons rfl r) q2
structure Mk (K:Frag)(C f:Addr):Prop where
 makes:makesIn K C=true
 init:findIn K (.ref C) "__init__"=some (some (.ref f))
 fn:PySem.W.isFn K (.ref f)=true
 kp:keepIn K (.ref C)=true
def AL {pins:List (Addr×Obj)}{σ:St}{H:Hp}{s:Shared}{Q:VK}{us:List Value}{vs:List V}(M:Mk X.K C f)(F:lB X.prog X.w X.K X.mg X.base CX k f fd ps sp)(hr:eL (k + 1) X.A)(hb:Binds X.K fd ps ds)(hd:Vals ue ds)
  (hx:Passes CX X E) (I:Inv X pins σ H s) (r:Vals vs us)
  (h: ∀x dx,H x=none->H dx=none->dx≠x->sp (.ref x :: (vs ++ ue)) (upd (upd H dx (.own x)) x (.ins C dx [])) (fun v H2=>v= .dW/\Q (.ref x) H2) E):
  wpAny (model X.prog X.w) X.A (call (.ref C) us) (EP X pins σ Q) X.xe s:=by
 have hq:=h (s.heap.objs.size + 1) s.heap.objs.size (I.cm.fresh (cD _)) (I.cm.fresh (aB _)) (aU (eT _));have I2:=Inv.made (C:=C) I;have r2:Vals (V.ref (s.heap.objs.size + 1) :: (vs ++ ue)) (Value.ref (s.heap.objs.size + 1) :: (us ++ ds)):= .cons rfl (r.append hd);have hl:(Value.ref (s.heap.objs.size + 1) :: us ++ ds).length=ps.length:=by
  have e:=r2.length;rw[F.len _ _ _ _ hq] at e;exact e.symm
 refine DZ (HB (f:=f) I.gx M.makes M.init (E9.mp M.fn) (CB (F.run _ X.stack _ _ ⟨Value.ref (s.heap.objs.size + 1) :: us,[]⟩ (Value.ref (s.heap.objs.size + 1) :: (us ++ ds)) _ _ E (hr.make C us [])
  (I2.HE.make C us []) (hb _ (Value.ref (s.heap.objs.size + 1) :: us) I2.gx hl) r2 hq) fun r s' sf=>?_))
 cases r with
 |error e=>exact hx pins σ _ _ e s' I2 sf
 |ok fl=>
  cases fl with
  |ret u=>
   obtain⟨v,H',I3,rv,ev,q3⟩:=I2.after sf;subst ev;exact⟨rv,⟨V.ref (s.heap.objs.size + 1),H',I3,rfl,q3⟩⟩
  |next=>exact False.elim sf
  |brk=>exact False.elim sf
  |cont=>exact False.elim sf
def KJ (M:Mk X.K C f)(F:lB X.prog X.w X.K X.mg X.base CX k f fd ps sp)(hr:eL (k + 1) X.A)(hg:Gl X x)(hm:X.mg x=some (.ref C))(hb:Binds X.K fd ps ds)(hd:Vals ue ds)(hx:Passes CX X E)
  (ha:PA X (e :: es) t) (qd:(x == ("__debug__":Str))=false:=by decide) (he:starEach (e :: es) X.env=(false,eval e X.env) :: starEach es X.env:=by rfl) (gN:(backTo pos (starEach es X.env)).any (·.1)=false:=by rfl):
  PE X (.Call (.Name x p) (e :: es) [] pos) (Ec C sp ue E t):=by
 intro pins s σ H Q I h;refine ej (ji I hg hm ?_ qd);refine jV (h₀:=X.base) I.ok.mod.Kt M.kp (dN (ha pos pins s σ H _ I h) fun us s1 ⟨vs,H1,I1,r,q⟩=>⟨I1.gx,?_⟩) he gN;exact AL M F hr hb hd hx I1 r q
def HG (M:Mk X.K C f)(F:lB X.prog X.w X.K X.mg X.base CX k f fd ps sp)(hr:eL (k + 1) X.A)(hg:Gl X x)(hm:X.mg x=some (.ref C))(hb:Binds X.K fd ps ds)(hd:Vals ue ds)(hx:Passes CX X E)
  (qd:(x == ("__debug__":Str))=false:=by decide):PE X (.Call (.Name x p) [] [] pos) (Ec C sp ue E AJ):=by
 intro pins s σ H Q I h;refine ej (ji I hg hm ?_ qd);exact Au I.gx M.kp (AL (us:=[]) M F hr hb hd hx I .nil h)
end
section
variable {X:Cx}{CX:Eb}{k:Nat}{f C:Addr}{fd:FuncData}{ps ks:List Str}{sp:Sp}{E:XK}{x m:Str}{p pos apos QO:Pos}{e o:Expr}{es:List Expr}{kws:List Keyword}{te ta:TE}{t tk:TA}{nm:Option Str}
variable {g:List Value->List Value->List Value}{gV:List V->List V->List V}
end
structure aO (N P:List Str)(sc:Scope):Prop where
 kind:sc.kind= .function:=by rfl
 co:sc.isCoroutine=false:=by rfl
 gen:sc.isGenerator=false:=by rfl
 nd:N.Nodup:=by decide +kernel
 pre:N.take P.length=P:=by rfl
 par: ∀x∈P,sc.names.lookup x=some .local∨sc.names.lookup x=some .cell:=by decide +kernel
 ND: ∀y∈sc.names,y.2≠ .free:=by decide +kernel
def xn {kindOf:Str->Option NameKind}{x:Str}: ∀{binds:List (Str×Value)} {m:Str->Option Value},(∀v,(x,v)∉binds)->bindL kindOf binds m x=m x
 |[],_,_=>rfl
 |(n,v) :: r,m,h=>by
  unfold bindL;rw[xn fun w hw=>h w (aQ _ hw)];split
  ·have:x≠n:=by rintro rfl; exact h v bh
   simp[this]
  ·rfl
def xp {kindOf:Str->Option NameKind}{x:Str}: ∀{binds:List (Str×Value)} {m:Str->Option Value},(∀v,(x,v)∉binds)->bindC kindOf binds m x=m x
 |[],_,_=>rfl
 |(n,v) :: r,m,h=>by
  unfold bindC;rw[xp fun w hw=>h w (aQ _ hw)];split
  ·rfl
  ·have:x≠n:=by rintro rfl; exact h v bh
   simp[this]
def xq {kindOf:Str->Option NameKind}{x:Str}{v:Value}: ∀{P:List Str} {vs:List Value} {i:Nat} {m:Str->Option Value},P.Nodup->P[i]? =some x->vs[i]? =some v->kindOf x=some .local->
  bindL kindOf (P.zip vs) m x=some v
 |[],_,_,_,_,h,_,_=>by simp at h
 |_ :: _,[],_,_,_,_,h,_=>by simp at h
 |p :: P,w :: vs,0,m,nd,h1,h2,hk=>by
  simp at h1 h2; subst h1; subst h2;show bindL kindOf ((p,w) :: P.zip vs) m p=_;unfold bindL;rw[xn fun v hv=>(dS.mp nd).1 (nR hv).1,aZ hk];simp
 |p :: P,w :: vs,i + 1,m,nd,h1,h2,hk=>by
  show bindL kindOf ((p,w) :: P.zip vs) m x=_;unfold bindL;exact xq (i:=i) (List.nodup_cons.mp nd).2 (by simpa using h1) (by simpa using h2) hk
def xr {kindOf:Str->Option NameKind}{x:Str}{v:Value}: ∀{P:List Str} {vs:List Value} {i:Nat} {m:Str->Option Value},P.Nodup->P[i]? =some x->vs[i]? =some v->kindOf x≠some .local->
  bindC kindOf (P.zip vs) m x=some v
 |[],_,_,_,_,h,_,_=>by simp at h
 |_ :: _,[],_,_,_,_,h,_=>by simp at h
 |p :: P,w :: vs,0,m,nd,h1,h2,hk=>by
  simp at h1 h2; subst h1; subst h2;show bindC kindOf ((p,w) :: P.zip vs) m p=_;unfold bindC;rw[xp fun v hv=>(dS.mp nd).1 (nR hv).1,aL hk];simp
 |p :: P,w :: vs,i + 1,m,nd,h1,h2,hk=>by
  show bindC kindOf ((p,w) :: P.zip vs) m x=_;unfold bindC;exact xr (i:=i) (List.nodup_cons.mp nd).2 (by simpa using h1) (by simpa using h2) hk
def start (N:List Str)(vs:List V):St:=vs.map some ++ List.replicate (N.length - vs.length) none
def kz (CX:Eb)(P:Program)(w:World)(K:Frag)(mg:Str->Option Value)(base:Heap)(N:List Str)(qual:Str)(scope:Scope)(f:Addr)(cd:Value)(A:Around)(outer:List Env)(s:Shared)(H:Hp)(E:XK):Cx where
 prog:=P
 w:=w
 K:=K
 mg:=mg
 base:=base
 A:=A.deeper (envOfC qual scope s.heap.objs.size f cd)
 N:=N
 s₀:=s
 H₀:=H
 env:=envOfC qual scope s.heap.objs.size f cd
 outer:=outer
 stack:=envOfC qual scope s.heap.objs.size f cd :: outer
 ex:=[]
 calm:=true
 fn:=fun _=>true
 pn:=[]
 xe:=fun e s'=>wpAny (model P w) (A.deeper (envOfC qual scope s.heap.objs.size f cd)) (leaving (envOfC qual scope s.heap.objs.size f cd) e) (fun _ Ee=>CX outer H s E e Ee) (fun e' Ee=>CX outer H s E e' Ee) s'
def AM {sc:Scope}{n:Nat}{x:Str}(h:sc.names.lookup x=some .cell): ∃c,(cellsFrom n sc.names []).lookup x=some c:=by
 have q:=kH sc.names n [] (.inl h);exact PL.mp q
def xu {CX:Eb}{P:Program}{w:World}{K:Frag}{mg:Str->Option Value}{base:Heap}{N ps:List Str}{qual:Str}{scope:Scope}{f:Addr}{cd:Value}{A:Around}{outer:List Env}{s s1:Shared}{H:Hp}{E:XK}{us:List Value}{vs:List V}
  (S:aO N ps scope) (hd:A.handled=none) (e0:qc P w K mg base A outer s H) (hl:vs.length=ps.length) (r:Vals vs us)
  (x:InCallC s s.heap.objs.size (bindL (envOfC qual scope s.heap.objs.size f cd).kindOf (ps.zip us) fun _=>none) (cellsFrom (s.heap.objs.size + 1) scope.names []) (bindC (envOfC qual scope s.heap.objs.size f cd).kindOf (ps.zip us) fun _=>none) s1):
  Inv (kz CX P w K mg base N qual scope f cd A outer s H E) [] (start N vs) H s1:=by
 have gN:ps.length<=N.length:=by have:=cQ List.length S.pre; rw[bo] at this; lia
 obtain⟨h1,tk,rfl,hk⟩:=x.done;have Vm: ∀b:Addr,b∉(kz CX P w K mg base N qual scope f cd A outer s H E).ex:=fun b z=>absurd (show b∈([]:List Addr) from z) (by simp);refine⟨⟨e0.mod,S.kind,rfl,rfl,aB _,fun y z c h1 h2=>?_,fun y hy=>?_,fun y c _ h=>?_,fun _=>hd,Around.frames_deeper e0.frames,.inr ⟨rfl,rfl⟩,fun b z=>absurd z (Vm b),e0.bs,e0.Ay,fun b _ _=>Vm b,fun b z=>absurd z (Vm b),e0.lz,e0.D0⟩,
  rfl,e0.bare,Un.kept hk,⟨_,x.toInCall.ns,fun i y v h1 h2 h3=>?_⟩,fun y c h=>⟨_,x.cell y c h⟩,e0.cm.fresh (Nat.le_refl _),fun y c h=>?_,fun p hp=>absurd (show p∈([]:List (Addr×Obj)) from hp) (by simp),e0.cm.kept hk,?_⟩
 ·exact name_of_addr x.apart (b0 h1) (b0 h2)
 ·have hy:scope.names.lookup y=some .cell∨scope.names.lookup y=some .free:=hy;rcases hy with hy|hy
  ·exact AM hy
  ·exact absurd rfl (S.ND _ (b0 hy))
 ·exact c8 (x.above y c (b0 h))
 ·have hi:i < vs.length:=by
   unfold start at h2;by_cases hi:i < vs.length
   ·exact hi
   ·rw[List.getElem?_append_right (by simpa using hi)] at h2;rw[List.getElem?_replicate] at h2;split at h2 <;> cases h2
  have ha:vs[i]? =some v:=by
   unfold start at h2;rw[List.getElem?_append_left (by simpa using hi),List.getElem?_map] at h2;cases e:vs[i]? with
   |none=>rw[e] at h2; cases h2
   |some a=>rw[e] at h2; cases h2; rfl
  obtain⟨u,hu,rv⟩:=r.get ha;have hp:ps[i]? =some y:=by
   rw[← S.pre,List.getElem?_take_of_lt (by lia)]; exact h1
  have Yg:ps.Nodup:=by rw[← S.pre]; exact S.nd.sublist (List.take_sublist _ _)
  refine⟨u,rv,?_⟩;rcases S.par y (gh hp) with k|k
  ·exact .inl ⟨k,xq Yg hp hu k⟩
  ·obtain⟨c,e⟩:=AM (n:=s.heap.objs.size + 1) k;refine .inr ⟨.inl k,c,e,?_⟩;have q:=x.cell y c e;rw[xr Yg hp hu (by show scope.names.lookup y≠_; rw[k]; decide)] at q;exact q
 ·exact e0.cm.fresh (c8 (x.above y c (b0 h)))
 ·unfold start;show _ =N.length;rw[aF,ae,iA];lia
def HI {CX:Eb}{P:Program}{w:World}{K:Frag}{mg:Str->Option Value}{base:Heap}{k:Nat}{f:Addr}{name qual:Str}{params:Arguments}{body:List Stmt}{scope:Scope}{dV kV doc pm cM ct oc:Value}{an od:Option Addr}
  {Fy:Array (Option Value)} {N ps:List Str} {sp:Sp} (lk:K.lookup f=some ⟨oc,od,.func (fnOf name qual params body scope dV kV doc pm an cM ct),Fy⟩) (qY:codeIn K cM qual=true) (S:aO N ps scope)
  (len: ∀vs H Q E,sp vs H Q E->vs.length=ps.length)
  (fL: ∀(A:Around) (outer:List Env) (s:Shared) (H:Hp) (vs:List V) (Q:VK) (E:XK),eL k (A.deeper (envOfC qual scope s.heap.objs.size f cM))->sp vs H Q E->
   ∃t,oq (kz CX P w K mg base N qual scope f cM A outer s H E) body t/\t {nx:=fun _ H'=>Q .dW H',rt:=Q} (start N vs) H):
  lB P w K mg base CX (k + 1) f (fnOf name qual params body scope dV kV doc pm an cM ct) ps sp:=by
 refine⟨len,fun A outer s H args us vs Q E hr e0 hb r yn=>?_⟩;have hl:=len _ _ _ _ yn;have KX:K.In s.heap:=e0.mod.Kt.keeps fun b o e=>(e0.bs b o e).1;have lim:s.heap.NoLimit:=e0.mod.nolimit.keeps fun b o e=>(e0.bs b o e).1;have mw: ∀y∈ps.zip us,scope.names.lookup y.1=some .local∨(scope.names.lookup y.1=some .cell/\((cellsFrom (s.heap.objs.size + 1) scope.names []).lookup y.1).isSome=true):=fun⟨n,v⟩ hy=>by
  rcases S.par n (nR hy).1 with q|q
  ·exact .inl q
  ·exact .inr ⟨q,kH _ _ _ (.inl q)⟩
 refine codeAny_call_function hr.depth (KX _ _ lk) rfl S.co S.gen rfl (PySem.W.codeRec_of KX qY) (hb _ _ _ _ ?_);refine sR S.kind mw fun env he s1 x=>?_;subst he;refine⟨lim.keeps x.toInCall.keep,codeAny_func ?_⟩;obtain⟨t,ht,hq⟩:=fL A outer s H vs Q E (hr.deeper _) yn;have I:Inv (kz CX P w K mg base N qual scope f cM A outer s H E) [] (start N vs) H s1:=xu S hr.hd e0 hl r x;refine b9 (ht [] s1 (start N vs) H _ I hq) (fun fl s' hs=>?_) fun e s' hs=>hs;have fin: ∀{σ':St} {H':Hp} {v:V} {u:Value},Inv (kz CX P w K mg base N qual scope f cM A outer s H E) [] σ' H' s'->RelV v u->Q v H'->CE outer P w H s Q u s':=
  fun{σ' H' v u} J rv q=>⟨v,H',J.os,J.bare,J.base,J.cm,rv,q⟩
 cases fl with
 |ret u=>
  obtain⟨v,σ',H',J,rv,q⟩:=hs;exact fin J rv q
 |next=>
  obtain⟨σ',H',J,q⟩:=hs;exact fin (v:=V.dW) (u:=Value.none) J rfl q
 |brk=>
  obtain⟨_,_,_,q⟩:=hs;exact False.elim q
 |cont=>
  obtain⟨_,_,_,q⟩:=hs;exact False.elim q
section
variable {X:Cx}{x:Str}{p pos:Pos}{e:Expr}{es:List Expr}{t:TA}{id T:String}{r:List V->Hp->VK->Prop}
def TX (r:List V->Hp->VK->Prop)(t:TA):TE:=fun σ H Q=>t σ H fun vs H1=>r vs H1 Q
def fm (hc:gE X (.builtin id) r)(hg:Gl X x)(hm:X.mg x=none)(hv:bootBuiltins x=some (.builtin id))(ha:PA X (e :: es) t)(hn:x≠"__name__":=by decide)(qd:(x == ("__debug__":Str))=false:=by decide)
  (he:starEach (e :: es) X.env=(false,eval e X.env) :: starEach es X.env:=by rfl) (gN:(backTo pos (starEach es X.env)).any (·.1)=false:=by rfl):PE X (.Call (.Name x p) (e :: es) [] pos) (TX r t):=by
 intro pins s σ H Q I h;refine ej (oT I hg hm hv ?_ hn qd);exact PyProof.Rows.callWith_builtin1 (dN (ha pos pins s σ H _ I h) fun us s1 ⟨vs,H1,I1,r1,q1⟩=>hc pins s1 σ H1 vs us Q I1 r1 q1) he gN
def fO (hc:gE X (.type T) r)(hg:Gl X x)(hm:X.mg x=none)(hv:bootBuiltins x=some (.type T))(ha:PA X (e :: es) t)(hn:x≠"__name__":=by decide)(qd:(x == ("__debug__":Str))=false:=by decide)
  (he:starEach (e :: es) X.env=(false,eval e X.env) :: starEach es X.env:=by rfl) (gN:(backTo pos (starEach es X.env)).any (·.1)=false:=by rfl):PE X (.Call (.Name x p) (e :: es) [] pos) (TX r t):=by
 intro pins s σ H Q I h;refine ej (oT I hg hm hv ?_ hn qd);exact nP (dN (ha pos pins s σ H _ I h) fun us s1 ⟨vs,H1,I1,r1,q1⟩=>hc pins s1 σ H1 vs us Q I1 r1 q1) he gN
end
end L2
namespace HT
open PySem PyProof.Rows
def lexLt:List Int->List Int->Bool
 |[],[]=>false
 |[],_ :: _=>true
 |_ :: _,[]=>false
 |x :: xs,y :: ys=>if x=y then lexLt xs ys else decide (x < y)
def oW (x y:Int)(xs ys:List Int):lexLt (x :: xs) (y :: ys)=if x=y then lexLt xs ys else decide (x < y):=rfl
section
open PySem.SeqAt
open PySem.AutoSeq1 (wpAny_loadPart')
open PySem.MeetsSeq PySem.MeetsSeq2 PySem.MeetsSeq3
end
section
variable {prog:Program}{w:World}{A:Around}{E:Value->Shared->Prop}{s:Shared}
def AN (n d:Nat):Option Int->Nat
 |none=>d
 |some v=>if v < 0 then(v + (n:Int)).toNat else min v.toNat n
def HJ (n d:Nat):AN n d none=d:=rfl
def yo (n d k:Nat):AN n d (some (k:Int))=min k n:=by
 show(if(k:Int) < 0 then((k:Int) + (n:Int)).toNat else min (k:Int).toNat n)=min k n;rw[aL (by lia),eo]
end
end HT
namespace L2
open PySem PySem.Spec PyProof.Rows
abbrev TO:=St->Hp->(Option Int->Hp->Prop)->Prop
def PO (X:Cx)(e:Option Expr)(t:TO):Prop:=
 ∀(pins:List (Addr×Obj)) (s:Shared) (σ:St) (H:Hp) (Q:Option Int->Hp->Prop),Inv X pins σ H s->t σ H Q->
  wpAny (model X.prog X.w) X.A (evalPart e X.env) (fun u s'=> ∃o H',Inv X pins σ H' s'/\IsPart u o/\Q o H') X.xe s
def KL:TO:=fun _ H Q=>Q none H
inductive Yh (x:V)(k:Int->Prop):Prop
 |mk (i:Int)(h:x= .int i)(q:k i):Yh x k
def QP (t:TE):TO:=fun σ H Q=>t σ H fun x H1=>Yh x fun i=>Q (some i) H1
def intsAre_of {ns:List Int}: ∀{us:List Value},Vals (ns.map V.int) us->IntsAre us ns:=by
 induction ns with
 |nil=>intro us r; rw[vK] at r; cases r; exact .nil
 |cons n ns ih=>
  intro us r;rw[cS] at r;cases r with
  |cons r1 r2=>
   obtain⟨t,e⟩:=r1;subst e;exact .cons n t (ih r2)
section
variable {X:Cx}{e:Expr}{te:TE}{lo hi:Option Expr}{tl th:TO}{pos p2:Pos}
def yp:PO X none KL:=by
 intro pins s σ H Q I h;rw[evalPart_none];exact bA ⟨none,H,I,.none,h⟩
def qe (h:PE X e te):PO X (some e) (QP te):=by
 intro pins s σ H Q I hw;rw[evalPart_some];refine dN (h pins s σ H _ I hw) fun u s1 ⟨x,H1,I1,r1,q1⟩=>?_;obtain⟨i,rfl,q⟩:=q1;obtain⟨t,rfl⟩:=r1;exact⟨some i,H1,I1,.int i t,q⟩
def My (X:Cx)(r:V->Option Int->Option Int->Hp->VK->Prop):Prop:=
 ∀(pins:List (Addr×Obj)) (s:Shared) (σ:St) (H:Hp) (x:V) (v vl vu:Value) (lo hi:Option Int) (sl:Addr) (Q:VK),Inv X pins σ H s->RelV x v->s.heap.IsSliceOf sl vl vu .none->IsPart vl lo->IsPart vu hi->r x lo hi H Q->
  ∃T id,typeLookup (.type T) "__getitem__"=pure (some (.builtin id))/\s.TypeIs v T/\wpAny (model X.prog X.w) X.A (getItem v (.ref sl)) (EP X pins σ Q) X.xe s
def tSl (r:V->Option Int->Option Int->Hp->VK->Prop)(te:TE)(tl th:TO):TE:=fun σ H Q=>te σ H fun x H1=>tl σ H1 fun l H2=>th σ H2 fun u H3=>r x l u H3 Q
def qf {r:V->Option Int->Option Int->Hp->VK->Prop}(hr:My X r)(he:PE X e te)(hl:PO X lo tl)(hu:PO X hi th):PE X (.Subscript e (.Slice lo hi none p2) pos) (tSl r te tl th):=by
 intro pins s σ H Q I h;refine Subscript_ (dN (he pins s σ H _ I h) fun v s1 ⟨x,H1,I1,r1,q1⟩=>?_);refine wpAny_Slice (dN (hl pins s1 σ H1 _ I1 q1) fun vl s2 ⟨l,H2,I2,pl,q2⟩=>dN (hu pins s2 σ H2 _ I2 q2) fun vu s3 ⟨u,H3,I3,pu,q3⟩=>?_);rw[evalPart_none];refine bA ?_;have I4:Inv X pins σ H3 {s3 with heap:=s3.heap.push {cls:= .type "slice",data:= .fields #[vl,vu,.none]}}:=I3.kept (t':=s3.toks) fun b ob q=>ax _ q;obtain⟨T,id,hT,ht,hg⟩:=hr pins {s3 with heap:=s3.heap.push {cls:= .type "slice",data:= .fields #[vl,vu,.none]}} σ H3 x v vl vu l u s3.heap.objs.size Q I4 r1 (Heap.IsSliceOf.new ..) pl pu q3;show wpAny (model X.prog X.w) X.A (subscriptTail e (.Slice lo hi none p2) v (.ref s3.heap.objs.size)) (EP X pins σ Q) X.xe {s3 with heap:=s3.heap.push {cls:= .type "slice",data:= .fields #[vl,vu,.none]}};exact tail_any (ops:=[.ref s3.heap.objs.size,v]) ht hT hg (by with_unfolding_all rfl)
def qg (xs:List V)(lo hi:Option Int):List V:=(xs.drop (HT.AN xs.length 0 lo)).take (HT.AN xs.length xs.length hi - HT.AN xs.length 0 lo)
def AO (xs:List V)(lo hi:Option Int):(qg xs lo hi).length<=xs.length:=by
 unfold qg;rw[bo,l6];lia
end
def KN (n:Nat)(i:Int):Option Nat:=if 0<=i then(if i < n then some i.toNat else none) else if -(n:Int)<=i then some (i + n).toNat else none
def tF {α:Type}(xs:List α)(i:Int):Option α:=(KN xs.length i).bind fun j=>xs[j]?
def Ef {n:Nat}{i:Int}{j:Nat}(h:KN n i=some j):seqIndex? i n=some j/\j < n/\ -(n:Int)<=i/\i < n:=by
 unfold KN at h;by_cases h0:0<=i
 ·rw[aZ h0] at h;by_cases h1:i < n
  ·rw[aZ h1] at h;have e:i.toNat=j:=aE h;exact⟨by rw[seqIndex_of h0 h1,e],by lia,by lia,h1⟩
  ·rw[aL h1] at h; cases h
 ·rw[aL h0] at h;by_cases h1: -(n:Int)<=i
  ·rw[aZ h1] at h;have e:(i + n).toNat=j:=aE h;exact⟨by rw[seqIndex_neg (by lia) h1,e],by lia,h1,by lia⟩
  ·rw[aL h1] at h; cases h
def Eg {α:Type}{xs:List α}{i:Int}{v:α}(h:tF xs i=some v): ∃j,seqIndex? i xs.length=some j/\xs[j]? =some v/\j < xs.length/\ -(xs.length:Int)<=i/\i < xs.length:=by
 unfold tF at h;cases e:KN xs.length i with
 |none=>rw[e] at h; cases h
 |some j=>
  rw[e] at h;obtain⟨h1,h2,h3,h4⟩:=Ef e;exact⟨j,h1,h,h2,h3,h4⟩
def cz {α:Type}{xs:List α}{j:Nat}{v:α}(h:xs[j]? =some v):tF xs (j:Int)=some v:=by
 have hj:j < xs.length:=(ao.mp h).1;have e:KN xs.length (j:Int)=some j:=by
  unfold KN;rw[if_pos (by lia),if_pos (by lia)]; simp
 unfold tF; rw[e]; exact h
def yq (b:Expr):Prop:= ∀o i,subscripted b false o i=operate [o,i] (getItem o i)
def HL (X:Cx)(r:R2):Prop:=
 ∀(value slice:Expr) (pins:List (Addr×Obj)) (s:Shared) (σ:St) (H:Hp) (x y:V) (v u:Value) (Q:VK),Inv X pins σ H s->RelV x v->RelV y u->r x y H Q->
  subscripted slice false v u=operate [v,u] (getItem v u)->wpAny (model X.prog X.w) X.A (subscriptTail value slice v u) (EP X pins σ Q) X.xe s
def Yi (X:Cx)(id:String)(r:V->List V->Hp->VK->Prop):Prop:=
 ∀(pins:List (Addr×Obj)) (s:Shared) (σ:St) (H:Hp) (x:V) (xs:List V) (v:Value) (us:List Value) (Q:VK),Inv X pins σ H s->RelV x v->Vals xs us->r x xs H Q->
  wpAny (model X.prog X.w) X.A (call (.builtin id) (v :: us)) (EP X pins σ Q) X.xe s
section
variable {X:Cx}{a b:Expr}{ta tb:TE}{pos:Pos}
def je {r:R2}(hr:HL X r)(ha:PE X a ta)(hb:PE X b tb)(hs:yq b):PE X (.Subscript a b pos) (PX r ta tb):=by
 intro pins s σ H Q I h;exact Subscript_ (Ny ha hb I h fun v u s2 x y H2 I2 rx ry q=>hr a b pins s2 σ H2 x y v u Q I2 rx ry q (hs _ _))
inductive Vn (x y:V)(S:Addr->List V->Prop)(k:V->Prop):Prop
 |mk (p:Addr)(xs:List V)(i:Int)(v:V)(h1:x= .ref p)(h2:y= .int i)(s:S p xs)(a:tF xs i=some v)(q:k v):Vn x y S k
def NF (K:Frag):R2:=fun x y H Q=>Vn x y (bF K H) fun v=>Q v H
def NG (K:Frag):R2:=fun x y H Q=>Vn x y (cv K H) fun v=>Q v H
def yr:HL X (NF X.K):=by
 intro value slice pins s σ H x y v u Q I rx ry h hs;obtain⟨p,xs,i,z,rfl,rfl,hq,he,q⟩:=h;cases rx;obtain⟨t,rfl⟩:=ry;obtain⟨bX,r,pl,hz⟩:=I.list hq;obtain⟨j,h1,h2,h3,h4,h5⟩:=Eg he;obtain⟨w,ew,Fz⟩:=r.get h2;have hl:=r.length;have hn:=yl;have fin:EP X pins σ Q w s:=⟨z,H,I,Fz,q⟩;by_cases h0:0<=i
 ·have hj:i.toNat=j:=by
   rw[seqIndex_of h0 h5] at h1;exact aE h1
  exact item_listR pl.isList h0 (by lia) (by rw[hj]; simpa using ew) fin hs
 ·have hj:(i + (bX.toArray.size:Int)).toNat=j:=by
   rw[seqIndex_neg (by lia) h4] at h1;rw[bg,← hl];exact aE h1
  exact subscriptTail_builtinR (x:=w) pl.isList.typeIs slot_list_getitem.lookup
   (wpAny_getItem_list_neg (Q:=fun r s'=>r=w/\EP X pins σ Q r s') pl.isList (by lia) (by rw[List.size_toArray] <;> lia) (by lia) (by rw[hj]; simpa using ew) ⟨rfl,fin⟩) hs
def CS:HL X (NG X.K):=by
 intro value slice pins s σ H x y v u Q I rx ry h hs;obtain⟨p,xs,i,z,rfl,rfl,hq,he,q⟩:=h;cases rx;obtain⟨t,rfl⟩:=ry;obtain⟨bX,r,pl,hz⟩:=I.tuple hq;obtain⟨j,h1,h2,h3,h4,h5⟩:=Eg he;obtain⟨w,ew,Fz⟩:=r.get h2;have hl:=r.length;have hn:=yl;have fin:EP X pins σ Q w s:=⟨z,H,I,Fz,q⟩;exact subscriptTail_builtinR (x:=w) pl.typeIs slot_tuple_getitem.lookup
  (getItem_tuple (j:=j) (Q:=fun r s'=>r=w/\EP X pins σ Q r s') pl (by lia) (by lia) (by rw[List.size_toArray,← hl]; exact h1) (by simpa using ew) ⟨rfl,fin⟩) hs
def CU (bX:List Value)(n j:Nat)(u:Value):Obj.mapSeq (·.setIfInBounds j u) {cls:= .type "list",data:= .seq bX.toArray n}={cls:= .type "list",data:= .seq (bX.set j u).toArray n}:=by
 simp[Obj.mapSeq]
def Inv.lst {pins:List (Addr×Obj)}{σ:St}{H:Hp}{s:Shared}{p:Addr}{xs:List V}(I:Inv X pins σ H s)(h:H p=some (.lst xs)):
  ∃(bX:List Value) (n:Nat),Vals xs bX/\s.heap.get? p=some {cls:= .type "list",data:= .seq bX.toArray n}/\xs.length<=sizeLine:=by
 obtain⟨z,bX,n,r,e⟩:=I.cm p _ h;exact⟨bX,n,r,e,z⟩
def Inv.NH {pins:List (Addr×Obj)}{σ:St}{H:Hp}{s:Shared}{p:Addr}{xs ys:List V}{bX qa:List Value}{n n':Nat}{f:Obj->Obj}(I:Inv X pins σ H s)(h:H p=some (.lst xs))
  (ho:s.heap.get? p=some {cls:= .type "list",data:= .seq bX.toArray n}) (hf:f {cls:= .type "list",data:= .seq bX.toArray n}={cls:= .type "list",data:= .seq qa.toArray n'}) (r:Vals ys qa) (hz:ys.length<=sizeLine) (t:Nat):
  Inv X pins σ (upd H p (.lst ys)) {s with heap:=s.heap.update p f,toks:=t}:=by
 have e:(s.heap.update p f).get? p=some {cls:= .type "list",data:= .seq qa.toArray n'}:=by
  rw[CC f ho (by rw[hf] <;> rfl),hf]
 refine I.write (x:=p) (e:=p) (by rw[h]; trivial) (.inl rfl) (fun b u hb q=>(me _ _ (vI hb)).trans q) ⟨_,e⟩ ?_;exact⟨hz,qa,n',r,e⟩
def QQ:V->V->V->Hp->(Hp->Prop)->Prop:=fun o i v H Q=> ∃p xs k j,o= .ref p/\i= .int k/\H p=some (.lst xs)/\KN xs.length k=some j/\Q (upd H p (.lst (xs.set j v)))
def set_list:QF X QQ:=by
 intro pins s σ H o i v ov iv u Q I ro ri rv h;obtain⟨p,xs,k,j,rfl,rfl,hp,hj,q⟩:=h;cases ro;obtain⟨t,rfl⟩:=ri;obtain⟨bX,n,r,ho,hz⟩:=I.lst hp;obtain⟨h1,h2,h3,h4⟩:=Ef hj;have hl:=r.length;have hn:=yl;have I':Inv X pins σ (upd H p (.lst (xs.set j v))) {s with heap:=s.heap.update p (Obj.mapSeq (·.setIfInBounds j u))}:=
  I.NH hp ho (CU bX n j u) (r.set rv j) (by rw[dz]; exact hz) s.toks
 by_cases h0:0<=k
 ·have hk:k.toNat=j:=by
   rw[seqIndex_of h0 h4] at h1;exact aE h1
  exact PySem.W.ki_setAt ho h0 (by lia) (by rw[bg,← hl]; exact h4) (by rw[hk]; exact⟨_,I',q⟩)
 ·have hk:(k + (bX.toArray.size:Int)).toNat=j:=by
   rw[seqIndex_neg (by lia) h3] at h1;rw[bg,← hl];exact aE h1
  exact PySem.W.ki_setBack ho (by lia) (by rw[bg,← hl]; exact h3) (by lia) (by rw[hk]; exact⟨_,I',q⟩)
def yt (lo hi:Option Int)(n:Nat):(sliceBounds lo hi none n).1=((HT.AN n 0 lo:Nat):Int)/\(sliceBounds lo hi none n).2.1=((HT.AN n n hi:Nat):Int)/\(sliceBounds lo hi none n).2.2=1:=by
 refine⟨?_,?_,rfl⟩
 ·cases lo with
  |none=>simp[sliceBounds,HT.AN]
  |some i=>
   simp only[sliceBounds,HT.AN,Option.getD_none,show(1:Int) > 0 by decide,if_true];by_cases h:i < 0
   ·simp only[h,if_true] <;> lia
   ·simp only[h,if_false] <;> lia
 ·cases hi with
  |none=>simp[sliceBounds,HT.AN]
  |some i=>
   simp only[sliceBounds,HT.AN,Option.getD_none,show(1:Int) > 0 by decide,if_true];by_cases h:i < 0
   ·simp only[h,if_true] <;> lia
   ·simp only[h,if_false] <;> lia
def vU (bX:List Value)(lo hi:Option Int):slicePick bX.toArray lo hi none=((bX.drop (HT.AN bX.length 0 lo)).take (HT.AN bX.length bX.length hi - HT.AN bX.length 0 lo)).toArray:=by
 obtain⟨h1,h2,h3⟩:=yt lo hi bX.toArray.size;unfold slicePick;rw[h1,h2,h3];simp only[sliceRange_one,pick_run,List.size_toArray] <;> rfl
inductive Yj (K:Frag)(x:V)(lo hi:Option Int)(H:Hp)(Q:VK):Prop
 |mk (a:Addr)(xs:List V)(h1:x= .ref a)(h2:bF K H a xs)(q: ∀p,H p=none->Q (.ref p) (upd H p (.lst (qg xs lo hi)))):Yj K x lo hi H Q
def QR (K:Frag):V->Option Int->Option Int->Hp->VK->Prop:=Yj K
def KO:My X (QR X.K):=by
 intro pins s σ H x v vl vu lo hi sl Q I rx hs pl pu h;obtain⟨a,xs,rfl,hx,q⟩:=h;cases rx;obtain⟨bX,r,ht,hz⟩:=I.list hx;have hlen:=r.length;refine⟨"list",_,slot_list_getitem.lookup,ht.isList.typeIs,?_⟩;refine wpAny_getItem_list_slice ht.isList hs pl pu .none (by simp) ?_ (by rw[List.size_toArray] <;> lia);rw[vU,← hlen];refine⟨.ref s.heap.objs.size,_,I.laid (t':=s.toks) (o:= .lst (qg xs lo hi)) (fun b ob q=>ax _ q) (aB _) ?_,rfl,q _ (I.cm.fresh (aB _))⟩;exact⟨aV (AO xs lo hi) hz,_,0,(r.drop (HT.AN xs.length 0 lo)).take (HT.AN xs.length xs.length hi - HT.AN xs.length 0 lo),bH _ rfl⟩
def sh:V->Bool
 | .dW=>true
 | .bl _=>true
 | .int _=>true
 | .str _=>true
 |_=>false
def KP:V->V->Bool
 | .dW,.dW=>true
 | .bl a,.bl b=>a == b
 | .bl a,.int b=>(if a then 1 else 0) == b
 | .int a,.bl b=>a == (if b then 1 else 0)
 | .int a,.int b=>a == b
 | .str a,.str b=>a == b
 |_,_=>false
def NI {A:Around}{s:Shared}{y x:V}{u v:Value}(ry:RelV y u)(rx:RelV x v)(fy:sh y=true)(fx:sh x=true):SeqAt.EqAt A s u v (KP y x):=by
 cases y with
 |dW=>
  cases ry;cases x with
  |dW=>cases rx; exact SeqAt.EqAt.same _
  |bl b=>cases rx; exact SeqAt.EqAt.none_bool b
  |int b=>obtain⟨t,rfl⟩:=rx; exact SeqAt.EqAt.none_int b t
  |str b=>obtain⟨t,rfl⟩:=rx; exact SeqAt.EqAt.none_str b t
  |_=>exact absurd (show false=true from fx) aW
 |bl a=>
  cases ry;cases x with
  |dW=>cases rx; exact SeqAt.EqAt.bool_none a
  |bl b=>cases rx; exact SeqAt.EqAt.bool_bool a b
  |int b=>obtain⟨t,rfl⟩:=rx; exact SeqAt.EqAt.bool_int a b t
  |str b=>obtain⟨t,rfl⟩:=rx; exact SeqAt.EqAt.bool_str a b t
  |_=>exact absurd (show false=true from fx) aW
 |int a=>
  obtain⟨t',rfl⟩:=ry;cases x with
  |dW=>cases rx; exact SeqAt.EqAt.int_none a t'
  |bl b=>cases rx; exact SeqAt.EqAt.int_bool a t' b
  |int b=>obtain⟨t,rfl⟩:=rx; exact SeqAt.EqAt.int_int a t' b t
  |str b=>obtain⟨t,rfl⟩:=rx; exact SeqAt.EqAt.int_str a t' b t
  |_=>exact absurd (show false=true from fx) aW
 |str a=>
  obtain⟨t',rfl⟩:=ry;cases x with
  |dW=>cases rx; exact SeqAt.EqAt.str_none a t'
  |bl b=>cases rx; exact SeqAt.EqAt.str_bool a t' b
  |int b=>obtain⟨t,rfl⟩:=rx; exact SeqAt.EqAt.str_int a t' b t
  |str b=>obtain⟨t,rfl⟩:=rx; exact SeqAt.EqAt.str_str a t' b t
  |_=>exact absurd (show false=true from fx) aW
 |_=>exact absurd (show false=true from fy) aW
def CV (x:V)(u:Value):Bool:=match u with
 | .none=>KP .dW x
 | .bool b=>KP (.bl b) x
 | .int i _=>KP (.int i) x
 | .str z _=>KP (.str z) x
 |_=>false
def HM {x y:V}{u:Value}(r:RelV y u)(f:sh y=true):CV x u=KP y x:=by
 cases y with
 |dW=>cases r; rfl
 |bl b=>cases r; rfl
 |int i=>obtain⟨t,rfl⟩:=r; rfl
 |str z=>obtain⟨t,rfl⟩:=r; rfl
 |_=>exact absurd (show false=true from f) aW
def qh {x:V}: ∀{xs:List V} {us:List Value},Vals xs us->xs.all sh=true->us.any (CV x)=xs.any fun y=>KP y x
 |_,_,.nil,_=>rfl
 |y :: xs,u :: us,.cons r t,f=>by
  rw[List.all_cons,Hj] at f;rw[sS,sS,HM r f.1,qh t f.2]
def mx {A:Around}{s:Shared}{x:V}{v:Value}(rx:RelV x v)(fx:sh x=true): ∀{xs:List V} {us:List Value},Vals xs us->xs.all sh=true-> ∀u∈us,SeqAt.EqAt A s u v (CV x u)
 |_,_,.nil,_=>fun u hu=>by cases hu
 |y :: xs,u :: us,.cons r t,f=>fun u' hu=>by
  rw[List.all_cons,Hj] at f;rcases av.mp hu with rfl|hu
  ·rw[HM r f.1]; exact NI r rx f.1 fx
  ·exact mx rx fx t f.2 u' hu
def vV (x:V)(xs:List V):Bool:=xs.any fun y=>KP y x
def Yk (K:Frag)(neg:Bool):R2:=fun x y H Q=> ∃p xs,y= .ref p/\(bF K H p xs∨cv K H p xs)/\sh x=true/\xs.all sh=true/\Q (.bl (if neg then !vV x xs else vV x xs)) H
def nE:nW X (compareOp .In) (Yk X.K false):=by
 intro pins s σ H x y v u Q I rx ry h;obtain⟨p,xs,rfl,hq,fx,fs,q⟩:=h;cases ry;rcases hq with hq|hq
 ·obtain⟨bX,r,pl,hz⟩:=I.list hq;refine SeqAt.in_listAt (CV x) pl.isList (fun w hw=>mx rx fx r fs w (by simpa using hw)) ⟨.bl _,H,I,rfl,?_⟩;rw[show bX.toArray.any (CV x)=bX.any (CV x) by simp,qh r fs];exact q
 ·obtain⟨bX,r,pl,hz⟩:=I.tuple hq;refine SeqAt.in_tupleAt (CV x) pl (fun w hw=>mx rx fx r fs w (by simpa using hw)) ⟨.bl _,H,I,rfl,?_⟩;rw[show bX.toArray.any (CV x)=bX.any (CV x) by simp,qh r fs];exact q
def yu:nW X (compareOp .NotIn) (Yk X.K true):=by
 intro pins s σ H x y v u Q I rx ry h;obtain⟨p,xs,rfl,hq,fx,fs,q⟩:=h;cases ry;rcases hq with hq|hq
 ·obtain⟨bX,r,pl,hz⟩:=I.list hq;refine SeqAt.notIn_listAt (CV x) pl.isList (fun w hw=>mx rx fx r fs w (by simpa using hw)) ⟨.bl _,H,I,rfl,?_⟩;rw[show bX.toArray.any (CV x)=bX.any (CV x) by simp,qh r fs];exact q
 ·obtain⟨bX,r,pl,hz⟩:=I.tuple hq;refine SeqAt.notIn_tupleAt (CV x) pl (fun w hw=>mx rx fx r fs w (by simpa using hw)) ⟨.bl _,H,I,rfl,?_⟩;rw[show bX.toArray.any (CV x)=bX.any (CV x) by simp,qh r fs];exact q
def yw:gE X (.builtin "len") (fun xs H Q=> ∃p ys,xs=[.ref p]/\(bF X.K H p ys∨cv X.K H p ys)/\Q (.int ys.length) H):=by
 intro pins s σ H xs us Q I r h;obtain⟨p,ys,rfl,hq,q⟩:=h;obtain⟨u,rfl,rx⟩:=vals1 r;cases rx;have hn:=yl;rcases hq with hq|hq
 ·obtain⟨bX,r',pl,hz⟩:=I.list hq;have hlen:=r'.length;exact Calls.call_len_list pl.isList (by simp only[List.size_toArray] <;> lia) ⟨.int ys.length,H,I.tok _,⟨s.toks + 1,by rw[List.size_toArray,hlen]⟩,q⟩
 ·obtain⟨bX,r',pl,hz⟩:=I.tuple hq;have hlen:=r'.length;exact len_tuple pl (by simp only[List.size_toArray] <;> lia) ⟨.int ys.length,H,I.tok _,⟨s.toks + 1,by rw[List.size_toArray,hlen]⟩,q⟩
def lC:gE X (.type "list") (fun xs H Q=> ∃p ys,xs=[.ref p]/\(bF X.K H p ys∨cv X.K H p ys)/\ ∀l,H l=none->Q (.ref l) (upd H l (.lst ys))):=by
 intro pins s σ H xs us Q I r h;obtain⟨p,ys,rfl,hq,q⟩:=h;obtain⟨u,rfl,rx⟩:=vals1 r;cases rx;have fin: ∀(bX:List Value),Vals ys bX->ys.length<=sizeLine-> ∀(h':Heap) (c':Nat),(∀b o',s.heap.get? b=some o'->h'.get? b=some o')->
   h'.get? s.heap.objs.size=some {cls:= .type "list",dict:=none,data:= .seq bX.toArray c',slots:= #[]}->EP X pins σ Q (.ref s.heap.objs.size) {s with heap:=h'}:=fun bX r' hz h' c' kp e=>
  ⟨.ref s.heap.objs.size,_,I.laid (t':=s.toks) kp (aB _) (show di X.prog X.w _ h' _ (.lst ys) from⟨hz,bX,c',r',e⟩),rfl,q _ (I.cm.fresh (aB _))⟩
 rcases hq with hq|hq
 ·obtain⟨bX,r',pl,hz⟩:=I.list hq;have hlen:=r'.length;obtain⟨o,ho,hc,n,hd⟩:=pl.isList;exact call_list_seq p (.inl rfl) ho hc hd (fun h' c' kp e=>fin bX r' hz h' c' kp e) (by simp only[List.size_toArray] <;> lia)
 ·obtain⟨bX,r',pl,hz⟩:=I.tuple hq;have hlen:=r'.length;obtain⟨o,ho,hc,n,hd⟩:=pl;exact call_list_seq p (.inr rfl) ho hc hd (fun h' c' kp e=>fin bX r' hz h' c' kp e) (by simp only[List.size_toArray] <;> lia)
def vW:gE X (.type "tuple") (fun xs H Q=> ∃p ys,xs=[.ref p]/\((bF X.K H p ys/\ ∀l,H l=none->Q (.ref l) (upd H l (.tup ys)))∨(cv X.K H p ys/\Q (.ref p) H))):=by
 intro pins s σ H xs us Q I r h;obtain⟨p,ys,rfl,h⟩:=h;obtain⟨u,rfl,rx⟩:=vals1 r;cases rx;rcases h with⟨hq,q⟩|⟨hq,q⟩
 ·obtain⟨bX,r',pl,hz⟩:=I.list hq;have hlen:=r'.length;refine call_tuple_list pl.isList (fun h' kp=>?_) (by simp only[List.size_toArray] <;> lia);have I1:Inv X pins σ H {s with heap:=h'}:=I.kept (t':=s.toks) kp;have I2:Inv X pins σ (upd H h'.objs.size (.tup ys)) {s with heap:=h'.push {cls:= .type "tuple",data:= .seq bX.toArray}}:=
   I1.laid (t':=s.toks) (fun b o e=>ax _ e) (aB _) (show di X.prog X.w _ _ _ (.tup ys) from⟨hz,bX,r',IsTup.new _ _⟩)
  exact⟨.ref h'.objs.size,_,I2,rfl,q _ (I1.cm.fresh (aB _))⟩
 ·obtain⟨bX,r',pl,hz⟩:=I.tuple hq;exact call_tuple_same pl ⟨.ref p,H,I,rfl,q⟩
def Vo (K:Frag)(T:String)(x:V)(H:Hp):Prop:=match x with
 | .str _=>T="str"
 | .int _=>T="int"
 | .ref p=>(T="list"/\ ∃xs,bF K H p xs)∨(T="tuple"/\ ∃o,K.lookup p=some o/\o.cls= .type "tuple"/\o.dict=none)∨
   (T="dict"/\((∃a9,H p=some (.dK a9))∨ ∃a9,H p=some (.dT a9)))∨(T="set"/\ ∃S n,H p=some (.set S n))
 |_=>False
def HN {pins:List (Addr×Obj)}{σ:St}{H:Hp}{s:Shared}{T:String}{x:V}{v:Value}(I:Inv X pins σ H s)(r:RelV x v)(ty:Vo X.K T x H):
  s.TypeIs v T/\ ∀a,v= .ref a-> ∃ob,s.heap.get? a=some ob/\ob.dict=none:=by
 cases x with
 |str z=>
  obtain⟨t,rfl⟩:=r;cases(show T="str" from ty);exact⟨typeIs_str s z t,fun _ e=>nomatch e⟩
 |int i=>
  obtain⟨t,rfl⟩:=r;cases(show T="int" from ty);exact⟨typeIs_int s i t,fun _ e=>nomatch e⟩
 |ref p=>
  cases r;rcases ty with⟨rfl,xs,hq⟩|⟨rfl,o,hk,hc,hd⟩|⟨rfl,hk⟩|⟨rfl,S,n,hk⟩
  ·obtain⟨bX,_,pl,_⟩:=I.list hq;refine⟨pl.isList.typeIs,fun a e=>?_⟩;cases e;obtain⟨o,n,e,c,hd,_⟩:=pl;exact⟨o,e,hd⟩
  ·refine⟨⟨o,I.gx p o hk,hc⟩,fun a e=>?_⟩;cases e;exact⟨o,I.gx _ o hk,hd⟩
  ·have z: ∃o,s.heap.get? p=some o/\o.ExactDict:=by
    rcases hk with⟨a9,hk⟩|⟨a9,hk⟩
    ·obtain⟨_,_,_,_,o,_,_,e,ex,_⟩:=I.cm p _ hk;exact⟨o,e,ex⟩
    ·obtain⟨_,_,_,_,o,_,_,e,ex,_⟩:=I.cm p _ hk;exact⟨o,e,ex⟩
   obtain⟨o,e,ex⟩:=z;refine⟨⟨o,e,ex.1⟩,fun a e2=>?_⟩;cases e2;exact⟨o,e,ex.2.1⟩
  ·obtain⟨o,_,_,_,e,ex,_⟩:=I.cm p _ hk;refine⟨⟨o,e,ex.1⟩,fun a e2=>?_⟩;cases e2;exact⟨o,e,ex.2.1⟩
 |_=>exact False.elim ty
def Vp (K:Frag)(T:String)(r:V->List V->Hp->VK->Prop)(to:TE):TE:=fun σ H Q=>to σ H fun x H1=>Vo K T x H1/\r x [] H1 Q
def Yl (K:Frag)(T:String)(r:V->List V->Hp->VK->Prop)(to:TE)(t:TA):TE:=fun σ H Q=>to σ H fun x H1=>Vo K T x H1/\t σ H1 fun xs H2=>r x xs H2 Q
variable {o e:Expr}{es:List Expr}{to:TE}{t:TA}{name:Str}{apos gq:Pos}{T id:String}{r:V->List V->Hp->VK->Prop}
def NJ (pa:PlainAttrs T)(slot:Slot T name id)(TY:typeOf (.builtin id)=pure (.type "method_descriptor"))(hm:Yi X id r)(ho:PE X o to)
  (qj:attributeBase o name X.env (eval o X.env)=eval o X.env:=by rfl) (uf:(apos.endLine == gq.line)=true:=by rfl):PE X (.Call (.Attribute o name apos) [] [] gq) (Vp X.K T r to):=by
 intro pins s σ H Q I h;refine wpAny_Call_method0_late qj uf (dN (ho pins s σ H _ I h) fun v s1 ⟨x,H1,I1,r1,ty,q1⟩=>?_);obtain⟨h1,h2⟩:=HN I1 r1 ty;exact⟨T,id,pa,slot,TY,h1,h2,iF rfl (PySem.evalArgs_none (hm pins s1 σ H1 x [] v [] Q I1 r1 .nil q1))⟩
def QS (pa:PlainAttrs T)(slot:Slot T name id)(TY:typeOf (.builtin id)=pure (.type "method_descriptor"))(hm:Yi X id r)(ho:PE X o to)(ha:PA X (e :: es) t)
  (qj:attributeBase o name X.env (eval o X.env)=eval o X.env:=by rfl)
  (NK:((backTo gq (starEach (e :: es) X.env)).all (fun x=> !x.1) && (backToKw gq (keywordEach [] X.env)).all (fun x=>x.1.isSome)
   && decide ((e :: es).length + ([]:List Keyword).length + (if([]:List Keyword).isEmpty then 0 else 1) < 30))=true:=by rfl)
  (uf:(apos.endLine == gq.line)=true:=by rfl) (hs:starEach (e :: es) X.env=(false,eval e X.env) :: starEach es X.env:=by rfl) (ug:(backTo gq (starEach es X.env)).any (·.1)=false:=by rfl):
  PE X (.Call (.Attribute o name apos) (e :: es) [] gq) (Yl X.K T r to t):=by
 intro pins s σ H Q I h;refine wpAny_Call_method_late qj NK uf rfl (dN (ho pins s σ H _ I h) fun v s1 ⟨x,H1,I1,r1,ty,q1⟩=>?_);obtain⟨h1,h2⟩:=HN I1 r1 ty;refine⟨T,id,pa,slot,TY,h1,h2,?_⟩;have hA:=ha gq pins s1 σ H1 _ I1 q1;rw[hs] at hA ⊢;refine iF (by show(false || (backTo gq (starEach es X.env)).any (·.1))=false; rw[ug] <;> rfl) (Fb ?_);exact dN hA fun us s2 ⟨vs,H2,I2,r2,q2⟩=>hm pins s2 σ H2 x vs v us Q I2 r1 r2 q2
end
def Ym (X:Cx)(id:String)(r:V->List V->Hp->VK->Prop):Prop:=
 ∀(pins:List (Addr×Obj)) (s:Shared) (σ:St) (H:Hp) (x:V) (xs:List V) (v:Value) (us:List Value) (Q:VK),Inv X pins σ H s->RelV x v->Vals xs us->r x xs H Q->
  wpAny (model X.prog X.w) X.A (call (.builtin id) (v :: us)) (EP X pins σ Q) X.xe s
def Vals.one: ∀{x:V} {us:List Value},Vals [x] us-> ∃u,us=[u]/\RelV x u
 |_,_,.cons r .nil=>⟨_,rfl,r⟩
def Vals.zero: ∀{us:List Value},Vals [] us->us=[]
 |_,.nil=>rfl
def Vals.dropLast {xs:List V}{us:List Value}(h:Vals xs us):Vals xs.dropLast us.dropLast:=by
 induction h with
 |nil=>exact .nil
 |cons r t ih=>
  cases t with
  |nil=>exact .nil
  |cons q t'=>exact .cons r ih
def Vals.rep {xs:List V}{us:List Value}(h:Vals xs us): ∀k:Nat,Vals (List.replicate k xs).flatten (List.replicate k us).flatten
 |0=> .nil
 |k + 1=>by
  rw[c9,c9,iG,iG];exact Vals.append h (Vals.rep h k)
def CW {α:Type}(l:List α):l.eraseIdx (l.length - 1)=l.dropLast:=by
 induction l with
 |nil=>rfl
 |cons a r ih=>
  cases r with
  |nil=>rfl
  |cons b r=>
   have e:(a :: b :: r).length - 1=((b :: r).length - 1) + 1:=by
    have h1:(a :: b :: r).length=r.length + 2:=rfl;have h2:(b :: r).length=r.length + 1:=rfl;lia
   rw[e,List.eraseIdx_cons_succ,ih]
   all_goals rfl
def foldl_rep (bX:List Value): ∀(k:Nat) (acc:List Value),
  List.foldl (fun x1 x2=>x1 ++ x2) acc.toArray (List.replicate k bX.toArray)=(acc ++ (List.replicate k bX).flatten).toArray
 |0,acc=>by simp
 |k + 1,acc=>by
  have e:acc.toArray ++ bX.toArray=(acc ++ bX).toArray:=by simp
  have e2:(acc ++ bX) ++ (List.replicate k bX).flatten=acc ++ (List.replicate (k + 1) bX).flatten:=by
   rw[c9,iG,gi]
  rw[← e2,← foldl_rep bX k (acc ++ bX),← e,c9,dA]
section
variable {X:Cx}{pins:List (Addr×Obj)}{σ:St}{H:Hp}{s:Shared}{l b:Addr}{xs ys zs:List V}
def Inv.QT {bX qa:List Value}{n:Nat}{f:Array Value->Array Value}{t':Nat}(I:Inv X pins σ H s)(hH:H l=some (.lst xs))
  (e:s.heap.get? l=some {cls:= .type "list",data:= .seq bX.toArray n}) (hf:f bX.toArray=qa.toArray) (hv:Vals ys qa) (hz:ys.length<=sizeLine):
  Inv X pins σ (upd H l (.lst ys)) {s with heap:=s.heap.update l (Obj.mapSeq f),toks:=t'}:=by
 have q:=PySem.IsL.update e f;rw[hf] at q;refine I.write (x:=l) (e:=l) (by rw[hH]; exact trivial) (.inl rfl) (fun b' u hb hu=>(me s.heap (Obj.mapSeq f) (vI hb)).trans hu) ⟨_,q⟩ ?_;exact⟨hz,qa,_,hv,q⟩
def Inv.NL {bX:List Value}{t':Nat}(I:Inv X pins σ H s)(hv:Vals ys bX)(hz:ys.length<=sizeLine):
  Inv X pins σ (upd H s.heap.objs.size (.lst ys)) {s with heap:=s.heap.push {cls:= .type "list",data:= .seq bX.toArray},toks:=t'}:=
 I.laid (fun _ _ q=>ax _ q) (aB _) ⟨hz,bX,0,hv,bH _ rfl⟩
def Inv.fresh (I:Inv X pins σ H s):H s.heap.objs.size=none:=I.cm.fresh (aB _)
def Inv.HP (I:Inv X pins σ H s)(hH:H l=some (.lst xs)):xs.length<=sizeLine/\ ∃(bX:List Value) (n:Nat),Vals xs bX/\xs.length=bX.length/\s.heap.get? l=some {cls:= .type "list",data:= .seq bX.toArray n}:=by
 obtain⟨z,bX,n,r,e⟩:=I.cm l _ hH;exact⟨z,bX,n,r,r.length,e⟩
def HQ {n:Nat}(h:n<=sizeLine):Builtin.List.listTooLong n=false:=by
 unfold Builtin.List.listTooLong;exact bC (by lia)
end
section
variable {X:Cx}
inductive Vq (x:V)(vs:List V)(H:Hp)(k:Addr->List V->V->Prop):Prop
 |mk (l:Addr)(xs:List V)(y:V)(h1:x= .ref l)(h2:vs=[y])(h3:H l=some (.lst xs))(h4:xs.length < sizeLine)(q:k l xs y):Vq x vs H k
def Eh:V->List V->Hp->VK->Prop:=fun x vs H Q=>Vq x vs H fun l xs y=>Q .dW (upd H l (.lst (xs ++ [y])))
def xv:Ym X "list.append" Eh:=by
 intro pins s σ H x vs v us Q I rx rv h;obtain⟨l,xs,y,rfl,rfl,hH,hz,q⟩:=h;cases rx;obtain⟨u,rfl,ru⟩:=rv.one;obtain⟨z,bX,n,r,hl,e⟩:=I.HP hH;refine call_meets F.slot_list_append ⟨_,e,rfl⟩ F.entry_list_append (F.args_list_append_2 _ _) (PySem.list_append l bX.toArray n u (by rw[bg]; lia)) ⟨e,?_⟩;refine⟨.dW,_,I.QT (qa:=bX ++ [u]) hH e (by simp) (r.append (.cons ru .nil)) ?_,rfl,q⟩;rw[aF,List.length_singleton];lia
def Vr:V->List V->Hp->VK->Prop:=fun x vs H Q=> ∃l xs y,x= .ref l/\vs=[]/\H l=some (.lst xs)/\xs[xs.length - 1]? =some y/\Q y (upd H l (.lst xs.dropLast))
def NM:Ym X "list.pop" Vr:=by
 intro pins s σ H x vs v us Q I rx rv h;obtain⟨l,xs,y,rfl,rfl,hH,hy,q⟩:=h;cases rx;have Vs:=rv.zero;subst Vs;obtain⟨z,bX,n,r,hl,e⟩:=I.HP hH;obtain⟨u,hu,ru⟩:=r.get hy;have hy':bX.toArray[bX.toArray.size - 1]? =some u:=by
  show bX.toArray[bX.length - 1]? =some u;rw[← Array.getElem?_toList,← hl];exact hu
 refine call_meets F.slot_list_pop ⟨_,e,rfl⟩ F.entry_list_pop (F.args_list_pop_1 _) (MeetsSeq.list_pop_last l bX.toArray n u hy' (by rw[bg]; lia)) ⟨e,?_⟩;refine⟨y,_,I.QT (qa:=bX.dropLast) hH e ?_ r.dropLast ?_,ru,q⟩
 ·show bX.toArray.eraseIdxIfInBounds (bX.toArray.size - 1)=bX.dropLast.toArray;rw[bg,List.eraseIdxIfInBounds_toArray,CW]
 ·rw[List.length_dropLast];lia
inductive Yn (x y:V)(H:Hp)(Q:VK):Prop
 |mk (l b:Addr)(xs zs:List V)(h1:x= .ref l)(h2:y= .ref b)(h3:H l=some (.lst xs))(h4:H b=some (.lst zs))(z:xs.length + zs.length<=sizeLine)(q: ∀p,H p=none->Q (.ref p) (upd H p (.lst (xs ++ zs)))):Yn x y H Q
def QU:R2:=Yn
def lD:nW X (binaryOp .Add) QU:=by
 intro pins s σ H x y v u Q I rx ry h;obtain⟨l,b,xs,zs,rfl,rfl,hH,hB,hz,q⟩:=h;cases rx;cases ry;obtain⟨z,bX,n,r,hl,e⟩:=I.HP hH;obtain⟨z2,FA,n2,r2,QV,e2⟩:=I.HP hB;refine PySem.P.add_list e e2 ?_ (by rw[bg,bg]; lia);have ea:bX.toArray ++ FA.toArray=(bX ++ FA).toArray:=by simp
 rw[ea];exact⟨.ref _,_,I.NL (t':=s.toks) (r.append r2) (by rw[aF]; lia),rfl,q _ I.fresh⟩
def QW:R2:=fun x y H Q=> ∃l k xs,x= .ref l/\y= .int k/\H l=some (.lst xs)/\ -(2 ^ 63)<=k/\k < 2 ^ 63/\xs.length * k.toNat<=sizeLine/\
 ∀p,H p=none->Q (.ref p) (upd H p (.lst (List.replicate k.toNat xs).flatten))
def len_rep {α:Type}(xs:List α)(k:Nat):(List.replicate k xs).flatten.length=k * xs.length:=by
 induction k with
 |zero=>simp
 |succ k ih=>rw[c9,iG,aF,ih,vL,Nat.add_comm]
def CY:nW X (binaryOp .Mult) QW:=by
 intro pins s σ H x y v u Q I rx ry h;obtain⟨l,k,xs,rfl,rfl,hH,h1,h2,hz,q⟩:=h;cases rx;obtain⟨t,rfl⟩:=ry;obtain⟨z,bX,n,r,hl,e⟩:=I.HP hH;have hlen:bX.toArray.size * k.toNat<=sizeLine:=by rw[bg,← hl]; exact hz
 have Vt: ¬ bX.toArray.size * k.toNat > (2 ^ 63 - 1) / 8:=by
  have:(sizeLine:Nat)<=(2 ^ 63 - 1) / 8:=by decide
  lia
 have Vu: ¬ (!Builtin.List.listFitsIndex k)=true:=by
  rw[fitsIndex_both h1 h2];exact aW
 have QX: ¬ Builtin.List.listTooLong (bX.toArray.size * k.toNat)=true:=by
  rw[HQ hlen];exact aW
 have Vv:List.foldl (fun x1 x2=>x1 ++ x2) #[] (List.replicate (if bX.toArray.isEmpty=true then 0 else k.toNat) bX.toArray)=(List.replicate k.toNat bX).flatten.toArray:=by
  have f0: ∀m:Nat,List.foldl (fun x1 x2=>x1 ++ x2) #[] (List.replicate m bX.toArray)=(List.replicate m bX).flatten.toArray:=fun m=>by
   have:=foldl_rep bX m [];rw[List.nil_append] at this;exact this
  rw[f0];cases bX with
  |nil=>simp
  |cons a r'=>rw[if_neg (by simp)]
 refine wpAny_binaryOp_repeat_ref (T:="list") (U:="int") (by decide) ⟨_,e,rfl⟩ (fun s'=>typeIs_int s' k t) noFill_list_mul F.fills_int_mul F.slot_int_rmul repeat_list F.slot_int_index.lookup
  (call_meets F.slot_int_rmul (typeIs_int s k t) F.entry_int_rmul (F.args_int_rmul_2 _ _) (int___rmul___int_list k t l bX.toArray n)
   ⟨e,rfl,⟨_,e,rfl⟩,call_meets F.slot_list_mul ⟨_,e,rfl⟩ F.entry_list_mul (F.args_list_mul_2 _ _) (AutoListH.list___mul___list_int_3 l bX.toArray n k t Vu Vt QX) ⟨e,?_⟩⟩)
 rw[Vv];exact⟨.ref _,_,I.NL (t':=s.toks) (r.rep k.toNat) (by rw[len_rep,Nat.mul_comm]; exact hz),rfl,q _ I.fresh⟩
end
section
variable {prog:Program}{w:World}{A:Around}{E:Value->Shared->Prop}{s:Shared}
end
section
variable {X:Cx}
end
section
variable {κ:Type}[DecidableEq κ]
def fU (a9:List (κ×V))(k:κ):Option V:=(a9.find? fun kv=>decide (kv.1=k)).map (·.2)
def putK (a9:List (κ×V))(k:κ)(v:V):List (κ×V):=
 if(a9.any fun kv=>decide (kv.1=k))=true then a9.map (fun kv=>if kv.1=k then(kv.1,v) else kv) else a9 ++ [(k,v)]
def kM (a9:List (κ×V))(k:κ):List (κ×V):=a9.filter fun kv=>decide (kv.1≠k)
def fq {p:κ×V}{r:List (κ×V)}{k:κ}(e:p.1=k):fU (p :: r) k=some p.2:=by simp[fU,List.find?_cons,e]
def eV {p:κ×V}{r:List (κ×V)}{k:κ}(e: ¬ p.1=k):fU (p :: r) k=fU r k:=by simp[fU,List.find?_cons,e]
def my (k:κ): ∀a9:List (κ×V),(a9.any fun kv=>decide (kv.1=k))=(fU a9 k).isSome
 |[]=>rfl
 |p :: r=>by
  rw[sS];by_cases e:p.1=k
  ·simp only[fq e,decide_eq_true e,Bool.true_or,Option.isSome_some]
  ·rw[eV e,bC e,Bool.false_or]; exact my k r
def AQ (k j:κ)(y:V): ∀a9:List (κ×V),fU (a9.map fun kv=>if kv.1=k then(kv.1,y) else kv) j=(fU a9 j).map fun x=>if j=k then y else x
 |[]=>rfl
 |p :: r=>by
  have ih:=AQ k j y r;rw[cS];by_cases h:p.1=k
  ·rw[aZ h];by_cases e:p.1=j
   ·rw[fq (p:=(p.1,y)) e,fq e,nS,aZ (e.symm.trans h)]
   ·rw[eV (p:=(p.1,y)) e,eV e,ih]
  ·rw[aL h];by_cases e:p.1=j
   ·rw[fq (p:=p) e,fq e,nS,aL (fun z=>h (e.trans z))]
   ·rw[eV (p:=p) e,eV e,ih]
def xx (k j:κ)(y:V): ∀a9:List (κ×V),fU a9 k=none->fU (a9 ++ [(k,y)]) j=if j=k then some y else fU a9 j
 |[],_=>by
  by_cases e:k=j
  ·rw[aZ e.symm]; exact fq (p:=(k,y)) e
  ·rw[aL (fun z=>e z.symm)]; exact eV (p:=(k,y)) e
 |p :: r,hn=>by
  rw[List.cons_append];have hk: ¬ p.1=k:=fun z=>by rw[fq z] at hn; cases hn
  rw[eV hk] at hn;have ih:=xx k j y r hn;by_cases e:p.1=j
  ·rw[fq e,fq e,aL (fun z=>hk (e.trans z))]
  ·rw[eV e,eV e,ih]
def HR (a9:List (κ×V))(k j:κ)(y:V):fU (putK a9 k y) j=if j=k then some y else fU a9 j:=by
 unfold putK;by_cases a:(a9.any fun kv=>decide (kv.1=k))=true
 ·rw[aZ a,AQ];rw[my] at a;by_cases e:j=k
  ·obtain⟨x,hx⟩:=PL.mp a;rw[aZ e,e,hx,nS,aZ rfl]
  ·rw[aL e];cases fU a9 j with
   |none=>rfl
   |some x=>rw[nS,aL e]
 ·rw[aL a];refine xx k j y a9 ?_;rw[my] at a;cases q:fU a9 k with
  |none=>rfl
  |some x=>rw[q] at a; exact(a rfl).elim
def j7 (a9:List (κ×V))(k:κ)(v:V):(putK a9 k v).length<=a9.length + 1:=by
 unfold putK;split
 ·rw[ae]; lia
 ·rw[aF,bU,vM]; lia
def HS {a9:List (κ×V)}{k:κ}(v:V)(h:fU a9 k=none):putK a9 k v=a9 ++ [(k,v)]:=by
 unfold putK;rw[my,h];exact aL (by decide)
def kI.kN {o:Option V}{u:Option Value}(r:kI o u):o.isSome=u.isSome:=by
 cases o with
 |none=>cases u with
  |none=>rfl
  |some _=>exact(show False from r).elim
 |some _=>cases u with
  |none=>exact(show False from r).elim
  |some _=>rfl
def KV.val {a9:List (κ×V)}{vs:List (κ×Value)}(r:KV a9 vs)(k:κ):kI (fU a9 k) (valueAt vs k):=by
 unfold KV at r
 induction r with
 |nil=>exact True.intro
 | @cons p q ps qs h t ih=>
  obtain⟨h1,h2⟩:=h;by_cases e:p.1=k
  ·have e':q.1=k:=h1.symm.trans e;have b:valueAt (q :: qs) k=some q.2:=by simp[valueAt,List.find?_cons,e']
   rw[fq e,b]; exact h2
  ·have e': ¬ q.1=k:=fun z=>e (h1.trans z);have b:valueAt (q :: qs) k=valueAt qs k:=by simp[valueAt,List.find?_cons,e']
   rw[eV e,b]; exact ih
def KV.any {a9:List (κ×V)}{vs:List (κ×Value)}(r:KV a9 vs)(k:κ):(a9.any fun kv=>decide (kv.1=k))=vs.any fun kv=>decide (kv.1=k):=by
 unfold KV at r
 induction r with
 |nil=>rfl
 |cons h t ih=>rw[sS,sS,ih,h.1]
def KV.NN {a9:List (κ×V)}{vs:List (κ×Value)}(r:KV a9 vs)(k:κ){y:V}{u:Value}(ry:RelV y u):
  KV (a9.map fun kv=>if kv.1=k then(kv.1,y) else kv) (vs.map fun kv=>if kv.1=k then(kv.1,u) else kv):=by
 unfold KV at r ⊢
 induction r with
 |nil=>exact .nil
 | @cons p q ps qs h t ih=>
  rw[cS,cS];refine .cons ?_ ih;obtain⟨h1,h2⟩:=h;by_cases e:p.1=k
  ·rw[aZ e,aZ (h1.symm.trans e)]; exact⟨h1,ry⟩
  ·rw[aL e,aL (fun z=>e (h1.trans z))]; exact⟨h1,h2⟩
def KV.put {a9:List (κ×V)}{vs:List (κ×Value)}(r:KV a9 vs)(k:κ){y:V}{u:Value}(ry:RelV y u):KV (putK a9 k y) (stored vs k u):=by
 unfold putK stored;rw[r.any k];by_cases e:(vs.any fun kv=>decide (kv.1=k))=true
 ·rw[aZ e,aZ e]; exact r.NN k ry
 ·rw[aL e,aL e]; exact cB r ⟨rfl,ry⟩
def KV.drop {a9:List (κ×V)}{vs:List (κ×Value)}(r:KV a9 vs)(k:κ):KV (kM a9 k) (without vs k):=by
 unfold KV at r ⊢;unfold kM without
 induction r with
 |nil=>exact .nil
 | @cons p q ps qs h t ih=>
  obtain⟨h1,h2⟩:=h;rw[List.filter_cons,List.filter_cons];by_cases e:p.1=k
  ·have a: ¬ decide (p.1≠k)=true:=by simp[e]
   have b: ¬ decide (q.1≠k)=true:=by simp[h1.symm.trans e]
   rw[aL a,aL b]; exact ih
  ·have e': ¬ q.1=k:=fun z=>e (h1.trans z);have a:decide (p.1≠k)=true:=by simp[e]
   have b:decide (q.1≠k)=true:=by simp[e']
   rw[aZ a,aZ b]; exact .cons ⟨h1,h2⟩ ih
def KV.length {a9:List (κ×V)}{vs:List (κ×Value)}(r:KV a9 vs):a9.length=vs.length:=aS r
def HU (a9:List (κ×V))(k:κ):(kM a9 k).length<=a9.length:=aY _ _
end
def uh {P:Program}{w:World}{k:Key}{u:Value}(r:RelV (kV k) u):(dI P w).is k u=true:=by
 cases k with
 |inl i=>obtain⟨t,e⟩:=(show ∃t,u=Value.int i t from r); subst e; exact Aw P w i t
 |inr x=>obtain⟨t,e⟩:=(show ∃t,u=Value.str x t from r); subst e; exact Ax P w x t
def xy {P:Program}{w:World}: ∀{ks:List Key} {us:List Value},Vals (ks.map kV) us->ItemsAre (dI P w) ks us
 |[],_,r=>by rw[vK] at r; cases r; exact .nil
 |k :: ks,_,r=>by
  rw[cS] at r;cases r with
  |cons h t=>exact .cons (uh h) (xy t)
abbrev KT (H:Hp):List (List Key×V)->List (List Key×Addr×Value)->Prop:=Paired fun p q=>p.1=q.1/\H q.2.1=some (.tup (p.1.map kV))/\RelV p.2 q.2.2
def KT.val {H:Hp}{a9:List (List Key×V)}{xs:List (List Key×Addr×Value)}(r:KT H a9 xs)(k:List Key):kI (fU a9 k) ((atKey xs k).map (·.2)):=by
 induction r with
 |nil=>exact True.intro
 | @cons p q ps qs h t ih=>
  obtain⟨h1,_,h2⟩:=h;by_cases e:p.1=k
  ·have e':q.1=k:=h1.symm.trans e;have b:atKey (q :: qs) k=some q.2:=by simp[atKey,List.find?_cons,e']
   rw[fq e,b]; exact h2
  ·have e': ¬ q.1=k:=fun z=>e (h1.trans z);have b:atKey (q :: qs) k=atKey qs k:=by simp[atKey,List.find?_cons,e']
   rw[eV e,b]; exact ih
def KT.NN {H:Hp}{a9:List (List Key×V)}{xs:List (List Key×Addr×Value)}(r:KT H a9 xs)(k:List Key){y:V}{u:Value}(ry:RelV y u):
  KT H (a9.map fun kv=>if kv.1=k then(kv.1,y) else kv) (xs.map (putAt k u)):=by
 induction r with
 |nil=>exact .nil
 | @cons p q ps qs h t ih=>
  rw[cS,cS];refine .cons ?_ ih;obtain⟨h1,h2,h3⟩:=h;unfold putAt;by_cases e:p.1=k
  ·rw[aZ e,aZ (h1.symm.trans e)]; exact⟨h1,h2,ry⟩
  ·rw[aL e,aL (fun z=>e (h1.trans z))]; exact⟨h1,h2,h3⟩
def KT.put {H:Hp}{a9:List (List Key×V)}{xs:List (List Key×Addr×Value)}(r:KT H a9 xs)(k:List Key){b:Addr}{y:V}{u:Value}(hb:H b=some (.tup (k.map kV)))(ry:RelV y u):
  KT H (putK a9 k y) (storedH xs k b u):=by
 have e:(a9.any fun kv=>decide (kv.1=k))=(atKey xs k).isSome:=by
  rw[my,(r.val k).kN,Fc]
 unfold putK storedH;rw[e];by_cases q:(atKey xs k).isSome=true
 ·rw[aZ q,aZ q]; exact r.NN k ry
 ·rw[aL q,aL q]; exact cB r ⟨rfl,hb,ry⟩
def KT.keeps {H H':Hp}{a9:List (List Key×V)}{xs:List (List Key×Addr×Value)}(r:KT H a9 xs)(ht: ∀b ys,H b=some (.tup ys)->H' b=some (.tup ys)):KT H' a9 xs:=
 Paired.iH r fun _ _ z=>⟨z.1,ht _ _ z.2.1,z.2.2⟩
section
variable {P:Program}{w:World}{H:Hp}{h:Heap}{a:Addr}
def Mz {u:HO}(ok:nV P w H h)(e:Rd H a u):di P w H h a u:=e.ok ok
def ui {a9:List (Key×V)}(ok:nV P w H h)(e:Rd H a (.dK a9)):a9.length<=sizeLine/\(a == sysModules)=false/\ ∃vs,KV a9 vs/\h.DictOf (dI P w) a vs:=
 show di P w H h a (.dK a9) from Mz ok e
def Ei {a9:List (Key×V)}(ok:nV P w H h)(e:H a=some (.dK a9)):a9.length<=sizeLine/\(a == sysModules)=false/\ ∃vs,KV a9 vs/\h.DictOf (dI P w) a vs:=ui ok (.inl e)
def uj {ks:List Key}(ok:nV P w H h)(e:H a=some (.tup (ks.map kV))):(tupleKind (dI P w)).is h ks a:=by
 obtain⟨_,bX,r,o,h1,h2,n,h3⟩:=(show di P w H h a (.tup (ks.map kV)) from ok a _ e);exact⟨o,bX.toArray,n,h1,h2,h3,by simpa using xy r⟩
def xA {a9:List (List Key×V)}(ok:nV P w H h)(e:Rd H a (.dT a9)):a9.length<=sizeLine/\(a == sysModules)=false/\
  ∃xs,KT H a9 xs/\h.DictOfH (tupleKind (dI P w)) a xs:=by
 obtain⟨z,y,xs,r,o,es,ep,h1,h2,h3,h4,h5⟩:=(show di P w H h a (.dT a9) from Mz ok e);refine⟨z,y,xs,r,o,es,ep,h1,h2,h3,h4,fun x hx=>?_,h5⟩;have all: ∀{l:List (List Key×V)} {m:List (List Key×Addr×Value)},KT H l m-> ∀x∈m,(tupleKind (dI P w)).is h x.1 x.2.1:=by
  intro l m q
  induction q with
  |nil=>intro x hx; exact nomatch hx
  | @cons p q ps qs hq t ih=>
   intro x hx;rcases av.mp hx with e|hx
   ·subst e;exact uj ok (by rw[← hq.1]; exact hq.2.1)
   ·exact ih x hx
 exact all r x hx
def QY {a9:List (List Key×V)}(ok:nV P w H h)(e:H a=some (.dT a9)):a9.length<=sizeLine/\(a == sysModules)=false/\
  ∃xs,KT H a9 xs/\h.DictOfH (tupleKind (dI P w)) a xs:=xA ok (.inl e)
end
def l9 (H:Hp)(a:Addr)(y:V)(r:Option V):Prop:=
 (∃a9 k,Rd H a (.dK a9)/\y=kV k/\r=fU a9 k)∨ ∃a9 k b,Rd H a (.dT a9)/\y= .ref b/\H b=some (.tup (k.map kV))/\r=fU a9 k
def FC (H:Hp)(a:Addr)(y v:V)(H':Hp):Prop:=
 (∃a9 k,H a=some (.dK a9)/\y=kV k/\a9.length < sizeLine/\H'=upd H a (.dK (putK a9 k v)))∨
 ∃a9 k b,H a=some (.dT a9)/\y= .ref b/\H b=some (.tup (k.map kV))/\a9.length < sizeLine/\H'=upd H a (.dT (putK a9 k v))
def l9.k {H:Hp}{a:Addr}{a9:List (Key×V)}{k:Key}(e:H a=some (.dK a9)):l9 H a (kV k) (fU a9 k):= .inl ⟨a9,k,.inl e,rfl,rfl⟩
def FC.k {H:Hp}{a:Addr}{a9:List (Key×V)}{k:Key}{v:V}(e:H a=some (.dK a9))(hl:a9.length < sizeLine):FC H a (kV k) v (upd H a (.dK (putK a9 k v))):= .inl ⟨a9,k,e,rfl,hl,rfl⟩
section
variable {X:Cx}{pins:List (Addr×Obj)}{σ:St}{H:Hp}{s:Shared}{a:Addr}{y v:V}{u r:Value}{o:Option V}{A:Around}{E:Value->Shared->Prop}
def Inv.big (I:Inv X pins σ H s):sysModules < s.heap.objs.size:=by
 have h:mainGlobals < s.heap.objs.size:=(I.mod.glob.keeps I.bk).lt;exact Nat.lt_trans (by decide) h
def FD {Q:Value->Shared->Prop}(hu:A.units + 1 < cLine)(I:Inv X pins σ H s)(g:l9 H a y (some v))(ry:RelV y u)(h: ∀w' s',Inv X pins σ H s'->RelV v w'->Q w' s'):
  wpAny (model X.prog X.w) A (getItem (.ref a) u) Q E s:=by
 rcases g with⟨a9,k,e,ey,l⟩|⟨a9,k,b,e,ey,eb,l⟩
 ·subst ey;obtain⟨z,hd,vs,rel,dd⟩:=ui I.cm e;obtain⟨w',hw,Fz⟩:=kI.some_of (v:=v) (o:=valueAt vs k) (by rw[l]; exact rel.val k);exact wpAny_getItem_of (uh ry) dd.mapOf hw (h w' _ (I.tok _) Fz)
 ·subst ey;cases(show u=Value.ref b from ry);obtain⟨z,hd,xs,rel,dd⟩:=xA I.cm e;obtain⟨w',hw,Fz⟩:=kI.some_of (v:=v) (o:=(atKey xs k).map (·.2)) (by rw[l]; exact rel.val k);obtain⟨p,hp,xB⟩:=bB.mp hw;refine wpAny_getItem_heap (tu hu) (uj I.cm eb) dd hp ?_;rw[xB];exact h w' _ (I.tok _) Fz
def Vw {Q:Value->Shared->Prop}(hu:A.units + 1 < cLine)(I:Inv X pins σ H s)(g:l9 H a y o)(ry:RelV y u)(h: ∀s',Inv X pins σ H s'->Q (.bool o.isSome) s'):
  wpAny (model X.prog X.w) A (compareOp .In u (.ref a)) Q E s:=by
 rcases g with⟨a9,k,e,ey,l⟩|⟨a9,k,b,e,ey,eb,l⟩
 ·subst ey;obtain⟨z,hd,vs,rel,dd⟩:=ui I.cm e;refine wpAny_in_of (uh ry) hd dd.mapOf ?_;rw[← (rel.val k).kN,← l];exact h _ (I.tok _)
 ·subst ey;cases(show u=Value.ref b from ry);obtain⟨z,hd,xs,rel,dd⟩:=xA I.cm e;refine wpAny_in_heap (tu hu) (uj I.cm eb) hd dd ?_;have q:=(rel.val k).kN;rw[Fc] at q;rw[← q,← l];exact h _ (I.tok _)
def KQ {Q:Value->Shared->Prop}(hu:A.units + 1 < cLine)(I:Inv X pins σ H s)(g:l9 H a y o)(ry:RelV y u)(h: ∀s',Inv X pins σ H s'->Q (.bool (!o.isSome)) s'):
  wpAny (model X.prog X.w) A (compareOp .NotIn u (.ref a)) Q E s:=by
 rcases g with⟨a9,k,e,ey,l⟩|⟨a9,k,b,e,ey,eb,l⟩
 ·subst ey;obtain⟨z,hd,vs,rel,dd⟩:=ui I.cm e;refine wpAny_notIn_of (uh ry) hd dd.mapOf ?_;rw[← (rel.val k).kN,← l];exact h _ (I.tok _)
 ·subst ey;cases(show u=Value.ref b from ry);obtain⟨z,hd,xs,rel,dd⟩:=xA I.cm e;refine wpAny_notIn_heap (tu hu) (uj I.cm eb) hd dd ?_;have q:=(rel.val k).kN;rw[Fc] at q;rw[← q,← l];exact h _ (I.tok _)
def tG {h':Heap}{t':Nat}{ob:HO}(I:Inv X pins σ H s)(mu:Qt (H a))(hs:Heap.SameBut a s.heap h')(he: ∃q,h'.get? a=some q)(new:di X.prog X.w (upd H a ob) h' a ob):
  Inv X pins σ (upd H a ob) {s with heap:=h',toks:=t'}:=
 I.write (x:=a) (e:=a) mu (.inl rfl) (fun b q hb z=>(hs.2 b hb).trans z) he new
def yx {P:Program}{w:World}{H':Hp}{h':Heap}{a9:List (Key×V)}{vs:List (Key×Value)}(z:a9.length<=sizeLine)(hd:(a == sysModules)=false)(rel:KV a9 vs)(dd:h'.DictOf (dI P w) a vs):
  di P w H' h' a (.dK a9):=⟨z,hd,vs,rel,dd⟩
def FE {H':Hp}{Q:Unit->Shared->Prop}(hu:A.units + 1 < cLine)(I:Inv X pins σ H s)(g:FC H a y v H')(ry:RelV y u)(rv:RelV v r)(h: ∀s',Inv X pins σ H' s'->Q () s'):
  wpAny (model X.prog X.w) A (setItem (.ref a) u r) Q E s:=by
 rcases g with⟨a9,k,e,ey,l,eH⟩|⟨a9,k,b,e,ey,eb,l,eH⟩
 ·subst ey eH;obtain⟨z,hd,vs,rel,dd⟩:=Ei I.cm e;have hz:vs.length<=sizeLine:=by rw[← rel.length]; exact z
  have hl:(putK a9 k v).length<=sizeLine:=by have:=j7 a9 k v; lia
  refine wpAny_setItem_pairs (hsz:=hz) (uh ry) dd fun h' Ej hs=>h _ ?_;have he: ∃q,h'.get? a=some q:=let⟨q,_,_,hq,_⟩:=Ej; ⟨q,hq⟩
  exact tG I (by rw[e]; exact True.intro) hs he (yx hl hd (rel.put k rv) Ej)
 ·subst ey eH;cases(show u=Value.ref b from ry);obtain⟨z,hd,xs,rel,dd⟩:=QY I.cm e;have hz:xs.length<=sizeLine:=by rw[← aS rel]; exact z
  have hl:(putK a9 k v).length<=sizeLine:=by have:=j7 a9 k v; lia
  refine wpAny_setItem_heap (hsz:=hz) (tu hu) (uj I.cm eb) dd fun h' Ej hs=>h _ ?_;obtain⟨q,es,ep,hq,h2,h3,h4,_,h5⟩:=Ej;refine tG I (by rw[e]; exact True.intro) hs ⟨q,hq⟩ ⟨hl,hd,_,(rel.put k eb rv).keeps fun c ys ec=>?_,q,es,ep,hq,h2,h3,h4,h5⟩;rw[az (lW ec e (fun z=>nomatch z))];exact ec
end
section
variable {X:Cx}{pins:List (Addr×Obj)}{σ:St}{H:Hp}{s:Shared}{a:Addr}{a9:List (Key×V)}{k:Key}{u:Value}{A:Around}{E:Value->Shared->Prop}
def QZ {v:V}{more:List Value}{Q:Value->Shared->Prop}(I:Inv X pins σ H s)(e:H a=some (.dK a9))(ry:RelV (kV k) u)(l:fU a9 k=some v)(hm:more=[]∨ ∃x,more=[x])
  (h: ∀w' s',Inv X pins σ (upd H a (.dK (kM a9 k))) s'->RelV v w'->Q w' s'):wpAny (model X.prog X.w) A (call (.builtin "dict.pop") (.ref a :: u :: more)) Q E s:=by
 obtain⟨z,hd,vs,rel,dd⟩:=Ei I.cm e;obtain⟨w',hw,Fz⟩:=kI.some_of (v:=v) (o:=valueAt vs k) (by rw[← l]; exact rel.val k);have hp:(keyPart u).isSome=true:=by
  cases k with
  |inl i=>obtain⟨t,q⟩:=(show ∃t,u=Value.int i t from ry); subst q; rfl
  |inr x=>obtain⟨t,q⟩:=(show ∃t,u=Value.str x t from ry); subst q; rfl
 have ha:argsOk "dict.pop" ⟨.ref a :: u :: more,[]⟩:=by
  rcases hm with q|⟨x,q⟩
  ·subst q; exact PySem.F.args_dict_pop_2 _ _
  ·subst q; exact PySem.F.args_dict_pop_3 _ _ _
 refine call_meetsIn PySem.F.slot_dict_pop dd.typeIs PySem.F.entry_dict_pop ha (meets_dict_pop_there (dI X.prog X.w) a (uh ry) more hm hp)
  ⟨vs,w',dd,by rw[← rel.length]; exact z,hw,fun h' Ej hs=>h w' _ ?_ Fz⟩
 have he: ∃q,h'.get? a=some q:=let⟨q,_,_,hq,_⟩:=Ej; ⟨q,hq⟩
 exact tG I (by rw[e]; exact True.intro) hs he (yx (aV (HU a9 k) z) hd (rel.drop k) Ej)
end
def Q0 (i:Expr):Prop:= ∀ov iv,subscripted i false ov iv=operate [ov,iv] (getItem ov iv)
def KR {prog:Program}{w:World}{A:Around}{E:Value->Shared->Prop}{s:Shared}{env:Env}{value slice:Expr}{pos:Pos}{T id:String}{Q:Value->Shared->Prop}
  (hl:typeLookup (.type T) "__getitem__"=pure (some (.builtin id))) (hs:Q0 slice)
  (h:wpAny (model prog w) A (eval value env) (fun o s₁=>wpAny (model prog w) A (eval slice env) (fun i s₂=>s₂.TypeIs o T/\wpAny (model prog w) A (getItem o i) Q E s₂) E s₁) E s):
  wpAny (model prog w) A (eval (.Subscript value slice pos) env) Q E s:=by
 refine Subscript_ (b9 h (fun o s₁ h₁=>b9 h₁ (fun i s₂ h₂=>?_) fun _ _ x=>x) fun _ _ x=>x);obtain⟨hT,h₂⟩:=h₂;unfold subscriptTail;refine aA ?_;rw[getitemInPython_of_ne hT.not_modules];refine aA (wpAny_specialOf hT hl ?_);have fin:wpAny (model prog w) A (subscripted slice false o i) (fun r s₃=>wpAny (model prog w) A (letTemporaryGo value o r >>=fun _=>pure r) Q E s₃) E s₂:=by
  rw[hs o i];exact wpAny_operating (b9 h₂ (fun r s₃ h₃=>aA (wpAny_letTemporaryGo (bA h₃))) fun _ _ x=>x)
 first
  |exact bA (aA fin)
  |exact aA (bA (aA fin))
  |exact aA fin
def AR {X:Cx}{pins:List (Addr×Obj)}{σ:St}{H:Hp}{s:Shared}{a:Addr}{y:V}{o:Option V}(I:Inv X pins σ H s)(g:l9 H a y o):s.TypeIs (.ref a) "dict":=by
 rcases g with⟨a9,k,e,_,_⟩|⟨a9,k,b,e,_,_,_⟩
 ·obtain⟨_,_,vs,_,dd⟩:=ui I.cm e;exact dd.typeIs
 ·obtain⟨_,_,xs,_,dd⟩:=xA I.cm e;exact dd.typeIs
inductive Yo (x y:V)(H:Hp)(k:V->Prop):Prop
 |mk (a:Addr)(v:V)(h1:x= .ref a)(h2:l9 H a y (some v))(q:k v):Yo x y H k
def Q1 (td ty:TE):TE:=fun σ H Q=>td σ H fun x H1=>ty σ H1 fun y H2=>Yo x y H2 fun v=>Q v H2
def Vx (ty td:TE):TE:=fun σ H Q=>ty σ H fun y H1=>td σ H1 fun x H2=> ∃a o,x= .ref a/\l9 H2 a y o/\Q (.bl o.isSome) H2
def KS (ty td:TE):TE:=fun σ H Q=>ty σ H fun y H1=>td σ H1 fun x H2=> ∃a o,x= .ref a/\l9 H2 a y o/\Q (.bl (!o.isSome)) H2
def Q2 (td ty tv:TE):TS:=fun D σ H=>tv σ H fun v H1=>td σ H1 fun x H2=>ty σ H2 fun y H3=> ∃a H4,x= .ref a/\FC H3 a y v H4/\D.nx σ H4
section
variable {X:Cx}{o i e value:Expr}{pos pos' NB:Pos}{td ty tv:TE}
def cF (hu:X.A.units + 1 < cLine)(ho:PE X o td)(hi:PE X i ty)(hs:Q0 i):PE X (.Subscript o i pos) (Q1 td ty):=by
 intro pins s σ H Q I h;refine KR PySem.F.slot_dict_getitem.lookup hs (dN (ho pins s σ H _ I h) fun u s1 ⟨x,H1,I1,rx,q1⟩=>dN (hi pins s1 σ H1 _ I1 q1) fun iv s2 ⟨y,H2,I2,ry,a,v,ex,g,q2⟩=>?_);subst ex;obtain rfl:u=Value.ref a:=rx;exact⟨AR I2 g,FD hu I2 g ry fun w' s3 I3 Fz=>⟨v,H2,I3,Fz,q2⟩⟩
def NO (hu:X.A.units + 1 < cLine)(hi:PE X i ty)(ho:PE X o td):PC X .In i o (Vx ty td):=by
 intro pins s σ H Q I h;refine dN (hi pins s σ H _ I h) fun iv s1 ⟨y,H1,I1,ry,q1⟩=>dN (ho pins s1 σ H1 _ I1 q1) fun u s2 ⟨x,H2,I2,rx,a,ov,ex,g,q2⟩=>?_;subst ex;obtain rfl:u=Value.ref a:=rx;exact Vw hu I2 g ry fun s3 I3=>⟨.bl ov.isSome,H2,I3,rfl,q2⟩
def FF (hu:X.A.units + 1 < cLine)(hi:PE X i ty)(ho:PE X o td):PC X .NotIn i o (KS ty td):=by
 intro pins s σ H Q I h;refine dN (hi pins s σ H _ I h) fun iv s1 ⟨y,H1,I1,ry,q1⟩=>dN (ho pins s1 σ H1 _ I1 q1) fun u s2 ⟨x,H2,I2,rx,a,ov,ex,g,q2⟩=>?_;subst ex;obtain rfl:u=Value.ref a:=rx;exact KQ hu I2 g ry fun s3 I3=>⟨.bl (!ov.isSome),H2,I3,rfl,q2⟩
def Ek (hu:X.A.units + 1 < cLine)(ho:PE X o td)(hi:PE X i ty)(hv:PE X value tv)(hs:swapsWith value (some (.Subscript o i pos')) pos.line X.env=pure false):
  PS X (.Assign [.Subscript o i pos'] value pos) (Q2 td ty tv):=by
 intro pins s σ H D I h;refine wpAny_Assign_Subscript (dN (hv pins s σ H _ I h) fun r s1 ⟨v,H1,I1,rv,q1⟩=>dN (ho pins s1 σ H1 _ I1 q1) fun u s2 ⟨x,H2,I2,rx,q2⟩=>dN (hi pins s2 σ H2 _ I2 q2) fun iv s3 ⟨y,H3,I3,ry,a,H4,ex,g,q3⟩=>?_) hs;subst ex;obtain rfl:u=Value.ref a:=rx;exact FE hu I3 g ry rv fun s4 I4=>⟨σ,H4,I4,q3⟩
end
def AS {P:Program}{w:World}{H:Hp}(h:Heap)(hb:sysModules < h.objs.size):di P w H (h.push {cls:= .type "dict",data:= .dict #[]}) h.objs.size (.dK []):=
 ⟨bq _,gz.mpr (vI (aU hb)),[],.nil,Heap.DictOf.new h⟩
def NP:TE:=fun _ H Q=> ∀p,H p=none->Q (.ref p) (upd H p (.dK []))
section
variable {X:Cx}{pos:Pos}
def AU:PE X (.Dict [] [] pos) NP:=fun pins s σ H Q I h=>
 wpAny_Dict_empty ⟨.ref s.heap.objs.size,_,I.laid (a:=s.heap.objs.size) (o:= .dK []) (t':=s.toks) (fun _ _ q=>ax _ q) (aB _) (AS s.heap I.big),rfl,h _ (I.cm.fresh (aB _))⟩
end
def CZ:List (TE×TE)->St->Hp->(List (V×V)->Hp->Prop)->Prop
 |[],_,H,Q=>Q [] H
 |(tk,tv) :: r,σ,H,Q=>tk σ H fun x H1=>tv σ H1 fun y H2=>CZ r σ H2 fun ps H3=>Q ((x,y) :: ps) H3
abbrev VV:List (V×V)->List (Value×Value)->Prop:=Paired fun p q=>RelV p.1 q.1/\RelV p.2 q.2
def KU (X:Cx)(pos:Pos)(keys:List (Option Expr))(values:List Expr)(KW:List (TE×TE)):Prop:=
 ∀(pins:List (Addr×Obj)) (s:Shared) (σ:St) (H:Hp) (Q:List (V×V)->Hp->Prop),Inv X pins σ H s->CZ KW σ H Q->
  wpAny (model X.prog X.w) X.A (evalPairs (pairTrees keys values X.env pos)) (fun vs s'=> ∃ps H',Inv X pins σ H' s'/\VV ps vs/\Q ps H') X.xe s
def KY {X:Cx}{pos:Pos}:KU X pos [] [] []:=fun pins s σ H Q I h=>pairTrees_nil_walk ⟨[],H,I,.nil,h⟩
def uk {X:Cx}{pos:Pos}{k v:Expr}{ks:List (Option Expr)}{vs:List Expr}{tk tv:TE}{KW:List (TE×TE)}(hk:PE X k tk)(hv:PE X v tv)(hr:KU X pos ks vs KW):
  KU X pos (some k :: ks) (v :: vs) ((tk,tv) :: KW):=fun pins s σ H Q I h=>
 pairTrees_cons_walk (dN (hk pins s σ H _ I h) fun u s1 ⟨x,H1,I1,rx,q1⟩=>dN (hv pins s1 σ H1 _ I1 q1) fun w2 s2 ⟨y,H2,I2,ry,q2⟩=>
  dN (hr pins s2 σ H2 _ I2 q2) fun ws s3 ⟨ps,H3,I3,rel,q3⟩=>⟨(x,y) :: ps,H3,I3,.cons ⟨rx,ry⟩ rel,q3⟩)
def oX (a9 more:List (Key×V)):List (Key×V):=more.foldl (fun acc kv=>putK acc kv.1 kv.2) a9
def KV.merge: ∀{more:List (Key×V)} {rs:List (Key×Value)} {a9:List (Key×V)} {vs:List (Key×Value)},KV more rs->KV a9 vs->KV (oX a9 more) (merged vs rs):=by
 intro more rs a9 vs r;unfold KV at r
 induction r generalizing a9 vs with
 |nil=>intro q; exact q
 | @cons p q ps qs h t ih=>
  intro r0;have e:KV (putK a9 p.1 p.2) (stored vs q.1 q.2):=by
   have:=r0.put p.1 h.2;rw[← h.1]; exact this
  exact ih e
def ow: ∀(more a9:List (Key×V)),(oX a9 more).length<=a9.length + more.length
 |[],a9=>by show a9.length<=a9.length + 0; lia
 |p :: r,a9=>by
  have h1:=ow r (putK a9 p.1 p.2);have h2:=j7 a9 p.1 p.2;show(oX (putK a9 p.1 p.2) r).length<=_;rw[bU]; lia
def um {P:Program}{w:World}: ∀{a9:List (Key×V)} {ws:List (Value×Value)},VV (a9.map fun kv=>(kV kv.1,kv.2)) ws-> ∃rs,Carries (dI P w) ws rs/\KV a9 rs
 |[],_,r=>by rw[vK] at r; cases r; exact⟨[],True.intro,.nil⟩
 |p :: a9,_,r=>by
  rw[cS] at r;cases r with
  | @cons a b as bs h t=>
   obtain⟨rs,c,q⟩:=um (P:=P) (w:=w) t;obtain⟨b1,b2⟩:=b;exact⟨(p.1,b2) :: rs,⟨uh h.1,rfl,c⟩,.cons ⟨rfl,h.2⟩ q⟩
def Q3 (KW:List (TE×TE)):TE:=fun σ H Q=> ∀p,H p=none->CZ KW σ (upd H p (.dK [])) fun ps H2=>H2 p=some (.dK [])/\ ∃a9:List (Key×V),ps=a9.map (fun kv=>(kV kv.1,kv.2))/\a9.length<=15/\Q (.ref p) (upd H2 p (.dK (oX [] a9)))
def KZ {X:Cx}{pos:Pos}{keys:List (Option Expr)}{values:List Expr}{KW:List (TE×TE)}(h:KU X pos keys values KW)(NQ:keys.all (·.isSome)=true)(hl:keys.length=values.length)(h0:keys≠[])
  (Vy:keys.length<=15):PE X (.Dict keys values pos) (Q3 KW):=by
 intro pins s σ H Q I q;have hn:=I.cm.fresh (aB s.heap.objs.size);have I1:=I.laid (a:=s.heap.objs.size) (o:= .dK []) (h':=s.heap.push {cls:= .type "dict",data:= .dict #[]}) (t':=s.toks) (fun _ _ q=>ax _ q) (aB _) (AS s.heap I.big);refine wpAny_Dict_walk (knd:=dI X.prog X.w) NQ hl h0 Vy (dN (h pins _ σ _ _ I1 (q _ hn)) fun ws s2 ⟨ps,H2,I2,rel,e,a9,ep,lk,q2⟩=>?_);subst ep;obtain⟨rs,c,rk⟩:=um (P:=X.prog) (w:=X.w) rel;obtain⟨z,hd,Q4,r0,dd⟩:=Ei I2.cm e;cases r0;refine⟨rs,c,dd,fun h' Ej hs=>⟨.ref s.heap.objs.size,_,?_,rfl,q2⟩⟩;have hz:(oX [] a9).length<=sizeLine:=by
  have h1:=ow a9 [];rw[vM] at h1;rw[eJ]; lia
 have he: ∃q,h'.get? s.heap.objs.size=some q:=let⟨q,_,_,hq,_⟩:=Ej; ⟨q,hq⟩
 exact tG I2 (by rw[e]; exact True.intro) hs he (yx hz hd (rk.merge .nil) Ej)
structure M1 (X:Cx)(o:Expr)(m:Str)(apos:Pos)(e:Expr)(gq:Pos):Prop where
 base:attributeBase o m X.env (eval o X.env)=eval o X.env
 few:((backTo gq (starEach [e] X.env)).all (fun x=> !x.1) && (backToKw gq (keywordEach [] X.env)).all (fun x=>x.1.isSome)
  && decide (([e]:List Expr).length + ([]:List Keyword).length + (if([]:List Keyword).isEmpty then 0 else 1) < 30))=true
 line:(apos.endLine == gq.line)=true
 trees:backTo gq (starEach [e] X.env)=[(false,eval e X.env)]
def Yp (H:Hp)(a:Addr):Prop:=(∃a9,Rd H a (.dK a9))∨ ∃a9,Rd H a (.dT a9)
def NR {X:Cx}{pins:List (Addr×Obj)}{σ:St}{H:Hp}{s:Shared}{a:Addr}(I:Inv X pins σ H s)(d:Yp H a):
  s.TypeIs (.ref a) "dict"/\(∀b,Value.ref a= .ref b-> ∃ob,s.heap.get? b=some ob/\ob.dict=none)/\(a == sysModules)=false:=by
 rcases d with⟨a9,e⟩|⟨a9,e⟩
 ·obtain⟨_,hd,vs,_,dd⟩:=ui I.cm e;refine⟨dd.typeIs,fun b q=>?_,hd⟩;cases q;obtain⟨ob,_,_,h1,h2,_⟩:=dd;exact⟨ob,h1,h2.2.1⟩
 ·obtain⟨_,hd,xs,_,dd⟩:=xA I.cm e;refine⟨dd.typeIs,fun b q=>?_,hd⟩;cases q;obtain⟨ob,_,_,h1,h2,_⟩:=dd;exact⟨ob,h1,h2.2.1⟩
section
variable {X:Cx}{pins:List (Addr×Obj)}{σ:St}{H:Hp}{s:Shared}{a:Addr}{y d:V}{u r:Value}{o:Option V}{A:Around}{E:Value->Shared->Prop}
end
def NS (td ty:TE):TE:=fun σ H Q=>td σ H fun x H1=> ∃a,x= .ref a/\Yp H1 a/\ty σ H1 fun y H2=> ∃a9 k v,H2 a=some (.dK a9)/\y=kV k/\fU a9 k=some v/\Q v (upd H2 a (.dK (kM a9 k)))
section
variable {X:Cx}{o e f:Expr}{apos gq:Pos}{td ty tx:TE}
def HV (ho:PE X o td)(he:PE X e ty)(m:M1 X o "pop" apos e gq):PE X (.Call (.Attribute o "pop" apos) [e] [] gq) (NS td ty):=by
 intro pins s σ H Q I h;refine wpAny_Call_method m.base m.few m.line PySem.F.plainAttrs_dict PySem.F.slot_dict_pop PySem.F.type_dict_pop (dN (ho pins s σ H _ I h) fun u s1 ⟨x,H1,I1,rx,a,ex,d,q1⟩=>?_);subst ex;obtain rfl:u=Value.ref a:=rx;obtain⟨t1,t2,_⟩:=NR I1 d;refine⟨t1,t2,?_⟩;rw[m.trees];refine iF rfl (Fb (Calls.spliced_cons (dN (he pins s1 σ H1 _ I1 q1) fun iv s2 ⟨y,H2,I2,ry,a9,k,v,ea,ey,l,q2⟩=>Calls.spliced_nil ?_)));subst ey;exact QZ I2 ea ry l (.inl rfl) fun w' s3 I3 Fz=>⟨v,_,I3,Fz,q2⟩
end
section
variable {X:Cx}{pins:List (Addr×Obj)}{σ:St}{H:Hp}{s:Shared}{a:Addr}{a9:List (Key×V)}{A:Around}{E:Value->Shared->Prop}
def HW {Q:Value->Shared->Prop}(I:Inv X pins σ H s)(e:Rd H a (.dK a9))(h: ∀p s',H p=none->Inv X pins σ (upd H p (.dK a9)) s'->Q (.ref p) s'):wpAny (model X.prog X.w) A (call (.type "dict") [.ref a]) Q E s:=by
 obtain⟨z,hd,vs,rel,dd⟩:=ui I.cm e;refine kt_call_dict hd dd (by rw[← rel.length]; exact z) fun h' Ej hs=>?_;refine h _ _ (I.cm.fresh (aB _)) (I.laid (a:=s.heap.objs.size) (o:= .dK a9) (t':=s.toks) (fun b q hq=>?_) (aB _) (yx z (gz.mpr (vI (aU I.big))) rel Ej));exact(hs.2 b (aU (aH hq))).trans (ax _ hq)
end
section
variable {X:Cx}{pins:List (Addr×Obj)}{σ:St}{H:Hp}{s:Shared}{a:Addr}{y:V}{u:Value}{A:Around}{E:Value->Shared->Prop}
end
end L2
namespace Yq
open PySem PySem.W PySem.Calls PyProof.Rows
def sU {P:Params}{h:Heap}: ∀(ns:List Int) (vs:List Value),WellAll P h vs (ns.map WData.int)->IntsAre vs ns:=by
 intro ns
 induction ns with
 |nil=>
  intro vs w;rw[vK] at w;cases w;exact .nil
 |cons n ns ih=>
  intro vs w;rw[cS] at w;cases w with
  |cons a b=>
   cases a;exact .cons _ _ (ih _ b)
def FG {l:OpenLaw}{n:Nat}(hn:l.most=some n){P:Params}{h:Heap}{args:List WData}{vals:List Value}
  (K0:l.row.toRowW.claim.pre args=true) (El:WellAll P h vals args):
  ∃a vs ns,vals=[Value.ref a]/\args=[WData.list (ns.map WData.int)]/\h.get? a=some {cls:= .type "list",data:= .seq vs.toArray}/\IntsAre vs ns/\ns.length<=n:=by
 have hsh:WShape.hasAll [] args [.list .int]=true:=(pre_splitW K0).1;have hc:l.pre.holds [] {args:=args}=true:=(pre_splitW K0).2;obtain⟨d,r,rfl,h1,h2⟩:=hasAllW_cons hsh;obtain rfl:=hasAllW_nil h2;obtain⟨xs,rfl,h3⟩:=hasW_list h1;obtain⟨ns,rfl⟩:=items_int h3;have hlen:ns.length<=n:=by
  unfold OpenLaw.pre at hc;have h4:(WTm.not (.lt (.lit (.int (n:Int))) (.len (.arg 0)))).holds [] {args:=[.list (ns.map .int)]}=true:=by
   have h4:=(holds_andW hc).1;rw[hn] at h4;exact h4
  have h5:=condW_of h4 (w_not (w_lt w_lit (w_len_list (w_arg rfl))));rw[ae] at h5;refine Nat.le_of_not_lt fun q=>?_;have q':(n:Int) < ((ns.length:Nat):Int):=by lia
  first
   |(rw[aJ q'] at h5; exact absurd h5 (by decide))
   |(simp at h5; lia)
 cases El with
 |cons w1 w2=>
  cases w2;cases w1 with
  |list ho NQ=>exact⟨_,_,ns,rfl,rfl,ho,sU ns _ NQ,hlen⟩
def FH (l:OpenLaw)(args:List WData):l.row.toRowW.claim.post args (.bool true) args=true:=
 postW_of (r:=l.row.toRowW) (X:=(true == true))
  (show WShape.has [] (.bool true) .bool=true by first|rfl|decide|simp[WShape.has,WShape.arms,WShape.armsAll])
  (show(WTm.eq .res (.lit (.bool true))).value [] {args:=args,res:=some (.bool true),after:=args}=some (.bool (true == true)) from w_eq_bool (w_res rfl) w_lit) rfl
def AV {l:OpenLaw}{n:Nat}{q:Program}{loose:List Str}{XP:(Str->Option Value)->Heap->Prop}{YP:World->Heap->Prop}{d:DefRec}
  (hn:l.most=some n) (Vz:d.params.defaults=[])
  (call: ∀(w:World) (s₀ s₁:Shared) (mg mb:Str->Option Value) (fa:Addr) (o:Obj) (pm cd doc:Value) (a:Addr) (vs:List Value) (ns:List Int),
   Ground q loose [] XP w s₀ mg mb s₁.heap->YP w s₁.heap->
   s₁.heap.get? fa=some o->o.data= .func (docDef d.name d.params d.body d.scope pm cd doc)->s₁.heap.CodeRec cd d.name->mg d.name=some (.ref fa)->
   s₁.heap.get? a=some {cls:= .type "list",data:= .seq vs.toArray}->IntsAre vs ns->ns.length<=n->s₁.gens= #[]->
   codeAny (model l.prog w) callerA (.call (.ref fa) ⟨[.ref a],[]⟩) (fun r s'=>r= .ok (.ret (.bool true))/\OldK s₁.heap s'.heap/\s'.os=s₁.os/\AllBare s'.gens) s₁):
  WalkO q loose XP YP l.row.toRowW d [] (fun f vs=>PySem.call f vs):=by
 intro w s₀ s₁ mg mb G Y fa o pm cd doc dV kV ho hd qY hD Q5 hg args vals as K0 aak Yr El hlo;obtain rfl:dV= .none:=Dflts.none hD Vz;obtain rfl:kV= .none:=Dflts.noKw hD;obtain⟨a,vs,ns,rfl,rfl,NT,hints,hlen⟩:=FG hn K0 El;refine enter_call (CB (call w s₀ s₁ mg mb fa o pm cd doc a vs ns G Y ho (fd_plain hd) qY Q5 NT hints hlen hg) fun r s' hq=>?_);obtain⟨rfl,h2,h3,h4⟩:=hq;exact⟨.inl ⟨.bool true,.bool true,[],rfl,fun _=>rfl,.bool true,FH l _,fun _=>⟨List.Pairwise.nil,fun _ hm=>(nomatch hm)⟩⟩,h2,h3,h4⟩
section
variable {prog:Program}{w:World}{A:Around}{E:Value->Shared->Prop}{s:Shared}{K:Frag}
end
end Yq
namespace L2
open PySem PySem.Spec PyProof.Rows
def xC: ∀{vs:List Value} {ns:List Int},IntsAre vs ns->Vals (ns.map V.int) vs
 |_,_,.nil=> .nil
 |_,_,.cons n t h=> .cons ⟨t,rfl⟩ (xC h)
def gr (s:Stmt):Arguments:=match s with
 | .FunctionDef _ a _ _ _ _ _ _ _ _=>a
 |_=>{posonlyargs:=[],args:=[],vararg:=none,kwonlyargs:=[],kw_defaults:=[],kwarg:=none,defaults:=[]}
def dj (s:Stmt):List Stmt:=match s with
 | .FunctionDef _ _ b _ _ _ _ _ _ _=>b
 |_=>[]
def ay (s:Stmt):Scope:=match s with
 | .FunctionDef _ _ _ _ _ _ sc _ _ _=>sc
 |_=>{kind:= .function,names:=[],isGenerator:=false,isCoroutine:=false}
abbrev rC:Eb:=fun _ _ _ _ _ _=>False
abbrev E0:XK:=fun _ _ _=>False
def mz {X:Cx}:Passes rC X E0:=fun _ _ _ _ _ _ _ h=>h.elim
structure fV (K:Frag)(x qual:Str)(st:Stmt)(f:Addr)(fd:FuncData):Prop where
 ex: ∃(oc:Value) (od:Option Addr) (kV doc pm:Value) (an:Option Addr) (cM ct:Value) (Fy:Array (Option Value)),
  fd=fnOf x qual (gr st) (dj st) (ay st) .none kV doc pm an cM ct/\K.lookup f=some ⟨oc,od,.func fd,Fy⟩/\codeIn K cM qual=true
 kp:keepIn K (.ref f)=true
section
variable {P:Program}{w:World}{K:Frag}{mg:Str->Option Value}{base:Heap}
def fV.ok {x qual:Str}{st:Stmt}{f:Addr}{fd:FuncData}{N ps:List Str}{k:Nat}{sp:Sp}(F:fV K x qual st f fd)(S:aO N ps (ay st))(len: ∀vs H Q E,sp vs H Q E->vs.length=ps.length)
  (fL: ∀(cM:Value) (A:Around) (outer:List Env) (s:Shared) (H:Hp) (vs:List V) (Q:VK) (E:XK),eL k (A.deeper (envOfC qual (ay st) s.heap.objs.size f cM))->sp vs H Q E->
   ∃t,oq (kz rC P w K mg base N qual (ay st) f cM A outer s H E).CJ (dj st) t/\t {nx:=fun _ H'=>Q .dW H',rt:=Q} (start N vs) H):lB P w K mg base rC (k + 1) f fd ps sp:=by
 obtain⟨oc,od,kV,doc,pm,an,cM,ct,Fy,rfl,lk,qY⟩:=F.ex;refine HI lk qY S len fun A outer s H vs Q E hr yn=>?_;obtain⟨t,h,q⟩:=fL cM A outer s H vs Q E hr yn;exact⟨t,h.CJ,q⟩
def fV.binds {x qual:Str}{st:Stmt}{f:Addr}{fd:FuncData}{ps:List Str}(F:fV K x qual st f fd)
  (h: ∀(kV doc pm:Value) (an:Option Addr) (cM ct:Value) (us:List Value),us.length=ps.length->bindArgs (fnOf x qual (gr st) (dj st) (ay st) .none kV doc pm an cM ct) ⟨us,[]⟩=pure (ps.zip us)):Binds K fd ps []:=by
 obtain⟨oc,od,kV,doc,pm,an,cM,ct,Fy,rfl,lk,qY⟩:=F.ex;exact .all (h kV doc pm an cM ct)
def oY {x qual:Str}{st:Stmt}{f:Addr}{oc:Value}{od an:Option Addr}{Fy:Array (Option Value)}{kV doc pm cM ct:Value}(l:K.lookup f=some ⟨oc,od,.func (fnOf x qual (gr st) (dj st) (ay st) .none kV doc pm an cM ct),Fy⟩)
  (c:codeIn K cM qual=true) (k:keepIn K (.ref f)=true):fV K x qual st f (fnOf x qual (gr st) (dj st) (ay st) .none kV doc pm an cM ct):=⟨⟨oc,od,kV,doc,pm,an,cM,ct,Fy,rfl,l,c⟩,k⟩
end
def j8 {A:Around}{k:Nat}(hr:eL k A):A.units + 1 < cLine:=pN (Nat.add_le_add_left (by decide:1<=64) _) hr.units
def bc {n:Nat}(h:n<=1000):n < sizeLine:=pN h (by decide)
section
variable {X:Cx}
def pv (i:Nat){x:Str}{pos:Pos}(hN:X.N[i]? =some x:=by rfl)(hv:Qv X.env.scope x:=by first|exact Or.inl rfl|exact Or.inr (Or.inl rfl)|exact Or.inr (Or.inr rfl))(hd:(x == ("__debug__":Str))=false:=by decide)
  (qY:(x == ("__classdict__":Str))=false:=by decide):PE X (.Name x pos) (Qy i):=CG hN hv hd qY
end
def bV {A B:Prop}(h:B):if false=true then A else B:=by
 rw[aL aW];exact h
def fe {A B:Prop}(h:A):if true=true then A else B:=by
 rw[aZ rfl];exact h
def cy {c A B:Prop}[Decidable c](h1:c->A)(h2: ¬ c->B):if c then A else B:=by
 by_cases h:c
 ·rw[aZ h];exact h1 h
 ·rw[aL h];exact h2 h
def AW {c A B:Prop}[Decidable c](hc:c)(h:B):if(!decide c)=true then A else B:=by
 rw[aJ hc];exact bV h
def aG (H H':Hp):Prop:= ∀b o,H b=some o->H' b=some o
def aG.refl (H:Hp):aG H H:=fun _ _ h=>h
def aG.trans {H H1 H2:Hp}(a:aG H H1)(b:aG H1 H2):aG H H2:=fun c o h=>b c o (a c o h)
def aG.free {H H':Hp}(e:aG H H'){l:Addr}(h:H' l=Option.none):H l=Option.none:=by
 cases q:H l with
 |none=>rfl
 |some o=>
  rw[e l o q] at h;cases h
def aG.seq {K:Frag}{H H':Hp}{a:Addr}{xs:List V}(e:aG H H')(h:bF K H a xs):bF K H' a xs:=by
 rcases h with(h|⟨o,h⟩)|h
 ·exact .inl (.inl (e _ _ h))
 ·exact .inl (.inr ⟨o,e _ _ h⟩)
 ·exact .inr h
section
variable {X:Cx}
end
section
variable {κ:Type}[DecidableEq κ]
end
def FI {prog:Program}{w:World}{A:Around}{R:Result->Shared->Prop}{s:Shared}{elt target iter:Expr}{ifs:List Expr}{scope:Scope}{pos:Pos}{it acc:Value}{env:Env}(I:Nat->Shared->Prop)
  (turn: ∀n s,I n s->wpAny (model prog w) A (pyNext it) (fun r s₁=>match r with
   |none=>R (.ok .next) s₁
   |some v=>wpAny (model prog w) A (letOwnedTupleGo target it v) (fun _ Ys=>wpAny (model prog w) A (assign target env v) (fun _ s₂=>
     wpAny (model prog w) A (forIn ifs true fun c r=>if r=true then do let ok ← isTrue c env (eval c env); pure (ForInStep.yield ok) else pure (ForInStep.yield r)) (fun ok s₃=>
      if ok=true then wpAny (model prog w) A (eval elt env) (fun x s₄=>
       wpAny (model prog w) A (call (.builtin "list.append") [acc,x]) (fun _ s₅=> ∃m,m < n/\I m s₅) (fun _ _=>False) s₄) (fun _ _=>False) s₃
      else ∃m,m < n/\I m s₃) (fun _ _=>False) s₂) (fun _ _=>False) Ys) (fun _ _=>False) s₁) (fun _ _=>False) s)
  (n:Nat) (h:I n s):
  codeAny (model prog w) A (.compLoop (.ListComp elt [⟨target,iter,ifs,0⟩] scope pos) 0 it acc env) R s:=by
 refine codeAny_loop rfl I (fun n s hI=>?_) n h;show wpAny _ A ((compTurn (.ListComp elt [⟨target,iter,ifs,0⟩] scope pos) 0 it acc env).onRaise (fun x=>do noteFrame x env; theTreesLotGoes x)) _ _ s;refine wpAny_noted ?_;rw[compTurn_list];refine aA (hV (aA (b9 (turn n s hI) (fun r s₁ h₁=>?_) fun _ _ h'=>h'.elim)));cases r with
 |none=>exact bA h₁
 |some v=>
  refine aA (b9 h₁ (fun _ Ys h₁'=>?_) fun _ _ h'=>h'.elim);refine aA (b9 h₁' (fun _ s₂ h₂=>aA (b9 h₂ (fun ok s₃ h₃=>?_) fun _ _ h'=>h'.elim)) fun _ _ h'=>h'.elim);cases ok with
  |false=>exact bA ⟨rfl,h₃⟩
  |true=>
   exact aA (aA (b9 h₃ (fun x s₄ h₄=>aA (b9 h₄ (fun _ s₅ h₅=>bA (bA ⟨rfl,h₅⟩)) fun _ _ h'=>h'.elim)) fun _ _ h'=>h'.elim))
def AX (X:Cx)(N:List Str)(scope:Scope)(cl:List (Str×Addr))(C:Addr)(s3:Shared)(H3:Hp)(fp:List Addr):Cx:=
 {X with N:=N,s₀:=s3,H₀:=H3,env:=compEnvC scope cl C X.env,outer:=X.stack,stack:=X.stack,ex:=fp,fn:=fun _=>false,pn:=[],xe:=fun _ _=>False}
def JZ (X:Cx)(ifs:List Expr)(t:TT):Prop:=
 ∀(pins:List (Addr×Obj)) (s:Shared) (σ:St) (H:Hp) (Q:Bool->Hp->Prop),Inv X pins σ H s->t σ H Q->
  wpAny (model X.prog X.w) X.A (forIn ifs true fun c r=>if r=true then do let ok ← isTrue c X.env (eval c X.env); pure (ForInStep.yield ok) else pure (ForInStep.yield r)) (TP X pins σ Q) X.xe s
def VA:TT:=fun _ H Q=>Q true H
def lE {X:Cx}:JZ X [] VA:=fun pins s σ H Q I h=>wpAny_tests_nil ⟨H,I,h⟩
def oZ {X:Cx}{c:Expr}{t:TT}(h:PT X c t):JZ X [c] t:=fun pins s σ H Q I hw=>wpAny_tests_one (h pins s σ H Q I hw)
def xD (J:It)(g:TG)(tc:TT)(te:TE)(σ0:St)(H2:Hp)(Q:VK):Prop:=
 ∀D,H2 D=none-> ∃W:Nat->Nat->St->Hp->Prop,(∃m,W 0 m σ0 (upd H2 D (.lst [])))/\ ∀i m σ' H',W i m σ' H'->
  (J.stop i H'/\Q (.ref D) H')∨(J.go i H'/\ ∃N:St->Hp->Prop,(∀K1 G8,N K1 G8-> ∃m',m' < m/\W (i + 1) m' K1 G8)/\
   ∀x G8,J.PR i H' x G8->g x σ' G8 fun σ2 H2=>tc σ2 H2 fun ok H3=>if ok=true then te σ2 H3 fun y H4=> ∃ys,H4 D=some (.lst ys)/\ys.length < sizeLine/\N σ2 (upd H4 D (.lst (ys ++ [y]))) else N σ2 H3)
structure rD (X:Cx)(scope:Scope)(cl:List (Str×Addr))(cn:List Str)(cj:List Nat):Prop where
 FJ:closureFor scope X.env=pure cl
 cell: ∀y∈scope.names,y.2≠ .cell
 kind:scope.kind= .function
 names: ∀x∈scope.names,x.2= .local->scope.names.lookup x.1=some .local
 sub: ∀x c,cl.lookup x=some c->X.env.cells.lookup x=some c
 all: ∀x,((relabel scope X.env).names.lookup x=some .cell∨(relabel scope X.env).names.lookup x=some .free)-> ∃c,cl.lookup x=some c
 Yt:Paired (fun x j=>X.N[j]? =some x/\(X.env.kindOf x=some .cell∨X.env.kindOf x=some .free)/\((relabel scope X.env).names.lookup x=some .cell∨(relabel scope X.env).names.lookup x=some .free)) cn cj
def bI {α β:Type}{F:α->β->Prop}: ∀{l₁:List α} {l₂:List β} {i:Nat} {a:α},Paired F l₁ l₂->l₁[i]? =some a-> ∃b,l₂[i]? =some b/\F a b
 |_,_,_,_,.nil,e=>by simp at e
 |_,_,0,_,.cons r _,e=>by simp at e; subst e; exact⟨_,rfl,r⟩
 |_,_,i + 1,a,.cons _ t,e=>by
  obtain⟨b,h1,h2⟩:=bI (i:=i) (a:=a) t (by simpa using e);exact⟨b,by simpa using h1,h2⟩
def uo (tn:List Str)(cj:List Nat)(σ:St):St:=tn.map (fun _=>none) ++ cj.map fun j=>(σ[j]?).join
def uq {X:Cx}{pins:List (Addr×Obj)}{σ:St}{H2:Hp}{s2:Shared}{elt tg iter:Expr}{ifs:List Expr}{scope:Scope}{pos:Pos}{cl:List (Str×Addr)}{tn cn:List Str}{cj:List Nat}{g:TG}{tc:TT}{te:TE}
  {it:Addr} {fp:List Addr} {NU:Nat->Heap->Prop} {J:It} {RR:Value->Addr->Result->Shared->Prop} {E:Value->Shared->Prop} {Q:VK}
  (xE:X.calm=true) (S:rD X scope cl cn cj)
  (hg: ∀C s3 H3 fp,PG (AX X (tn ++ cn) scope cl C s3 H3 fp) tg g) (hc: ∀C s3 H3 fp,JZ (AX X (tn ++ cn) scope cl C s3 H3 fp) ifs tc) (he: ∀C s3 H3 fp,PE (AX X (tn ++ cn) scope cl C s3 H3 fp) elt te)
  (I2:Inv X pins σ H2 s2) (T:Turn X.prog X.w X.K tg J fp it NU) (Mv:NU 0 s2.heap) (f2: ∀b∈fp,tZ X pins H2 b)
  (hw:xD J g tc te (uo tn cj σ) H2 Q)
  (hRR: ∀D C (s':Shared) H' m',Inv X pins σ H' s'->tZ X pins H' C->s'.heap.Ns C m'->Q (.ref D) H'->RR (.ref D) C (.ok .next) s'):
  wpAny (model X.prog X.w) X.A (newList []) (fun acc s₃=>wpAny (model X.prog X.w) X.A (newFunctionEnv scope X.env.globals cl [] X.env.qual none .none (some X.env)) (fun Q7 s₄=>
   codeAny (model X.prog X.w) X.A (.compStart (.ListComp elt [⟨tg,iter,ifs,0⟩] scope pos) 0 (.ref it) acc {Q7 with scope:=relabel scope X.env}) (RR acc Q7.locals) s₄) E s₃) E s2:=by
 have hD0:H2 s2.heap.objs.size=none:=I2.cm.fresh (aB _);obtain⟨W,⟨m0,w0⟩,turn⟩:=hw _ hD0;refine wpAny_newObj_type (wpAny_newFunctionEnv S.cell (by intro y hy; simp at hy) (fun h₁ NV NW=>?_) S.kind);dsimp only at NV NW ⊢;have I3:Inv X pins σ (upd H2 s2.heap.objs.size (.lst [])) {s2 with heap:=s2.heap.push {cls:= .type "list",dict:=none,data:= .seq ([]:List Value).toArray}}:=I2.NL (t':=s2.toks) (ys:=[]) (bX:=[]) .nil (bq _);generalize TZ:s2.heap.push {cls:= .type "list",dict:=none,data:= .seq ([]:List Value).toArray}=HH at NV NW I3 ⊢;have hC:HH.objs.size=s2.heap.objs.size + 1:=by rw[← TZ,jU]
 have old: ∀b o,HH.get? b=some o->h₁.get? b=some o:=fun b o e=>NW.extBut b o (aU (aH e)) (ax _ e);have VB: ∀b o,s2.heap.get? b=some o->HH.get? b=some o:=fun b o e=>TZ▸ax _ e;have Q8: ∀b∈fp,b < s2.heap.objs.size:=fun b hb=>by
  obtain⟨o,e,_⟩:=T.obj 0 _ Mv b hb;exact aH e
 have T1:(AX X (tn ++ cn) scope cl HH.objs.size {s2 with heap:=HH} (upd H2 s2.heap.objs.size (.lst [])) fp).Ok:=by
  refine⟨I3.ok.mod,S.kind,I3.ok.glob,I3.ok.blt,aB _,fun x y c h1 h2=>I3.ok.inj x y c (S.sub x c h1) (S.sub y c h2),fun x hx=>S.all x hx,fun x c z=>absurd z aW,I3.ok.hd,I3.ok.frames,.inl rfl,fun b hb=>⟨?_,fun x c e z=>?_⟩,I3.bs,?_,fun b o e hb=>?_,fun b hb z=>?_,I3.stack,I3.pZ⟩
  ·show b≠HH.objs.size;rw[hC];exact aU (gj (Q8 b hb))
  ·exact(f2 b hb).2.2.2.2.1 x c (S.sub x c e) z
  ·exact aV I3.ok.Ay I3.sz
  ·rcases(f2 b hb).2.2.2.1 with z|z
   ·exact I3.ok.vR b o e z
   ·have h1:b < X.base.objs.size:=aH e;exact absurd (ba h1 (aV I3.ok.Ay z)) (iE _)
  ·rcases av.mp (I3.tW b z) with z|z
   ·exact(f2 b hb).2.1 z
   ·exact(f2 b hb).2.2.1 z
 have IY:Inv (AX X (tn ++ cn) scope cl HH.objs.size {s2 with heap:=HH} (upd H2 s2.heap.objs.size (.lst [])) fp) [] (uo tn cj σ) (upd H2 s2.heap.objs.size (.lst [])) {s2 with heap:=h₁,toks:=s2.toks + ([]:List (Str×Value)).length}:=by
  refine⟨T1,rfl,I3.bare,Un.kept old,⟨_,NV,fun i x v e1 e2 e3=>?_⟩,fun x c e=>?_,?_,fun x c e=>I3.iC x c (S.sub x c e),fun p hp=>absurd hp (by intro z; exact nomatch z),I3.cm.kept old,?_⟩
  ·have Yu:(tn ++ cn)[i]? =some x:=e1;by_cases hi:i < tn.length
   ·unfold uo at e2;rw[List.getElem?_append_left (by simpa using hi),List.getElem?_map] at e2;cases h:tn[i]? with
    |none=>rw[h] at e2; cases e2
    |some _=>rw[h] at e2; cases e2
   ·rw[oP (by lia)] at Yu;obtain⟨j,hj,hN,hk,MA⟩:=bI S.Yt Yu;unfold uo at e2;rw[List.getElem?_append_right (by simpa using hi),List.getElem?_map] at e2;simp only[List.length_map,hj,Option.map_some] at e2;have Q9:σ[j]? =some (some v):=by
     cases h:σ[j]? with
     |none=>rw[h] at e2; cases e2
     |some q=>
      rw[h] at e2;have Q9:q=some v:=aE e2;rw[Q9]
    obtain⟨m,hn,hl⟩:=I3.loc;have hv:Qv X.env.scope x:=by
     rcases hk with hk|hk
     ·exact .inr (.inl hk)
     ·exact .inr (.inr hk)
    obtain⟨u,r,l⟩:=hl j x v hN Q9 hv;refine⟨u,r,?_⟩;rcases l with⟨k,_⟩|⟨_,c,hc,lX⟩
    ·rcases hk with hk|hk <;> (rw[k] at hk; cases hk)
    ·obtain⟨c',Kx⟩:=S.all x MA;have:=S.sub x c' Kx;rw[hc] at this;cases this;obtain⟨o,ho,hd⟩:=lX;exact .inr ⟨MA,c,Kx,⟨o,old _ _ ho,hd⟩⟩
  ·obtain⟨v,o,ho,hd⟩:=I3.cell x c (S.sub x c e);exact⟨v,o,old _ _ ho,hd⟩
  ·exact I3.cm.fresh (aB _)
  ·show(uo tn cj σ).length=(tn ++ cn).length;unfold uo;rw[aF,aF,ae,ae,S.Yt.length]
 have Yv:NU 0 h₁:=T.keep 0 _ _ Mv fun b _ o e=>old b o (VB b o e);have rz: ∀{H':Hp},(∀b∈fp,H' b=none)-> ∀b∈fp,tZ (AX X (tn ++ cn) scope cl HH.objs.size {s2 with heap:=HH} (upd H2 s2.heap.objs.size (.lst [])) fp) [] H' b:=fun hn b hb=>
  ⟨hn b hb,(T1.Ku b hb).1,T1.vS b hb,.inl hb,(T1.Ku b hb).2,fun p hp=>absurd hp (by intro z; exact nomatch z)⟩
 have fp1: ∀b∈fp,upd H2 s2.heap.objs.size (.lst []) b=none:=fun b hb=>by
  rw[az (aU (Q8 b hb))];exact(f2 b hb).1
 have loop:codeAny (model X.prog X.w) X.A (.compLoop (.ListComp elt [⟨tg,iter,ifs,0⟩] scope pos) 0 (.ref it) (.ref s2.heap.objs.size) (compEnvC scope cl HH.objs.size X.env))
    (RR (.ref s2.heap.objs.size) HH.objs.size) {s2 with heap:=h₁,toks:=s2.toks + ([]:List (Str×Value)).length}:=by
  refine FI (fun n s'=> ∃i σ' H',Inv (AX X (tn ++ cn) scope cl HH.objs.size {s2 with heap:=HH} (upd H2 s2.heap.objs.size (.lst [])) fp) [] σ' H' s'/\NU i s'.heap/\(∀b∈fp,H' b=none)/\W i n σ' H') ?_ m0 ⟨0,_,_,IY,Yv,fp1,w0⟩;rintro n s3 ⟨i,σ3,H3,J3,QI,KD,w3⟩;rcases turn i n σ3 H3 w3 with⟨stop,qn⟩|⟨go,N,hN,step⟩
  ·refine dN (T.done (AX X (tn ++ cn) scope cl HH.objs.size {s2 with heap:=HH} (upd H2 s2.heap.objs.size (.lst [])) fp) rfl rfl rfl xE i [] s3 σ3 H3 _ J3 (rz KD) QI stop) fun r s4 ⟨hr,J4⟩=>?_;subst hr;obtain⟨m',UZ,_⟩:=J4.loc;exact hRR _ _ s4 H3 m' (I3.D3 (ch:=fp) J4.os J4.base J4.cm J4.bare fun b hb=>⟨(f2 b hb).2.2.2.1,(f2 b hb).2.1,(f2 b hb).2.2.2.2.1,(f2 b hb).2.2.2.2.2⟩) (I3.Fq (aB _) J4.free) UZ qn
  ·refine dN (T.item (AX X (tn ++ cn) scope cl HH.objs.size {s2 with heap:=HH} (upd H2 s2.heap.objs.size (.lst [])) fp) rfl rfl rfl xE i [] s3 σ3 H3 _ J3 (rz KD) QI go) fun r s4 ⟨u,hr,h4⟩=>?_;subst hr;refine dN h4 fun _ s5 ⟨x,H5,J5,r5,y5,Nx,PV⟩=>?_;have J5':=J5.pinned (rz PV) (T.obj _ _ Nx);refine dN (hg _ _ _ _ _ s5 σ3 H5 x u _ J5' r5 (step x H5 y5)) fun _ s6 ⟨σ6,H6,J6,q6⟩=>?_;have again: ∀{s7:Shared} {σ7:St} {H7:Hp},Inv (AX X (tn ++ cn) scope cl HH.objs.size {s2 with heap:=HH} (upd H2 s2.heap.objs.size (.lst [])) fp) ([] ++ oV fp s5.heap) σ7 H7 s7->N σ7 H7->
     ∃m,m < n/\ ∃i σ' H',Inv (AX X (tn ++ cn) scope cl HH.objs.size {s2 with heap:=HH} (upd H2 s2.heap.objs.size (.lst [])) fp) [] σ' H' s7/\NU i s7.heap/\(∀b∈fp,H' b=none)/\W i m σ' H':=fun{s7 σ7 H7} I7 n7=>by
    obtain⟨m',hm,w7⟩:=hN σ7 H7 n7;refine⟨m',hm,i + 1,σ7,H7,I7.iR,T.keep _ _ _ Nx fun b hb o e=>(I7.pin (b,o) (bp _ (bp _ (jz hb e)))).1,fun b hb=>?_,w7⟩;obtain⟨o,e,d⟩:=T.obj _ _ Nx b hb;exact(I7.pin (b,o) (bp _ (bp _ (jz hb e)))).2.1
   refine dN (hc _ _ _ _ _ s6 σ6 H6 _ J6 q6) fun ok s7 ⟨H7,J7,q7⟩=>?_;cases ok with
   |false=>exact again J7 q7
   |true=>
    refine dN (he _ _ _ _ _ s7 σ6 H7 _ J7 q7) fun y s8 ⟨yv,H8,J8,r8,ys,hD,hz,q8⟩=>?_;refine dN (xv _ s8 σ6 H8 (.ref s2.heap.objs.size) [yv] (.ref s2.heap.objs.size) [y] (fun _ H'=>N σ6 H') J8 rfl (.cons r8 .nil) ⟨_,ys,yv,rfl,rfl,hD,hz,q8⟩) fun _ s9 ⟨_,H9,J9,_,q9⟩=>?_;exact again J9 q9
 exact codeAny_compStart_list loop (T.self _ 0 _ _ _ Yv loop)
def MB (wi:TI)(tn:List Str)(cj:List Nat)(g:TG)(tc:TT)(te:TE):TE:=fun σ H Q=>wi σ H fun J H2=>xD J g tc te (uo tn cj σ) H2 Q
def iS {X:Cx}{elt tg iter:Expr}{ifs:List Expr}{scope:Scope}{pos:Pos}{cl:List (Str×Addr)}{tn cn:List Str}{cj:List Nat}{wi:TI}{g:TG}{tc:TT}{te:TE}
  (xE:X.calm=true) (S:rD X scope cl cn cj) (hi:PI X tg iter wi)
  (hg: ∀C s3 H3 fp,PG (AX X (tn ++ cn) scope cl C s3 H3 fp) tg g) (hc: ∀C s3 H3 fp,JZ (AX X (tn ++ cn) scope cl C s3 H3 fp) ifs tc) (he: ∀C s3 H3 fp,PE (AX X (tn ++ cn) scope cl C s3 H3 fp) elt te)
  (hs: ∀x,foldedSetIterable iter X.env x=pure x:=by intro _; rfl):
  PE X (.ListComp elt [⟨tg,iter,ifs,0⟩] scope pos) (MB wi tn cj g tc te):=by
 intro pins s σ H Q I h;rw[eval_ListComp];refine wpAny_comprehension_free (use:=none) rfl hs S.FJ S.kind S.names (dN (hi pins s σ H _ I h) fun v s1 h1=>dN h1 fun TU s2 h2=>?_);obtain⟨it,fp,NU,J,H2,e,I2,T,Mv,f2,hw⟩:=h2;subst e;refine uq (RR:=fun acc C=>compPost (model X.prog X.w) X.A X.xe none (EP X pins σ Q) acc C) xE S hg hc he I2 T Mv f2 hw ?_;intro D C s' H' m' I' FK hn q;exact⟨m',hn,fun h' K2=>⟨.ref D,H',I'.turned (t':=s'.toks) (fun b o hb e=>(K2.2 b hb).trans e) FK.1 FK.2.1 FK.2.2.2.1 FK.2.2.2.2.1 FK.2.2.2.2.2,rfl,q⟩⟩
def iT {X:Cx}{i:Nat}{y:Str}{py Ra:Pos}{elt tg iter:Expr}{ifs:List Expr}{scope:Scope}{pos:Pos}{cl:List (Str×Addr)}{tn cn:List Str}{cj:List Nat}{wi:TI}{g:TG}{tc:TT}{te:TE}
  (hN:X.N.Nodup) (hy:X.N[i]? =some y) (hx:Loc X.env.scope y)
  (xE:X.calm=true) (S:rD X scope cl cn cj) (hi:PI X tg iter wi)
  (hg: ∀C s3 H3 fp,PG (AX X (tn ++ cn) scope cl C s3 H3 fp) tg g) (hc: ∀C s3 H3 fp,JZ (AX X (tn ++ cn) scope cl C s3 H3 fp) ifs tc) (he: ∀C s3 H3 fp,PE (AX X (tn ++ cn) scope cl C s3 H3 fp) elt te)
  (VC:swapsWith (.ListComp elt [⟨tg,iter,ifs,0⟩] scope pos) (some (.Name y py)) Ra.line X.env=pure true:=by rfl)
  (hs: ∀x,foldedSetIterable iter X.env x=pure x:=by intro _; rfl)
  (hf:X.fn y=true∨X.env.scope.names.lookup y=some .local:=by first|exact .inl rfl|exact .inr rfl|assumption):
  PS X (.Assign [.Name y py] (.ListComp elt [⟨tg,iter,ifs,0⟩] scope pos) Ra) (KA (MB wi tn cj g tc te) (AG i)):=by
 intro pins s σ H D I h;rw[exec_Assign_Name_used _ _ _ _ VC];refine aA (hV (aA ?_));show wpAny _ X.A (do let _ ← comprehension (.ListComp elt [⟨tg,iter,ifs,0⟩] scope pos) scope X.env _ (newList []) false (eval iter X.env) (some (assign (.Name y py) X.env))) _ _ s;refine aA (b9 (wpAny_comprehension_free (use:=some (assign (.Name y py) X.env)) (Q:=fun _ s'=>SP X pins D .next s') rfl hs S.FJ S.kind S.names
  (dN (hi pins s σ H _ I h) fun v s1 h1=>dN h1 fun TU s2 h2=>?_)) (fun _ s' hq=>bA (bA hq)) fun _ _ e=>e)
 obtain⟨it,fp,NU,J,H2,e,I2,T,Mv,f2,hw⟩:=h2;subst e;refine uq (RR:=fun acc C=>compPost (model X.prog X.w) X.A X.xe (some (assign (.Name y py) X.env)) (fun _ s'=>SP X pins D .next s') acc C) xE S hg hc he I2 T Mv f2 hw ?_;intro D' C s' H' m' I' FK hn q;show wpAny _ X.A (assign (.Name y py) X.env (.ref D')) _ _ _;refine wpAny_assign_Name (xj I' hN hy hx (v:= .ref D') rfl (fun Ee I'' ⟨a,sb,ha⟩=>?_) hf);have hCa:C≠a:=by
  rcases ha with rfl|ha
  ·exact FK.2.1
  ·exact fun z=>FK.2.2.2.2.1 y a ha z.symm
 refine⟨m',hn.sameBut sb hCa,fun h3 PZ=>⟨_,H',I''.turned (t':=Ee.toks) (fun b o hb e=>(PZ.2 b hb).trans e) FK.1 FK.2.1 FK.2.2.2.1 FK.2.2.2.2.1 FK.2.2.2.2.2,q⟩⟩
def dX {K:Frag}{a:Addr}{xs:List V}{g:TG}{tc:TT}{te:TE}{σ0:St}{H2:Hp}{Q:VK}(Pv:Addr->Nat->St->Hp->Prop)(h0: ∀D,H2 D=none->Pv D 0 σ0 (upd H2 D (.lst [])))
  (hl: ∀D i σ H,i<=xs.length->Pv D i σ H->bF K H a xs)
  (hs: ∀D i x σ H,xs[i]? =some x->Pv D i σ H->g x σ H fun σ2 H2=>tc σ2 H2 fun ok H3=>if ok=true then te σ2 H3 fun y H4=> ∃ys,H4 D=some (.lst ys)/\ys.length < sizeLine/\Pv D (i + 1) σ2 (upd H4 D (.lst (ys ++ [y]))) else Pv D (i + 1) σ2 H3)
  (hd: ∀D σ H,H2 D=none->Pv D xs.length σ H->Q (.ref D) H):xD (PU K a) g tc te σ0 H2 Q:=by
 intro D hD;refine⟨fun i m σ H=>m=xs.length - i/\i<=xs.length/\Pv D i σ H,⟨xs.length,by simp,Nat.zero_le _,h0 D hD⟩,?_⟩;rintro i m σ H ⟨rfl,hi,p⟩;have q:=hl D i σ H hi p;by_cases iI:i < xs.length
 ·refine .inr ⟨⟨xs,xs[i],q,by simp[iI]⟩,Pv D (i + 1),fun σ' H' p'=>⟨xs.length - (i + 1),by lia,rfl,iI,p'⟩,fun x H' y=>?_⟩;obtain⟨e,y⟩:=y;subst e;exact hs D i x σ _ (y xs q) p
 ·have e:i=xs.length:=by lia
  subst e;exact .inl ⟨⟨xs,q,aB _⟩,hd D σ H hD p⟩
def HX {K:Frag}{a:Addr}{xs:List V}{g:TG}{tc:TT}{te:TE}{σ0:St}{H2:Hp}{Q:VK}(Pv:Addr->Nat->St->Hp->Prop)(h0: ∀D,H2 D=none->Pv D 0 σ0 (upd H2 D (.lst [])))
  (hl: ∀D i σ H,i<=xs.length->Pv D i σ H->cv K H a xs)
  (hs: ∀D i x σ H,xs[i]? =some x->Pv D i σ H->g x σ H fun σ2 H2=>tc σ2 H2 fun ok H3=>if ok=true then te σ2 H3 fun y H4=> ∃ys,H4 D=some (.lst ys)/\ys.length < sizeLine/\Pv D (i + 1) σ2 (upd H4 D (.lst (ys ++ [y]))) else Pv D (i + 1) σ2 H3)
  (hd: ∀D σ H,H2 D=none->Pv D xs.length σ H->Q (.ref D) H):xD (Vb K a) g tc te σ0 H2 Q:=by
 intro D hD;refine⟨fun i m σ H=>m=xs.length - i/\i<=xs.length/\Pv D i σ H,⟨xs.length,by simp,Nat.zero_le _,h0 D hD⟩,?_⟩;rintro i m σ H ⟨rfl,hi,p⟩;have q:=hl D i σ H hi p;by_cases iI:i < xs.length
 ·refine .inr ⟨⟨xs,xs[i],q,by simp[iI]⟩,Pv D (i + 1),fun σ' H' p'=>⟨xs.length - (i + 1),by lia,rfl,iI,p'⟩,fun x H' y=>?_⟩;obtain⟨e,y⟩:=y;subst e;exact hs D i x σ _ (y xs q) p
 ·have e:i=xs.length:=by lia
  subst e;exact .inl ⟨⟨xs,q,aB _⟩,hd D σ H hD p⟩
def C0 {lo:Int}{n:Nat}{g:TG}{tc:TT}{te:TE}{σ0:St}{H2:Hp}{Q:VK}(Pv:Addr->Nat->St->Hp->Prop)(h0: ∀D,H2 D=none->Pv D 0 σ0 (upd H2 D (.lst [])))
  (hs: ∀D i σ H,i < n->Pv D i σ H->g (.int (lo + i)) σ H fun σ2 H2=>tc σ2 H2 fun ok H3=>if ok=true then te σ2 H3 fun y H4=> ∃ys,H4 D=some (.lst ys)/\ys.length < sizeLine/\Pv D (i + 1) σ2 (upd H4 D (.lst (ys ++ [y]))) else Pv D (i + 1) σ2 H3)
  (hd: ∀D σ H,H2 D=none->Pv D n σ H->Q (.ref D) H):xD (Mt lo n) g tc te σ0 H2 Q:=by
 intro D hD;refine⟨fun i m σ H=>m=n - i/\i<=n/\Pv D i σ H,⟨n,by simp,Nat.zero_le _,h0 D hD⟩,?_⟩;rintro i m σ H ⟨rfl,hi,p⟩;by_cases iI:i < n
 ·refine .inr ⟨iI,Pv D (i + 1),fun σ' H' p'=>⟨n - (i + 1),by lia,rfl,iI,p'⟩,fun x H' y=>?_⟩;obtain⟨e,y⟩:=y;subst e y;exact hs D i σ _ iI p
 ·have e:i=n:=by lia
  subst e;exact .inl ⟨aB _,hd D σ H hD p⟩
def Inv.C1 {X:Cx}{pins:List (Addr×Obj)}{σ:St}{H:Hp}{s:Shared}{h':Heap}{a:Addr}{o:HO}{t':Nat}{ch:List Addr}(I:Inv X pins σ H s)(k: ∀b ob,b∉ch->s.heap.get? b=some ob->h'.get? b=some ob)
  (Az: ∀b∈ch,tZ X pins H b) (hp:s.heap.objs.size<=a) (new:di X.prog X.w (upd H a o) h' a o):Inv X pins σ (upd H a o) {s with heap:=h',toks:=t'}:=by
 have hn:H a=none:=I.cm.fresh hp;have Qx: ∀b u,H b=some u->b∉ch:=fun b u e z=>by rw[(Az b z).1] at e; cases e
 refine I.step (g':=s.gens) (d':=s.drawn) (ch:=ch) (fun b hb=>⟨(Az b hb).2.2.2.1,(Az b hb).2.1,(Az b hb).2.2.2.2.1,(Az b hb).2.2.2.2.2⟩) (fun b ob _ _ hc e _=>k b ob hc e) (fun b ob _ _ hc e _=>⟨ob.slots,k b ob hc e⟩)
  (fun b ob _ e n=>by rw[az (aU (ba (aH e) hp))]; exact n)
  (fun b ob hc e=>⟨ob,k b ob hc e⟩) (fun b xs e=>by rw[az (aI e hn)]; exact e) (fun b ob u e=>by rw[az (aI e hn)]; exact e) (fun b ps e=>⟨#[],by rw[az (aI e hn),e]; simp⟩) (fun m hm=>?_) (fun b u e=>?_) I.bare
 ·obtain⟨ob,es,ep,ho,r⟩:=hm;exact⟨ob,es,ep,k _ ob (fun z=>(Az _ z).2.1 rfl) ho,r⟩
 ·by_cases hb:b=a
  ·subst hb;rw[ag] at e;cases e;exact new
  ·rw[az hb] at e;refine(I.cm b u e).sT (fun c v hc q=>k c v ?_ q) (fun c q=>by rw[az (aI q hn)]; exact q) fun c xs q=>by rw[az (aI q hn)]; exact q
   rcases hc with z|z
   ·rw[z]; exact Qx b u e
   ·exact Qx c _ z
def Rb (K:Frag)(a:Addr):It:=
 ⟨fun i H=> ∃xs x,bF K H a xs/\xs[i]? =some x,fun i H x H'=> ∃p y,H p=none/\x= .ref p/\H'=upd H p (.tup [.int i,y])/\ ∀xs,bF K H a xs->xs[i]? =some y,fun i H=> ∃xs,bF K H a xs/\xs.length<=i⟩
def FL {P:Program}{w:World}{K:Frag}{elts:List Expr}{k1}{pos:Pos}(a e it:Addr)(iU:e≠it):Turn P w K (.Tuple elts k1 pos) (Rb K a) [e,it] e (fun i h=>(∃old,IsEnum h e it i old)/\h.IsListIter it a i) where
 mem:=by simp
 obj:=fun i h st b hb=>by
  obtain⟨⟨old,he⟩,hit⟩:=st;have e1:b=e∨b=it:=by simpa using hb
  rcases e1 with rfl|rfl
  ·exact⟨_,he,fun v z=>by have z':Data.fields _ =Data.cell v:=z; cases z'⟩
  ·obtain⟨o,e,c,d⟩:=hit;exact⟨o,e,fun v z=>by rw[d] at z; cases z⟩
 keep:=fun i h h' st k=>by
  obtain⟨⟨old,he⟩,hit⟩:=st;exact⟨⟨old,k e (by simp) _ he⟩,hit.at fun o e=>k it (by simp) o e⟩
 item:=by
  intro X hP hw hK hc i pins s σ H E I hf st hg;subst hP hw hK;obtain⟨⟨old,he⟩,hit⟩:=st;obtain⟨xs,x,hq,hx⟩:=hg;obtain⟨bX,rv,p,hz⟩:=I.list hq;obtain⟨u,hu,ru⟩:=rv.get hx;refine wpAny_pyNext_enum_item he hit p.isList (x:=u) (by simpa using hu) iU fun h' ho VD hT hsz hk=>⟨_,rfl,?_⟩;refine wpAny_letOwnedTupleGo_enum ho fun h2 VE PY=>?_;have iI:e < s.heap.objs.size:=aH he;have FN:h2.get? s.heap.objs.size=some {cls:= .type "tuple",data:= .seq #[.int i s.toks,u]}:=(PY.2 _ (pM iI)).trans hT;have hn:H s.heap.objs.size=none:=I.cm.fresh (aB _);have I2:Inv X pins σ (upd H s.heap.objs.size (.tup [.int i,x])) {s with heap:=h2,toks:=s.toks + 1}:=by
   refine I.C1 (ch:=[e,it]) (fun b ob hb q=>?_) hf (aB _) ⟨by show 2<=sizeLine; decide,[.int i s.toks,u],.cons ⟨_,rfl⟩ (.cons ru .nil),⟨_,FN,rfl,_,rfl⟩⟩;have pP:b≠e/\b≠it:=⟨fun z=>hb (by simp[z]),fun z=>hb (by simp[z])⟩;exact(PY.2 b pP.1).trans (hk b ob pP.1 pP.2 q)
  refine⟨.ref s.heap.objs.size,_,I2,rfl,⟨_,x,hn,rfl,rfl,fun ys hy=>by rw[I.AF hy hq]; exact hx⟩,⟨⟨u,by simpa using VE⟩,VD.at fun o q=>(PY.2 it iU.symm).trans q⟩,fun b hb=>?_⟩;have P0:=hf b hb;rw[az]
  ·exact P0.1
  ·have e1:b=e∨b=it:=by simpa using hb
   rcases e1 with rfl|rfl
   ·exact aU iI
   ·obtain⟨o,q,_⟩:=hit;exact aU (aH q)
 done:=by
  intro X hP hw hK hc i pins s σ H E I hf st hg;subst hP hw hK;obtain⟨⟨old,he⟩,hit⟩:=st;obtain⟨xs,hq,hx⟩:=hg;obtain⟨bX,rv,p,hz⟩:=I.list hq;obtain⟨f0,f1,f2,f3,f4,f5⟩:=hf it (by simp);have hl:=rv.length;exact wpAny_pyNext_enum_end (I.ok.hd hc) he hit p.isList (by simp; lia) fun h' eb=>⟨rfl,I.turned (t':=s.toks) (fun b o hb e=>eb b o hb e) f0 f1 f3 f4 f5⟩
 self:=fun _ _ _ _ _ st h=>by
  obtain⟨⟨old,he⟩,hit⟩:=st;exact wpAny_pyIter_enum he h
def Rc (K:Frag)(ta:TA):TI:=fun σ H R=>ta σ H fun vs H1=> ∃a,vs=[.ref a]/\(∃xs,bF K H1 a xs)/\R (Rb K a) H1
def qk {X:Cx}{elts:List Expr}{k1}{NB:Pos}{l:Expr}{ta:TA}{p pos:Pos}(hg:Gl X "enumerate")(hm:X.mg "enumerate"=none)(ha:PA X [l] ta)(hs:starEach [l] X.env=[(false,eval l X.env)]:=by rfl):
  PI X (.Tuple elts k1 NB) (.Call (.Name "enumerate" p) [l] [] pos) (Rc X.K ta):=by
 intro pins s σ H R I h;refine Call_ (oT I hg hm boot_enumerate (nP (dN (ha pos pins s σ H _ I h) fun us s1 ⟨vs,H1,I1,r1,q1⟩=>?_) hs rfl));obtain⟨a,e,⟨xs,hq⟩,q⟩:=q1;subst e;obtain⟨u,rfl,ru⟩:=vals1 r1;cases ru;obtain⟨bX,rv,pl,hz⟩:=I1.list hq;refine call_enumerate_list pl.isList fun h' he hit hsz kp=>?_;have I2:Inv X pins σ H1 {s1 with heap:=h'}:=I1.kept (t':=s1.toks) kp;refine wpAny_pyIter_enum he ⟨s1.heap.objs.size + 1,[s1.heap.objs.size + 1,s1.heap.objs.size],_,_,H1,rfl,I2,FL a _ _ (Nat.succ_ne_self _),⟨⟨_,he⟩,hit⟩,fun b hb=>?_,q⟩;have e1:b=s1.heap.objs.size + 1∨b=s1.heap.objs.size:=by simpa using hb
 have pP:s1.heap.objs.size<=b:=by
  rcases e1 with rfl|rfl
  ·exact cD _
  ·exact aB _
 exact I1.Fq pP (I1.cm.fresh pP)
def mB {K:Frag}{a:Addr}{xs:List V}{g:TG}{tb:TS}{D:Ends}{σ:St}{H:Hp}(Pv:Nat->St->Hp->Prop)(h0:Pv 0 σ H)(hl: ∀i σ H,i<=xs.length->Pv i σ H->bF K H a xs)
  (hs: ∀i x p σ H,xs[i]? =some x->H p=none->Pv i σ H->g (.ref p) σ (upd H p (.tup [.int i,x])) fun σ2 H2=>tb {D with nx:=Pv (i + 1),ct:=Pv (i + 1),bk:=D.nx} σ2 H2) (hd: ∀σ H,Pv xs.length σ H->D.nx σ H):
  ∃W:Nat->Nat->St->Hp->Prop,(∃m,W 0 m σ H)/\ ∀i m σ H,W i m σ H->
   ((Rb K a).stop i H/\D.nx σ H)∨((Rb K a).go i H/\ ∃N:St->Hp->Prop,(∀σ' H',N σ' H'-> ∃m',m' < m/\W (i + 1) m' σ' H')/\ ∀x H',(Rb K a).PR i H x H'->g x σ H' fun σ2 H2=>tb {D with nx:=N,ct:=N,bk:=D.nx} σ2 H2):=by
 refine⟨fun i m σ H=>m=xs.length - i/\i<=xs.length/\Pv i σ H,⟨xs.length,by simp,Nat.zero_le _,h0⟩,?_⟩;rintro i m σ H ⟨rfl,hi,p⟩;have q:=hl i σ H hi p;by_cases iI:i < xs.length
 ·refine .inr ⟨⟨xs,xs[i],q,by simp[iI]⟩,Pv (i + 1),fun σ' H' p'=>⟨xs.length - (i + 1),by lia,rfl,iI,p'⟩,fun x H' y=>?_⟩;obtain⟨pp,y,h1,e1,e2,h2⟩:=y;subst e1 e2;exact hs i y pp σ _ (h2 xs q) h1 p
 ·have e:i=xs.length:=by lia
  subst e;exact .inl ⟨⟨xs,q,aB _⟩,hd σ H p⟩
structure eQ (P:Program)(w:World)(K:Frag)(mg:Str->Option Value)(base:Heap)(x:Str)(k:Nat)(ps:List Str)(sp:Sp):Prop where
 ex: ∃(f:Addr) (fd:FuncData),lB P w K mg base rC k f fd ps sp/\mg x=some (.ref f)/\keepIn K (.ref f)=true/\Binds K fd ps []
section
variable {X:Cx}{x:Str}{k:Nat}{ps:List Str}{sp:Sp}{e:Expr}{es:List Expr}{t:TA}{p pos:Pos}
def Rf (C:eQ X.prog X.w X.K X.mg X.base x k ps sp)(hr:eL k X.A)(hg:Gl X x)(ha:PA X (e :: es) t)(qd:(x == ("__debug__":Str))=false:=by decide)
  (he:starEach (e :: es) X.env=(false,eval e X.env) :: starEach es X.env:=by rfl) (gN:(backTo pos (starEach es X.env)).any (·.1)=false:=by rfl):PE X (.Call (.Name x p) (e :: es) [] pos) (ud sp [] E0 t):=by
 obtain⟨f,fd,F,hm,hk,hb⟩:=C.ex;exact Ed F hr hg hm hk hb .nil mz ha qd he gN
def HY (C:eQ X.prog X.w X.K X.mg X.base x k ps sp)(hr:eL k X.A)(hg:Gl X x)(qd:(x == ("__debug__":Str))=false:=by decide):PE X (.Call (.Name x p) [] [] pos) (ud sp [] E0 AJ):=by
 obtain⟨f,fd,F,hm,hk,hb⟩:=C.ex;exact HF F hr hg hm hk hb .nil mz qd
end
structure Df (K:Frag)(mg:Str->Option Value)(x:Str)(st:Stmt):Prop where
 ex: ∃(f:Addr) (fd:FuncData),fV K x x st f fd/\mg x=some (.ref f)
def Df.cal {P:Program}{w:World}{K:Frag}{mg:Str->Option Value}{base:Heap}{x:Str}{st:Stmt}{N ps:List Str}{k:Nat}{sp:Sp}(D:Df K mg x st)(S:aO N ps (ay st))
  (hb: ∀(kV doc pm:Value) (an:Option Addr) (cM ct:Value) (us:List Value),us.length=ps.length->bindArgs (fnOf x x (gr st) (dj st) (ay st) .none kV doc pm an cM ct) ⟨us,[]⟩=pure (ps.zip us))
  (len: ∀vs H Q E,sp vs H Q E->vs.length=ps.length)
  (fL: ∀(f:Addr) (cM:Value) (A:Around) (outer:List Env) (s:Shared) (H:Hp) (vs:List V) (Q:VK) (E:XK),eL k (A.deeper (envOfC x (ay st) s.heap.objs.size f cM))->sp vs H Q E->
   ∃t,oq (kz rC P w K mg base N x (ay st) f cM A outer s H E).CJ (dj st) t/\t {nx:=fun _ H'=>Q .dW H',rt:=Q} (start N vs) H):eQ P w K mg base x (k + 1) ps sp:=by
 obtain⟨f,fd,F,hm⟩:=D.ex;exact⟨f,fd,F.ok S len (fL f),hm,F.kp,F.binds hb⟩
def yy {X:Cx}{scope:Scope}(xk: ∀y∈scope.names,y.2≠ .free:=by decide +kernel)(lX: ∀y∈scope.names,y.2≠ .cell:=by decide +kernel)(mw:scope.kind= .function:=by rfl)(ur: ∀x∈scope.names,x.2= .local->scope.names.lookup x.1=some .local:=by decide +kernel):rD X scope [] [] []:=by
 have e:(relabel scope X.env).names=scope.names:=map_eq_self (l:=scope.names) (fun x hx=>by
  obtain⟨n,k⟩:=x;have:(k == NameKind.free)=false:=by simpa using xk _ hx
  simp[this])
 refine⟨closureFor_none xk,lX,mw,ur,fun x c h=>by simp at h,fun x h=>?_,.nil⟩;rw[e] at h;rcases h with h|h
 ·exact absurd rfl (lX _ (b0 h))
 ·exact absurd rfl (xk _ (b0 h))
def iN {X:Cx}{scope:Scope}{x:Str}{c:Addr}{j:Nat}(FJ:closureFor scope X.env=pure [(x,c)]:=by rfl)(lX: ∀y∈scope.names,y.2≠ .cell:=by decide +kernel)(mw:scope.kind= .function:=by rfl)(ur: ∀x∈scope.names,x.2= .local->scope.names.lookup x.1=some .local:=by decide +kernel)
  (hx:X.env.cells.lookup x=some c:=by rfl) (Am:List (Str×NameKind)) (Rg:(relabel scope X.env).names=Am:=by rfl) (Cq: ∀y∈Am,(y.2= .cell∨y.2= .free)->y.1=x:=by decide +kernel) (hN:X.N[j]? =some x:=by rfl) (hk:X.env.kindOf x=some .cell∨X.env.kindOf x=some .free:=by exact Or.inl rfl)
  (MA:(relabel scope X.env).names.lookup x=some .cell∨(relabel scope X.env).names.lookup x=some .free:=by exact Or.inl rfl):rD X scope [(x,c)] [x] [j]:=by
 refine⟨FJ,lX,mw,ur,fun y c' h=>?_,fun y h=>?_,.cons ⟨hN,hk,MA⟩ .nil⟩
 ·have h':=b0 h;have e:(y,c')=(x,c):=by simpa using h'
  cases e;exact hx
 ·have e:y=x:=by
   rcases h with h|h
   ·rw[Rg] at h;exact Cq _ (b0 h) (.inl rfl)
   ·rw[Rg] at h;exact Cq _ (b0 h) (.inr rfl)
  subst e;exact⟨c,by simp[List.lookup_cons]⟩
section
variable {X:Cx}
def Rh (i j:Int):Prop:=Builtin.Int.intBits i<=2 ^ 20/\Builtin.Int.intBits j<=2 ^ 20
def K3:nW X (binaryOp .Mult) (rI Rh fun i j=> .int (i * j)):=QJ fun _ _ _ _ _ _ _ hc q=>mul_int q (.of_bits hc.1 hc.2)
end
section
variable {prog:Program}{w:World}{A:Around}{E:Value->Shared->Prop}{s:Shared}
end
section
variable {X:Cx}
def C2:gE X (.builtin "isinstance") (fun xs H Q=> ∃x c t b,xs=[x,.ty c]/\l8 X.K H x t/\PySem.W.kitOne X.K t (.type c)=some b/\Q (.bl b) H):=by
 intro pins s σ H xs us Q I r h;obtain⟨x,c,t,b,rfl,ty,e,q⟩:=h;obtain⟨u,u2,rfl,r1,r2⟩:=vals2 r;obtain rfl:u2=Value.type c:=r2;exact Fx I r1 ty e fun tk=>⟨.bl b,H,I.tok _,rfl,q⟩
def Em: ∀{cs:List String} {us:List Value},Vals (cs.map V.ty) us->us=cs.map Value.type
 |[],_,r=>by rw[vK] at r; cases r; rfl
 |c :: cs,_,r=>by
  rw[cS] at r;cases r with
  |cons r1 r2=>
   have e1:_ =Value.type c:=r1;rw[e1,Em r2,cS]
def C3 {pins:List (Addr×Obj)}{σ:St}{H:Hp}{s:Shared}{A:Around}{E:Value->Shared->Prop}{Q:Value->Shared->Prop}{x:V}{u t:Value}{tp:Addr}{cs:List String}{b:Bool}(I:Inv X pins σ H s)(rx:RelV x u)(ty:l8 X.K H x t)
  (hp:H tp=some (.tup (cs.map V.ty))) (e:PySem.W.kitAny X.K t (cs.map Value.type)=some b) (h: ∀tk,Q (.bool b) {s with toks:=tk}):
  wpAny (model X.prog X.w) A (call (.builtin "isinstance") [u,.ref tp]) Q E s:=by
 obtain⟨_,bX,rv,⟨cl,dd,dt,sl⟩,hg,hc,n,hd⟩:=(show di X.prog X.w H s.heap tp (.tup (cs.map V.ty)) from I.cm tp _ hp);have ei:=Em rv;subst ei;simp only at hc hd;subst hc hd;cases ty with
 |dW=>cases(show u=Value.none from rx); exact dU PySem.W.kitx_none I.gx True.intro hg e (fun z=>nomatch z) h
 |bl y=>cases(show u=Value.bool y from rx); exact dU PySem.W.kitx_bool I.gx True.intro hg e (fun z=>nomatch z) h
 |int i=>obtain⟨t,q⟩:=(show ∃t,u=Value.int i t from rx); cases q; exact dU PySem.W.kitx_int I.gx True.intro hg e (fun z=>nomatch z) h
 |str y=>obtain⟨t,q⟩:=(show ∃t,u=Value.str y t from rx); cases q; exact dU PySem.W.kitx_str I.gx True.intro hg e (fun z=>nomatch z) h
 |Kr y=>obtain⟨t,q⟩:=(show ∃t,u=Value.float y t from rx); cases q; exact dU PySem.W.kitx_float I.gx True.intro hg e (fun z=>nomatch z) h
 | @lst a xs ea=>
  cases(show u=Value.ref a from rx);obtain⟨_,_,n,_,h1⟩:=(show di X.prog X.w H s.heap a (.lst xs) from I.cm a _ ea);exact dU ra I.gx ⟨_,h1,rfl⟩ hg e (fun z=>nomatch z) h
 | @Cp a ob xs ea=>
  cases(show u=Value.ref a from rx);obtain⟨_,_,_,n,_,h1⟩:=(show di X.prog X.w H s.heap a (.Cp ob (.lst xs)) from I.cm a _ ea);exact dU ra I.gx ⟨_,h1,rfl⟩ hg e (fun z=>nomatch z) h
 | @tup a xs ea=>
  cases(show u=Value.ref a from rx);obtain⟨_,_,_,p⟩:=(show di X.prog X.w H s.heap a (.tup xs) from I.cm a _ ea);obtain⟨o,h1,h2,_⟩:=p;exact dU PySem.W.kitx_tuple I.gx ⟨o,h1,h2⟩ hg e (fun z=>nomatch z) h
 | @dK a a9 ea=>
  cases(show u=Value.ref a from rx);obtain⟨_,_,vs,_,p⟩:=(show di X.prog X.w H s.heap a (.dK a9) from I.cm a _ ea);obtain⟨o,es,ep,h1,h2,_⟩:=p;exact dU rg I.gx ⟨o,h1,h2.1⟩ hg e (fun z=>nomatch z) h
 | @dT a a9 ea=>
  cases(show u=Value.ref a from rx);obtain⟨_,_,xs,_,o,es,ep,h1,h2,_⟩:=(show di X.prog X.w H s.heap a (.dT a9) from I.cm a _ ea);exact dU rg I.gx ⟨o,h1,h2.1⟩ hg e (fun z=>nomatch z) h
 | @ins a C dx fs ea cl ha hn mv hm=>
  cases(show u=Value.ref a from rx);obtain⟨mA,O,_⟩:=qb I.cm ea;obtain⟨od,J,_⟩:=O.look;exact dU (PySem.W.kitx_own (cl.get _) cl.hd ha hn mv hm) I.gx J hg e (fun z=>nomatch z) h
def C4:gE X (.builtin "isinstance") (fun xs H Q=> ∃(x:V) (tp:Addr) (cs:List String) (t:Value) (b:Bool),xs=[x,.ref tp]/\H tp=some (.tup (cs.map V.ty))/\l8 X.K H x t/\PySem.W.kitAny X.K t (cs.map Value.type)=some b/\Q (.bl b) H):=by
 intro pins s σ H xs us Q I r h;obtain⟨x,tp,cs,t,b,rfl,hp,ty,e,q⟩:=h;obtain⟨u,u2,rfl,r1,r2⟩:=vals2 r;obtain rfl:u2=Value.ref tp:=r2;exact C3 I r1 ty hp e fun tk=>⟨.bl b,H,I.tok _,rfl,q⟩
def NX (K:Frag):R2:=fun x y H Q=> ∃a b xs,x= .ref a/\y= .ref b/\bF K H a xs/\bF K H b []/\Q (.bl (!xs.isEmpty)) H
def HZ {n:Nat}(hu:X.A.units + n < cLine):nW X (compareOp .NotEq) (NX X.K):=by
 intro pins s σ H x y v u Q I rx ry h;obtain⟨a,b,xs,rfl,rfl,ha,hb,q⟩:=h;cases rx;cases ry;obtain⟨bX,r1,p1,_⟩:=I.list ha;obtain⟨FA,r2,p2,_⟩:=I.list hb;have e2:FA=[]:=r2.zero;subst e2;cases xs with
 |nil=>
  have e1:bX=[]:=r1.zero;subst e1;exact SeqAt.RcNeAt.lists (e:=fun _=>true) p1.isList p2.isList rfl (by lia) (fun j h1 _=>absurd h1 (by simp)) X.prog X.w X.xe _ ⟨.bl false,H,I,rfl,q⟩
 |cons z zs=>
  have l1:=r1.length;exact SeqAt.RcNeAt.lists_lengths p1.isList p2.isList (by simp only[List.size_toArray,← l1]; simp) (by lia) X.prog X.w X.xe _ ⟨.bl true,H,I,rfl,q⟩
def VF (K:Frag):R2:=fun x y H Q=> ∃p xs i v,x= .ref p/\y= .int i/\(bF K H p xs∨cv K H p xs)/\tF xs i=some v/\Q v H
def MC:HL X (VF X.K):=by
 intro value slice pins s σ H x y v u Q I rx ry h hs;obtain⟨p,xs,i,z,e1,e2,hq|hq,he,q⟩:=h
 ·exact yr value slice pins s σ H x y v u Q I rx ry ⟨p,xs,i,z,e1,e2,hq,he,q⟩ hs
 ·exact CS value slice pins s σ H x y v u Q I rx ry ⟨p,xs,i,z,e1,e2,hq,he,q⟩ hs
end
def aG.new {H:Hp}{p:Addr}{o:HO}(h:H p=none):aG H (upd H p o):=fun b u e=>by rw[az (aI e h)]; exact e
def VG (t u:TS):TS:=fun D σ H=> ∃M:St->Hp->Prop,t {D with nx:=M} σ H/\ ∀σ' H',M σ' H'->u D σ' H'
def jk {X:Cx}{st:Stmt}{rest:List Stmt}{t u:TS}(h1:PS X st t)(h2:oq X rest u):oq X (st :: rest) (VG t u):=by
 intro pins s σ H D I ⟨M,h,hM⟩;refine wpAny_execs_cons (dN (h1 pins s σ H {D with nx:=M} I h) fun f s1 q=>?_);cases f with
 |next=>
  obtain⟨σ',H',I',q⟩:=q;exact h2 pins s1 σ' H' D I' (hM _ _ q)
 |ret v=>exact q
 |brk=>exact q
 |cont=>exact q
section
variable {X:Cx}{K:Frag}
def iV (h:X.K=K):HL X (NF K):=by subst h; exact yr
def tH (h:X.K=K):HL X (NG K):=by subst h; exact CS
end
inductive Dt where
 |dW|bl (b:Bool)|int (i:Int)|str (x:Str)|tup (ds:List Dt)|lst (ds:List Dt)
mutual
def Rp (H:Hp):Dt->V->Prop
 | .dW,v=>v= .dW
 | .bl b,v=>v= .bl b
 | .int i,v=>v= .int i
 | .str x,v=>v= .str x
 | .tup ds,v=> ∃a xs,v= .ref a/\H a=some (.tup xs)/\iy H ds xs
 | .lst ds,v=> ∃a xs,v= .ref a/\H a=some (.lst xs)/\iy H ds xs
def iy (H:Hp):List Dt->List V->Prop
 |[],vs=>vs=[]
 |d :: ds,vs=> ∃v r,vs=v :: r/\Rp H d v/\iy H ds r
end
mutual
def Dt.size:Dt->Nat
 | .tup ds=>1 + Dt.fb ds
 | .lst ds=>1 + Dt.fb ds
 | .dW=>1
 | .bl _=>1
 | .int _=>1
 | .str _=>1
def Dt.fb:List Dt->Nat
 |[]=>0
 |d :: ds=>d.size + Dt.fb ds
end
def Dt.size_pos (d:Dt):1<=d.size:=by cases d <;> simp[Dt.size]
def Dt.hX (a b:List Dt):Dt.fb (a ++ b)=Dt.fb a + Dt.fb b:=by
 induction a with
 |nil=>simp[Dt.fb]
 |cons d ds ih=>simp[Dt.fb,ih]; lia
def Dt.ql (a:List Dt):a.length<=Dt.fb a:=by
 induction a with
 |nil=>simp[Dt.fb]
 |cons d ds ih=>
  have:=d.size_pos;simp[Dt.fb]; lia
def uu {H:Hp}{v:V}:Rp H .dW v↔v= .dW:=by unfold Rp; exact Iff.rfl
def qm {H:Hp}{v:V}{b:Bool}:Rp H (.bl b) v↔v= .bl b:=by unfold Rp; exact Iff.rfl
def d9 {H:Hp}{v:V}{i:Int}:Rp H (.int i) v↔v= .int i:=by unfold Rp; exact Iff.rfl
def gO {H:Hp}{v:V}{x:Str}:Rp H (.str x) v↔v= .str x:=by unfold Rp; exact Iff.rfl
def jB {H:Hp}{v:V}{ds:List Dt}:Rp H (.tup ds) v↔ ∃a xs,v= .ref a/\H a=some (.tup xs)/\iy H ds xs:=by unfold Rp; exact Iff.rfl
def jC {H:Hp}{v:V}{ds:List Dt}:Rp H (.lst ds) v↔ ∃a xs,v= .ref a/\H a=some (.lst xs)/\iy H ds xs:=by unfold Rp; exact Iff.rfl
def dJ {H:Hp}{vs:List V}:iy H [] vs↔vs=[]:=by unfold iy; exact Iff.rfl
def bQ {H:Hp}{d:Dt}{ds:List Dt}{vs:List V}:iy H (d :: ds) vs↔ ∃v r,vs=v :: r/\Rp H d v/\iy H ds r:=by
 conv=>lhs; unfold iy
mutual
def Rp.mono {H H':Hp}(s:aG H H'): ∀(d:Dt) {v:V},Rp H d v->Rp H' d v
 | .dW,_,h=>uu.mpr (uu.mp h)
 | .bl _,_,h=>qm.mpr (qm.mp h)
 | .int _,_,h=>d9.mpr (d9.mp h)
 | .str _,_,h=>gO.mpr (gO.mp h)
 | .tup ds,_,h=>by
  obtain⟨a,xs,e,h1,h2⟩:=jB.mp h;exact jB.mpr ⟨a,xs,e,s _ _ h1,iy.mono s ds h2⟩
 | .lst ds,_,h=>by
  obtain⟨a,xs,e,h1,h2⟩:=jC.mp h;exact jC.mpr ⟨a,xs,e,s _ _ h1,iy.mono s ds h2⟩
def iy.mono {H H':Hp}(s:aG H H'): ∀(ds:List Dt) {vs:List V},iy H ds vs->iy H' ds vs
 |[],_,h=>dJ.mpr (dJ.mp h)
 |d :: ds,_,h=>by
  obtain⟨v,r,e,h1,h2⟩:=bQ.mp h;exact bQ.mpr ⟨v,r,e,Rp.mono s d h1,iy.mono s ds h2⟩
end
def iy.length {H:Hp}: ∀{ds:List Dt} {vs:List V},iy H ds vs->ds.length=vs.length
 |[],_,h=>by rw[dJ.mp h]; rfl
 |d :: ds,_,h=>by
  obtain⟨v,r,e,_,h2⟩:=bQ.mp h;rw[e,bU,bU,iy.length h2]
def iy.get {H:Hp}: ∀{ds:List Dt} {vs:List V} {i:Nat} {d:Dt},iy H ds vs->ds[i]? =some d-> ∃v,vs[i]? =some v/\Rp H d v
 |[],_,_,_,_,e=>by simp at e
 |d :: ds,_,0,_,h,e=>by
  obtain⟨v,r,rfl,h1,_⟩:=bQ.mp h;simp at e; subst e;exact⟨v,rfl,h1⟩
 |d :: ds,_,i + 1,_,h,e=>by
  obtain⟨v,r,rfl,_,h2⟩:=bQ.mp h;obtain⟨u,h3,h4⟩:=iy.get (i:=i) h2 (by simpa using e);exact⟨u,by simpa using h3,h4⟩
def iy.append {H:Hp}: ∀{ds es:List Dt} {vs us:List V},iy H ds vs->iy H es us->iy H (ds ++ es) (vs ++ us)
 |[],_,_,_,h,h'=>by rw[dJ.mp h]; exact h'
 |d :: ds,_,_,_,h,h'=>by
  obtain⟨v,r,rfl,h1,h2⟩:=bQ.mp h;exact bQ.mpr ⟨v,r ++ _,rfl,h1,iy.append h2 h'⟩
def iy.one {H:Hp}{d:Dt}{v:V}(h:Rp H d v):iy H [d] [v]:=bQ.mpr ⟨v,[],rfl,h,dJ.mpr rfl⟩
def iy.ints {H:Hp}: ∀(ns:List Int),iy H (ns.map Dt.int) (ns.map V.int)
 |[]=>dJ.mpr rfl
 |n :: ns=>bQ.mpr ⟨_,_,rfl,d9.mpr rfl,iy.ints ns⟩
def lF {H:Hp}{a:Addr}{xs:List V}{ds:List Dt}(h:H a=some (.lst xs))(r:iy H ds xs):Rp H (.lst ds) (.ref a):=jC.mpr ⟨a,xs,rfl,h,r⟩
def fM {H:Hp}{a:Addr}{xs:List V}{ds:List Dt}(h:H a=some (.tup xs))(r:iy H ds xs):Rp H (.tup ds) (.ref a):=jB.mpr ⟨a,xs,rfl,h,r⟩
def NY:Dt->String
 | .dW=>"NoneType"| .bl _=>"bool"| .int _=>"int"| .str _=>"str"| .tup _=>"tuple"| .lst _=>"list"
def Rp.ty {K:Frag}{H:Hp}{d:Dt}{v:V}(h:Rp H d v):l8 K H v (.type (NY d)):=by
 cases d with
 |dW=>rw[uu.mp h]; exact .dW
 |bl b=>rw[qm.mp h]; exact .bl b
 |int i=>rw[d9.mp h]; exact .int i
 |str x=>rw[gO.mp h]; exact .str x
 |tup ds=>obtain⟨a,xs,e,h1,_⟩:=jB.mp h; rw[e]; exact .tup h1
 |lst ds=>obtain⟨a,xs,e,h1,_⟩:=jC.mp h; rw[e]; exact .lst h1
def VH:Dt->Bool| .lst _=>true|_=>false
def VI:Dt->Bool| .tup _=>true|_=>false
def isLT:Dt->Bool| .lst _=>true| .tup _=>true|_=>false
def T2:Dt->Bool| .str _=>true|_=>false
def isB:Dt->Bool| .bl _=>true|_=>false
def Yw:Dt->Bool| .int _=>true| .bl _=>true|_=>false
def isW:Dt->Bool| .int _=>true|_=>false
def Ia {K:Frag}(d:Dt):PySem.W.kitOne K (.type (NY d)) (.type "list")=some (VH d):=by cases d <;> (first|rfl|decide +kernel)
def Ib {K:Frag}(d:Dt):PySem.W.kitOne K (.type (NY d)) (.type "tuple")=some (VI d):=by cases d <;> (first|rfl|decide +kernel)
def xF {K:Frag}(d:Dt):PySem.W.kitOne K (.type (NY d)) (.type "str")=some (T2 d):=by cases d <;> (first|rfl|decide +kernel)
def MD {K:Frag}(d:Dt):PySem.W.kitOne K (.type (NY d)) (.type "bool")=some (isB d):=by cases d <;> (first|rfl|decide +kernel)
def Ri {K:Frag}(d:Dt):PySem.W.kitOne K (.type (NY d)) (.type "int")=some (Yw d):=by cases d <;> (first|rfl|decide +kernel)
def NZ {K:Frag}(d:Dt):PySem.W.kitAny K (.type (NY d)) [.type "list",.type "tuple"]=some (isLT d):=by
 unfold PySem.W.kitAny;rw[Ia];cases d <;> (first|rfl|(show PySem.W.kitAny K _ [.type "tuple"]=_; unfold PySem.W.kitAny; rw[Ib]; rfl))
def sj {α β:Type}{F:α->β->Prop}: ∀{l₁:List α} {l₂:List β} {y:β},Paired F l₁ l₂->l₂[l₂.length - 1]? =some y-> ∃l d,l₁=l ++ [d]/\F d y/\Paired F l l₂.dropLast
 |_,_,_,.nil,e=>by simp at e
 |a :: l₁,b :: l₂,y,.cons r t,e=>by
  cases t with
  |nil=>
   simp at e; subst e;exact⟨[],a,rfl,r,.nil⟩
  |cons r' t'=>
   rename_i a' b' m₁ m₂;have e':(b' :: m₂)[(b' :: m₂).length - 1]? =some y:=by
    have h1:(b :: b' :: m₂).length - 1=((b' :: m₂).length - 1) + 1:=by simp
    rw[h1] at e;simpa using e
   obtain⟨l,d,e1,h1,h2⟩:=sj (.cons r' t') e';refine⟨a :: l,d,by rw[e1]; rfl,h1,?_⟩;rw[List.dropLast_cons_of_ne_nil (by simp)];exact .cons r h2
def lG (H H':Hp)(d:Dt)(v:V):Prop:= ∃t u1 u2,v= .ref t/\H' t=some (.tup [u1,u2])/\Rp H d u1/\Rp H d u2
def lG.mono {H H' H2:Hp}{d:Dt}{v:V}(h:lG H H' d v)(k: ∀b xs,H' b=some (.tup xs)->H2 b=some (.tup xs)):lG H H2 d v:=by
 obtain⟨t,u1,u2,e,h1,h2⟩:=h;exact⟨t,u1,u2,e,k _ _ h1,h2⟩
def Ic {H:Hp}{p:Addr}{o:HO}(h:H p=none): ∀b xs,H b=some (.tup xs)->upd H p o b=some (.tup xs):=fun b xs e=>aG.new h b _ e
def dE {H:Hp}{p:Addr}{o:HO}{ys:List V}(h:H p=some (.lst ys)): ∀b xs,H b=some (.tup xs)->upd H p o b=some (.tup xs):=fun b xs e=>by
 rw[az (lW e h (by intro z; cases z))]; exact e
def aG.cZ {H0 H:Hp}{p:Addr}{o:HO}(s:aG H0 H)(h:H0 p=none):aG H0 (upd H p o):=fun b u e=>by
 rw[az (aI e h)]; exact s b u e
def kids:Dt->List Dt
 | .tup ds=>ds
 | .lst ds=>ds
 |_=>[]
def En {H:Hp}{d:Dt}{v:V}(h:Rp H d v)(hd:isLT d=true): ∃a xs,v= .ref a/\(∀(K:Frag) (H':Hp),aG H H'->bF K H' a xs∨cv K H' a xs)/\iy H (kids d) xs:=by
 cases d with
 |tup ds=>
  obtain⟨a,xs,e,h1,h2⟩:=jB.mp h;exact⟨a,xs,e,fun K H' s=> .inr (cv.of (s _ _ h1)),h2⟩
 |lst ds=>
  obtain⟨a,xs,e,h1,h2⟩:=jC.mp h;exact⟨a,xs,e,fun K H' s=> .inl (bF.of (s _ _ h1)),h2⟩
 |_=>cases hd
def FO {d:Dt}(hd:isLT d=true):d.size=1 + Dt.fb (kids d):=by
 cases d with
 |tup ds=>simp[Dt.size,kids]
 |lst ds=>simp[Dt.size,kids]
 |_=>cases hd
mutual
def Dt.plain:Dt->Bool
 | .int _=>true
 | .str _=>true
 | .tup ds=>Dt.lH ds
 | .lst ds=>Dt.lH ds
 | .dW=>false
 | .bl _=>false
def Dt.lH:List Dt->Bool
 |[]=>true
 |d :: ds=>d.plain && Dt.lH ds
end
def Dt.o4 {ds:List Dt}:Dt.lH ds=true↔ ∀d∈ds,d.plain=true:=by
 induction ds with
 |nil=>simp[Dt.lH]
 |cons d ds ih=>simp[Dt.lH,ih]
def C5 {d:Dt}(h:d.plain=true): ∀c∈kids d,c.plain=true:=by
 cases d with
 |tup ds=>exact Dt.o4.mp (by simpa[Dt.plain,kids] using h)
 |lst ds=>exact Dt.o4.mp (by simpa[Dt.plain,kids] using h)
 |_=>intro c hc; cases hc
def sV {ds:List Dt}{i:Nat}{d:Dt}(h:ds[i]? =some d):ds.take (i + 1)=ds.take i ++ [d]:=by rw[Fd,h]; rfl
def vX (ds:List Dt)(i:Nat):Dt.fb (ds.take i)<=Dt.fb ds:=by
 have:=Dt.hX (ds.take i) (ds.drop i);rw[List.take_append_drop] at this;lia
def iO {n:Nat}(h:n<=1000000):n < sizeLine:=pN h (by rw[eJ]; decide)
open PySem.W
def jD {α:Type}(key:Nat->Int)(n:Nat)(Po:α->Prop):KasT α->Prop
 | .ret a=>Po a
 | .ask i j k=>i < n/\j < n/\jD key n Po (k (decide (key i < key j)))
def gP {α:Type}{key:Nat->Int}{n:Nat}{Po Yx:α->Prop}(h: ∀a,Po a->Yx a): ∀(t:KasT α),jD key n Po t->jD key n Yx t
 | .ret a,q=>h a q
 | .ask i j k,q=>⟨q.1,q.2.1,gP h _ q.2.2⟩
def iJ {α β:Type}{key:Nat->Int}{n:Nat}{Po:β->Prop}{f:α->KasT β}: ∀(t:KasT α),jD key n (fun a=>jD key n Po (f a)) t->jD key n Po (t.bind f)
 | .ret a,q=>q
 | .ask i j k,q=>⟨q.1,q.2.1,iJ _ q.2.2⟩
def uv {α:Type}{key:Nat->Int}{n:Nat}{Po:α->Prop}{cmp:Nat->Nat->(Bool->Shared->Prop)->Shared->Prop}{s:Shared}{Q:α->Shared->Prop}
  (hc: ∀i j (C:Bool->Shared->Prop),i < n->j < n->C (decide (key i < key j)) s->cmp i j C s) (hq: ∀a,Po a->Q a s): ∀(t:KasT α),jD key n Po t->t.kasWp cmp Q s
 | .ret a,q=>hq a q
 | .ask i j k,q=>hc i j _ q.1 q.2.1 (uv hc hq _ q.2.2)
def kf (key:Nat->Int)(p:Array Nat)(i:Nat):Int:=key (p.getD i 0)
def qo (n:Nat)(p:Array Nat):Prop:=p.Perm (List.toArray (List.range n))
def qo.size {n:Nat}{p:Array Nat}(h:qo n p):p.size=n:=by
 have:=Array.Perm.size_eq h;simpa using this
def qo.lt {n:Nat}{p:Array Nat}(h:qo n p)(h0:0 < n)(i:Nat):p.getD i 0 < n:=by
 by_cases hi:i < p.size
 ·have e:p.getD i 0=p[i]:=by simp[Array.getD,hi]
  rw[e];have hm:p[i]∈p:=Array.getElem_mem hi;have:=(Array.Perm.mem_iff h).mp hm;simpa using this
 ·have e:p.getD i 0=0:=by simp[Array.getD,hi]
  rw[e]; exact h0
def qp {p q:Array Nat}{i j:Nat}(h:p[i]? =q[j]?):p.getD i 0=q.getD j 0:=by
 rw[Km,Km,h]
def o5 {key:Nat->Int}{p:Array Nat}{i j:Nat}(hj:j<=p.size)(a:Nat):kf key (kas_rev p i j) a=if i<=a/\a < j then kf key p (i + j - 1 - a) else kf key p a:=by
 have:=getElem?_mirror_all (xs:=p) (i:=i) hj a;by_cases h:i<=a/\a < j
 ·rw[aZ h] at this ⊢;exact cQ key (qp this)
 ·rw[aL h] at this ⊢;exact cQ key (qp this)
def qo.rev {n:Nat}{p:Array Nat}(h:qo n p)(i j:Nat):qo n (kas_rev p i j):=(mirror_perm p i j _).trans h
def Ie {key:Nat->Int}{p:Array Nat}{src d:Nat}(hs:src < p.size)(hd:d<=src)(k:Nat):kf key (bubble p src d) k=if k=src - d then kf key p src else if src - d < k/\k<=src then kf key p (k - 1) else kf key p k:=by
 have:=getElem?_bubble (xs:=p) hs d hd k;by_cases h:k=src - d
 ·rw[aZ h] at this ⊢;exact cQ key (qp this)
 ·rw[aL h] at this ⊢;by_cases h2:src - d < k/\k<=src
  ·rw[aZ h2] at this ⊢;exact cQ key (qp this)
  ·rw[aL h2] at this ⊢;exact cQ key (qp this)
def kO (key:Nat->Int)(p:Array Nat)(m:Nat):Prop:= ∀a b,a<=b->b < m->kf key p a<=kf key p b
def Ig (key:Nat->Int)(p:Array Nat)(m:Nat):Prop:= ∀a b,a<=b->b < m->kf key p b<=kf key p a
section
variable {key:Nat->Int}{n:Nat}
def Ih {p:Array Nat}(hp:qo n p)(h0:0 < n): ∀(f m:Nat),1<=m->kO key p m->jD key n (fun r=>m<=r/\r<=m + f/\kO key p r/\(r=m + f∨kf key p r < kf key p (r - 1))) (kas_asc p f m)
 |0,m,h1,hs=>⟨aB _,aB _,hs,.inl rfl⟩
 |f + 1,m,h1,hs=>by
  unfold kas_asc;refine⟨hp.lt h0 _,hp.lt h0 _,?_⟩;by_cases c:key (p.getD m 0) < key (p.getD (m - 1) 0)
  ·rw[decide_eq_true c]; dsimp only; rw[if_pos rfl];exact⟨aB _,by lia,hs,.inr c⟩
  ·rw[decide_eq_false c]; dsimp only; rw[if_neg Bool.false_ne_true];have K2:kO key p (m + 1):=by
    intro a b G9 hb;by_cases K4:b < m
    ·exact hs a b G9 K4
    ·have e:b=m:=by lia
     subst e;by_cases N0:a=b
     ·rw[N0]; exact eu _
     ·have h2:=hs a (b - 1) (by lia) (by lia);have h3:kf key p (b - 1)<=kf key p b:=by unfold kf; lia
      lia
   refine gP (fun r ⟨q1,q2,q3,q4⟩=>⟨by lia,by lia,q3,?_⟩) _ (Ih hp h0 f (m + 1) (by lia) K2);rcases q4 with q4|q4
   ·exact .inl (by lia)
   ·exact .inr q4
def yz (h0:0 < n): ∀(f:Nat) (p:Array Nat) (m q:Nat),qo n p->m + f<=n->q + 1<=m->Ig key p m->(∀a,m - (q + 1)<=a->a < m->kf key p a=kf key p (m - 1))->
  jD key n (fun r=>qo n r.1/\1<=r.2.1/\r.2.1<=n/\r.2.2 + 1<=r.2.1/\Ig key r.1 r.2.1/\ ∀a,r.2.1 - (r.2.2 + 1)<=a->a < r.2.1->kf key r.1 a=kf key r.1 (r.2.1 - 1)) (kas_desc f p m q)
 |0,p,m,q,hp,hm,hq,hs,he=>⟨hp,(by show 1<=m; lia),(by show m<=n; lia),hq,hs,he⟩
 |f + 1,p,m,q,hp,hm,hq,hs,he=>by
  unfold kas_desc;have dn: ∀{r:Array Nat},(∀a,a < m->kf key r a=kf key p a)->kf key r m=kf key p m->kf key p m<=kf key p (m - 1)->Ig key r (m + 1):=by
   intro r hr Rj c a b G9 hb;by_cases K4:b < m
   ·rw[hr a (by lia),hr b K4]; exact hs a b G9 K4
   ·have e:b=m:=by lia
    subst e;by_cases N0:a=b
    ·rw[N0]; exact eu _
    ·rw[Rj,hr a (by lia)];have h2:=hs a (b - 1) (by lia) (by lia);lia
  refine⟨hp.lt h0 _,hp.lt h0 _,?_⟩;by_cases c:key (p.getD m 0) < key (p.getD (m - 1) 0)
  ·rw[decide_eq_true c]; dsimp only; rw[if_pos rfl];have c':kf key p m<=kf key p (m - 1):=by unfold kf; lia
   have last: ∀{r:Array Nat} (a:Nat),m + 1 - (0 + 1)<=a->a < m + 1->kf key r a=kf key r (m + 1 - 1):=fun{r} a h1 h2=>by
    have e:a=m + 1 - 1:=by lia
    rw[e]
   by_cases Yy:q > 0
   ·rw[aZ Yy];have hz:m<=p.size:=by rw[hp.size]; lia
    have hr: ∀a,a < m->kf key (kas_rev p (m - (q + 1)) m) a=kf key p a:=fun a ha=>by
     rw[o5 hz];split
     ·rename_i h;rw[he a h.1 h.2,he _ (by lia) (by lia)]
     ·rfl
    have Rj:kf key (kas_rev p (m - (q + 1)) m) m=kf key p m:=by rw[o5 hz,aL (by lia)]
    exact yz h0 f _ (m + 1) 0 (hp.rev _ _) (by lia) (by lia) (dn hr Rj c') last
   ·rw[aL Yy];exact yz h0 f p (m + 1) 0 hp (by lia) (by lia) (dn (fun _ _=>rfl) rfl c') last
  ·rw[decide_eq_false c]; dsimp only; rw[if_neg Bool.false_ne_true];refine⟨hp.lt h0 _,hp.lt h0 _,?_⟩;by_cases d:key (p.getD (m - 1) 0) < key (p.getD m 0)
   ·rw[decide_eq_true d]; dsimp only; rw[if_pos rfl];exact⟨hp,(by show 1<=m; lia),(by show m<=n; lia),hq,hs,he⟩
   ·rw[decide_eq_false d]; dsimp only; rw[if_neg Bool.false_ne_true];have e0:kf key p m=kf key p (m - 1):=by unfold kf; lia
    refine yz h0 f p (m + 1) (q + 1) hp (by lia) (by lia) (dn (fun _ _=>rfl) rfl (by lia)) (fun a h1 h2=>?_);have e1:m + 1 - 1=m:=by lia
    rw[e1];by_cases N0:a=m
    ·rw[N0]
    ·rw[e0]; exact he a (by lia) (by lia)
def Eo (h0:0 < n){p:Array Nat}{m:Nat}(hp:qo n p)(h1:1<=m)(hm:m<=n)(hs:Ig key p m):jD key n (fun r=>qo n r.2/\1<=r.1/\r.1<=n/\kO key r.2 r.1) (kas_tail3 m n p):=by
 unfold kas_tail3;have hz:m<=p.size:=by rw[hp.size]; lia
 have hu:kO key (kas_rev p 0 m) m:=by
  intro a b G9 hb;rw[o5 hz,o5 hz,aZ ⟨bq _,by lia⟩,aZ ⟨bq _,hb⟩];exact hs _ _ (by lia) (by lia)
 refine iJ _ (gP (fun r ⟨q1,q2,q3,_⟩=>?_) _ (Ih (hp.rev 0 m) h0 (n - m) m h1 hu));exact⟨hp.rev 0 m,by lia,by lia,q3⟩
def uw (h0:0 < n){p:Array Nat}{m:Nat}(hp:qo n p)(hm:m + 1<=n)(hs:Ig key p (m + 1)):jD key n (fun r=>qo n r.2/\1<=r.1/\r.1<=n/\kO key r.2 r.1) (kas_descPart m n p):=by
 unfold kas_descPart;refine iJ _ (gP (fun r ⟨q1,q2,q3,q4,q5,q6⟩=>?_) _ (yz h0 (n - (m + 1)) p (m + 1) 0 hp (by lia) (by lia) hs fun a h1 h2=>by
  have e:a=m + 1 - 1:=by lia
  rw[e]))
 by_cases hq:r.2.2 > 0
 ·rw[aZ hq];have hz:r.2.1<=r.1.size:=by rw[q1.size]; lia
  refine Eo h0 (q1.rev _ _) q2 q3 fun a b G9 hb=>?_;have hr: ∀a,a < r.2.1->kf key (kas_rev r.1 (r.2.1 - (r.2.2 + 1)) r.2.1) a=kf key r.1 a:=fun a ha=>by
   rw[o5 hz];split
   ·rename_i h;rw[q6 a h.1 h.2,q6 _ (by lia) (by lia)]
   ·rfl
  rw[hr a (by lia),hr b hb];exact q5 a b G9 hb
 ·rw[aL hq];exact Eo h0 q1 q2 q3 q5
def K5 (h0:0 < n){p:Array Nat}(hp:qo n p):jD key n (fun r=>qo n r.2/\1<=r.1/\r.1<=n/\kO key r.2 r.1) (kas_count n p):=by
 unfold kas_count;have hs1:kO key p 1:=fun a b G9 hb=>by
  have e:a=b:=by lia
  rw[e]; exact eu _
 refine iJ _ (gP (fun m ⟨q1,q2,q3,q4⟩=>?_) _ (Ih hp h0 (n - 1) 1 (aB _) hs1));by_cases Rk:(m == n)=true
 ·rw[aZ Rk];exact⟨hp,q1,by lia,q3⟩
 ·rw[aL Rk];have iU:m≠n:=fun z=>Rk (by simp[z]);have iI:kf key p m < kf key p (m - 1):=by
   rcases q4 with q4|q4
   ·exact absurd q4 (by lia)
   ·exact q4
  by_cases T3:m > 1
  ·rw[aZ T3];refine⟨hp.lt h0 _,hp.lt h0 _,?_⟩;by_cases c:key (p.getD 0 0) < key (p.getD (m - 1) 0)
   ·rw[decide_eq_true c]; dsimp only; rw[if_pos rfl];exact⟨hp,q1,by lia,q3⟩
   ·rw[decide_eq_false c]; dsimp only; rw[if_neg Bool.false_ne_true];have hz:m<=p.size:=by rw[hp.size]; lia
    have heq: ∀a,a < m->kf key p a=kf key p (m - 1):=fun a ha=>by
     have h1:=q3 0 a (bq _) ha;have h2:=q3 a (m - 1) (by lia) (by lia);have h3:kf key p (m - 1)<=kf key p 0:=by unfold kf; lia
     lia
    have hr: ∀a,a < m->kf key (kas_rev p 0 m) a=kf key p (m - 1):=fun a ha=>by
     rw[o5 hz,aZ ⟨bq _,ha⟩];exact heq _ (by lia)
    refine uw h0 (hp.rev _ _) (by lia) fun a b G9 hb=>?_;by_cases K4:b < m
    ·rw[hr a (by lia),hr b K4]; exact eu _
    ·have e:b=m:=by lia
     subst e;by_cases N0:a=b
     ·rw[N0]; exact eu _
     ·rw[hr a (by lia),o5 hz,aL (by lia)];lia
  ·rw[aL T3];have e:m=1:=by lia
   subst e;refine uw h0 hp (by lia) fun a b G9 hb=>?_;by_cases VJ:a=b
   ·rw[VJ]; exact eu _
   ·have e1:a=0:=by lia
    have e2:b=1:=by lia
    subst e1 e2;have e3:(1:Nat) - 1=0:=rfl;rw[e3] at iI;lia
def yA (h0:0 < n){p:Array Nat}{k:Nat}(hp:qo n p)(hs:kO key p k): ∀(f l r:Nat),l<=r->r<=k->r - l<=f->(∀i,i < l->kf key p i<=kf key p k)->(∀i,r<=i->i < k->kf key p k < kf key p i)->
  jD key n (fun m=>m<=k/\(∀i,i < m->kf key p i<=kf key p k)/\ ∀i,m<=i->i < k->kf key p k < kf key p i) (kas_place p k f l r)
 |0,l,r,hlr,T4,hf,h1,h2=>by
  have e:l=r:=by lia
  subst e;exact⟨T4,h1,h2⟩
 |f + 1,l,r,hlr,T4,hf,h1,h2=>by
  unfold kas_place;by_cases N1:l≥r
  ·rw[aZ N1];have e:l=r:=by lia
   subst e;exact⟨T4,h1,h2⟩
  ·rw[aL N1];refine⟨hp.lt h0 _,hp.lt h0 _,?_⟩;by_cases c:key (p.getD k 0) < key (p.getD ((l + r) / 2) 0)
   ·rw[decide_eq_true c]; dsimp only; rw[if_pos rfl];refine yA h0 hp hs f l ((l + r) / 2) (by lia) (by lia) (by lia) h1 fun i hi VL=>?_;have:=hs ((l + r) / 2) i hi VL;have c':kf key p k < kf key p ((l + r) / 2):=c;lia
   ·rw[decide_eq_false c]; dsimp only; rw[if_neg Bool.false_ne_true];refine yA h0 hp hs f ((l + r) / 2 + 1) r (by lia) T4 (by lia) (fun i hi=>?_) h2;have:=hs i ((l + r) / 2) (by lia) (by lia);have c': ¬ kf key p k < kf key p ((l + r) / 2):=c;lia
def ME (h0:0 < n): ∀(f:Nat) (p:Array Nat) (k:Nat),qo n p->k + f=n->kO key p k->jD key n (fun r=>qo n r/\kO key r n) (kas_bin f p k)
 |0,p,k,hp,hk,hs=>⟨hp,by rw[← hk]; exact hs⟩
 |f + 1,p,k,hp,hk,hs=>by
  unfold kas_bin;refine iJ _ (gP (fun l ⟨q1,q2,q3⟩=>?_) _ (yA h0 hp hs k 0 k (bq _) (aB _) (by lia) (fun i hi=>absurd hi (fE _)) fun i h1 h2=>by lia));have hz:k < p.size:=by rw[hp.size]; lia
  refine ME h0 f _ (k + 1) ((bubble_perm p k _).trans hp) (by lia) fun a b G9 hb=>?_;rw[Ie hz (by lia),Ie hz (by lia)];have el:k - (k - l)=l:=by lia
  rw[el];by_cases ha:a=l
  ·rw[aZ ha];by_cases pP:b=l
   ·rw[aZ pP]; exact eu _
   ·rw[aL pP,aZ ⟨by lia,by lia⟩];have:=q3 (b - 1) (by lia) (by lia);lia
  ·rw[aL ha];by_cases Yz:l < a/\a<=k
   ·rw[aZ Yz,aL (by lia),aZ ⟨by lia,by lia⟩];exact hs _ _ (by lia) (by lia)
   ·rw[aL Yz];have VM:a < l:=by lia
    by_cases pP:b=l
    ·rw[aZ pP]; exact q2 a VM
    ·rw[aL pP];by_cases P0:l < b/\b<=k
     ·rw[aZ P0];exact hs _ _ (by lia) (by lia)
     ·rw[aL P0];exact hs _ _ G9 (by lia)
def Ij (h0:0 < n):jD key n (fun r=>qo n r/\kO key r n) (kas_sort n):=by
 unfold kas_sort;refine iJ _ (gP (fun r ⟨q1,q2,q3,q4⟩=>?_) _ (K5 h0 (Kn _)));by_cases h:r.1 < n
 ·rw[aZ h];have e:max r.1 1=r.1:=by lia
  rw[e];exact ME h0 _ _ _ q1 (by lia) q4
 ·rw[aL h];have e:r.1=n:=by lia
  rw[e] at q4;exact⟨q1,q4⟩
end
section
variable {prog:Program}{w:World}{A:Around}{E:Value->Shared->Prop}{s:Shared}
def yB {a:Addr}{vs:List Value}{n:Nat}{P:PySem.Fin->Shared->Prop}{key:Nat->Int}{κ:SortKind}(ho:s.heap.get? a=some (seqObj "list" vs.toArray n))(Cr:vs.length < 64)
  (hk:2<=vs.length-> ∀(s':Shared) (Q:SortKind->Shared->Prop),(∀b o,b≠a->s.heap.get? b=some o->s'.heap.get? b=some o)->Q κ s'->wpAny (model prog w) A (keyKind' vs.toArray) Q (fun _ _=>False) s')
  (hc: ∀(s':Shared) (i j:Nat) (C:Bool->Shared->Prop),(∀b o,b≠a->s.heap.get? b=some o->s'.heap.get? b=some o)->i < vs.length->j < vs.length->C (decide (key i < key j)) s'->
   wpAny (model prog w) A (keyLt' κ (vs.getD i Value.none) (vs.getD j Value.none)) C (fun _ _=>False) s')
  (h: ∀p:Array Nat,qo vs.length p->kO key p vs.length->P (.done (.ret .none)) {s with heap:=sortedHeap s.heap a vs (p.toList.map fun i=>vs.getD i Value.none).toArray}):
  wpAny (model prog w) A (Builtin.«list.sort» ⟨[.ref a],[]⟩) P E s:=by
 rw[list_sort_plain];have ha:a < s.heap.objs.size:=aH ho;have hl:sizeLine=16777216:=eJ;refine aA (listItems_at ho rfl ?_);refine aA (vH ho rfl ?_ (by rw[bg]; lia) (bq _));obtain⟨e1,FP⟩: ∃e1,(s.heap.update a (Obj.mapSeq fun _=>(#[]:Array Value))).get? a=some (seqObj "list" #[] e1):=⟨_,Mr ho (fun _=> #[])⟩;refine aA (seqEpoch_at FP rfl ?_);refine aA (wpAny_newTuple ?_ (by show vs.length<=_; lia));refine aA (Ko ?_ (bq _));refine hJ ?_;have T5:(((s.heap.update a (Obj.mapSeq fun _=>(#[]:Array Value))).push (seqObj "tuple" vs.toArray 0)).push (seqObj "list" #[] 0)).get? a=some (seqObj "list" #[] e1):=by
  rw[mf _ _ _ (by rw[size_push',oQ]; exact aU (gj ha)),mf _ _ _ (by rw[oQ]; exact aU ha)];exact FP
 show wpAny (model prog w) A _ P E {s with heap:=((s.heap.update a (Obj.mapSeq fun _=>(#[]:Array Value))).push (seqObj "tuple" vs.toArray 0)).push (seqObj "list" #[] 0)};dsimp only;have keep: ∀b o,b≠a->s.heap.get? b=some o->(((s.heap.update a (Obj.mapSeq fun _=>(#[]:Array Value))).push (seqObj "tuple" vs.toArray 0)).push (seqObj "list" #[] 0)).get? b=some o:=fun b o hb e=>
  ax _ (ax _ ((me s.heap _ (vI hb)).trans e))
 have hsz:vs.toArray.size=vs.length:=by simp
 by_cases h2:vs.toArray.size < 2
 ·rw[aZ h2,aZ h2];refine aA (bA ?_);rw[StateT.run_pure];refine aA (bA ?_);dsimp only;have C6:(arrOf (SortSt.mk' general' (vs.toArray.zip vs.toArray) #[] 7 none)).map (·.2)=((List.toArray (List.range vs.length)).toList.map fun i=>vs.getD i Value.none).toArray:=by
   show(vs.toArray.zip vs.toArray).map (·.2)=_;apply Array.toList_inj.mp;apply List.ext_getElem?;intro i;simp only[Array.toList_map,Array.toList_zip,List.getElem?_map,List.getElem?_zip_eq_some,List.getElem?_range];by_cases hi:i < vs.length
   ·simp[hi,List.getElem?_zip_eq_some,List.zip]
   ·simp[hi]
  refine aA (seqEpoch_at T5 rfl ?_);rw[C6];refine wpAny_bind (listUpdate_at T5 rfl ?_ (Nat.zero_le _) (by simp; lia));simp only[bne_self_eq_false,Bool.false_eq_true,if_false];refine bA (h _ (Kn _) ?_);intro i j YA hj;have:i=j:=by lia
  subst this; exact eu _
 ·rw[aL h2,aL h2];have Rl:2<=vs.length:=by lia
  refine aA (b9 (hk Rl _ (fun κ' s'=>κ'=κ/\s'={s with heap:=((s.heap.update a (Obj.mapSeq fun _=>(#[]:Array Value))).push (seqObj "tuple" vs.toArray 0)).push (seqObj "list" #[] 0)}) keep ⟨rfl,rfl⟩) (fun κ' s' J0=>?_) fun _ _ x=>x.elim);obtain⟨rfl,rfl⟩:=J0;refine aA (b9 (kat_run (Q:=fun Al s'=>s'={s with heap:=((s.heap.update a (Obj.mapSeq fun _=>(#[]:Array Value))).push (seqObj "tuple" vs.toArray 0)).push (seqObj "list" #[] 0)}/\ ∃p:Array Nat,p.size=vs.length/\arrOf Al=p.map (kas_item (vs.toArray.zip vs.toArray))/\failedOf Al=none/\qo vs.length p/\kO key p vs.length)
   (G:=fun p s'=>s'={s with heap:=((s.heap.update a (Obj.mapSeq fun _=>(#[]:Array Value))).push (seqObj "tuple" vs.toArray 0)).push (seqObj "list" #[] 0)}/\qo vs.length p/\kO key p vs.length)
   (κ:=κ') rfl Rl Cr (fun p' Al s' a1 a2 a3 a4=>⟨a4.1,p',a1,a2,a3,a4.2⟩) (uv (fun i j C hi hj q=>hc _ i j C keep hi hj q) (fun p q=>⟨rfl,q⟩) _ (Ij (by lia)))) ?_ fun _ _ e=>e)
  rintro⟨⟨⟩,Al⟩ s' ⟨rfl,p,hp,VN,hf,q1,q2⟩;dsimp only;have C6:=kat_snds (ks:=vs) (vs:=vs) rfl VN;rw[C6];refine aA (seqEpoch_at T5 rfl ?_);refine aA (vH T5 rfl ?_ (bq _) (by rw[bg,ae,nU,hp]; lia));rw[hf];simp only[bne_self_eq_false,Bool.false_eq_true,if_false];exact bA (h p q1 q2)
def FQ {l:Addr}{vs:List Value}{Q:Value->Shared->Prop}{key:Nat->Int}{κ:SortKind}(hl:s.heap.IsList l vs.toArray)(Cr:vs.length < 64)
  (hk:2<=vs.length-> ∀(s':Shared) (Q:SortKind->Shared->Prop),(∀b o,s.heap.get? b=some o->s'.heap.get? b=some o)->Q κ s'->wpAny (model prog w) A.in1.in1 (keyKind' vs.toArray) Q (fun _ _=>False) s')
  (hc: ∀(s':Shared) (i j:Nat) (C:Bool->Shared->Prop),(∀b o,s.heap.get? b=some o->s'.heap.get? b=some o)->i < vs.length->j < vs.length->C (decide (key i < key j)) s'->
   wpAny (model prog w) A.in1.in1 (keyLt' κ (vs.getD i Value.none) (vs.getD j Value.none)) C (fun _ _=>False) s')
  (h: ∀p:Array Nat,qo vs.length p->kO key p vs.length->Q (.ref (s.heap.objs.size + 1)) {s with heap:=sortedAll s.heap vs (p.toList.map fun i=>vs.getD i Value.none).toArray}):
  wpAny (model prog w) A (call (.builtin "sorted") [.ref l]) Q E s:=by
 have T6:sizeLine=16777216:=eJ;refine Calls.call_function_entry kind_sorted plain_sorted entry_sorted (args_sorted1 _) ?_;unfold Builtin.«sorted»;refine aA (m:=checkCount "sorted" 1 1 _) (bA ?_);refine aA (collect_list hl ?_ (by lia));refine aA (Ko ?_ (by show vs.length<=_; lia));have hsz:((s.heap.push (seqObj "list" #[] 0)).update s.heap.objs.size (Obj.mapSeq (· ++ vs.toArray))).objs.size=s.heap.objs.size + 1:=by
  rw[oQ,size_push']
 have Nn:(((s.heap.push (seqObj "list" #[] 0)).update s.heap.objs.size (Obj.mapSeq (· ++ vs.toArray))).push (seqObj "list" vs.toArray 0)).get? (s.heap.objs.size + 1)=some (seqObj "list" vs.toArray 0):=by
  rw[← hsz]; exact bH _ rfl
 have keep: ∀b o,s.heap.get? b=some o->b≠s.heap.objs.size + 1/\(((s.heap.push (seqObj "list" #[] 0)).update s.heap.objs.size (Obj.mapSeq (· ++ vs.toArray))).push (seqObj "list" vs.toArray 0)).get? b=some o:=fun b o q=>by
  have iI:b < s.heap.objs.size:=aH q;refine⟨aU (gj iI),?_⟩;rw[mf _ _ _ (by rw[hsz]; exact aU (gj iI)),Hl _ _ _ _ (aU iI),mf _ _ _ (aU iI)];exact q
 show wpAny _ _ _ _ _ {s with heap:=((s.heap.push (seqObj "list" #[] 0)).update s.heap.objs.size (Obj.mapSeq (· ++ vs.toArray))).push (seqObj "list" vs.toArray 0)};rw[hsz];refine aA (hJ (wpAny_call_entry slot_list_sort ⟨_,Nn,rfl⟩ entry_list_sort (yB (key:=key) (κ:=κ) Nn Cr
  (fun h2 s' Q' kp q=>hk h2 s' Q' (fun b o e=>kp b o (keep b o e).1 (keep b o e).2) q) (fun s' i j C kp hi hj q=>hc s' i j C (fun b o e=>kp b o (keep b o e).1 (keep b o e).2) hi hj q) fun p a1 a2=>⟨_,rfl,?_⟩) (args_list_sort _)))
 exact bA ⟨_,rfl,h p a1 a2⟩
def mC {b:Bool}{Q:Bool->Shared->Prop}: ∀{ts us:List Int} {vs ws:List Value} (i:Nat),IntsAre vs ts->IntsAre ws us->Q (HT.lexLt ts us) s->
  KatLex prog w A b (decide (ts.length < us.length)) Q (vs.zip ws) i s
 |_,_,_,_,i,.nil,.nil,q=>q
 |_,_,_,_,i,.nil,.cons _ _ _,q=>by
  show Q (decide _) s;rw[decide_eq_true (by simp)]; exact q
 |_,_,_,_,i,.cons _ _ _,.nil,q=>by
  show Q (decide _) s;rw[decide_eq_false (by simp)]; exact q
 |_,_,_,_,i,.cons x t r,.cons y u r',q=>by
  refine kat_cons ?_;have he:=SeqAt.EqAt.int_int (A:=A) (s:=s) x t y u;refine he prog w _ _ ?_;rw[HT.oW] at q;by_cases e:x=y
  ·rw[aZ e] at q;have eb:(x == y)=true:=by simp[e]
   rw[eb];refine kat_yes ?_;have hd: ∀(a b:Nat),decide (a + 1 < b + 1)=decide (a < b):=fun a b=>by
    rw[Bool.eq_iff_iff]; simp
   rw[bU,bU,hd];exact mC (i + 1) r r' q
  ·rw[aL e] at q;have eb:(x == y)=false:=by simpa using e
   rw[eb];refine kat_no ?_;cases hb:(b && i == 0) with
   |true=>exact oneLt_int q
   |false=>exact kat_one _ _ (PyProof.Rows.lt_int q)
end
def gW (H:Hp)(ts:List (List Int))(xs:List V):Prop:=Paired (fun(t:List Int) v=> ∃p,v= .ref p/\H p=some (.tup (t.map V.int))) ts xs
def gW.mono {H H':Hp}{ts:List (List Int)}{xs:List V}(h:gW H ts xs)(k: ∀b xs,H b=some (.tup xs)->H' b=some (.tup xs)):gW H' ts xs:=
 Paired.iH h fun _ _ ⟨p,e,q⟩=>⟨p,e,k _ _ q⟩
def gW.get {H:Hp}{ts:List (List Int)}{xs:List V}(h:gW H ts xs){i:Nat}(hi:i < ts.length): ∃p,xs.getD i .dW= .ref p/\H p=some (.tup ((ts.getD i []).map V.int)):=by
 have g:ts[i]? =some ts[i]:=af hi;obtain⟨v,hv,p,e,q⟩:=bI h g;refine⟨p,?_,?_⟩
 ·rw[ai,hv,e]; rfl
 ·rw[ai,g]; exact q
def jr {xs:List V}{us:List Value}(r:Vals xs us)(i:Nat):RelV (xs.getD i .dW) (us.getD i .none):=by
 by_cases hi:i < xs.length
 ·have g:xs[i]? =some xs[i]:=af hi;obtain⟨u,h1,h2⟩:=r.get g;rw[ai,ai,g,h1];exact h2
 ·have h1:xs[i]? =none:=vN (by lia);rw[ai,ai,h1,r.none_of h1];rfl
def rE {xs:List V}{us:List Value}(r:Vals xs us): ∀l:List Nat,Vals (l.map fun i=>xs.getD i .dW) (l.map fun i=>us.getD i .none)
 |[]=> .nil
 |i :: l=> .cons (jr r i) (rE r l)
def xG {H:Hp}{ts:List (List Int)}{xs:List V}(h:gW H ts xs): ∀l:List Nat,(∀i∈l,i < ts.length)->gW H (l.map fun i=>ts.getD i []) (l.map fun i=>xs.getD i .dW)
 |[],_=> .nil
 |i :: l,hl=> .cons (by
   obtain⟨p,e,q⟩:=h.get (hl i bh);exact⟨p,e,q⟩) (xG h l fun j hj=>hl j (aQ _ hj))
def range_getD {α:Type}(ts:List α)(d:α):(List.range ts.length).map (fun i=>ts.getD i d)=ts:=by
 apply List.ext_getElem?;intro i;rw[aD];by_cases hi:i < ts.length
 ·rw[List.getElem?_range hi,nS,ai,af hi]; rfl
 ·rw[List.getElem?_eq_none (by simpa using hi),List.getElem?_eq_none (by lia)]; rfl
def qo.list {n:Nat}{p:Array Nat}(h:qo n p):p.toList.Perm (List.range n):=by
 have:=Array.perm_iff_toList_perm.mp h;simpa using this
def sk {p:Array Nat}{n:Nat}{key:Nat->Int}(hp:p.size=n)(h:kO key p n):p.toList.Pairwise (fun i j=>key i<=key j):=by
 rw[List.pairwise_iff_getElem];intro i j hi hj YA;have yC:i < p.size:=by simpa using hi
 have T7:j < p.size:=by simpa using hj
 have:=h i j (by lia) (by lia);unfold kf at this;have e1:p.getD i 0=p.toList[i]:=by simp[Array.getD,yC]
 have e2:p.getD j 0=p.toList[j]:=by simp[Array.getD,T7]
 rw[e1,e2] at this;exact this
section
variable {X:Cx}
def Inv.tupI {pins:List (Addr×Obj)}{σ:St}{H:Hp}{s:Shared}(I:Inv X pins σ H s){p:Addr}{t:List Int}(h:H p=some (.tup (t.map V.int))):
  ∃(o:Obj) (bX:List Value) (n:Nat),s.heap.get? p=some o/\o.cls= .type "tuple"/\o.data= .seq bX.toArray n/\IntsAre bX t:=by
 obtain⟨_,bX,rv,o,ho,hc,n,hd⟩:=(show di X.prog X.w H s.heap p (.tup (t.map V.int)) from I.cm p _ h);exact⟨o,bX,n,ho,hc,hd,intsAre_of rv⟩
def rF {pins:List (Addr×Obj)}{σ:St}{H:Hp}{s:Shared}(I:Inv X pins σ H s){h':Heap}(kp: ∀b o,s.heap.get? b=some o->h'.get? b=some o): ∀{ts:List (List Int)} {xs:List V} {us:List Value},gW H ts xs->Vals xs us->(∀t∈ts,t≠[])->
  ∃fs:List Value,KatTups h' us fs/\fs.length=us.length/\ ∀v∈fs,∃n t,v= .int n t
 |[],_,us,.nil,r,_=>by
  have e:us=[]:=r.zero;subst e;exact⟨[],trivial,rfl,fun v hv=>by cases hv⟩
 |t :: ts,_,_,.cons ⟨p,e,q⟩ rest,.cons r1 r2,iU=>by
  subst e;obtain⟨fs,h1,h2,h3⟩:=rF I kp rest r2 fun t ht=>iU t (aQ _ ht);obtain⟨o,bX,n,ho,hc,hd,hi⟩:=I.tupI q;have ht:t≠[]:=iU t bh;cases hi with
  |nil=>exact absurd rfl ht
  |cons z tk yC=>
   cases r1;refine⟨.int z tk :: fs,⟨⟨p,o,_,n,rfl,kp _ _ ho,hc,hd,by simp⟩,h1⟩,by rw[List.length_cons,List.length_cons,h2],fun v hv=>?_⟩;rcases av.mp hv with rfl|hv
   ·exact⟨z,tk,rfl⟩
   ·exact h3 v hv
def N2 (K:Frag):List V->Hp->VK->Prop:=fun vs H Q=> ∃a xs ts,∃key:List Int->Int,vs=[V.ref a]/\bF K H a xs/\xs.length < 64/\gW H ts xs/\(∀t∈ts,t≠[])/\(∀t∈ts,∀u∈ts,HT.lexLt t u=decide (key t < key u))/\
 ∀D ys us,H D=none->gW H us ys->us.Perm ts->us.Pairwise (fun t u=>key t<=key u)->Q (V.ref D) (upd H D (.lst ys))
def yD:gE X (.builtin "sorted") (N2 X.K):=by
 intro pins s σ H xs us Q I r h;obtain⟨a,xs,ts,key,rfl,hq,Cr,hT,iU,Hy,q⟩:=h;obtain⟨u,rfl,ru⟩:=vals1 r;cases ru;obtain⟨bX,rv,pl,hz⟩:=I.list hq;have hl:=rv.length;have iI:ts.length=xs.length:=hT.length;refine FQ (κ:=tuples' true) (key:=fun i=>key (ts.getD i [])) pl.isList (by lia) (fun h2 s' Q' kp q'=>?_) (fun s' i j C kp hi hj q'=>?_) fun p hp hup=>?_
 ·obtain⟨fs,f1,f2,f3⟩:=rF I kp hT rv iU;refine kat_kind (T:= .type "int") f1 (by lia) (fun v hv=>?_) rfl q';obtain⟨n,t,rfl⟩:=f3 v hv;exact Looks.of_pure rfl
 ·obtain⟨p1,e1,g1⟩:=hT.get (i:=i) (by lia);obtain⟨p2,e2,g2⟩:=hT.get (i:=j) (by lia);have w1:=jr rv i;have w2:=jr rv j;rw[e1] at w1;rw[e2] at w2;have w1':bX.getD i Value.none= .ref p1:=w1;have w2':bX.getD j Value.none= .ref p2:=w2;rw[w1',w2'];obtain⟨o1,VO,n1,FP,hc1,lI,Rm⟩:=I.tupI g1;obtain⟨o2,FA,n2,P1,K6,hd2,Rn⟩:=I.tupI g2;refine kat_lt (kp _ _ FP) lI (kp _ _ P1) hd2 ?_;have l1:=Rm.length;have l2:=Rn.length;have m1:ts.getD i []∈ts:=by rw[ai,af (show i < ts.length by lia)]; exact bD _
  have m2:ts.getD j []∈ts:=by rw[ai,af (show j < ts.length by lia)]; exact bD _
  have k:=mC (prog:=X.prog) (w:=X.w) (A:=X.A.in1.in1) (b:=true) (Q:=C) (s:=s') 0 Rm Rn (by rw[Hy _ m1 _ m2]; exact q');rw[bg,bg,l1,l2];exact k
 ·have mD:=hp.size;have hD:H (s.heap.objs.size + 1)=none:=I.cm.fresh (cD _);obtain⟨e,he⟩:=sortedAll_at s.heap bX (p.toList.map fun i=>bX.getD i Value.none).toArray;refine⟨.ref (s.heap.objs.size + 1),_,I.laid (t':=s.toks) (a:=s.heap.objs.size + 1) (o:= .lst (p.toList.map fun i=>xs.getD i .dW)) (fun b o q=>sortedAll_old q) (cD _) ⟨?_,_,e,rE rv p.toList,he⟩,rfl,q _ _ (p.toList.map fun i=>ts.getD i []) hD ?_ ?_ ?_⟩
  ·rw[ae,nU,mD];exact aV (iz hl.symm) hz
  ·refine xG hT p.toList fun i hi=>?_;have:=(hp.list.mem_iff).mp hi;rw[cK] at this;lia
  ·have e1:=hp.list.map (fun i=>ts.getD i []);rw[← hl,← iI,range_getD] at e1;exact e1
  ·rw[rh];exact sk mD hup
def sm (ns:List Int): ∀n,n<=ns.length->preSum (fun i=>ns.getD i 0) n=(ns.take n).sum
 |0,_=>by simp[preSum]
 |n + 1,h=>by
  rw[preSum,sm ns n (by lia),Ak,Kp,af (by lia),ai,af (by lia)];simp
def Ro (K:Frag):List V->Hp->VK->Prop:=fun xs H Q=> ∃(p:Addr) (ns:List Int),xs=[V.ref p]/\bF K H p (ns.map V.int)/\Q (.int ns.sum) H
def rG (hc:X.calm=true):gE X (.builtin "sum") (Ro X.K):=by
 intro pins s σ H xs us Q I r h;obtain⟨p,ns,rfl,hq,q⟩:=h;obtain⟨u,rfl,ru⟩:=vals1 r;cases ru;obtain⟨bX,rv,pl,hz⟩:=I.list hq;have hI:IntsAre bX ns:=intsAre_of rv;have hl:=hI.length;have hh:=I.ok.hd hc;have hT:s.heap.IsList p bX.toArray:=pl.isList;have hp:p < s.heap.objs.size:=by
  obtain⟨o,ho,_⟩:=hT;exact aH ho
 have N3:p≠s.heap.objs.size:=aU hp;refine call_sum_walkG (M9 hT ?_);refine⟨_,[_,p],[_],_,_,_,fun i=>ns.getD i 0,rfl,Walks.list (A:=X.A.in1) hh _ p N3 bX.toArray,
  ⟨⟨_,Heap.get?_push_size _ rfl,rfl,rfl⟩,hT.push _⟩,fun c hc=>?_,(fun i v hv=>IntsAre.int_at hI i v (by simpa using hv)),fun h' tk t' hk=>?_⟩
 ·show c < (s.heap.push _).objs.size;rw[jU];rcases av.mp hc with rfl|hc
  ·exact eT _
  ·rcases av.mp hc with rfl|hc
   ·exact gj hp
   ·cases hc
 ·refine⟨.int _,H,I.kept (t':=tk) (fun b o e=>hk b o (fun hm=>?_) (ax _ e)),⟨_,rfl⟩,?_⟩
  ·rw[ak] at hm;exact absurd hm (aU (aH e))
  ·rw[bg,hl,sm ns ns.length (aB _),a8];exact q
def xH (a:Array Nat): ∀(n:Nat) (acc:Array Nat),((List.replicate n a).foldl (· ++ ·) acc).size=acc.size + n * a.size
 |0,acc=>by simp
 |n + 1,acc=>by
  rw[c9,dA,xH a n,Array.size_append,vL];lia
def Rq:R2:=fun x y H Q=> ∃(z:Str) (n:Int),x= .str z/\y= .int n/\z.length=1/\0<=n/\n<=1000/\ ∀z':Str,z'.length<=1000->Q (.str z') H
def yE:nW X (binaryOp .Mult) Rq:=by
 intro pins s σ H x y v u Q I rx ry h;obtain⟨z,n,rfl,rfl,hz,h0,h1,q⟩:=h;obtain⟨t,rfl⟩:=rx;obtain⟨t',rfl⟩:=ry;refine P.mul_str ?_ (fun _ _=>?_) (fun _ _=>?_) ?_
 ·rw[bC (by lia),bC (by lia)]; rfl
 ·rw[hz];intro K7;have:(2 ^ 63 - 1:Int) / n≥1:=by
   have hn:0 < n:=by
    by_cases c:0 < n
    ·exact c
    ·have e:n=0:=by lia
     subst e;simp at K7;lia
   exact Int.le_ediv_of_mul_le hn (by lia)
  lia
 ·rw[hz];unfold Builtin.Str.tooLong;simp;rw[eJ];lia
 ·by_cases c:n < 1
  ·rw[aZ c];exact⟨by decide,⟨.str Str.empty,H,I.tok _,⟨_,rfl⟩,q _ (by show 0<=1000; lia)⟩⟩
  ·rw[aL c];by_cases c2:(n == 1 || z.length == 0)=true
   ·rw[aZ c2];exact⟨.str z,H,I,⟨_,rfl⟩,q _ (by lia)⟩
   ·rw[aL c2];have hsz:((List.replicate n.toNat z.cps).foldl (· ++ ·) #[]).size<=1000:=by
     rw[xH];have:z.cps.size=1:=hz;rw[this];simp;lia
    refine⟨?_,⟨.str _,H,I.tok _,⟨_,rfl⟩,q _ hsz⟩⟩;show _<=_;refine aV hsz ?_;rw[eJ]; lia
end
inductive bu where
 |dF (aK:Str) (day An dD:Int)
 |pQ (aK:Str) (day dD:Int)
 |note (b day dD:Int)
 |set (c b dD:Int)
 |fu (aK:Str)
 |gF (n:Int)
 |ask (bK:Bool) (aK:Str) (day:Int)
 |hZ (aK:Str) (day:Int) (cY:List Int)
structure Rw where
 aK:Str
 a:Int
 b:Int
 c:Int
 d:Int
instance:Inhabited Rw:=⟨⟨"",0,0,0,0⟩⟩
structure Bk where
 aC:List Rw
 credits:List Rw
 made:List (Nat×Nat×Int)
def Bk.new:Bk:=⟨[],[],[]⟩
def Bk.cr (S:Bk)(c:Nat):Rw:=S.credits.getD c default
def Bk.bl (S:Bk)(b:Nat):Rw:=S.aC.getD b default
def Bk.dG (S:Bk)(c b:Nat):Bool:=decide ((S.cr c).aK=(S.bl b).aK) && (decide ((S.cr c).c= -1) || decide ((S.cr c).c=(b:Int)))
def Rw.less (r:Rw)(x:Int):Rw:={r with d:=r.d - x}
def Bk.put (S:Bk)(c b:Nat)(x:Int):Bk:=⟨S.aC.set b ((S.bl b).less x),S.credits.set c ((S.cr c).less x),S.made ++ [(c,b,x)]⟩
def ff (a b:Int):Int:=if b < a then b else a
def sW (x:Int×Nat):Int:=x.1 * 1000 + (x.2:Int)
def ins (x:Int×Nat):List (Int×Nat)->List (Int×Nat)
 |[]=>[x]
 |y :: l=>if sW x<=sW y then x :: y :: l else y :: ins x l
def fv:List (Int×Nat)->List (Int×Nat)
 |[]=>[]
 |x :: l=>ins x (fv l)
def AY (x y:Int×Nat)(l:List (Int×Nat)):ins x (y :: l)=if sW x<=sW y then x :: y :: l else y :: ins x l:=rfl
def ux (x:Int×Nat): ∀l,(ins x l).Perm (x :: l)
 |[]=>Nb _
 |y :: l=>by
  unfold ins;split
  ·exact Nb _
  ·exact(List.Perm.cons y (ux x l)).trans (List.Perm.swap x y l)
def dk: ∀l,(fv l).Perm l
 |[]=>Nb _
 |x :: l=>(ux x (fv l)).trans (List.Perm.cons x (dk l))
def Ik (x:Int×Nat): ∀l,l.Pairwise (fun a b=>sW a<=sW b)->(ins x l).Pairwise (fun a b=>sW a<=sW b)
 |[],_=>List.pairwise_singleton _ _
 |y :: l,h=>by
  rw[eP] at h;unfold ins;split
  ·rename_i c;rw[eP];refine⟨fun z hz=>?_,eP.mpr h⟩;rcases av.mp hz with rfl|hz
   ·exact c
   ·exact lx c (h.1 z hz)
  ·rename_i c;rw[eP];refine⟨fun z hz=>?_,Ik x l h.2⟩;rcases av.mp ((ux x l).mem_iff.mp hz) with rfl|hz
   ·lia
   ·exact h.1 z hz
def uy: ∀l,(fv l).Pairwise (fun a b=>sW a<=sW b)
 |[]=>List.Pairwise.nil
 |x :: l=>Ik x _ (uy l)
def FR (x:Int×Nat): ∀l,(∀y∈l,sW x<=sW y)->ins x l=x :: l
 |[],_=>rfl
 |y :: l,h=>by
  unfold ins;rw[aZ (h y bh)]
def uz (p:Int×Nat->Bool)(x:Int×Nat): ∀l,l.Pairwise (fun a b=>sW a<=sW b)->(ins x l).filter p=if p x then ins x (l.filter p) else l.filter p
 |[],_=>by
  unfold ins;cases h:p x <;> simp[h,ins]
 |y :: l,hs=>by
  rw[eP] at hs;rw[AY];by_cases c:sW x<=sW y
  ·rw[aZ c];cases h:p x
   ·rw[List.filter_cons_of_neg (by simp[h])];simp
   ·rw[cE h];simp only[if_true];rw[FR x];intro z hz;rcases av.mp (fC.mp hz).1 with rfl|hz'
    ·exact c
    ·exact lx c (hs.1 z hz')
  ·rw[aL c];have ih:=uz p x l hs.2;cases hy:p y
   ·rw[List.filter_cons_of_neg (by simp[hy]),ih,List.filter_cons_of_neg (by simp[hy])]
   ·rw[cE hy,ih,cE hy];cases h:p x
    ·simp
    ·simp only[if_true];rw[AY,aL c]
def qq (p:Int×Nat->Bool): ∀l,fv (l.filter p)=(fv l).filter p
 |[]=>rfl
 |x :: l=>by
  show _ =(ins x (fv l)).filter p;rw[uz p x _ (uy l),← qq p l];cases h:p x
  ·rw[List.filter_cons_of_neg (by simp[h])];simp
  ·rw[cE h];simp[fv]
def gQ (rows:List Rw)(aK:Str)(key:Rw->Int):List (Int×Nat):=((List.range rows.length).filter fun k=>decide ((rows.getD k default).aK=aK)).map fun k=>(key (rows.getD k default),k)
def inOrder (rows:List Rw)(aK:Str)(key:Rw->Int):List Nat:=(fv (gQ rows aK key)).map (·.2)
def uA (rows:List Rw)(aK:Str)(key:Rw->Int):List (Int×Nat):=
 ((List.range rows.length).filter fun k=>decide ((rows.getD k default).aK=aK) && decide (0 < (rows.getD k default).d)).map fun k=>(key (rows.getD k default),k)
def inTurn (rows:List Rw)(aK:Str)(key:Rw->Int):List Nat:=(fv (uA rows aK key)).map (·.2)
def AZ (rows:List Rw)(aK:Str)(key:Rw->Int):uA rows aK key=(gQ rows aK key).filter fun x=>decide (0 < (rows.getD x.2 default).d):=by
 unfold uA gQ;rw[List.filter_map,CD]
 congr 1
 apply Fe;intro k _;simp[Bool.and_comm]
def A0 {α β:Type}(f:α->β)(p:β->Bool)(l:List α):(l.filter fun x=>p (f x)).map f=(l.map f).filter p:=by
 rw[List.filter_map]; rfl
def gX (rows:List Rw)(aK:Str)(key:Rw->Int):inTurn rows aK key=(inOrder rows aK key).filter fun k=>decide (0 < (rows.getD k default).d):=by
 unfold inTurn inOrder;rw[AZ,qq];exact A0 (fun x:Int×Nat=>x.2) (fun k=>decide (0 < (rows.getD k default).d)) _
def j9 {rows:List Rw}{aK:Str}{key:Rw->Int}{k:Nat}:k∈inOrder rows aK key↔k < rows.length/\(rows.getD k default).aK=aK:=by
 unfold inOrder gQ;rw[bE];constructor
 ·rintro⟨x,hx,rfl⟩;obtain⟨j,hj,rfl⟩:=bE.mp ((dk _).mem_iff.mp hx);simpa using hj
 ·rintro⟨h1,h2⟩;refine⟨(key (rows.getD k default),k),(dk _).mem_iff.mpr (bE.mpr ⟨k,?_,rfl⟩),rfl⟩;exact List.mem_filter.mpr ⟨List.mem_range.mpr h1,by simpa using h2⟩
def cq {rows:List Rw}{aK:Str}{key:Rw->Int}{k:Nat}:k∈inTurn rows aK key↔k < rows.length/\(rows.getD k default).aK=aK/\0 < (rows.getD k default).d:=by
 rw[gX,fC,j9];simp[and_assoc]
def vY (rows:List Rw)(aK:Str)(key:Rw->Int):(inOrder rows aK key).Nodup:=by
 have h:((fv (gQ rows aK key)).map (·.2)).Perm ((gQ rows aK key).map (·.2)):=(dk _).map _;refine h.nodup_iff.mpr ?_;unfold gQ;rw[fh];have e:((fun x:Int×Nat=>x.2) ∘ fun k=>(key (rows.getD k default),k))=id:=rfl;rw[e,Kq];exact tw.filter _
def ie (rows:List Rw)(aK:Str)(key:Rw->Int):(inTurn rows aK key).Nodup:=by
 rw[gX];exact(vY rows aK key).filter _
def nX (r r':Rw):Prop:=r'.aK=r.aK/\r'.a=r.a/\r'.b=r.b/\r'.c=r.c
def nX.refl (r:Rw):nX r r:=⟨rfl,rfl,rfl,rfl⟩
def nX.trans {r s t:Rw}(h:nX r s)(k:nX s t):nX r t:=⟨k.1.trans h.1,k.2.1.trans h.2.1,k.2.2.1.trans h.2.2.1,k.2.2.2.trans h.2.2.2⟩
def A1 {rows ig:List Rw}{aK:Str}{key:Rw->Int}(hk: ∀r r',nX r r'->key r'=key r)(hl:ig.length=rows.length)(h: ∀k,nX (rows.getD k default) (ig.getD k default)):gQ ig aK key=gQ rows aK key:=by
 unfold gQ;rw[hl];have e:(fun k=>decide ((ig.getD k default).aK=aK))=fun k=>decide ((rows.getD k default).aK=aK):=by
  funext k
  rw[(h k).1]
 rw[e];apply ez;intro k _;rw[hk _ _ (h k)]
def yF {rows ig:List Rw}{aK:Str}{key:Rw->Int}(hk: ∀r r',nX r r'->key r'=key r)(hl:ig.length=rows.length)(h: ∀k,nX (rows.getD k default) (ig.getD k default)):inOrder ig aK key=inOrder rows aK key:=by
 unfold inOrder;rw[A1 hk hl h]
def yG {rows ig:List Rw}{aK:Str}{key:Rw->Int}(hk: ∀r r',nX r r'->key r'=key r)(hl:ig.length=rows.length)(h: ∀k,nX (rows.getD k default) (ig.getD k default))(hd: ∀k,(ig.getD k default).d<=(rows.getD k default).d):
  inTurn ig aK key=(inTurn rows aK key).filter fun k=>decide (0 < (ig.getD k default).d):=by
 rw[gX,gX,yF hk hl h,CD];apply Fe;intro k _;have:=hd k;by_cases c:0 < (ig.getD k default).d
 ·have c2:0 < (rows.getD k default).d:=by lia
  rw[aJ c,aJ c2];rfl
 ·rw[bC c];rfl
def bJ (exact:Bool)(c:Nat)(S:Bk)(b:Nat):Bk:=
 if 0 < (S.cr c).d/\S.dG c b=true/\((S.cr c).d=(S.bl b).d∨exact=false) then S.put c b (ff (S.cr c).d (S.bl b).d) else S
def bS (aK:Str)(exact:Bool)(S:Bk)(c:Nat):Bk:=(inTurn S.aC aK (·.b)).foldl (bJ exact c) S
def bM (aK:Str)(S:Bk)(exact:Bool):Bk:=(inTurn S.credits aK (·.a)).foldl (bS aK exact) S
def Bk.ij (S:Bk)(aK:Str):Bk:=bM aK (bM aK S true) false
def A2 {α:Type}{l:List α}{i k:Nat}{v d:α}(h:i < l.length):(l.set i v).getD k d=if k=i then v else l.getD k d:=by
 rw[ai,ai];by_cases c:k=i
 ·subst c;rw[aZ rfl,kG h];rfl
 ·rw[aL c,md (fun z=>c z.symm)]
def mE {S:Bk}{c b k:Nat}{x:Int}(h:b < S.aC.length):(S.put c b x).bl k=if k=b then(S.bl b).less x else S.bl k:=A2 h
def o6 {S:Bk}{c b k:Nat}{x:Int}(h:c < S.credits.length):(S.put c b x).cr k=if k=c then(S.cr c).less x else S.cr k:=A2 h
def jY (S:Bk)(l:List (Nat×Nat×Int)):Bk:=l.foldl (fun S t=>S.put t.1 t.2.1 t.2.2) S
def mF (S:Bk)(l m:List (Nat×Nat×Int)):jY S (l ++ m)=jY (jY S l) m:=by
 unfold jY; rw[List.foldl_append]
def js (S:Bk): ∀l,(jY S l).made=S.made ++ l
 |[]=>by simp[jY]
 |t :: l=>by
  show(jY (S.put t.1 t.2.1 t.2.2) l).made=_;rw[js _ l];simp[Bk.put]
structure Later (S S':Bk):Prop where
 bl:S'.aC.length=S.aC.length
 cl:S'.credits.length=S.credits.length
 b: ∀k,nX (S.bl k) (S'.bl k)/\(S'.bl k).d<=(S.bl k).d
 c: ∀k,nX (S.cr k) (S'.cr k)/\(S'.cr k).d<=(S.cr k).d
def Later.refl (S:Bk):Later S S:=⟨rfl,rfl,fun k=>⟨nX.refl _,eu _⟩,fun k=>⟨nX.refl _,eu _⟩⟩
def Later.trans {S T U:Bk}(h:Later S T)(k:Later T U):Later S U:=
 ⟨k.bl.trans h.bl,k.cl.trans h.cl,fun i=>⟨(h.b i).1.trans (k.b i).1,lx (k.b i).2 (h.b i).2⟩,fun i=>⟨(h.c i).1.trans (k.c i).1,lx (k.c i).2 (h.c i).2⟩⟩
def Later.put {S:Bk}{c b:Nat}{x:Int}(hb:b < S.aC.length)(hc:c < S.credits.length)(hx:0<=x):Later S (S.put c b x):=by
 refine⟨dz,dz,fun k=>?_,fun k=>?_⟩
 ·rw[mE hb];split
  ·rename_i e;subst e;exact⟨nX.refl _,by show(S.bl k).d - x<=_; lia⟩
  ·exact⟨nX.refl _,eu _⟩
 ·rw[o6 hc];split
  ·rename_i e;subst e;exact⟨nX.refl _,by show(S.cr k).d - x<=_; lia⟩
  ·exact⟨nX.refl _,eu _⟩
def Later.dG {S T:Bk}(h:Later S T)(c b:Nat):T.dG c b=S.dG c b:=by
 unfold Bk.dG;rw[(h.c c).1.1,(h.b b).1.1,(h.c c).1.2.2.2]
def Later.MF {S T:Bk}(h:Later S T)(aK:Str):inTurn T.aC aK (·.b)=(inTurn S.aC aK (·.b)).filter fun k=>decide (0 < (T.bl k).d):=
 yG (fun r r' z=>z.2.2.1) h.bl (fun k=>(h.b k).1) (fun k=>(h.b k).2)
def gR (f:Int)(ls:List Int)(row:List Bool)(tk:Nat->Bool):Option Nat:=(List.range ls.length).find? fun j=>row.getD j false && decide (ls.getD j 0=f) && !tk j
def bR (fs ls:List Int)(al:List (List Bool)):Nat->(Nat->Bool)×List (Nat×Nat×Int)
 |0=>(fun _=>false,[])
 |i + 1=>match gR (fs.getD i 0) ls (al.getD i []) (bR fs ls al i).1 with
  |none=>bR fs ls al i
  |some j=>(fun x=>x == j || (bR fs ls al i).1 x,(bR fs ls al i).2 ++ [(i,j,fs.getD i 0)])
def lJ (gs ts:List Nat)(t:Nat×Nat×Int):Nat×Nat×Int:=(gs.getD t.1 0,ts.getD t.2.1 0,t.2.2)
def rH {α:Type}(l:List α)(d:α):(List.range l.length).map (fun j=>l.getD j d)=l:=by
 apply List.ext_getElem
 ·rw[ae,df]
 ·intro i h1 h2;rw[Hm,List.getElem_range,ai,af h2];rfl
def C7 {α:Type}(l:List α)(d:α)(p:α->Bool):l.find? p=((List.range l.length).find? fun j=>p (l.getD j d)).map fun j=>l.getD j d:=by
 have e:l.find? p=((List.range l.length).map (fun j=>l.getD j d)).find? p:=by rw[rH]
 rw[e,List.find?_map];rfl
def jE {l:List Nat}{i:Nat}(h:i < l.length):l.getD i 0∈l:=by
 rw[ai,af h];exact bD _
def getD_map {α β:Type}(f:α->β)(l:List α)(i:Nat)(d:α)(e:β)(h:i < l.length):(l.map f).getD i e=f (l.getD i d):=by
 rw[ai,ai,aD,af h];rfl
def getD_inj {l:List Nat}(nd:l.Nodup){i j:Nat}(hi:i < l.length)(hj:j < l.length)(h:l.getD i 0=l.getD j 0):i=j:=by
 rw[ai,ai,af hi,af hj] at h;exact(List.getElem_inj nd).mp h
def idle {ex:Bool}{c:Nat}: ∀{l:List Nat} {S:Bk},(S.cr c).d<=0->l.foldl (bJ ex c) S=S
 |[],_,_=>rfl
 |b :: l,S,h=>by
  rw[dA];have e:bJ ex c S b=S:=by
   unfold bJ;rw[aL (fun z=>by lia)]
  rw[e];exact idle h
def Ep {c:Nat}{S:Bk}(hc:c < S.credits.length): ∀{l:List Nat},(∀b∈l,b < S.aC.length)->0 < (S.cr c).d->l.foldl (bJ true c) S=match l.find? (fun b=>S.dG c b && decide ((S.bl b).d=(S.cr c).d)) with
  |none=>S
  |some b=>S.put c b (S.cr c).d
 |[],_,_=>rfl
 |b :: l,hl,h=>by
  rw[dA];by_cases z:(S.dG c b && decide ((S.bl b).d=(S.cr c).d))=true
  ·rw[List.find?_cons_of_pos (p:=fun b=>S.dG c b && decide ((S.bl b).d=(S.cr c).d)) z];have z':S.dG c b=true/\(S.bl b).d=(S.cr c).d:=by simpa using z
   have e:bJ true c S b=S.put c b (S.cr c).d:=by
    unfold bJ;rw[aZ ⟨h,z'.1,.inl z'.2.symm⟩,z'.2]
    congr 1
    unfold ff;split <;> rfl
   rw[e];refine idle ?_;rw[o6 hc,aZ rfl];show(S.cr c).d - (S.cr c).d<=0;lia
  ·rw[List.find?_cons_of_neg (p:=fun b=>S.dG c b && decide ((S.bl b).d=(S.cr c).d)) z];have e:bJ true c S b=S:=by
    unfold bJ;rw[aL];rintro⟨_,z1,z2⟩;rcases z2 with z2|z2
    ·exact z (by simp[z1,z2])
    ·cases z2
   rw[e];exact Ep hc (fun x hx=>hl x (aQ _ hx)) h
structure uB (S:Bk)(aK:Str)(gs ts:List Nat)(fs ls:List Int)(al:List (List Bool)):Prop where
 eg:gs=inTurn S.credits aK (·.a)
 et:ts=inTurn S.aC aK (·.b)
 ef:fs=gs.map fun g=>(S.cr g).d
 el:ls=ts.map fun t=>(S.bl t).d
 ea:al=gs.map fun g=>ts.map fun t=>S.dG g t
section
variable {S:Bk}{aK:Str}{gs ts:List Nat}{fs ls:List Int}{al:List (List Bool)}
def uB.g (R:uB S aK gs ts fs ls al){i:Nat}(h:i < gs.length):gs.getD i 0 < S.credits.length/\0 < (S.cr (gs.getD i 0)).d/\fs.getD i 0=(S.cr (gs.getD i 0)).d:=by
 have m:=jE h;rw[R.eg] at m;obtain⟨m1,_,m3⟩:=cq.mp m;rw[← R.eg] at m1 m3;exact⟨m1,m3,by rw[R.ef,getD_map _ gs i 0 0 h]⟩
def uB.t (R:uB S aK gs ts fs ls al){i:Nat}(h:i < ts.length):ts.getD i 0 < S.aC.length/\0 < (S.bl (ts.getD i 0)).d/\ls.getD i 0=(S.bl (ts.getD i 0)).d:=by
 have m:=jE h;rw[R.et] at m;obtain⟨m1,_,m3⟩:=cq.mp m;rw[← R.et] at m1 m3;exact⟨m1,m3,by rw[R.el,getD_map _ ts i 0 0 h]⟩
def uB.a (R:uB S aK gs ts fs ls al){i j:Nat}(hi:i < gs.length)(hj:j < ts.length):(al.getD i []).getD j false=S.dG (gs.getD i 0) (ts.getD j 0):=by
 rw[R.ea,getD_map _ gs i 0 [] hi,getD_map _ ts j 0 false hj]
def uB.gn (R:uB S aK gs ts fs ls al):gs.Nodup:=by rw[R.eg]; exact ie _ _ _
def uB.tn (R:uB S aK gs ts fs ls al):ts.Nodup:=by rw[R.et]; exact ie _ _ _
def uB.ll (R:uB S aK gs ts fs ls al):ls.length=ts.length:=by rw[R.el,ae]
def uB.tm (R:uB S aK gs ts fs ls al){b:Nat}(h:b∈ts):b < S.aC.length:=by
 rw[R.et] at h;exact(cq.mp h).1
def o7 {l:List Nat}{i:Nat}(h:i < l.length):l.take (i + 1)=l.take i ++ [l.getD i 0]:=by
 rw[Ak,af h,ai,af h];rfl
structure VP (S:Bk)(aK:Str)(gs ts:List Nat)(fs ls:List Int)(i:Nat)(st:(Nat->Bool)×List (Nat×Nat×Int))(Si:Bk):Prop where
 run:(gs.take i).foldl (bS aK true) S=Si
 eq:Si=jY S (st.2.map (lJ gs ts))
 later:Later S Si
 b: ∀j,j < ts.length->(Si.bl (ts.getD j 0)).d=if st.1 j=true then 0 else ls.getD j 0
 c: ∀k,i<=k->k < gs.length->(Si.cr (gs.getD k 0)).d=fs.getD k 0
def A3 (R:uB S aK gs ts fs ls al){i:Nat}{Si:Bk}(hi:i < gs.length)(J:VP S aK gs ts fs ls i (bR fs ls al i) Si): ∃S',VP S aK gs ts fs ls (i + 1) (bR fs ls al (i + 1)) S':=by
 obtain⟨g1,g2,g3⟩:=R.g hi;have gc:gs.getD i 0 < Si.credits.length:=by rw[J.later.cl]; exact g1
 have fr:(Si.cr (gs.getD i 0)).d=fs.getD i 0:=J.c i (aB _) hi;have fp:0 < (Si.cr (gs.getD i 0)).d:=by rw[fr,g3]; exact g2
 have find:((inTurn Si.aC aK (·.b)).find? fun b=>Si.dG (gs.getD i 0) b && decide ((Si.bl b).d=(Si.cr (gs.getD i 0)).d))=(gR (fs.getD i 0) ls (al.getD i []) (bR fs ls al i).1).map fun j=>ts.getD j 0:=by
  rw[J.later.MF,← R.et,List.find?_filter,C7 ts 0];unfold gR;rw[R.ll]
  congr 1
  have q: ∀j∈List.range ts.length,(decide (0 < (Si.bl (ts.getD j 0)).d) && (Si.dG (gs.getD i 0) (ts.getD j 0) && decide ((Si.bl (ts.getD j 0)).d=(Si.cr (gs.getD i 0)).d)))=((al.getD i []).getD j false && decide (ls.getD j 0=fs.getD i 0) && !(bR fs ls al i).1 j):=by
   intro j hj;have hj:=cK.mp hj;rw[R.a hi hj,J.later.dG,J.b j hj,fr];obtain⟨_,t2,t3⟩:=R.t hj;cases h:(bR fs ls al i).1 j
   ·simp only[Bool.false_eq_true,if_false,Bool.not_false,Bool.and_true];rw[t3,aJ t2];simp
   ·simp
  have key: ∀(l:List Nat) (p q:Nat->Bool),(∀j∈l,p j=q j)->l.find? p=l.find? q:=by
   intro l p q h
   induction l with
   |nil=>rfl
   |cons x l ih=>
    rw[List.find?_cons,List.find?_cons,h x bh,ih fun j hj=>h j (aQ _ hj)]
  refine key _ _ _ fun j hj=>?_;rw[← q j hj];simp
 have run:(gs.take (i + 1)).foldl (bS aK true) S=match(gR (fs.getD i 0) ls (al.getD i []) (bR fs ls al i).1).map (fun j=>ts.getD j 0) with
   |none=>Si
   |some b=>Si.put (gs.getD i 0) b (Si.cr (gs.getD i 0)).d:=by
  rw[o7 hi,rj,J.run];show bS aK true Si (gs.getD i 0)=_;unfold bS;rw[Ep gc (fun b hb=>(cq.mp hb).1) fp,find]
 cases h:gR (fs.getD i 0) ls (al.getD i []) (bR fs ls al i).1 with
 |none=>
  rw[h] at run;have e:bR fs ls al (i + 1)=bR fs ls al i:=by rw[bR,h]
  rw[e];exact⟨Si,run,J.eq,J.later,J.b,fun k h1 h2=>J.c k (by lia) h2⟩
 |some j=>
  rw[h] at run;have e:bR fs ls al (i + 1)=(fun x=>x == j || (bR fs ls al i).1 x,(bR fs ls al i).2 ++ [(i,j,fs.getD i 0)]):=by rw[bR,h]
  have hj:j < ts.length:=by
   unfold gR at h;have:=Nc h;rw[R.ll] at this;exact cK.mp this
  have YB:(al.getD i []).getD j false=true/\ls.getD j 0=fs.getD i 0/\(bR fs ls al i).1 j=false:=by
   unfold gR at h;have:=List.find?_some h;simpa[and_assoc] using this
  obtain⟨t1,t2,t3⟩:=R.t hj;have tb:ts.getD j 0 < Si.aC.length:=by rw[J.later.bl]; exact t1
  have f0:0<=fs.getD i 0:=by rw[g3]; lia
  have run':(gs.take (i + 1)).foldl (bS aK true) S=Si.put (gs.getD i 0) (ts.getD j 0) (fs.getD i 0):=by
   rw[run,← fr];rfl
  rw[e];refine⟨Si.put (gs.getD i 0) (ts.getD j 0) (fs.getD i 0),run',?_,J.later.trans (Later.put tb gc f0),fun j' T7=>?_,fun k h1 h2=>?_⟩
  ·rw[aM,mF,← J.eq];rfl
  ·rw[mE tb];by_cases q:j'=j
   ·subst q;rw[aZ rfl];simp only[beq_self_eq_true,Bool.true_or,if_true];show(Si.bl (ts.getD j' 0)).d - fs.getD i 0=0;rw[J.b j' hj,YB.2.2,aL (by decide),YB.2.1];lia
   ·rw[aL fun z=>q (getD_inj R.tn T7 hj z),J.b j' T7];have:(j' == j)=false:=by simpa using q
    show _ =if(j' == j || (bR fs ls al i).1 j')=true then 0 else _;rw[this,Bool.false_or]
  ·rw[o6 gc,aL fun z=>by have:=getD_inj R.gn h2 hi z; lia];exact J.c k (by lia) h2
def uC (R:uB S aK gs ts fs ls al): ∀i,i<=gs.length-> ∃Si,VP S aK gs ts fs ls i (bR fs ls al i) Si
 |0,_=>⟨S,rfl,rfl,Later.refl S,fun j hj=>by
   obtain⟨_,_,t3⟩:=R.t hj;show _ =if false=true then 0 else _;rw[aL (by decide),t3],fun k _ h2=>by
   obtain⟨_,_,g3⟩:=R.g h2;exact g3.symm⟩
 |i + 1,h=>by
  obtain⟨Si,J⟩:=uC R i (by lia);exact A3 R (by lia) J
def Il (R:uB S aK gs ts fs ls al):bM aK S true=jY S ((bR fs ls al gs.length).2.map (lJ gs ts))/\Later S (bM aK S true):=by
 obtain⟨Si,J⟩:=uC R gs.length (aB _);have e:bM aK S true=Si:=by
  unfold bM;rw[← R.eg,← J.run,a8]
 rw[e];exact⟨J.eq,J.later⟩
end
def Er {l:List Int}{i j:Nat}{v:Int}(h:i≠j):(l.set i v).getD j 0=l.getD j 0:=by
 rw[ai,ai,md h]
def K8 {l:List Int}{i:Nat}{v:Int}(h:i < l.length):(l.set i v).getD i 0=v:=by
 rw[ai,kG h]; rfl
def dC (l:List Int)(ps:List (Nat×Int)):List Int:=ps.foldl (fun l x=>l.set x.1 (l.getD x.1 0 - x.2)) l
def sq (l:List Int)(ps:List (Nat×Int))(x:Nat×Int):dC l (ps ++ [x])=(dC l ps).set x.1 ((dC l ps).getD x.1 0 - x.2):=by
 unfold dC; rw[List.foldl_append]; rfl
def o8 (ps:List (Nat×Int)): ∀l:List Int,(dC l ps).length=l.length:=by
 induction ps with
 |nil=>intro l; rfl
 |cons x ps ih=>
  intro l;show(dC (l.set x.1 _) ps).length=_;rw[ih,dz]
def bz (f:Int)(l:List Int)(row:List Bool):Nat->Int×List (Nat×Int)
 |0=>(f,[])
 |j + 1=>if row.getD j false=true/\0 < ff (bz f l row j).1 (l.getD j 0) then((bz f l row j).1 - ff (bz f l row j).1 (l.getD j 0),(bz f l row j).2 ++ [(j,ff (bz f l row j).1 (l.getD j 0))]) else bz f l row j
def cg (fs ls:List Int)(al:List (List Bool)):Nat->List Int×List (Nat×Nat×Int)
 |0=>(ls,[])
 |i + 1=>(dC (cg fs ls al i).1 (bz (fs.getD i 0) (cg fs ls al i).1 (al.getD i []) (cg fs ls al i).1.length).2,
   (cg fs ls al i).2 ++ (bz (fs.getD i 0) (cg fs ls al i).1 (al.getD i []) (cg fs ls al i).1.length).2.map fun x=>(i,x.1,x.2))
def jt (fs ls:List Int)(al:List (List Bool)): ∀i,(cg fs ls al i).1.length=ls.length
 |0=>rfl
 |i + 1=>by
  show(dC _ _).length=_;rw[o8,jt fs ls al i]
def fT (c:Nat)(S:Bk)(b:Nat):Bk:=if 0 < (S.bl b).d then bJ false c S b else S
def Io {c b:Nat}{S:Bk}(hc:c < S.credits.length)(hb:b < S.aC.length):Later S (fT c S b)/\ ∀k,k≠b->((fT c S b).bl k).d=(S.bl k).d:=by
 unfold fT bJ;split
 ·rename_i h1;split
  ·rename_i h2;refine⟨Later.put hb hc ?_,fun k hk=>by rw[mE hb,aL hk]⟩;unfold ff;split <;> lia
  ·exact⟨Later.refl S,fun _ _=>rfl⟩
 ·exact⟨Later.refl S,fun _ _=>rfl⟩
def Es {c:Nat}{S0:Bk}: ∀{l:List Nat} {S:Bk},l.Nodup->c < S.credits.length->(∀b∈l,b < S.aC.length)->(∀b∈l,(S.bl b).d=(S0.bl b).d)->
  (l.filter fun b=>decide (0 < (S0.bl b).d)).foldl (bJ false c) S=l.foldl (fT c) S
 |[],_,_,_,_,_=>rfl
 |b :: l,S,nd,hc,hl,hd=>by
  rw[dS] at nd;obtain⟨lt,ot⟩:=Io (S:=S) hc (hl b bh);have ih:=Es (S:=fT c S b) (S0:=S0) (l:=l) nd.2 (by rw[lt.cl]; exact hc) (fun x hx=>by rw[lt.bl]; exact hl x (aQ _ hx)) (fun x hx=>by
   rw[ot x (fun z=>nd.1 (z▸hx))];exact hd x (aQ _ hx))
  rw[dA,← ih];have e:=hd b bh;by_cases z:0 < (S0.bl b).d
  ·rw[List.filter_cons_of_pos (by simpa using z),List.foldl_cons]
   congr 1
   unfold fT;rw[aZ (by lia)]
  ·rw[List.filter_cons_of_neg (by simpa using z)]
   congr 1
   unfold fT;rw[aL (by lia)]
section
variable {S:Bk}{aK:Str}{gs ts:List Nat}{fs ls:List Int}{al:List (List Bool)}
structure N4 (S:Bk)(ts:List Nat)(c:Nat)(L:List Int)(j:Nat)(st:Int×List (Nat×Int))(Sj:Bk):Prop where
 run:(ts.take j).foldl (fT c) S=Sj
 eq:Sj=jY S (st.2.map fun x=>(c,ts.getD x.1 0,x.2))
 later:Later S Sj
 f:(Sj.cr c).d=st.1
 b: ∀k,k < ts.length->(Sj.bl (ts.getD k 0)).d=(dC L st.2).getD k 0
 lt: ∀x∈st.2,x.1 < j
 oc: ∀k,k≠c->Sj.cr k=S.cr k
def yH {c:Nat}{L:List Int}{row:List Bool}(nd:ts.Nodup)(hc:c < S.credits.length)(ht: ∀b∈ts,b < S.aC.length)(hL:L.length=ts.length)(hb: ∀k,k < ts.length->(S.bl (ts.getD k 0)).d=L.getD k 0)
  (hr: ∀k,k < ts.length->row.getD k false=S.dG c (ts.getD k 0)) {j:Nat} (hj:j < ts.length) {Sj:Bk} (J:N4 S ts c L j (bz (S.cr c).d L row j) Sj): ∃S',N4 S ts c L (j + 1) (bz (S.cr c).d L row (j + 1)) S':=by
 have ap:(dC L (bz (S.cr c).d L row j).2).getD j 0=L.getD j 0:=by
  have other: ∀(ps:List (Nat×Int)) (l:List Int),(∀x∈ps,x.1≠j)->(dC l ps).getD j 0=l.getD j 0:=by
   intro ps
   induction ps with
   |nil=>intro l h; rfl
   |cons x ps ih=>
    intro l h;show(dC (l.set x.1 _) ps).getD j 0=_;rw[ih _ fun y hy=>h y (aQ _ hy),Er (h x bh)]
  exact other _ _ fun x hx=>aU (J.lt x hx)
 have bd:(Sj.bl (ts.getD j 0)).d=L.getD j 0:=by rw[J.b j hj,ap]
 have cj:c < Sj.credits.length:=by rw[J.later.cl]; exact hc
 have bj:ts.getD j 0 < Sj.aC.length:=by rw[J.later.bl]; exact ht _ (jE hj)
 have run:(ts.take (j + 1)).foldl (fT c) S=fT c Sj (ts.getD j 0):=by
  rw[o7 hj,rj,J.run];rfl
 have g:Sj.dG c (ts.getD j 0)=row.getD j false:=by rw[J.later.dG,hr j hj]
 by_cases z:row.getD j false=true/\0 < ff (bz (S.cr c).d L row j).1 (L.getD j 0)
 ·have e:bz (S.cr c).d L row (j + 1)=((bz (S.cr c).d L row j).1 - ff (bz (S.cr c).d L row j).1 (L.getD j 0),(bz (S.cr c).d L row j).2 ++ [(j,ff (bz (S.cr c).d L row j).1 (L.getD j 0))]):=by
   rw[bz,aZ z]
  have z1:0 < (Sj.bl (ts.getD j 0)).d/\0 < (Sj.cr c).d:=by
   rw[bd,J.f];have:=z.2;unfold ff at this;split at this <;> lia
  have e2:fT c Sj (ts.getD j 0)=Sj.put c (ts.getD j 0) (ff (bz (S.cr c).d L row j).1 (L.getD j 0)):=by
   unfold fT bJ;rw[aZ z1.1,aZ ⟨z1.2,by rw[g]; exact z.1,.inr rfl⟩,J.f,bd]
  rw[e];refine⟨_,run.trans e2,?_,J.later.trans (Later.put bj cj (by lia)),?_,fun k hk=>?_,fun x hx=>?_,fun k hk=>?_⟩
  ·rw[aM,mF,← J.eq];rfl
  ·rw[o6 cj,aZ rfl];show(Sj.cr c).d - _ =_;rw[J.f]
  ·rw[mE bj,sq];have len:(dC L (bz (S.cr c).d L row j).2).length=ts.length:=by rw[o8,hL]
   by_cases q:k=j
   ·subst q;rw[aZ rfl,K8 (by rw[len]; exact hk)];show(Sj.bl (ts.getD k 0)).d - _ =(dC L _).getD k 0 - _;rw[J.b k hk]
   ·rw[aL fun w=>q (getD_inj nd hk hj w),J.b k hk,Er (vI q)]
  ·rcases bb.mp hx with hx|hx
   ·have:=J.lt x hx;lia
   ·rw[ak.mp hx];exact eT _
  ·rw[o6 cj,aL hk];exact J.oc k hk
 ·have e:bz (S.cr c).d L row (j + 1)=bz (S.cr c).d L row j:=by rw[bz,aL z]
  have e2:fT c Sj (ts.getD j 0)=Sj:=by
   unfold fT bJ;split
   ·rename_i h1;rw[aL];rintro⟨h2,h3,_⟩;refine z ⟨by rw[← g]; exact h3,?_⟩;rw[bd] at h1;rw[J.f] at h2;unfold ff;split <;> assumption
   ·rfl
  rw[e];exact⟨Sj,run.trans e2,J.eq,J.later,J.f,J.b,fun x hx=>by have:=J.lt x hx; lia,J.oc⟩
def Et {c:Nat}{L:List Int}{row:List Bool}(nd:ts.Nodup)(hc:c < S.credits.length)(ht: ∀b∈ts,b < S.aC.length)(hL:L.length=ts.length)(hb: ∀k,k < ts.length->(S.bl (ts.getD k 0)).d=L.getD k 0)
  (hr: ∀k,k < ts.length->row.getD k false=S.dG c (ts.getD k 0)): ∀j,j<=ts.length-> ∃Sj,N4 S ts c L j (bz (S.cr c).d L row j) Sj
 |0,_=>⟨S,rfl,rfl,Later.refl S,rfl,hb,(fun _ h=>by cases h),fun _ _=>rfl⟩
 |j + 1,h=>by
  obtain⟨Sj,J⟩:=Et nd hc ht hL hb hr j (by lia);exact yH nd hc ht hL hb hr (by lia) J
structure VQ (S:Bk)(aK:Str)(gs ts:List Nat)(fs:List Int)(i:Nat)(st:List Int×List (Nat×Nat×Int))(Si:Bk):Prop where
 run:(gs.take i).foldl (bS aK false) S=Si
 eq:Si=jY S (st.2.map (lJ gs ts))
 later:Later S Si
 b: ∀j,j < ts.length->(Si.bl (ts.getD j 0)).d=st.1.getD j 0
 c: ∀k,i<=k->k < gs.length->(Si.cr (gs.getD k 0)).d=fs.getD k 0
def A4 (R:uB S aK gs ts fs ls al){i:Nat}{Si:Bk}(hi:i < gs.length)(J:VQ S aK gs ts fs i (cg fs ls al i) Si): ∃S',VQ S aK gs ts fs (i + 1) (cg fs ls al (i + 1)) S':=by
 obtain⟨g1,g2,g3⟩:=R.g hi;have gc:gs.getD i 0 < Si.credits.length:=by rw[J.later.cl]; exact g1
 have fr:(Si.cr (gs.getD i 0)).d=fs.getD i 0:=J.c i (aB _) hi;have tl:(cg fs ls al i).1.length=ts.length:=by rw[jt,R.ll]
 have tb: ∀b∈ts,b < Si.aC.length:=fun b hb=>by rw[J.later.bl]; exact R.tm hb
 obtain⟨S',K⟩:=Et (S:=Si) (ts:=ts) (c:=gs.getD i 0) (L:=(cg fs ls al i).1) (row:=al.getD i []) R.tn gc tb tl J.b (fun k hk=>by rw[R.a hi hk,J.later.dG]) ts.length (aB _);have e:(gs.take (i + 1)).foldl (bS aK false) S=S':=by
  rw[o7 hi,rj,J.run];show bS aK false Si (gs.getD i 0)=_;unfold bS;rw[J.later.MF,← R.et,Es R.tn gc tb (fun _ _=>rfl),← K.run,a8]
 rw[fr] at K;have pe:bz (fs.getD i 0) (cg fs ls al i).1 (al.getD i []) ts.length=bz (fs.getD i 0) (cg fs ls al i).1 (al.getD i []) (cg fs ls al i).1.length:=by rw[tl]
 rw[pe] at K;refine⟨S',e,?_,J.later.trans K.later,K.b,fun k h1 h2=>?_⟩
 ·show S'=jY S (((cg fs ls al i).2 ++ _).map (lJ gs ts));rw[aM,mF,← J.eq,K.eq,fh];rfl
 ·rw[K.oc _ fun z=>by have:=getD_inj R.gn h2 hi z; lia];exact J.c k (by lia) h2
def uD (R:uB S aK gs ts fs ls al): ∀i,i<=gs.length-> ∃Si,VQ S aK gs ts fs i (cg fs ls al i) Si
 |0,_=>⟨S,rfl,rfl,Later.refl S,fun j hj=>by
   obtain⟨_,_,t3⟩:=R.t hj;exact t3.symm,fun k _ h2=>by
   obtain⟨_,_,g3⟩:=R.g h2;exact g3.symm⟩
 |i + 1,h=>by
  obtain⟨Si,J⟩:=uD R i (by lia);exact A4 R (by lia) J
def Iq (R:uB S aK gs ts fs ls al):bM aK S false=jY S ((cg fs ls al gs.length).2.map (lJ gs ts))/\Later S (bM aK S false):=by
 obtain⟨Si,J⟩:=uD R gs.length (aB _);have e:bM aK S false=Si:=by
  unfold bM;rw[← R.eg,← J.run,a8]
 rw[e];exact⟨J.eq,J.later⟩
end
inductive K9 where
 |int (i:Int)
 |txt (s:Str)
 |sets (l:List (Nat×Nat×Int))
 |pairs (l:List (Nat×Int))
 |ints (l:List Int)
def bu.isSet:bu->Bool
 | .set _ _ _=>true
 | .fu _=>true
 |_=>false
def bu.tells:bu->Bool
 | .dF _ _ _ _=>true
 | .pQ _ _ _=>true
 | .note _ _ _=>true
 | .set _ _ _=>true
 | .fu _=>true
 |_=>false
def pS (x:Int)(n:Nat):Prop:=0<=x/\x < (n:Int)
instance (x:Int) (n:Nat):Decidable (pS x n):=inferInstanceAs (Decidable (_/\_))
def Bk.bar (S:Bk):bu->Str
 | .dF _ day An dD=>if dD < 1 then "no amount" else if An < day then "too early" else ""
 | .pQ _ _ dD=>if dD < 1 then "no amount" else ""
 | .note b _ dD=>if ¬ pS b S.aC.length then "no bill" else if dD < 1 then "no amount" else ""
 | .set c b dD=>if ¬ pS c S.credits.length then "no credit" else if ¬ pS b S.aC.length then "no bill" else if S.dG c.toNat b.toNat=false then "not theirs" else
   if dD < 1 then "no amount" else if ff (S.cr c.toNat).d (S.bl b.toNat).d < dD then "too much" else ""
 |_=>""
def uE (S:Bk)(b d a:Int):S.bar (.note b d a)=(if ¬ pS b S.aC.length then("no bill":Str) else if a < 1 then("no amount":Str) else("":Str)):=rfl
def yI (S:Bk)(c b a:Int):S.bar (.set c b a)=(if ¬ pS c S.credits.length then("no credit":Str) else if ¬ pS b S.aC.length then("no bill":Str) else if S.dG c.toNat b.toNat=false then("not theirs":Str) else
   if a < 1 then("no amount":Str) else if ff (S.cr c.toNat).d (S.bl b.toNat).d < a then("too much":Str) else("":Str)):=rfl
def n1:("no credit":Str)≠"":=by decide +kernel
def n2:("no bill":Str)≠"":=by decide +kernel
def n3:("not theirs":Str)≠"":=by decide +kernel
def n4:("no amount":Str)≠"":=by decide +kernel
def n6:("too much":Str)≠"":=by decide +kernel
def nF {S:Bk}{b d a:Int}(h:S.bar (.note b d a)=""):pS b S.aC.length/\1<=a:=by
 rw[uE] at h;split at h
 ·exact absurd h n2
 ·rename_i q;split at h
  ·exact absurd h n4
  ·exact⟨Ff.mp q,by lia⟩
def kP {S:Bk}{c b a:Int}(h:S.bar (.set c b a)=""):pS c S.credits.length/\pS b S.aC.length/\S.dG c.toNat b.toNat=true/\1<=a/\a<=(S.cr c.toNat).d/\a<=(S.bl b.toNat).d:=by
 rw[yI] at h;split at h
 ·exact absurd h n1
 rename_i q1;split at h
 ·exact absurd h n2
 rename_i q2;split at h
 ·exact absurd h n3
 rename_i q3;split at h
 ·exact absurd h n4
 rename_i q4;split at h
 ·exact absurd h n6
 rename_i q5;refine⟨Classical.not_not.mp q1,Classical.not_not.mp q2,by simpa using q3,by lia,?_⟩;unfold ff at q5;split at q5 <;> lia
def Bk.g8 (S:Bk)(r:Rw):Bk:={S with aC:=S.aC ++ [r]}
def Bk.fF (S:Bk)(r:Rw):Bk:={S with credits:=S.credits ++ [r]}
def Bk.enter (S:Bk):bu->Bk
 | .dF w d u a=>S.g8 ⟨w,d,u,a,a⟩
 | .pQ w d a=>S.fF ⟨w,d,a,-1,a⟩
 | .note b d a=>S.fF ⟨(S.bl b.toNat).aK,d,a,b,a⟩
 | .set c b a=>S.put c.toNat b.toNat a
 | .fu w=>S.ij w
 |_=>S
def Bk.La (S:Bk):bu->K9
 | .dF _ _ _ _=> .int S.aC.length
 | .pQ _ _ _=> .int S.credits.length
 | .note _ _ _=> .int S.credits.length
 | .set _ _ a=> .int a
 | .fu w=> .sets ((S.ij w).made.drop S.made.length)
 |_=> .int 0
def cu:List (Int×bu)->Bk->Option Bk
 |[],S=>some S
 |(_,d) :: l,S=>if S.bar d="" then cu l (S.enter d) else none
def il:List (Int×bu)->Bk->Str
 |[],_=>""
 |(_,d) :: l,S=>if S.bar d="" then il l (S.enter d) else S.bar d
def Bk.fW (S:Bk)(t:Nat×Nat×Int):Int:=if(S.bl t.2.1).a > (S.cr t.1).a then(S.bl t.2.1).a else(S.cr t.1).a
def spotOf (bK:Bool)(t:Nat×Nat×Int):Nat:=if bK then t.2.1 else t.1
def Bk.cnt (S:Bk)(bK:Bool)(k:Nat)(day:Int)(t:Nat×Nat×Int):Bool:=decide (spotOf bK t=k) && decide (S.fW t<=day)
def Bk.rows (S:Bk)(bK:Bool):List Rw:=if bK then S.aC else S.credits
def Ir (bK:Bool)(r:Rw):Int:=if bK then r.c else r.b
def keyOf (bK:Bool)(r:Rw):Int:=if bK then r.b else r.a
def Bk.rest (S:Bk)(bK:Bool)(k:Nat)(day:Int):Int:=Ir bK ((S.rows bK).getD k default) - ((S.made.filter (S.cnt bK k day)).map (·.2.2)).sum
def Bk.qr (S:Bk)(bK:Bool)(aK:Str)(day:Int):List (Nat×Int):=
 ((inOrder (S.rows bK) aK (keyOf bK)).filter fun k=>decide (((S.rows bK).getD k default).a<=day) && decide (0 < S.rest bK k day)).map fun k=>(k,S.rest bK k day)
def placeOf (fW:Int)(cY:List Int):Nat:=if fW<=0 then 0 else 1 + (cY.filter fun l=>decide (l < fW)).length
def su (l:List Int)(i:Nat)(x:Int):List Int:=l.set i (l.getD i 0 + x)
def Bk.N5 (S:Bk)(aK:Str)(day:Int)(cY:List Int):List Int:=
 (S.qr true aK day).foldl (fun l t=>su l (placeOf (day - (S.bl t.1).b) cY) t.2) (List.replicate (cY.length + 2) 0)
structure iD where
 steps:List (Int×bu)
 bk:Bk
def iD.new:iD:=⟨[],Bk.new⟩
def cH (m:Int)(st:Int×bu):Bool:= !(decide (st.1=m) && st.2.isSet)
def fz (T:iD)(n:Int):bu->K9×iD
 | .gF m=>if(T.steps.filter (cH m)).length=T.steps.length then(.txt "no setting",T) else
   match cu (T.steps.filter (cH m)) Bk.new with
   |none=>(.txt "needed",T)
   |some S=>(.txt "undone",⟨T.steps.filter (cH m),S⟩)
 | .ask o w d=>(.pairs (T.bk.qr o w d),T)
 | .hZ w d l=>(.ints (T.bk.N5 w d l),T)
 |d=>if T.bk.bar d="" then(T.bk.La d,⟨T.steps ++ [(n,d)],T.bk.enter d⟩) else(.txt (T.bk.bar d),T)
def gG:List bu->iD->Nat->List K9×iD
 |[],T,_=>([],T)
 |d :: l,T,n=>((fz T n d).1 :: (gG l (fz T n d).2 (n + 1)).1,(gG l (fz T n d).2 (n + 1)).2)
structure WF (S:Bk)(n:Nat):Prop where
 m: ∀t∈S.made,t.1 < S.credits.length/\t.2.1 < S.aC.length
 o: ∀c,c < S.credits.length->(S.cr c).c= -1∨ ∃b:Nat,(S.cr c).c=(b:Int)/\b < S.aC.length/\(S.cr c).aK=(S.bl b).aK
 lb:S.aC.length<=n
 lc:S.credits.length<=n
 lm:S.made.length<=8000 * n
def WF.new:WF Bk.new 0:=⟨(fun t h=>by cases h),fun c h=>absurd h (fE _),aB _,aB _,aB _⟩
def WF.mono {S:Bk}{n m:Nat}(h:WF S n)(k:n<=m):WF S m:=⟨h.m,h.o,aV h.lb k,aV h.lc k,aV h.lm (Nat.mul_le_mul_left _ k)⟩
def getD_snoc {α:Type}{l:List α}{x d:α}{k:Nat}(h:k < l.length):(l ++ [x]).getD k d=l.getD k d:=by
 rw[ai,ai,Nd h]
def getD_last {α:Type}{l:List α}{x d:α}:(l ++ [x]).getD l.length d=x:=by
 rw[ai,oP (aB _)];simp
def WF.g8 {S:Bk}{n:Nat}(h:WF S n)(r:Rw):WF (S.g8 r) (n + 1):=by
 have len:(S.g8 r).aC.length=S.aC.length + 1:=by simp[Bk.g8]
 refine⟨fun t ht=>⟨(h.m t ht).1,by rw[len]; have:=(h.m t ht).2; lia⟩,fun c hc=>?_,by rw[len]; have:=h.lb; lia,by have:=h.lc; exact rm this,by have:=h.lm; show S.made.length<=_; lia⟩;rcases h.o c hc with z|⟨b,z1,z2,z3⟩
 ·exact .inl z
 ·refine .inr ⟨b,z1,by rw[len]; lia,?_⟩;show(S.cr c).aK=((S.aC ++ [r]).getD b default).aK;rw[getD_snoc z2];exact z3
def WF.fF {S:Bk}{n:Nat}(h:WF S n)(r:Rw)(hr:r.c= -1∨ ∃b:Nat,r.c=(b:Int)/\b < S.aC.length/\r.aK=(S.bl b).aK):WF (S.fF r) (n + 1):=by
 have len:(S.fF r).credits.length=S.credits.length + 1:=by simp[Bk.fF]
 refine⟨fun t ht=>⟨by rw[len]; have:=(h.m t ht).1; lia,(h.m t ht).2⟩,fun c hc=>?_,by have:=h.lb; exact rm this,by rw[len]; have:=h.lc; lia,by have:=h.lm; show S.made.length<=_; lia⟩;by_cases q:c < S.credits.length
 ·have e:(S.fF r).cr c=S.cr c:=getD_snoc q;rw[e];exact h.o c q
 ·have q':c=S.credits.length:=by lia
  have e:(S.fF r).cr c=r:=by rw[q']; exact getD_last
  rw[e];exact hr
def WF.later {S S':Bk}{n m:Nat}(h:WF S n)(l:Later S S')(hm: ∀t∈S'.made,t.1 < S.credits.length/\t.2.1 < S.aC.length)(hn:n<=m)(hl:S'.made.length<=8000 * m):WF S' m:=by
 refine⟨fun t ht=>by rw[l.cl,l.bl]; exact hm t ht,fun c hc=>?_,by rw[l.bl]; exact aV h.lb hn,by rw[l.cl]; exact aV h.lc hn,hl⟩;rw[l.cl] at hc;rw[(l.c c).1.2.2.2,(l.c c).1.1];rcases h.o c hc with z|⟨b,z1,z2,z3⟩
 ·exact .inl z
 ·exact .inr ⟨b,z1,by rw[l.bl]; exact z2,by rw[(l.b b).1.1]; exact z3⟩
def uF: ∀{n:Nat} {l:List Nat},l.Nodup->(∀x∈l,x < n)->l.length<=n
 |0,l,_,h=>by
  cases l with
  |nil=>exact aB _
  |cons x l=>exact absurd (h x bh) (fE _)
 |n + 1,l,nd,h=>by
  by_cases q:n∈l
  ·have h1:=uF (n:=n) (l:=l.erase n) (nd.erase n) (fun x hx=>by
    have h2:=h x (List.mem_of_mem_erase hx);have h3:x≠n:=fun z=>(List.Nodup.mem_erase_iff nd).mp hx |>.1 z;lia)
   rw[List.length_erase_of_mem q] at h1;lia
  ·have:=uF (n:=n) nd (fun x hx=>by
    have h2:=h x hx;have h3:x≠n:=fun z=>q (z▸hx);lia)
   lia
def jF (rows:List Rw)(aK:Str)(key:Rw->Int):(inTurn rows aK key).length<=rows.length:=uF (ie _ _ _) fun _ h=>(cq.mp h).1
def gY (fs ls:List Int)(al:List (List Bool)): ∀i,(bR fs ls al i).2.length<=i
 |0=>aB _
 |i + 1=>by
  have:=gY fs ls al i;unfold bR;split
  ·lia
  ·rw[aF];show _ + 1<=_;lia
def fX (f:Int)(l:List Int)(row:List Bool): ∀j,(bz f l row j).2.length<=j
 |0=>aB _
 |j + 1=>by
  have:=fX f l row j;rw[bz];split
  ·rw[aF];show _ + 1<=_;lia
  ·lia
def o9 (fs ls:List Int)(al:List (List Bool)): ∀i,(cg fs ls al i).2.length<=i * ls.length
 |0=>by simp[cg]
 |i + 1=>by
  have h1:=o9 fs ls al i;have h2:=fX (fs.getD i 0) (cg fs ls al i).1 (al.getD i []) (cg fs ls al i).1.length;show((cg fs ls al i).2 ++ _).length<=_;rw[aF,ae,vL];rw[jt] at h2 ⊢;lia
def lK (fs ls:List Int)(al:List (List Bool)): ∀i,∀t∈(bR fs ls al i).2,t.1 < i/\t.2.1 < ls.length
 |0,t,h=>by cases h
 |i + 1,t,h=>by
  rw[bR] at h;split at h
  ·have:=lK fs ls al i t h;lia
  ·rename_i j hj;rcases bb.mp h with h|h
   ·have:=lK fs ls al i t h;lia
   ·rw[ak.mp h];unfold gR at hj;have:=cK.mp (Nc hj);exact⟨eT _,this⟩
def pj (f:Int)(l:List Int)(row:List Bool): ∀j,∀x∈(bz f l row j).2,x.1 < j
 |0,x,h=>by cases h
 |j + 1,x,h=>by
  rw[bz] at h;split at h
  ·rcases bb.mp h with h|h
   ·have:=pj f l row j x h;lia
   ·rw[ak.mp h];exact eT _
  ·have:=pj f l row j x h;lia
def uG (fs ls:List Int)(al:List (List Bool)): ∀i,∀t∈(cg fs ls al i).2,t.1 < i/\t.2.1 < ls.length
 |0,t,h=>by cases h
 |i + 1,t,h=>by
  rcases bb.mp (show t∈(cg fs ls al i).2 ++ _ from h) with h|h
  ·have:=uG fs ls al i t h;lia
  ·obtain⟨x,hx,rfl⟩:=bE.mp h;have:=pj _ _ _ _ x hx;rw[jt] at this;exact⟨eT _,this⟩
def YC (S:Bk)(aK:Str):uB S aK (inTurn S.credits aK (·.a)) (inTurn S.aC aK (·.b)) ((inTurn S.credits aK (·.a)).map fun g=>(S.cr g).d) ((inTurn S.aC aK (·.b)).map fun t=>(S.bl t).d)
  ((inTurn S.credits aK (·.a)).map fun g=>(inTurn S.aC aK (·.b)).map fun t=>S.dG g t):=⟨rfl,rfl,rfl,rfl,rfl⟩
def Eu {S:Bk}{gs ts:List Nat}{l:List (Nat×Nat×Int)}(hl: ∀t∈l,t.1 < gs.length/\t.2.1 < ts.length)(hg: ∀g∈gs,g < S.credits.length)(ht: ∀t∈ts,t < S.aC.length): ∀t∈l.map (lJ gs ts),t.1 < S.credits.length/\t.2.1 < S.aC.length:=by
 intro t h;obtain⟨x,hx,rfl⟩:=bE.mp h;obtain⟨h1,h2⟩:=hl x hx;exact⟨hg _ (jE h1),ht _ (jE h2)⟩
def uH (S:Bk)(aK:Str)(ex:Bool):Later S (bM aK S ex)/\ ∃l,(bM aK S ex).made=S.made ++ l/\(∀t∈l,t.1 < S.credits.length/\t.2.1 < S.aC.length)/\l.length<=S.credits.length + S.credits.length * S.aC.length:=by
 have gl:=jF S.credits aK (·.a);have tl:=jF S.aC aK (·.b);have hg: ∀g∈inTurn S.credits aK (·.a),g < S.credits.length:=fun g h=>(cq.mp h).1;have ht: ∀t∈inTurn S.aC aK (·.b),t < S.aC.length:=fun g h=>(cq.mp h).1;have mul:(inTurn S.credits aK (·.a)).length * (inTurn S.aC aK (·.b)).length<=S.credits.length * S.aC.length:=pX gl tl;cases ex with
 |true=>
  obtain⟨e,l⟩:=Il (YC S aK);refine⟨l,_,by rw[e]; exact js _ _,Eu (fun t h=>?_) hg ht,?_⟩
  ·have:=lK _ _ _ _ t h;rwa [ae] at this
  ·rw[ae];have:=gY ((inTurn S.credits aK (·.a)).map fun g=>(S.cr g).d) ((inTurn S.aC aK (·.b)).map fun t=>(S.bl t).d) ((inTurn S.credits aK (·.a)).map fun g=>(inTurn S.aC aK (·.b)).map fun t=>S.dG g t) (inTurn S.credits aK (·.a)).length;lia
 |false=>
  obtain⟨e,l⟩:=Iq (YC S aK);refine⟨l,_,by rw[e]; exact js _ _,Eu (fun t h=>?_) hg ht,?_⟩
  ·have:=uG _ _ _ _ t h;rwa [ae] at this
  ·rw[ae];have:=o9 ((inTurn S.credits aK (·.a)).map fun g=>(S.cr g).d) ((inTurn S.aC aK (·.b)).map fun t=>(S.bl t).d) ((inTurn S.credits aK (·.a)).map fun g=>(inTurn S.aC aK (·.b)).map fun t=>S.dG g t) (inTurn S.credits aK (·.a)).length;rw[ae] at this;lia
def qt (S:Bk)(aK:Str):Later S (S.ij aK)/\ ∃l,(S.ij aK).made=S.made ++ l/\(∀t∈l,t.1 < S.credits.length/\t.2.1 < S.aC.length)/\l.length<=2 * (S.credits.length + S.credits.length * S.aC.length):=by
 obtain⟨l1,m1,e1,h1,n1⟩:=uH S aK true;obtain⟨l2,m2,e2,h2,n2⟩:=uH (bM aK S true) aK false;refine⟨l1.trans l2,m1 ++ m2,by show(bM aK (bM aK S true) false).made=_; rw[e2,e1,gi],fun t ht=>?_,?_⟩
 ·rcases bb.mp ht with ht|ht
  ·exact h1 t ht
  ·have:=h2 t ht;rwa [l1.cl,l1.bl] at this
 ·rw[l1.cl,l1.bl] at n2;rw[aF];lia
def WF.enter {S:Bk}{n:Nat}{d:bu}(h:WF S n)(hn:n < 60)(hb:S.bar d=""):WF (S.enter d) (n + 1):=by
 cases d with
 |dF w d u a=>exact h.g8 _
 |pQ w d a=>exact h.fF _ (.inl rfl)
 |note b d a=>
  refine h.fF _ (.inr ⟨b.toNat,?_⟩);have z:=(nF hb).1;obtain⟨z1,z2⟩:=z;refine⟨?_,?_,rfl⟩
  ·show b=(b.toNat:Int);lia
  ·lia
 |set c b a=>
  obtain⟨zc,zb,_,za,_⟩:=kP hb;obtain⟨c1,c2⟩:=zc;obtain⟨b1,b2⟩:=zb;have l:Later S (S.put c.toNat b.toNat a):=Later.put (by lia) (by lia) (by lia);refine h.later l (fun t ht=>?_) (cD _) ?_
  ·rcases bb.mp ht with ht|ht
   ·exact h.m t ht
   ·rw[ak.mp ht];show c.toNat < _/\b.toNat < _;lia
  ·show(S.made ++ [_]).length<=_;rw[aF];have:=h.lm;show _ + 1<=_;lia
 |fu w=>
  obtain⟨l,m,e,h1,h2⟩:=qt S w;refine h.later l (fun t ht=>?_) (cD _) ?_
  ·rw[show(S.enter (.fu w)).made=S.made ++ m from e] at ht;rcases bb.mp ht with ht|ht
   ·exact h.m t ht
   ·exact h1 t ht
  ·show(S.ij w).made.length<=_;rw[e,aF];have h3:=h.lm;have h4:=h.lb;have h5:=h.lc;have:S.credits.length * S.aC.length<=60 * 60:=pX (by lia) (by lia);lia
 |gF m=>exact h.mono (cD _)
 |ask o w d=>exact h.mono (cD _)
 |hZ w d l=>exact h.mono (cD _)
structure mG (S T:Bk):Prop where
 bl:T.aC.length=S.aC.length
 cl:T.credits.length=S.credits.length
 b: ∀k,nX (S.bl k) (T.bl k)
 c: ∀k,nX (S.cr k) (T.cr k)
def nX.symm {r s:Rw}(h:nX r s):nX s r:=⟨h.1.symm,h.2.1.symm,h.2.2.1.symm,h.2.2.2.symm⟩
def mG.refl (S:Bk):mG S S:=⟨rfl,rfl,fun _=>nX.refl _,fun _=>nX.refl _⟩
def mG.symm {S T:Bk}(h:mG S T):mG T S:=⟨h.bl.symm,h.cl.symm,fun k=>(h.b k).symm,fun k=>(h.c k).symm⟩
def mG.trans {S T U:Bk}(h:mG S T)(k:mG T U):mG S U:=⟨k.bl.trans h.bl,k.cl.trans h.cl,fun i=>(h.b i).trans (k.b i),fun i=>(h.c i).trans (k.c i)⟩
def Later.rz {S T:Bk}(h:Later S T):mG S T:=⟨h.bl,h.cl,fun k=>(h.b k).1,fun k=>(h.c k).1⟩
def mG.dG {S T:Bk}(h:mG S T)(c b:Nat):T.dG c b=S.dG c b:=by
 unfold Bk.dG;rw[(h.c c).1,(h.b b).1,(h.c c).2.2.2]
def rJ {l m:List Rw}{r s:Rw}(hl:m.length=l.length)(h: ∀k,nX (l.getD k default) (m.getD k default))(hr:nX r s)(k:Nat):nX ((l ++ [r]).getD k default) ((m ++ [s]).getD k default):=by
 by_cases q:k < l.length
 ·rw[getD_snoc q,getD_snoc (by rw[hl]; exact q)];exact h k
 ·by_cases e:k=l.length
  ·subst e;rw[getD_last,← hl,getD_last];exact hr
  ·have o1:(l ++ [r]).getD k default=default:=by
    rw[ai,vN (by rw[aF]; show l.length + 1<=k; lia)];rfl
   have o2:(m ++ [s]).getD k default=default:=by
    rw[ai,vN (by rw[aF]; show m.length + 1<=k; lia)];rfl
   rw[o1,o2];exact nX.refl _
def Iu {S T:Bk}(h:mG S T){d:bu}(hb:S.bar d=""):T.bar d=""∨T.bar d="too much":=by
 cases d with
 |note b d a=>
  obtain⟨z1,z2⟩:=nF hb;left;rw[uE,h.bl,aL (fun z=>z z1),aL (by lia)]
 |set c b a=>
  obtain⟨z1,z2,z3,z4,_⟩:=kP hb;rw[yI,h.bl,h.cl,h.dG,aL (fun z=>z z1),aL (fun z=>z z2),aL (by rw[z3]; decide),aL (by lia)];split
  ·exact .inr rfl
  ·exact .inl rfl
 |dF w d u a=>exact .inl hb
 |pQ w d a=>exact .inl hb
 |fu w=>exact .inl rfl
 |gF m=>exact .inl rfl
 |ask o w d=>exact .inl rfl
 |hZ w d l=>exact .inl rfl
def kQ {S:Bk}{d:bu}(hs:d.isSet=true)(hb:S.bar d=""):Later S (S.enter d):=by
 cases d with
 |set c b a=>
  obtain⟨⟨_,_⟩,⟨_,_⟩,_,_,_⟩:=kP hb;exact Later.put (by lia) (by lia) (by lia)
 |fu w=>exact(qt S w).1
 |dF w d u a=>cases hs
 |pQ w d a=>cases hs
 |note b d a=>cases hs
 |gF m=>cases hs
 |ask o w d=>cases hs
 |hZ w d l=>cases hs
def C8 {S T:Bk}(h:mG S T){d:bu}(hs:S.bar d="")(ht:T.bar d=""):mG (S.enter d) (T.enter d):=by
 cases d with
 |dF w d u a=>exact⟨by simp[Bk.enter,Bk.g8,h.bl],h.cl,rJ h.bl h.b (nX.refl _),h.c⟩
 |pQ w d a=>exact⟨h.bl,by simp[Bk.enter,Bk.fF,h.cl],h.b,rJ h.cl h.c (nX.refl _)⟩
 |note b d a=>exact⟨h.bl,by simp[Bk.enter,Bk.fF,h.cl],h.b,rJ h.cl h.c ⟨(h.b _).1,rfl,rfl,rfl⟩⟩
 |set c b a=>exact(kQ rfl hs).rz.symm.trans (h.trans (kQ rfl ht).rz)
 |fu w=>exact(kQ (d:= .fu w) rfl hs).rz.symm.trans (h.trans (kQ (d:= .fu w) rfl ht).rz)
 |gF m=>exact h
 |ask o w d=>exact h
 |hZ w d l=>exact h
def N6 (m:Int): ∀(l:List (Int×bu)) {S T:Bk},mG S T->(cu l S).isSome=true->il (l.filter (cH m)) T=""∨il (l.filter (cH m)) T="too much"
 |[],_,_,_,_=> .inl rfl
 |(n,d) :: l,S,T,h,hw=>by
  unfold cu at hw;split at hw
  ·rename_i hb;by_cases k:cH m (n,d)=true
   ·rw[cE k];unfold il;split
    ·rename_i ht;exact N6 m l (C8 h hb ht) hw
    ·rename_i ht;exact .inr ((Iu h hb).resolve_left ht)
   ·rw[jW k];have ds:d.isSet=true:=by
     unfold cH at k;simp at k;exact k.2
    exact N6 m l ((kQ ds hb).rz.symm.trans h) hw
  ·cases hw
def rK: ∀(l:List (Int×bu)) {S T:Bk} {n:Nat},WF S n->cu l S=some T->n + l.length<=60->WF T (n + l.length)
 |[],S,T,n,h,e,_=>by
  cases e;exact h
 |(k,d) :: l,S,T,n,h,e,hl=>by
  unfold cu at e;split at e
  ·rename_i hb;have len:((k,d) :: l).length=l.length + 1:=rfl;rw[len] at hl ⊢;have:=rK l (h.enter (by lia) hb) e (by lia);rwa [show n + (l.length + 1)=n + 1 + l.length by lia]
  ·cases e
def kA: ∀(l m:List (Int×bu)) (S:Bk),cu (l ++ m) S=(cu l S).bind (cu m)
 |[],m,S=>rfl
 |(k,d) :: l,m,S=>by
  show(if S.bar d="" then cu (l ++ m) (S.enter d) else none)=(if S.bar d="" then cu l (S.enter d) else none).bind (cu m);split
  ·exact kA l m _
  ·rfl
structure Good (T:iD)(n:Nat):Prop where
 w:cu T.steps Bk.new=some T.bk
 lt: ∀st∈T.steps,0<=st.1/\st.1 < (n:Int)
 inc:T.steps.Pairwise fun a b=>a.1 < b.1
 tl: ∀st∈T.steps,st.2.tells=true
 len:T.steps.length<=n
def Good.new:Good iD.new 0:=⟨rfl,(fun _ h=>by cases h),List.Pairwise.nil,(fun _ h=>by cases h),aB _⟩
def Good.mono {T:iD}{n m:Nat}(h:Good T n)(k:n<=m):Good T m:=⟨h.w,fun st hs=>⟨(h.lt st hs).1,by have:=(h.lt st hs).2; lia⟩,h.inc,h.tl,aV h.len k⟩
def Good.wf {T:iD}{n:Nat}(h:Good T n)(hn:n<=60):WF T.bk n:=by
 have z:=rK T.steps WF.new h.w (by have:=h.len; lia);rw[Nat.zero_add] at z;exact z.mono h.len
def Good.add {T:iD}{n:Nat}(h:Good T n){d:bu}(ht:d.tells=true)(hb:T.bk.bar d=""):Good ⟨T.steps ++ [((n:Int),d)],T.bk.enter d⟩ (n + 1):=by
 refine⟨?_,fun st hs=>?_,?_,fun st hs=>?_,?_⟩
 ·show cu (T.steps ++ [((n:Int),d)]) Bk.new=_;rw[kA,h.w];show(if T.bk.bar d="" then some (T.bk.enter d) else none)=_;rw[aZ hb]
 ·rcases bb.mp hs with hs|hs
  ·have:=h.lt st hs;lia
  ·rw[ak.mp hs];show(0:Int)<=(n:Int)/\(n:Int) < _;lia
 ·rw[List.pairwise_append];refine⟨h.inc,List.pairwise_singleton _ _,fun a ha b hb=>?_⟩;rw[ak.mp hb];exact(h.lt a ha).2
 ·rcases bb.mp hs with hs|hs
  ·exact h.tl st hs
  ·rw[ak.mp hs];exact ht
 ·show(T.steps ++ [_]).length<=_;rw[aF];have:=h.len;show _ + 1<=_;lia
def Good.gF {T:iD}{n:Nat}(h:Good T n)(m k:Int):Good (fz T k (.gF m)).2 n/\ ∃s,(fz T k (.gF m)).1= .txt s:=by
 rw[fz];split
 ·exact⟨h,_,rfl⟩
 ·cases e:cu (T.steps.filter (cH m)) Bk.new with
  |none=>exact⟨h,_,rfl⟩
  |some S=>exact⟨⟨e,fun st hs=>h.lt st (fC.mp hs).1,h.inc.filter _,fun st hs=>h.tl st (fC.mp hs).1,aV (aY _ _) h.len⟩,_,rfl⟩
def Good.step {T:iD}{n:Nat}(h:Good T n)(d:bu):Good (fz T n d).2 (n + 1):=by
 have keep:=h.mono (cD n);have dflt: ∀d:bu,d.tells=true->Good (if T.bk.bar d="" then(T.bk.La d,(⟨T.steps ++ [((n:Int),d)],T.bk.enter d⟩:iD)) else(.txt (T.bk.bar d),T)).2 (n + 1):=fun d ht=>by
  split
  ·rename_i hb;exact h.add ht hb
  ·exact keep
 cases d with
 |gF m=>exact(h.gF m n).1.mono (cD n)
 |ask o w d=>exact keep
 |hZ w d l=>exact keep
 |dF w d u a=>exact dflt _ rfl
 |pQ w d a=>exact dflt _ rfl
 |note b d a=>exact dflt _ rfl
 |set c b a=>exact dflt _ rfl
 |fu w=>exact dflt _ rfl
def sx: ∀(l:List bu) (T:iD) (n:Nat),(gG l T n).1.length=l.length
 |[],_,_=>rfl
 |d :: l,T,n=>by
  show(gG l _ _).1.length + 1=_;rw[sx l];rfl
def bu.dt:bu->Dt
 | .dF w d u a=> .tup [.str "bill",.str w,.int d,.int u,.int a]
 | .pQ w d a=> .tup [.str "pay",.str w,.int d,.int a]
 | .note b d a=> .tup [.str "note",.int b,.int d,.int a]
 | .set c b a=> .tup [.str "set",.int c,.int b,.int a]
 | .fu w=> .tup [.str "sweep",.str w]
 | .gF n=> .tup [.str "undo",.int n]
 | .ask o w d=> .tup [.str (if o then "owed" else "free"),.str w,.int d]
 | .hZ w d l=> .tup [.str "ages",.str w,.int d,.tup (l.map Dt.int)]
def uI:Int:=10 ^ 62
def Ew {x:Int}(h:x<=10 ^ 60):x<=uI:=lx h (by decide +kernel)
def bu.ok:bu->Prop
 | .dF _ d _ _=>d<=uI
 | .pQ _ d _=>d<=uI
 | .note _ d _=>d<=uI
 | .hZ _ _ l=>l.length<=11/\l.Pairwise (· < ·)/\ ∀x∈l,1<=x
 |_=>True
mutual
def Dt.J1:Dt->Bool
 | .lst _=>false
 | .tup ds=>Dt.vZ ds
 | .dW=>true
 | .bl _=>true
 | .int _=>true
 | .str _=>true
def Dt.vZ:List Dt->Bool
 |[]=>true
 |d :: ds=>d.J1 && Dt.vZ ds
end
def cA (H H':Hp):Prop:= ∀b xs,H b=some (.tup xs)->H' b=some (.tup xs)
def cA.trans {H1 H2 H3:Hp}(a:cA H1 H2)(b:cA H2 H3):cA H1 H3:=fun x xs e=>b x xs (a x xs e)
def aG.tk {H H':Hp}(s:aG H H'):cA H H':=fun b xs e=>s _ _ e
def fY {H:Hp}{p:Addr}{o:HO}{ys:List V}(h:H p=some (.lst ys)):cA H (upd H p o):=dE h
mutual
def Rp.A5 {H H':Hp}(k:cA H H'): ∀(d:Dt) {v:V},d.J1=true->Rp H d v->Rp H' d v
 | .dW,_,_,h=>uu.mpr (uu.mp h)
 | .bl _,_,_,h=>qm.mpr (qm.mp h)
 | .int _,_,_,h=>d9.mpr (d9.mp h)
 | .str _,_,_,h=>gO.mpr (gO.mp h)
 | .tup ds,_,n,h=>by
  obtain⟨a,xs,e,h1,h2⟩:=jB.mp h;exact jB.mpr ⟨a,xs,e,k _ _ h1,iy.A5 k ds (by simpa[Dt.J1] using n) h2⟩
 | .lst ds,_,n,h=>by simp[Dt.J1] at n
def iy.A5 {H H':Hp}(k:cA H H'): ∀(ds:List Dt) {vs:List V},Dt.vZ ds=true->iy H ds vs->iy H' ds vs
 |[],_,_,h=>dJ.mpr (dJ.mp h)
 |d :: ds,_,n,h=>by
  obtain⟨v,r,e,h1,h2⟩:=bQ.mp h;have n':d.J1=true/\Dt.vZ ds=true:=by simpa[Dt.vZ] using n
  exact bQ.mpr ⟨v,r,e,Rp.A5 k d n'.1 h1,iy.A5 k ds n'.2 h2⟩
end
def FT (l:List Int):Dt.vZ (l.map Dt.int)=true:=by
 induction l with
 |nil=>rfl
 |cons x l ih=>simp[Dt.vZ,Dt.J1,ih]
def bu.J1 (d:bu):d.dt.J1=true:=by
 cases d <;> simp[bu.dt,Dt.J1,Dt.vZ,FT]
def FU (ds:List bu):Dt.vZ (ds.map bu.dt)=true:=by
 induction ds with
 |nil=>rfl
 |cons d ds ih=>simp[Dt.vZ,bu.J1,ih]
def gH (H:Hp)(ds:List bu)(ms:List V):Prop:=iy H (ds.map bu.dt) ms
def gH.mono {H H':Hp}{ds:List bu}{ms:List V}(h:gH H ds ms)(k:cA H H'):gH H' ds ms:=iy.A5 k _ (FU ds) h
def gH.snoc {H:Hp}{ds:List bu}{ms:List V}{d:bu}{v:V}(h:gH H ds ms)(hd:Rp H d.dt v):gH H (ds ++ [d]) (ms ++ [v]):=by
 unfold gH;rw[aM];exact iy.append h (iy.one hd)
def gH.length {H:Hp}{ds:List bu}{ms:List V}(h:gH H ds ms):ds.length=ms.length:=by
 have:=iy.length h;rwa [ae] at this
def Lb (n:Nat)(b:Str):(List.replicate n [V.str b]).flatten=(List.replicate n b).map V.str:=by
 induction n with
 |zero=>rfl
 |succ n ih=>rw[c9,iG,ih,c9]; rfl
def Rw.vs (r:Rw):List V:=[.str r.aK,.int r.a,.int r.b,.int r.c,.int r.d]
structure fj where
 pb:Addr
 pc:Addr
 pm:Addr
 ip:List Addr
 cps:List Addr
def fj.fp (f:fj):List Addr:=f.pb :: f.pc :: f.pm :: (f.ip ++ f.cps)
def bk3 (f:fj):List (Key×V):=[(Sum.inr "bills",.ref f.pb),(Sum.inr "credits",.ref f.pc),(Sum.inr "made",.ref f.pm)]
def eM (H:Hp)(rs:List Rw)(ps:List Addr):Prop:=Paired (fun(r:Rw) p=>H p=some (.lst r.vs)) rs ps
def gy (H:Hp)(ms:List (Nat×Nat×Int))(vs:List V):Prop:=Paired (fun(t:Nat×Nat×Int) v=> ∃p,v= .ref p/\H p=some (.tup [.int t.1,.int t.2.1,.int t.2.2])) ms vs
def gy.mono {H H':Hp}{ms:List (Nat×Nat×Int)}{vs:List V}(h:gy H ms vs)(k:cA H H'):gy H' ms vs:=
 Paired.iH h fun _ _ ⟨p,e,q⟩=>⟨p,e,k _ _ q⟩
structure de (H:Hp)(sd:Addr)(S:Bk)(f:fj):Prop where
 dict:H sd=some (.dK (bk3 f))
 hb:H f.pb=some (.lst (f.ip.map V.ref))
 hc:H f.pc=some (.lst (f.cps.map V.ref))
 hm: ∃ms,H f.pm=some (.lst ms)/\gy H S.made ms
 rb:eM H S.aC f.ip
 rc:eM H S.credits f.cps
 nd:f.fp.Nodup
 ns:sd∉f.fp
def eM.keep {H H':Hp}{rs:List Rw}{ps:List Addr}(h:eM H rs ps)(k: ∀p∈ps,∀o,H p=some o->H' p=some o):eM H' rs ps:=by
 induction h with
 |nil=>exact .nil
 | @cons r p rs ps hr t ih=>exact .cons (k p bh _ hr) (ih fun q hq=>k q (aQ _ hq))
def de.keep {H H':Hp}{sd:Addr}{S:Bk}{f:fj}(h:de H sd S f)(k: ∀b o,(b=sd∨b∈f.fp)->H b=some o->H' b=some o)(t:cA H H'):de H' sd S f:=by
 obtain⟨ms,m1,m2⟩:=h.hm;refine⟨k _ _ (.inl rfl) h.dict,k _ _ (.inr (by simp[fj.fp])) h.hb,k _ _ (.inr (by simp[fj.fp])) h.hc,⟨ms,k _ _ (.inr (by simp[fj.fp])) m1,m2.mono t⟩,h.rb.keep fun p hp o e=>k p o (.inr (by simp[fj.fp,hp])) e,h.rc.keep fun p hp o e=>k p o (.inr (by simp[fj.fp,hp])) e,h.nd,h.ns⟩
def de.same {H H':Hp}{sd:Addr}{S:Bk}{f:fj}(h:de H sd S f)(s:aG H H'):de H' sd S f:=h.keep (fun b o _ e=>s _ _ e) s.tk
def Frame (fp:List Addr)(H H':Hp):Prop:= ∀b o,b∉fp->H b=some o->H' b=some o
def Frame.refl {fp:List Addr}{H:Hp}:Frame fp H H:=fun _ _ _ e=>e
def Frame.trans {fp Rt:List Addr}{H1 H2 H3:Hp}(a:Frame fp H1 H2)(b:Frame Rt H2 H3)(h: ∀x∈Rt,x∈fp∨H1 x=none):Frame fp H1 H3:=fun x o hx e=>
 b x o (fun hx'=>by
  rcases h x hx' with h|h
  ·exact hx h
  ·rw[h] at e; cases e) (a x o hx e)
def aG.frame {fp:List Addr}{H H':Hp}(s:aG H H'):Frame fp H H':=fun b o _ e=>s _ _ e
def Frame.upd {fp:List Addr}{H:Hp}{p:Addr}{o:HO}(h:p∈fp):Frame fp H (upd H p o):=fun b u hb e=>by
 have iU:b≠p:=fun z=>hb (by rw[z]; exact h);rw[az iU]; exact e
def Frame.same {fp:List Addr}{H0 H H':Hp}(a:Frame fp H H')(s:aG H0 H)(h: ∀x∈fp,H0 x=none):aG H0 H':=fun b o e=>a b o (fun hb=>by rw[h b hb] at e; cases e) (s b o e)
def eM.length {H:Hp}{rs:List Rw}{ps:List Addr}(h:eM H rs ps):rs.length=ps.length:=aS h
def eM.at {H:Hp}{rs:List Rw}{ps:List Addr}(h:eM H rs ps){i:Nat}(hi:i < rs.length): ∃p,ps[i]? =some p/\H p=some (.lst (rs.getD i default).vs):=by
 obtain⟨p,e,q⟩:=bI h (af hi);refine⟨p,e,?_⟩;rw[ai,af hi];exact q
def eM.set {H:Hp}: ∀{rs:List Rw} {ps:List Addr} {i:Nat} {p:Addr} {r:Rw},eM H rs ps->ps.Nodup->ps[i]? =some p->eM (upd H p (.lst r.vs)) (rs.set i r) ps
 |_,_,i,p,r,.nil,_,h=>by simp at h
 |_,_,0,p,r,.cons (b:=q) hr t,nd,h=>by
  injection h with h;subst h;rw[dS] at nd;refine .cons ag (eM.keep t fun x hx o e=>?_);have iU:x≠q:=fun z=>nd.1 (by rw[← z]; exact hx);rw[az iU]; exact e
 |_,_,i + 1,p,r,.cons (b:=q) hr t,nd,h=>by
  rw[dS] at nd;rw[List.getElem?_cons_succ] at h;have iU:q≠p:=fun z=>nd.1 (by rw[z]; exact gh h);refine .cons ?_ (eM.set t nd.2 h);rw[az iU]; exact hr
def eM.gZ {H:Hp}{rs:List Rw}{ps:List Addr}{p:Addr}{o:HO}(h:eM H rs ps)(hp:p∉ps):eM (upd H p o) rs ps:=
 h.keep fun q hq u e=>by
  have iU:q≠p:=fun z=>hp (by rw[← z]; exact hq);rw[az iU]; exact e
def fj.Ru {f:fj}(h:f.fp.Nodup):f.pb≠f.pc/\f.pb≠f.pm/\f.pc≠f.pm/\(∀p∈f.ip,p≠f.pb/\p≠f.pc/\p≠f.pm/\p∉f.cps)/\(∀p∈f.cps,p≠f.pb/\p≠f.pc/\p≠f.pm/\p∉f.ip)/\f.ip.Nodup/\f.cps.Nodup:=by
 unfold fj.fp at h;simp only[List.nodup_cons,List.mem_cons,List.mem_append,not_or,List.nodup_append] at h;obtain⟨⟨h1,h2,h3,h4⟩,⟨h5,h6,h7⟩,⟨h8,h9⟩,J2,VR,T8⟩:=h;refine⟨h1,h2,h5,fun p hp=>⟨fun e=>h3 (e▸hp),fun e=>h6 (e▸hp),fun e=>h8 (e▸hp),fun hc=>T8 p hp p hc rfl⟩,fun p hp=>⟨fun e=>h4 (e▸hp),fun e=>h7 (e▸hp),fun e=>h9 (e▸hp),fun hb=>T8 p hb p hp rfl⟩,J2,VR⟩
def de.setB {H:Hp}{sd:Addr}{S:Bk}{f:fj}(h:de H sd S f){i:Nat}{p:Addr}{r:Rw}(hp:f.ip[i]? =some p)(hl: ∃xs,H p=some (.lst xs)):de (upd H p (.lst r.vs)) sd {S with aC:=S.aC.set i r} f:=by
 obtain⟨d1,d2,d3,d4,d5,d6,d7⟩:=fj.Ru h.nd;have hm:=gh hp;obtain⟨e1,e2,e3,e4⟩:=d4 p hm;obtain⟨ms,m1,m2⟩:=h.hm;obtain⟨xs,hx⟩:=hl;have es:sd≠p:=fun z=>h.ns (by rw[z]; simp[fj.fp,hm]);exact⟨by rw[az es]; exact h.dict,by rw[az e1.symm]; exact h.hb,by rw[az e2.symm]; exact h.hc,⟨ms,by rw[az e3.symm]; exact m1,m2.mono (fY hx)⟩,h.rb.set d6 hp,h.rc.gZ e4,h.nd,h.ns⟩
def de.setC {H:Hp}{sd:Addr}{S:Bk}{f:fj}(h:de H sd S f){i:Nat}{p:Addr}{r:Rw}(hp:f.cps[i]? =some p)(hl: ∃xs,H p=some (.lst xs)):de (upd H p (.lst r.vs)) sd {S with credits:=S.credits.set i r} f:=by
 obtain⟨d1,d2,d3,d4,d5,d6,d7⟩:=fj.Ru h.nd;have hm:=gh hp;obtain⟨e1,e2,e3,e4⟩:=d5 p hm;obtain⟨ms,m1,m2⟩:=h.hm;obtain⟨xs,hx⟩:=hl;have es:sd≠p:=fun z=>h.ns (by rw[z]; simp[fj.fp,hm]);exact⟨by rw[az es]; exact h.dict,by rw[az e1.symm]; exact h.hb,by rw[az e2.symm]; exact h.hc,⟨ms,by rw[az e3.symm]; exact m1,m2.mono (fY hx)⟩,h.rb.gZ e4,h.rc.set d7 hp,h.nd,h.ns⟩
def de.VS {H:Hp}{sd:Addr}{S:Bk}{f:fj}(h:de H sd S f){ms:List V}{t:Nat×Nat×Int}{p:Addr}(hm:H f.pm=some (.lst ms))(hms:gy H S.made ms)(hp:H p=some (.tup [.int t.1,.int t.2.1,.int t.2.2])):
  de (upd H f.pm (.lst (ms ++ [.ref p]))) sd {S with made:=S.made ++ [t]} f:=by
 obtain⟨d1,d2,d3,d4,d5,d6,d7⟩:=fj.Ru h.nd;have es:sd≠f.pm:=fun z=>h.ns (by rw[z]; simp[fj.fp]);exact⟨by rw[az es]; exact h.dict,by rw[az d2]; exact h.hb,by rw[az d3]; exact h.hc,⟨_,ag,cB (hms.mono (fY hm)) ⟨p,rfl,dE hm _ _ hp⟩⟩,h.rb.gZ fun z=>(d4 _ z).2.2.1 rfl,h.rc.gZ fun z=>(d5 _ z).2.2.1 rfl,h.nd,h.ns⟩
def Rv:("bills":Str)≠"credits":=by decide +kernel
def Rx:("bills":Str)≠"made":=by decide +kernel
def Ry:("credits":Str)≠"made":=by decide +kernel
def Rz (a b c:V):fU [((Sum.inr "bills":Key),a),(Sum.inr "credits",b),(Sum.inr "made",c)] (Sum.inr "bills")=some a:=by
 unfold fU;rw[List.find?_cons_of_pos (by simp)]; rfl
def RA (a b c:V):fU [((Sum.inr "bills":Key),a),(Sum.inr "credits",b),(Sum.inr "made",c)] (Sum.inr "credits")=some b:=by
 unfold fU;rw[List.find?_cons_of_neg (by simpa using Rv),List.find?_cons_of_pos (by simp)]; rfl
def RB (a b c:V):fU [((Sum.inr "bills":Key),a),(Sum.inr "credits",b),(Sum.inr "made",c)] (Sum.inr "made")=some c:=by
 unfold fU;rw[List.find?_cons_of_neg (by simpa using Rx),List.find?_cons_of_neg (by simpa using Ry),List.find?_cons_of_pos (by simp)]; rfl
def N7 (a b c:V):oX [] [((Sum.inr "bills":Key),a),(Sum.inr "credits",b),(Sum.inr "made",c)]=[((Sum.inr "bills":Key),a),(Sum.inr "credits",b),(Sum.inr "made",c)]:=by
 unfold oX;rw[dA,dA,dA,List.foldl_nil];have h1:putK ([]:List (Key×V)) (Sum.inr "bills") a=[((Sum.inr "bills":Key),a)]:=by
  unfold putK; rw[if_neg (by simp)]; rfl
 have h2:putK [((Sum.inr "bills":Key),a)] (Sum.inr "credits") b=[((Sum.inr "bills":Key),a),(Sum.inr "credits",b)]:=by
  unfold putK; rw[if_neg (by simpa using Rv)]; rfl
 have h3:putK [((Sum.inr "bills":Key),a),(Sum.inr "credits",b)] (Sum.inr "made") c=[((Sum.inr "bills":Key),a),(Sum.inr "credits",b),(Sum.inr "made",c)]:=by
  unfold putK; rw[if_neg (by simpa using⟨Rx,Ry⟩)]; rfl
 dsimp only;rw[h1,h2,h3]
def de.gB {H:Hp}{sd:Addr}{S:Bk}{f:fj}(h:de H sd S f):l9 H sd (.str "bills") (some (.ref f.pb)):=Rz (.ref f.pb) (.ref f.pc) (.ref f.pm)▸l9.k (k:=Sum.inr "bills") h.dict
def de.gC {H:Hp}{sd:Addr}{S:Bk}{f:fj}(h:de H sd S f):l9 H sd (.str "credits") (some (.ref f.pc)):=RA (.ref f.pb) (.ref f.pc) (.ref f.pm)▸l9.k (k:=Sum.inr "credits") h.dict
def de.gM {H:Hp}{sd:Addr}{S:Bk}{f:fj}(h:de H sd S f):l9 H sd (.str "made") (some (.ref f.pm)):=RB (.ref f.pb) (.ref f.pc) (.ref f.pm)▸l9.k (k:=Sum.inr "made") h.dict
def de.lb {H:Hp}{sd:Addr}{S:Bk}{f:fj}(h:de H sd S f){b:Nat}(hb:b < S.aC.length): ∃p,f.ip[b]? =some p/\tF (f.ip.map V.ref) (b:Int)=some (.ref p)/\H p=some (.lst (S.bl b).vs):=by
 obtain⟨p,e,q⟩:=h.rb.at hb;exact⟨p,e,cz (by rw[aD,e]; rfl),q⟩
def de.lc {H:Hp}{sd:Addr}{S:Bk}{f:fj}(h:de H sd S f){b:Nat}(hb:b < S.credits.length): ∃p,f.cps[b]? =some p/\tF (f.cps.map V.ref) (b:Int)=some (.ref p)/\H p=some (.lst (S.cr b).vs):=by
 obtain⟨p,e,q⟩:=h.rc.at hb;exact⟨p,e,cz (by rw[aD,e]; rfl),q⟩
section
variable {prog:Program}{w:World}{A:Around}{E:Value->Shared->Prop}
def sy (prog:Program)(w:World)(A:Around)(kS:Addr)(f:Value)(Fi:List Value->Shared->Prop):List Value->List Value->Shared->Prop
 |[],ks,s=>Fi ks s
 |v :: r,ks,s=>wpAny (model prog w) A (call f [v]) (fun k s'=> ∃e,s'.heap.get? kS=some (seqObj "list" ks.toArray e)/\ ∀h' c,Heap.SameBut kS s'.heap h'->h'.get? kS=some (seqObj "list" (ks ++ [k]).toArray c)->sy prog w A kS f Fi r (ks ++ [k]) {s' with heap:=h'}) (fun _ _=>False) s
def FV (prog:Program)(w:World)(A:Around)(D kS:Addr)(e1:Nat)(vs:List Value)(Q:Shared->Prop)(ks:List Value)(s:Shared):Prop:=
 ∃(κ:SortKind) (key:Nat->Int),D≠kS/\s.heap.get? D=some (seqObj "list" #[] e1)/\(2<=vs.length-> ∀Q':SortKind->Shared->Prop,Q' κ s->wpAny (model prog w) A (keyKind' ks.toArray) Q' (fun _ _=>False) s)/\
  (∀(i j:Nat) (C:Bool->Shared->Prop),i < vs.length->j < vs.length->C (decide (key i < key j)) s->wpAny (model prog w) A (keyLt' κ (ks.getD i Value.none) (ks.getD j Value.none)) C (fun _ _=>False) s)/\
  ∀(p:Array Nat) (h':Heap) (n:Nat),qo vs.length p->kO key p vs.length->h'.objs.size=s.heap.objs.size->h'.get? D=some (seqObj "list" (p.toList.map fun i=>vs.getD i Value.none).toArray n)->(∀b,b≠D->b≠kS->h'.get? b=s.heap.get? b)->Q {s with heap:=h'}
def Ex {f:Value}{kS:Addr}{Fi:List Value->Shared->Prop}{n:Nat}{body:Value->PUnit->Sem (ForInStep PUnit)}(hn:n < 64)
  (hb: ∀x ks (s:Shared) (C:Value->Shared->Prop),List.length ks < 64->wpAny (model prog w) A (call f [x]) (fun k s'=> ∃e,s'.heap.get? kS=some (seqObj "list" ks.toArray e)/\ ∀h' c,Heap.SameBut kS s'.heap h'->h'.get? kS=some (seqObj "list" (ks ++ [k]).toArray c)->C k {s' with heap:=h'}) (fun _ _=>False) s->
   wpAny (model prog w) A (body x ⟨⟩) (fun r s'=>r= .yield ⟨⟩/\ ∃k c,s'.heap.get? kS=some (seqObj "list" (ks ++ [k]).toArray c)/\C k s') E s): ∀(r ks:List Value) (e:Nat) (s:Shared),ks.length + r.length=n->
   s.heap.get? kS=some (seqObj "list" ks.toArray e)->sy prog w A kS f Fi r ks s->
   wpAny (model prog w) A (forIn r PUnit.unit body) (fun _ s'=> ∃ks e,s'.heap.get? kS=some (seqObj "list" ks.toArray e)/\ks.length=n/\Fi ks s') E s
 |[],ks,e,s,hl,hk,h=>by
  rw[List.forIn_nil];exact wpAny_pure ⟨ks,e,hk,by simpa using hl,h⟩
 |x :: r,ks,e,s,hl,hk,h=>by
  rw[bU] at hl;rw[List.forIn_cons];refine aA (b9 (hb x ks s (fun k s'=>sy prog w A kS f Fi r (ks ++ [k]) s') (by lia) h) (fun q s' hq=>?_) fun _ _ x=>x);obtain⟨rfl,k,c,J0,h2⟩:=hq;show wpAny (model prog w) A (forIn r PUnit.unit body) _ E s';exact Ex hn hb r (ks ++ [k]) c s' (by rw[aF,List.length_singleton]; lia) J0 h2
variable {s:Shared}
def Ey {D kS:Addr}{e e1:Nat}{ks out:List Value}{st:SortSt}{P:PySem.Fin->Shared->Prop}(hD:s.heap.get? D=some (seqObj "list" #[] e1))(hk:s.heap.get? kS=some (seqObj "list" ks.toArray e))(ne:D≠kS)
  (C6:(arrOf st).map (·.2)=out.toArray) (hz:out.length < 64) (hkz:ks.length < 64) (hf:failedOf st=none)
  (h: ∀(h':Heap) (n:Nat),h'.objs.size=s.heap.objs.size->h'.get? D=some (seqObj "list" out.toArray n)->(∀b,b≠D->b≠kS->h'.get? b=s.heap.get? b)->P (.done (.ret .none)) {s with heap:=h'}):
  wpAny (model prog w) A (ksk_tail D false e1 (.ref kS) st) P E s:=by
 have hl:sizeLine=16777216:=eJ;unfold ksk_tail
 try dsimp only
 rw[C6];have s1:=rn s.heap kS (Obj.mapSeq fun _=>(#[]:Array Value));have d1:(s.heap.update kS (Obj.mapSeq fun _=>(#[]:Array Value))).get? D=some (seqObj "list" #[] e1):=(s1.2 D ne).trans hD;have s2:=rn (s.heap.update kS (Obj.mapSeq fun _=>(#[]:Array Value))) D (Obj.mapSeq fun _=>out.toArray);obtain⟨c2,K6⟩: ∃c2,((s.heap.update kS (Obj.mapSeq fun _=>(#[]:Array Value))).update D (Obj.mapSeq fun _=>out.toArray)).get? D=some (seqObj "list" out.toArray c2):=⟨_,Mr d1 fun _=>out.toArray⟩;refine aA (vH hk rfl ?_ (by rw[bg]; lia) (bq _));refine aA (wpAny_letGo ?_);refine aA (seqEpoch_at d1 rfl ?_);simp only[Bool.false_eq_true,if_false];refine aA (vH d1 rfl ?_ (bq _) (by rw[bg]; lia));rw[hf];simp only[bne_self_eq_false,Bool.false_eq_true,if_false];refine bA (h _ c2 (s2.1.trans s1.1) K6 fun b n1 n2=>(s2.2 b n1).trans (s1.2 b n2))
def N8 {D kS:Addr}{e e1:Nat}{ks vs:List Value}{P:PySem.Fin->Shared->Prop}(hk:s.heap.get? kS=some (seqObj "list" ks.toArray e))(hl:ks.length=vs.length)(Cr:vs.length < 64)
  (h:FV prog w A D kS e1 vs (fun s'=>P (.done (.ret .none)) s') ks s):wpAny (model prog w) A (ksk_end D false vs.toArray e1 (.ref kS) ks.toArray) P E s:=by
 obtain⟨κ,key,ne,hD,kind,cmp,fin⟩:=h;have hsz:vs.toArray.size=vs.length:=by simp
 unfold ksk_end
 try dsimp only
 simp only[Bool.false_eq_true,if_false];by_cases h2:vs.toArray.size < 2
 ·rw[aZ h2,aZ h2];refine aA (bA ?_);rw[StateT.run_pure];refine aA (bA ?_);dsimp only;have C6:(arrOf (SortSt.mk' general' (ks.toArray.zip vs.toArray) #[] 7 none)).map (·.2)=((List.toArray (List.range vs.length)).toList.map fun i=>vs.getD i Value.none).toArray:=by
   show(ks.toArray.zip vs.toArray).map (·.2)=_;apply Array.toList_inj.mp;have e1:((ks.toArray.zip vs.toArray).map (·.2)).toList=vs:=by
    rw[Array.toList_map,Array.toList_zip];exact List.map_snd_zip (by rw[Av,Av]; lia)
   rw[e1];show vs=(List.range vs.length).map fun i=>vs.getD i Value.none;exact(range_getD vs Value.none).symm
  refine Ey hD hk ne C6 (by rw[ae,Av,df]; exact Cr) (by lia) rfl fun h' n z1 z2 z3=>?_;refine fin (List.toArray (List.range vs.length)) h' n (Kn _) (fun i j YA hj=>?_) z1 z2 z3;have:i=j:=by lia
  subst this;exact eu _
 ·rw[aL h2,aL h2];have Rl:2<=vs.length:=by lia
  refine aA (b9 (kind Rl (fun κ' s'=>κ'=κ/\s'=s) ⟨rfl,rfl⟩) (fun κ' s' J0=>?_) fun _ _ x=>x.elim);obtain⟨rfl,rfl⟩:=J0;refine aA (b9 (kat_run (Q:=fun Al Ee=>Ee=s'/\ ∃p:Array Nat,p.size=vs.length/\arrOf Al=p.map (kas_item (ks.toArray.zip vs.toArray))/\failedOf Al=none/\qo vs.length p/\kO key p vs.length)
   (G:=fun p Ee=>Ee=s'/\qo vs.length p/\kO key p vs.length) (κ:=κ') hl Rl Cr (fun p' Al Ee a1 a2 a3 a4=>⟨a4.1,p',a1,a2,a3,a4.2⟩) (uv (fun i j C hi hj q=>cmp i j C hi hj q) (fun p q=>⟨rfl,q⟩) _ (Ij (by lia)))) ?_ fun _ _ e=>e)
  rintro⟨⟨⟩,Al⟩ Ee ⟨rfl,p,hp,VN,hf,q1,q2⟩;dsimp only;exact Ey hD hk ne (kat_snds hl VN) (by rw[ae,nU,hp]; exact Cr) (by lia) hf fun h' n z1 z2 z3=>fin p h' n q1 q2 z1 z2 z3
def Lc {D:Addr}{n:Nat}{vs:List Value}{f:Value}{P:PySem.Fin->Shared->Prop}(ho:s.heap.get? D=some (seqObj "list" vs.toArray n))(Cr:vs.length < 64)
  (h: ∀(kS:Addr) (e1:Nat) (h':Heap),(∀b o,b≠D->s.heap.get? b=some o->h'.get? b=some o)->h'.get? D=some (seqObj "list" #[] e1)->h'.get? kS=some (seqObj "list" #[] 0)->D≠kS->s.heap.objs.size<=kS->
   sy prog w A kS f (FV prog w A D kS e1 vs (fun s'=>P (.done (.ret .none)) s')) vs [] {s with heap:=h'}):wpAny (model prog w) A (ksk_tree D f false) P E s:=by
 have ha:D < s.heap.objs.size:=aH ho;have hl:sizeLine=16777216:=eJ;have s1:=rn s.heap D (Obj.mapSeq fun _=>(#[]:Array Value));obtain⟨e1,FP⟩: ∃e1,(s.heap.update D (Obj.mapSeq fun _=>(#[]:Array Value))).get? D=some (seqObj "list" #[] e1):=⟨_,Mr ho fun _=> #[]⟩;have VT:((s.heap.update D (Obj.mapSeq fun _=>(#[]:Array Value))).push (seqObj "tuple" vs.toArray 0)).objs.size=s.heap.objs.size + 1:=by rw[size_push',oQ]
 unfold ksk_tree;refine aA (listItems_at ho rfl ?_);refine aA (vH ho rfl ?_ (by rw[bg]; lia) (bq _));refine aA (seqEpoch_at FP rfl ?_);refine aA (wpAny_newTuple ?_ (by show vs.length<=_; lia));refine aA (Ko ?_ (bq _));refine hJ ?_;generalize hU:((s.heap.update D (Obj.mapSeq fun _=>(#[]:Array Value))).push (seqObj "tuple" vs.toArray 0))=U at VT;have kU: ∀b o,(s.heap.update D (Obj.mapSeq fun _=>(#[]:Array Value))).get? b=some o->U.get? b=some o:=fun b o z=>by
  rw[← hU];exact ax _ z
 have P2:(U.push (seqObj "list" #[] 0)).get? U.objs.size=some (seqObj "list" #[] 0):=bH _ rfl;have start:=h U.objs.size e1 (U.push (seqObj "list" #[] 0)) (fun b o n z=>ax _ (kU b o ((s1.2 b n).trans z))) (ax _ (kU D _ FP)) P2 (by rw[VT]; exact aU (gj ha)) (by rw[VT]; exact cD _);show wpAny (model prog w) A (ksk_rest D f false vs.toArray e1 (.ref U.objs.size)) P E {s with heap:=U.push (seqObj "list" #[] 0)};unfold ksk_rest;refine aA (wpAny_rule ?_)
 first
  |rw[List.forIn_toArray]
  |(rw[← Array.forIn_toList]; simp only[List.toList_toArray])
 refine wpAny_bind (wpAny_mono (Ex Cr (fun x ks s' C hz hx=>?_) vs [] 0 _ (by simp) P2 start) (fun _ s' hd=>?_) fun _ _ x=>x)
 ·refine aA (wpAny_attempt (b9 hx (fun k Ee hk=>?_) fun _ _ hF=>hF.elim));obtain⟨e,nk,c⟩:=hk;have s2:=rn Ee.heap U.objs.size (Obj.mapSeq (·.push k));have ea:ks.toArray.push k=(ks ++ [k]).toArray:=by simp
  obtain⟨c2,K6⟩: ∃c2,(Ee.heap.update U.objs.size (Obj.mapSeq (·.push k))).get? U.objs.size=some (seqObj "list" (ks ++ [k]).toArray c2):=⟨_,by rw[← ea]; exact Mr nk (·.push k)⟩
  try dsimp only
  refine aA (vH nk rfl ?_ (by rw[bg]; lia) (aV (iz (Array.size_push ..)) (by rw[bg]; lia)));exact bA ⟨rfl,k,c2,K6,c _ c2 s2 K6⟩
 ·obtain⟨ks,e,J0,hl',fin⟩:=hd
  try dsimp only
  refine aA (listItems_at J0 rfl ?_);exact N8 J0 hl' Cr fin
def sortedK {l q:Addr}{vs:List Value}{Q:Value->Shared->Prop}(hl:s.heap.IsList l vs.toArray)(Cr:vs.length < 64)
  (h: ∀(D kS:Addr) (e1:Nat) (h':Heap),(∀b o,s.heap.get? b=some o->h'.get? b=some o)->h'.get? D=some (seqObj "list" #[] e1)->h'.get? kS=some (seqObj "list" #[] 0)->D≠kS->s.heap.objs.size<=D->s.heap.objs.size<=kS->
   sy prog w A.in1.in1 kS (.ref q) (FV prog w A.in1.in1 D kS e1 vs (fun s'=>Q (.ref D) s')) vs [] {s with heap:=h'}):
  wpAny (model prog w) A (call (.builtin "sorted") [.ref l] [(Str.ofString "key",.ref q)]) Q E s:=by
 have T6:sizeLine=16777216:=eJ;refine call_function_entry_kw kind_sorted plain_sorted entry_sorted (ksk_s1 _ _) ?_;unfold Builtin.«sorted»;refine aA (m:=checkCount "sorted" 1 1 _) (bA ?_);refine aA (collect_list hl ?_ (by lia));refine aA (Ko ?_ (by show vs.length<=_; lia));have hsz:((s.heap.push (seqObj "list" #[] 0)).update s.heap.objs.size (Obj.mapSeq (· ++ vs.toArray))).objs.size=s.heap.objs.size + 1:=by
  rw[oQ,size_push']
 generalize hU:((s.heap.push (seqObj "list" #[] 0)).update s.heap.objs.size (Obj.mapSeq (· ++ vs.toArray)))=U at hsz;have keep: ∀b o,s.heap.get? b=some o->U.get? b=some o:=fun b o z=>by
  have lt:b < s.heap.objs.size:=aH z;rw[← hU,Hl _ _ _ _ (aU lt),mf _ _ _ (aU lt)];exact z
 have Nn:(U.push (seqObj "list" vs.toArray 0)).get? U.objs.size=some (seqObj "list" vs.toArray 0):=bH _ rfl;show wpAny _ _ _ _ _ {s with heap:=U.push (seqObj "list" vs.toArray 0)};refine aA (hJ (wpAny_call_entry_kw slot_list_sort ⟨_,Nn,rfl⟩ entry_list_sort ?body (ksk_l1 _ _)))
 case body=>
  show wpAny (model prog w) A.in1.in1 (Builtin.«list.sort» ⟨[.ref U.objs.size],[(Str.ofString "key",.ref q)]⟩) _ _ _;rw[ksk_t1];refine Lc (s:={s with heap:=U.push (seqObj "list" vs.toArray 0)}) Nn Cr fun kS e1 h' kp d1 k1 ne le=>?_;have z:=h U.objs.size kS e1 h' (fun b o w=>kp b o (fun w2=>by rw[w2] at w; exact absurd (aH w) (by rw[hsz]; exact xh.mpr (cD _))) (ax _ (keep b o w))) d1 k1 ne (by rw[hsz]; exact cD _) (by
   have YD:(U.push (seqObj "list" vs.toArray 0)).objs.size<=kS:=le;rw[size_push',hsz] at YD;exact aV (rm (cD _)) YD)
  have mono: ∀(r ks:List Value) (s':Shared),sy prog w A.in1.in1 kS (.ref q) (FV prog w A.in1.in1 U.objs.size kS e1 vs (fun s'=>Q (.ref U.objs.size) s')) r ks s'->
    sy prog w A.in1.in1 kS (.ref q) (FV prog w A.in1.in1 U.objs.size kS e1 vs (fun s'=> ∃v,PySem.Fin.done (.ret .none)= .done (.ret v)/\wpAny (model prog w) A.in1 (ret (.ref U.objs.size)) (fun fin s'=> ∃v,fin=PySem.Fin.done (Flow.ret v)/\Q v s') E s')) r ks s':=by
   intro r
   induction r with
   |nil=>
    rintro ks s' ⟨κ,key,a1,a2,a3,a4,a5⟩;exact⟨κ,key,a1,a2,a3,a4,fun p h2 n b1 b2 b3 b4 b5=>⟨_,rfl,bA ⟨_,rfl,a5 p h2 n b1 b2 b3 b4 b5⟩⟩⟩
   |cons v r ih=>
    intro ks s' hh;exact b9 hh (fun k s2 ⟨e,z1,z2⟩=>⟨e,z1,fun h2 c w1 w2=>ih _ _ (z2 h2 c w1 w2)⟩) fun _ _ x=>x
  exact mono vs [] _ z
end
end L2
namespace Ka
open PySem
def FW (f:Array Value->Array Value)(o:Obj):(Obj.mapFields f o).dict=o.dict:=by
 obtain⟨c,d,dt,sl⟩:=o;cases dt <;> rfl
def iK (h:Heap)(e:Addr)(cls:Value)(iB:Option Addr)(vs:Array Value):Prop:= ∃oe,h.get? e=some oe/\oe.cls=cls/\oe.dict=iB/\oe.data= .fields vs
def iK.set {h:Heap}{e:Addr}{cls:Value}{iB:Option Addr}{vs:Array Value}(x:iK h e cls iB vs)(i:Nat)(v:Value):
  iK (h.update e (Obj.mapFields (·.setIfInBounds i v))) e cls iB (vs.setIfInBounds i v):=by
 obtain⟨oe,he,hc,hd,hv⟩:=x;have q:=Obj.data_mapFields hv (·.setIfInBounds i v);exact⟨_,CC _ he (Obj.isFreed_of_fields q),(Obj.cls_mapFields _ _).trans hc,(FW _ _).trans hd,q⟩
def iK.same {h h':Heap}{e:Addr}{cls:Value}{iB:Option Addr}{vs:Array Value}(x:iK h e cls iB vs)(k: ∀o,h.get? e=some o->h'.get? e=some o):iK h' e cls iB vs:=
 let⟨oe,he,r⟩:=x
 ⟨oe,k _ he,r⟩
def mH (fr own:List Addr)(h h':Heap):Prop:= ∀b o,h.get? b=some o->b∉own->(b∉fr->h'.get? b=some o)/\ ∃sl,h'.get? b=some {o with slots:=sl}
def mH.trans {fr o1 o2:List Addr}{h h1 h2:Heap}(a:mH fr o1 h h1)(b:mH fr o2 h1 h2):mH fr (o1 ++ o2) h h2:=fun c ob q n=>by
 obtain⟨k,sl,e⟩:=a c ob q (fun z=>n (cO _ z));obtain⟨_,T9,e2⟩:=b c _ e (fun z=>n (bp _ z));exact⟨fun hn=>(b c ob (k hn) (fun z=>n (bp _ z))).1 hn,T9,e2⟩
def mH.mono {fr P4 o1 o2:List Addr}{h h1:Heap}(a:mH fr o1 h h1)(hf: ∀b∈fr,b∈P4)(ho: ∀b∈o1,b∈o2):mH P4 o2 h h1:=fun c ob q n=>
 let⟨k,sl,e⟩:=a c ob q (fun z=>n (ho c z))
 ⟨fun hn=>k (fun z=>hn (hf c z)),sl,e⟩
def yJ {fr:List Addr}{h:Heap}{a:Addr}(f:Obj->Obj):mH fr [a] h (h.update a f):=fun b o q n=>by
 have z:(h.update a f).get? b=some o:=(me _ _ (fun(e:a=b)=>n (ak.mpr e.symm))).trans q;exact⟨fun _=>z,o.slots,z⟩
def uJ {fr own:List Addr}{h:Heap}(o':Obj):mH fr own h (h.push o'):=fun b o q _=>⟨fun _=>ax _ q,o.slots,ax _ q⟩
def iK.but {fr own:List Addr}{h h':Heap}{e:Addr}{cls:Value}{iB:Option Addr}{vs:Array Value}(x:iK h e cls iB vs)(b:mH fr own h h')(n:e∉own):iK h' e cls iB vs:=by
 obtain⟨oe,he,hc,hd,hv⟩:=x;obtain⟨_,sl,q⟩:=b e oe he n;exact⟨_,q,hc,hd,hv⟩
def Kb (h:Heap)(T:Addr)(fl:Value):Prop:= ∃c d ts,iK h T c d ts/\ts[3]? =some fl
def eR {ts:Array Value}{i:Nat}{v:Value}(h:ts[i]? =some v):i < ts.size:=(Array.getElem?_eq_some_iff.mp h).1
def pq {ts:Array Value}{i:Nat}{v:Value}(h:i < ts.size):(ts.setIfInBounds i v)[i]? =some v:=by
 rw[Array.getElem?_setIfInBounds_self_of_lt h]
def qu {ts:Array Value}{i j:Nat}{v:Value}(h:i≠j):(ts.setIfInBounds i v)[j]? =ts[j]? :=by
 rw[Array.getElem?_setIfInBounds_ne h]
section
variable {M:Model}{A:Around}{E:Value->Shared->Prop}{s:Shared}{env:Env}{outer:List Env}{base:Heap}{L e T:Addr}{cls:Value}{iB:Option Addr}{vs:Array Value}{Q:Unit->Shared->Prop}
def qv {a:Addr}{i:Nat}{v:Value}{R:Value->Shared->Prop}(x:iK s.heap a cls iB vs)(h:vs[i]? =some v)(q:R v s):wpAny M A (field (.ref a) i) R E s:=by
 obtain⟨oe,he,_,_,hv⟩:=x;exact Hn he hv h q
def nG {a:Addr}{i:Nat}{v:Value}(x:iK s.heap a cls iB vs)(h:i < vs.size)
  (q: ∀h',mH [] [a] s.heap h'->iK h' a cls iB (vs.setIfInBounds i v)->h'.objs.size=s.heap.objs.size->Q () {s with heap:=h'}):wpAny M A (setField (.ref a) i v) Q E s:=by
 obtain⟨oe,he,hc,hd,hv⟩:=id x;exact wpAny_setField he hv h (q _ (yJ _) (x.set i v) (Heap.size_after_update ..))
def uK {fl:Value}(x:iK s.heap e cls iB vs)(h1:vs[1]? =some (.ref T))(ht:Kb s.heap T fl)
  (q: ∀h',mH [] [T] s.heap h'->Kb h' T .none->h'.objs.size=s.heap.objs.size->Q () {s with heap:=h'}):wpAny M A (setFlight (.ref e) none) Q E s:=by
 obtain⟨c,d,ts,xt,h3⟩:=ht;unfold setFlight;refine aA (qv x h1 ?_);rw[if_pos (show(Value.ref T != Value.none)=true from by simp)];exact nG xt (eR h3) fun h' b x' z=>q h' b ⟨c,d,_,x',pq (eR h3)⟩ z
def entry {head:Value}{had:Bool}(Cs:A.frames=some (env :: outer))(hl:s.heap.FunFrames base (env :: outer))(hf:env.frame=some L)(x:iK s.heap e cls iB vs)(hsz:1 < vs.size)
  (q: ∀h' T,mH ((env :: outer).filterMap (·.frame)) [e] s.heap h'->iK h' e cls iB (vs.setIfInBounds 1 (.ref T))->T=s.heap.objs.size->Kb h' T (rawInt L)->Q () {s with heap:=h'}):
  wpAny M A (do let a ← frameOf env; let pl ← entryPlaceOf L had; let b ← EntryCells.newEntry head a .none (rawInt L) .none pl; setField (.ref e) 1 b) Q E s:=by
 refine aA (wpAny_frameOf_fun Cs hl hf fun h1 so=>?_);refine aA (wpAny_entryPlaceOf fun pl gN=>?_);unfold EntryCells.newEntry newFields;refine aA (wpAny_newObj_type ?_ (gN.sizeOk5 _ _ _ _ _));have b1:mH ((env :: outer).filterMap (·.frame)) [] s.heap h1:=fun b o z _=>⟨fun n=>(so.2.1 b n).trans z,so.2.2 b o z⟩;have x1:iK h1 e cls iB vs:=x.but b1 (by simp);generalize Ua:({cls:= .type "traceback",dict:=none,data:= .fields ([head,.ref L,.none,rawInt L,.none] ++ (if pl.isEmpty then List.replicate 6 Value.none else pl)).toArray}:Obj)=ob;have x2:iK (h1.push ob) e cls iB vs:=x1.same fun o z=>ax _ z;have ne:h1.objs.size≠e:=by
  obtain⟨_,z,_⟩:=x1;exact pM (aH z)
 have xt:iK (h1.push ob) h1.objs.size ob.cls ob.dict ([head,.ref L,.none,rawInt L,.none] ++ (if pl.isEmpty then List.replicate 6 Value.none else pl)).toArray:=by
  subst Ua;exact⟨_,bH _ rfl,rfl,rfl,rfl⟩
 refine nG (s:={s with heap:=h1.push ob}) x2 hsz fun h' b x' _=>q h' h1.objs.size ?_ x' so.1 ⟨_,_,_,xt.but b (by simpa using ne),?_⟩
 ·exact((b1.trans (uJ ob (own:=[]))).trans (b.mono (by simp) (fun _ z=>z))).mono (fun _ z=>z) (by simp)
 ·simp
def N9 (Cs:A.frames=some (env :: outer))(hl:s.heap.FunFrames base (env :: outer))(hf:env.frame=some L)(x:iK s.heap e cls iB vs)(h1:vs[1]? =some .none)
  (q: ∀h' T,mH ((env :: outer).filterMap (·.frame)) [e] s.heap h'->iK h' e cls iB (vs.setIfInBounds 1 (.ref T))->T=s.heap.objs.size->Kb h' T .none->Q () {s with heap:=h'}):
  wpAny M A (leaving env (.ref e)) Q E s:=by
 have ne:s.heap.objs.size≠e:=by
  obtain⟨_,z,_⟩:=x;exact pM (aH z)
 unfold leaving noteFrame;simp only[hf];refine aA (aA (qv x h1 ?_));rw[aL (by decide)];refine entry Cs hl hf x (eR h1) fun h' T b x' hT t=>?_;refine uK x' (pq (eR h1)) t fun h2 b2 t2 _=>q h2 T ?_ (x'.but b2 (by rw[hT]; simpa using ne.symm)) hT t2;intro c o z n;have hc:c≠T:=fun w=>by rw[w,hT] at z; exact absurd (aH z) (iE _)
 exact(b.trans (b2.mono (by simp) (fun _ z=>z))) c o z (by simpa using⟨by simpa using n,hc⟩)
def MG (Cs:A.frames=some (env :: outer))(hl:s.heap.FunFrames base (env :: outer))(hf:env.frame=some L)(x:iK s.heap e cls iB vs)(h1:vs[1]? =some (.ref T))(ht:Kb s.heap T .none)(VU:T≠e)
  (q: ∀h' T',mH ((env :: outer).filterMap (·.frame)) [T,e] s.heap h'->iK h' e cls iB (vs.setIfInBounds 1 (.ref T'))->T'=s.heap.objs.size->Kb h' T' (rawInt L)->Q () {s with heap:=h'}):
  wpAny M A (noteFrame (.ref e) env) Q E s:=by
 obtain⟨c,d,ts,xt,h3⟩:=ht;unfold noteFrame;simp only[hf];refine aA (qv x h1 ?_);rw[if_pos (show(Value.ref T != Value.none)=true from by simp)];refine aA (qv xt h3 ?_);rw[if_neg (show ¬ ((Value.none == rawInt L)=true) from by simp[rawInt])];refine aA (nG xt (eR h3) fun h' b xt' sz=>?_);refine entry (s:={s with heap:=h'}) Cs (hl.of_keeps fun a o z nf=>?_) hf (x.but b (by simpa using VU.symm)) (eR h1) fun h2 T' b2 x2 hT t2=>q h2 T' ?_ x2 (hT.trans sz) t2
 ·have na:a≠T:=fun w=>by
   obtain⟨_,z',_,_,hd⟩:=xt;rw[w,z'] at z;cases z;exact nf _ hd
  obtain⟨_,sl,z'⟩:=b a o z (by simpa using na);exact⟨_,z',rfl⟩
 ·exact((b.mono (fun _ z=>absurd z (by simp)) (fun _ z=>z)).trans b2).mono (fun _ z=>z) (by simp)
def Oa (Cs:A.frames=some (env :: outer))(hl:s.heap.FunFrames base (env :: outer))(hf:env.frame=some L)(x:iK s.heap e cls iB vs)(h1:vs[1]? =some (.ref T))(ht:Kb s.heap T .none)(VU:T≠e)
  (q: ∀h' T',mH ((env :: outer).filterMap (·.frame)) [T,e] s.heap h'->iK h' e cls iB (vs.setIfInBounds 1 (.ref T'))->T'=s.heap.objs.size->Kb h' T' .none->Q () {s with heap:=h'}):
  wpAny M A (leaving env (.ref e)) Q E s:=by
 have ne:s.heap.objs.size≠e:=by
  obtain⟨_,z,_⟩:=x;exact pM (aH z)
 unfold leaving;refine aA (MG Cs hl hf x h1 ht VU fun h' T' b x' hT t=>?_);refine uK (s:={s with heap:=h'}) x' (pq (eR h1)) t fun h2 b2 t2 _=>q h2 T' ?_ (x'.but b2 (by rw[hT]; simpa using ne.symm)) hT t2;intro c o z n;have hc:c≠T':=fun w=>by rw[w,hT] at z; exact absurd (aH z) (iE _)
 have n': ¬ (c=T∨c=e):=by simpa using n
 exact(b.trans (b2.mono (by simp) (fun _ z=>z))) c o z (by simp; exact⟨fun w=>n' (.inl w),fun w=>n' (.inr w),hc⟩)
end
def Kc {α:Type}(M:Model)(h:Heap)(t:Sem α)(r:α):Prop:=
 ∀(A:Around) (Q:α->Shared->Prop) (E:Value->Shared->Prop) (s:Shared),(∀b o,h.get? b=some o->s.heap.get? b=some o)->Q r s->wpAny M A t Q E s
section
variable {M:Model}{A:Around}{E:Value->Shared->Prop}{h:Heap}{g:Array GenState}{d:Drawn}{t:Nat}{os:OsState}
variable {nm q:Str}{C N:Addr}{bs bm Ez:List Value}{nY:Bool}{sn:List Str}{sub:List Value}{ab:Bool}{col:Option Bool}{dd:Option Addr}{k0 k1 k2 k3 k5:Option Value}{B newId kB:String}
def iq {X:String}{r:Bool}(hb:bm.contains (.type X)=r):(Value.ref C :: bm).contains (.type X)=r:=by
 rw[List.contains_cons,hb];rfl
def Ld (F:ExcBaseFacts B newId kB Ez)(hB:bm.contains (.type B)=true){rest:List Value}{Q:Unit->Shared->Prop}
  (hC:h.get? C=some (excClassObj nm q C N bs bm nY sn sub ab col dd k0 k1 k2 k3 k5 newId)) (hq:Q () ⟨h,g,d,t,os⟩):wpAny M A (checkBuiltinCall newId ⟨.ref C :: rest,[]⟩) Q E ⟨h,g,d,t,os⟩:=by
 have ju:=iq (C:=C) hB; have st:=F.noStar;simp only[checkBuiltinCall,F.newKind,F.newSplit,F.newRow]
 repeat (first
  |refine br hC ?_
  |(refine cL hC ?_; rw[ju])
  |refine wpAny_staticBase_exc hC ?_
  |refine wpAny_madeBy_exc hC ?_
  |simp only[bne_self_eq_false,Bool.false_eq_true,if_false]
  |wp_step)
 exact hq
end
section
variable {prog:Program}{w:World}{A:Around}{E:Value->Shared->Prop}{R:Result->Shared->Prop}{h:Heap}{g:Array GenState}{d:Drawn}{t:Nat}{os:OsState}
variable {nm q:Str}{C N f:Addr}{bs bm Ez:List Value}{nY:Bool}{sn:List Str}{sub:List Value}{ab:Bool}{col:Option Bool}{dd:Option Addr}{k0 k1 k2 k3 k5:Option Value}{B newId kB:String}
abbrev lL (C t:Addr):Obj:={cls:= .ref C,data:= .fields #[.ref t,.none,.none,.none,.bool false,.none]}
abbrev jb (l:List Value):Obj:={cls:= .type "tuple",data:= .seq l.toArray}
def Le (F:ExcBaseFacts B newId kB Ez)(hB:bm.contains (.type B)=true)(hA:bm.contains (.type "AttributeError")=false)(hN:bm.contains (.type "NameError")=false)
  (hC:h.get? C=some (excClassObj nm q C N bs bm nY sn sub ab col dd k0 k1 k2 k3 k5 newId)) (hq:R (.ok (.ret (.ref (h.objs.size + 1)))) ⟨(h.push (jb [])).push (lL C h.objs.size),g,d,t,os⟩):
  codeAny (model prog w) A (.builtin newId ⟨[.ref C],[]⟩) R ⟨h,g,d,t,os⟩:=by
 have he:=F.ends;have h1:=iq (C:=C) hB; have h2:=iq (C:=C) hA; have h3:=iq (C:=C) hN;refine codeAny_builtinAt F.entry ?_;unfold Builtin.«BaseException.__new__»;refine wpAt_bind ?_;show wpAt _ _ _ (stack >>=_) _ _ _;refine wpAt_bind (wpAt_stack fun p below=>wpAt_of_wpAny ?_)
 wp_walk
 refine wpAt_of_wpAny ?_;rw[F.owner]
 repeat (first
  |with_reducible refine wpAny_madeHere_exc F.canon hC ?_
  |with_reducible refine br hC ?_
  |(with_reducible refine cL hC ?_; first|rw[h1]|rw[h2]|rw[h3])
  |wp_step)
 show R _ _;rw[jU];exact hq
def FX (F:ExcBaseFacts B newId kB Ez)(hB:bm.contains (.type B)=true)(hA:bm.contains (.type "AttributeError")=false)(hN:bm.contains (.type "NameError")=false){oI:Obj}{Q:Fin->Shared->Prop}
  (hC:h.get? C=some (excClassObj nm q C N bs bm nY sn sub ab col dd k0 k1 k2 k3 k5 newId)) (hi:Kc (model prog w) h (typeLookup (.ref C) "__init__") (some (.ref f))) (hf:h.get? f=some oI) (RC:oI.cls= .type "function")
  (hq:wpAny (model prog w) A (call (.ref f) [.ref (h.objs.size + 1)]) (fun r s'=>r= .none/\Q (.done (.ret (.ref (h.objs.size + 1)))) s') E ⟨(h.push (jb [])).push (lL C h.objs.size),g,d,t,os⟩):
  wpAny (model prog w) A (Builtin.«type.__call__» ⟨[.ref C],[]⟩) Q E ⟨h,g,d,t,os⟩:=by
 repeat (first
  |with_reducible refine br hC ?_
  |with_reducible refine wpAny_madeBy_exc hC ?_
  |wp_step)
 refine codeAny_call_builtin_code (Code.quiet_builtin _ F.quiet) (Ld F hB hC ?_);refine Le F hB hA hN hC ?_;show wpAny _ _ _ _ _ _;have kp: ∀b o,h.get? b=some o->((h.push (jb [])).push (lL C h.objs.size)).get? b=some o:=fun b o z=>ax _ (ax _ z);have Iv:=kp _ _ hC;have hg:((h.push (jb [])).push (lL C h.objs.size)).get? (h.objs.size + 1)=some (lL C h.objs.size):=by heap_get
 have RD:(Value.ref C :: bm).contains (.ref C)=true:=by simp
 unfold isInstance
 repeat (first
  |with_reducible refine br hg ?_
  |(with_reducible refine cL Iv ?_; rw[RD])
  |wp_step)
 show wpAny _ _ (typeLookup (.ref C) _) _ _ _;refine hi _ _ _ _ kp ?_;refine hJ (aA ?_);unfold bindSpecial;refine aA (wpAny_typeOf (T:="function") ⟨_,kp _ _ hf,RC⟩ ?_);rw[aZ (by decide)];refine bA (aA (b9 hq (fun r s' hr=>?_) fun _ _ x=>x));obtain⟨rfl,z⟩:=hr
 wp_walk
 exact z
def call_exc (F:ExcBaseFacts B newId kB Ez)(hB:bm.contains (.type B)=true)(hA:bm.contains (.type "AttributeError")=false)(hN:bm.contains (.type "NameError")=false){oI:Obj}{Q:Value->Shared->Prop}
  (hC:h.get? C=some (excClassObj nm q C N bs bm nY sn sub ab col dd k0 k1 k2 k3 k5 newId)) (hi:Kc (model prog w) h (typeLookup (.ref C) "__init__") (some (.ref f))) (hf:h.get? f=some oI) (RC:oI.cls= .type "function")
  (hq:wpAny (model prog w) (A.under (.builtin "type.__call__" ⟨[.ref C],[]⟩)) (call (.ref f) [.ref (h.objs.size + 1)]) (fun r s'=>r= .none/\Q (.ref (h.objs.size + 1)) s') E ⟨(h.push (jb [])).push (lL C h.objs.size),g,d,t,os⟩):
  wpAny (model prog w) A (call (.ref C) []) Q E ⟨h,g,d,t,os⟩:=by
 have f1:=tc_lookup; have f2:=tc_bind (.ref C);have hT:(⟨h,g,d,t,os⟩:Shared).TypeIs (.ref C) "type":=⟨_,hC,rfl⟩;refine DZ (codeAny_of_tree ?_);show wpAny _ _ (callAny (.ref C) _) _ _ _
 repeat (any_goals (first
  |assumption
  |with_reducible refine br hC ?_
  |wp_step))
 refine⟨rfl,?_⟩;exact codeAny_call_builtin_at (Code.quiet_builtin _ (by decide +kernel)) entry_typeCall (wpAny_check_type_call_sub hC (FX F hB hA hN hC hi hf RC hq))
end
def Stop (P:Prop):Prop:=P
def Stop.out {P:Prop}(h:Stop P):P:=h
def Stop.in {P:Prop}(h:P):Stop P:=h
section
variable {prog:Program}{w:World}{A:Around}{E:Value->Shared->Prop}{R:Result->Shared->Prop}{h:Heap}{g:Array GenState}{d:Drawn}{t:Nat}{os:OsState}
variable {nm q:Str}{C N e:Addr}{bs bm Ez:List Value}{nY:Bool}{sn:List Str}{sub:List Value}{ab:Bool}{col:Option Bool}{dd iB:Option Addr}{k0 k1 k2 k3 k5:Option Value}{B newId YE kB:String}{vs:Array Value}
def Iw {M:Model}(F:ExcBaseFacts B YE kB Ez)(hB:bm.contains (.type B)=true){oe:Obj}{rest:List Value}{Q:Unit->Shared->Prop}
  (hC:h.get? C=some (excClassObj nm q C N bs bm nY sn sub ab col dd k0 k1 k2 k3 k5 newId)) (he:h.get? e=some oe) (hc:oe.cls= .ref C) (hq:Q () ⟨h,g,d,t,os⟩):
  wpAny M A (checkBuiltinCall kB ⟨.ref e :: rest,[]⟩) Q E ⟨h,g,d,t,os⟩:=by
 have h1:=iq (C:=C) hB; have h2:=F.noStar;simp only[checkBuiltinCall,F.initKind,F.initSplit,F.initRow]
 repeat (first
  |(with_reducible refine br he ?_; rw[hc])
  |with_reducible refine br hC ?_
  |(with_reducible refine cL hC ?_; rw[h1])
  |wp_step)
 refine wpAny_onRaise ?_;rw[show ∀(a b:String) (n:Nat),Bind.check ⟨.positional,"*",B,.self,[⟨"args",.varPos,false⟩]⟩ a b n (List.map (fun x=>x.fst) ({pos:=Value.ref e :: rest}:Args).kw)=pure () from fun a b n=>
  check_star_args _ _ _ _ _ _]
 exact bA hq
def FY (F:ExcBaseFacts B YE kB Ez)(hB:bm.contains (.type B)=true){v:Value}{Q:Value->Shared->Prop}
  (hC:h.get? C=some (excClassObj nm q C N bs bm nY sn sub ab col dd k0 k1 k2 k3 k5 newId)) (x:iK h e (.ref C) iB vs) {t0:Addr} (h0:vs[0]? =some (.ref t0))
  (hq: ∀h',mH [] [e] h h'->iK h' e (.ref C) iB (vs.setIfInBounds 0 (.ref h.objs.size))->Q .none ⟨h',g,d,t,os⟩):
  wpAny (model prog w) A (call (.builtin kB) [.ref e,v]) Q E ⟨h,g,d,t,os⟩:=by
 obtain⟨oe,he,hc,VW,hv⟩:=id x;refine DZ (Fg F.init.plain F.initEntry (Iw F hB hC he hc ?_));unfold Builtin.«BaseException.__init__»;have VX:(h.push (jb [v])).get? e=some oe:=ax _ he;have x1:iK (h.push (jb [v])) e (.ref C) iB vs:=⟨oe,VX,hc,VW,hv⟩;have hs:=eR h0
 repeat (first
  |with_reducible refine Hn VX hv h0 ?_
  |with_reducible refine wpAny_setField VX hv hs ?_
  |wp_step)
 have bt:mH [] [e] h ((h.push (jb [v])).update e (Obj.mapFields (·.setIfInBounds 0 (Value.ref h.objs.size)))):=(uJ (fr:=[]) (own:=[]) (jb [v])).trans (yJ _);exact hq _ bt (x1.set 0 _)
end
section
variable {M:Model}{A:Around}{E:Value->Shared->Prop}{s:Shared}{env:Env}
variable {nm q:Str}{C N e:Addr}{bs bm Ez:List Value}{nY:Bool}{sn:List Str}{sub:List Value}{ab:Bool}{col:Option Bool}{dd iB:Option Addr}{k0 k1 k2 k3 k5:Option Value}{newId:String}{vs:Array Value}
def C9 {x:Sem Value}{Q:Flow->Shared->Prop}(hB:bm.contains (.type "BaseException")=true)(hh:A.handled=none)
  (h:wpAny M A x (fun v s1=> ∃e iB vs,v= .ref e/\s1.heap.get? C=some (excClassObj nm q C N bs bm nY sn sub ab col dd k0 k1 k2 k3 k5 newId)/\iK s1.heap e (.ref C) iB vs/\vs[1]? =some .none/\E (.ref e) s1) E s):
  wpAny M A (raiseStmt env (some x) none) Q E s:=by
 have h1:=iq (C:=C) hB;unfold raiseStmt;refine aA (b9 h (fun v s1 z=>?_) fun _ _ x=>x);obtain⟨e,iB,vs,rfl,hC,⟨oe,he,hc,VW,hv⟩,v1,hE⟩:=z;obtain⟨hp,g,d,tk,os⟩:=s1
 repeat (first
  |(with_reducible refine br he ?_; rw[hc])
  |with_reducible refine br hC ?_
  |(with_reducible refine cL hC ?_; rw[h1])
  |with_reducible refine Hn he hv v1 ?_
  |wp_step)
 exact wpAny_raiseNew_none hh hE
def Lf {a:Addr}{cls:Value}{i:Nat}{v:Value}{Q:Unit->Shared->Prop}(x:iK s.heap a cls iB vs)(h:i < vs.size)
  (q: ∀h',mH [] [a] s.heap h'->iK h' a cls iB (vs.setIfInBounds i v)->Q () {s with heap:=h'}):wpAny M A (updateField a i v) Q E s:=
 nG (i:=i) (v:=v) x h fun h' b x' _=>q h' b x'
def v7:entryFor table "proto.unchain"=some Builtin.«proto.unchain»:=entryFor_of_tree (by kernel_rfl)
end
section
variable {prog:Program}{w:World}{A:Around}{E:Value->Shared->Prop}{s:Shared}{env:Env}
variable {nm q:Str}{C N e:Addr}{bs bm Ez:List Value}{nY:Bool}{sn:List Str}{sub:List Value}{ab:Bool}{col:Option Bool}{dd iB:Option Addr}{k0 k1 k2 k3 k5:Option Value}{newId:String}{vs:Array Value}
def Dc {x c:Sem Value}{Q:Flow->Shared->Prop}{e0:Addr}(hB:bm.contains (.type "BaseException")=true)(hh:A.handled=some (.ref e0))(hc: ∀(R:Value->Shared->Prop) (s:Shared),R .none s->wpAny (model prog w) A c R E s)
  (h:wpAny (model prog w) A x (fun v s1=> ∃e iB vs c0 d0 Q4,v= .ref e/\e≠e0/\s1.heap.get? C=some (excClassObj nm q C N bs bm nY sn sub ab col dd k0 k1 k2 k3 k5 newId)/\iK s1.heap e (.ref C) iB vs/\vs[1]? =some .none/\vs.size=6/\
   iK s1.heap e0 c0 d0 Q4/\Q4[2]? =some .none/\ ∀h',mH [] [e] s1.heap h'->iK h' e (.ref C) iB (((vs.setIfInBounds 3 .none).setIfInBounds 4 (.bool true)).setIfInBounds 2 (.ref e0))->E (.ref e) {s1 with heap:=h'}) E s):
  wpAny (model prog w) A (raiseStmt env (some x) (some c)) Q E s:=by
 have h1:=iq (C:=C) hB;unfold raiseStmt;refine aA (b9 h (fun v s1 z=>?_) fun _ _ x=>x);obtain⟨e,iB,vs,c0,d0,Q4,rfl,ne,hC,xe,v1,sz,x0,c2,hE⟩:=z;obtain⟨oe,he,qw,VW,hv⟩:=id xe;obtain⟨hp,g,d,tk,os⟩:=s1;have eC:e≠C:=fun q=>by
  rw[q] at he;rw[hC] at he;cases he;cases hv
 repeat (first
  |(with_reducible refine br he ?_; rw[qw])
  |with_reducible refine br hC ?_
  |(with_reducible refine cL hC ?_; rw[h1])
  |with_reducible refine nG xe (by rw[sz]; decide) fun h2 b2 x2 _=>Stop.out ?_
  |with_reducible refine hc _ _ ?_
  |wp_step)
 have b2':mH [] [e] hp h2:=b2;refine Stop.in ?_;refine aA (nG (s:=⟨h2,g,d,tk,os⟩) x2 (by rw[rq,sz]; decide) fun h3 b3 x3 _=>?_);have b3':mH [] [e] h2 h3:=b3;have VY:mH [] [e] hp h3:=(b2'.trans b3').mono (fun _ z=>z) (by simp);have YF:h3.get? C=_:=(VY C _ hC (by simpa using eC.symm)).1 (by simp);have x03:iK h3 e0 c0 d0 Q4:=iK.but x0 VY (by simpa using ne.symm);obtain⟨o3,YG,hc3,_,hv3⟩:=id x3;obtain⟨o0,he0,_,_,VZ⟩:=id x03;have v31:((vs.setIfInBounds 3 Value.none).setIfInBounds 4 (Value.bool true))[1]? =some Value.none:=by rw[qu (by decide),qu (by decide)]; exact v1
 repeat (first
  |(with_reducible refine br YG ?_; rw[hc3])
  |with_reducible refine br YF ?_
  |(with_reducible refine cL YF ?_; rw[h1])
  |with_reducible refine Hn YG hv3 v31 ?_
  |wp_step)
 have sz3:((vs.setIfInBounds 3 Value.none).setIfInBounds 4 (Value.bool true)).size=6:=by rw[rq,rq,sz]
 unfold raiseNew;refine aA (wpAny_handled ?_);rw[hh];dsimp only;rw[if_pos (show(Value.ref e0 != Value.ref e)=true from by simpa using ne.symm)];refine aA (hJ (wpAny_runValue (codeAny_builtin v7 ?_)));unfold Builtin.«proto.unchain»
 repeat (first
  |with_reducible refine Hn he0 VZ c2 ?_
  |with_reducible refine aA (Lf (s:=⟨h3,g,d,tk,os⟩) x3 (by rw[sz3]; decide) fun h4 b4 x4=>Stop.out ?_)
  |wp_step)
 refine Stop.in ?_;refine wpAny_throw (hE h4 ?_ x4);have b4':mH [] [e] h3 h4:=b4;exact(VY.trans b4').mono (fun _ z=>z) (by simp)
end
open PySem.Builtin PySem.Builtin.ObjectAttr
section
variable {prog:Program}{w:World}{A:Around}{E:Value->Shared->Prop}{h:Heap}{g:Array GenState}{d:Drawn}{t:Nat}{os:OsState}
variable {nm q:Str}{C N e:Addr}{bs bm:List Value}{sn:List Str}{sub:List Value}{ab:Bool}{col:Option Bool}{dd:Option Addr}{k0 k1 k2 k3 k5:Option Value}{newId:String}{vs:Array Value}{name:Str}{v:Value}
def FZ {tk:Tok}{Q:Fin->Shared->Prop}(hC:h.get? C=some (excClassObj nm q C N bs bm true sn sub ab col dd k0 k1 k2 k3 k5 newId))(hp: ∀self:Value,refuseLoop self "__setattr__" (.ref C :: bm)=pure ())
  (tx:Kc (model prog w) h (typeLookup (.ref C) name) none) (x:iK h e (.ref C) none vs)
  (hq: ∀h' Ob,mH [] [e] h h'->iK h' e (.ref C) (some h.objs.size) vs->h'.Ns1 h.objs.size (fun y=>if y=name then some v else none)->Q (.done (.ret .none)) ⟨h',g,d,Ob,os⟩):
  wpAny (model prog w) A (Builtin.«object.__setattr__» ⟨[.ref e,.str name tk,v],[]⟩) Q E ⟨h,g,d,t,os⟩:=by
 obtain⟨o,hx,hc,V0,hv⟩:=id x;have RE:=hp (.ref e);have V3: ∀{A':Around} {Q':Option Value->Shared->Prop} {E':Value->Shared->Prop},Q' none ⟨h,g,d,t,os⟩->wpAny (model prog w) A' (typeLookup (.ref C) name) Q' E' ⟨h,g,d,t,os⟩:=fun z=>tx _ _ _ _ (fun _ _ y=>y) z;have hnc: ∀c,o.data≠ .cls c:=fun c z=>by rw[hv] at z; cases z
 unfold Builtin.«object.__setattr__»
 repeat (first
  |rw[refuse_eq]
  |rw[RE]
  |(with_reducible refine br hx ?_; rw[hc])
  |with_reducible refine wpAny_mroOf_exc hC ?_
  |with_reducible refine V3 ?_
  |wp_step)
 rw[V0,if_neg (by simp[typeHasDict])];rw[hv];dsimp only;have lt:=aH hx;have ne:e≠h.objs.size:=aU lt;generalize hD:({cls:= .type "dict",data:= .dict #[]}:Obj)=D;have A6:(h.push D).get? e=some o:=ax _ hx;refine aA (wpAny_alloc' (aA (wpAny_update' A6 (bA ?_))));generalize hU:(h.push D).update e (fun o=>{cls:=o.cls,dict:=some h.objs.size,data:=o.data,slots:=o.slots})=U;have b1:mH [] [e] h U:=by
  rw[← hU];exact(uJ (fr:=[]) (own:=[]) D).trans (yJ _)
 have x1:iK U e (.ref C) (some h.objs.size) vs:=by
  refine⟨{cls:=o.cls,dict:=some h.objs.size,data:=o.data,slots:=o.slots},?_,hc,rfl,hv⟩;rw[← hU];exact CC _ A6 (Obj.isFreed_of_fields (vs:=vs) hv)
 have gd:U.get? h.objs.size=some {cls:= .type "dict",data:= .dict #[]}:=by
  rw[← hU,← hD];exact(Hl _ _ _ _ ne.symm).trans (Heap.get?_push_at rfl rfl)
 have nd:U.Ns h.objs.size (fun _=>none):=⟨_,#[],_,gd,rfl,fun _ he=>absurd he (by simp),fun _=>rfl⟩;show wpAny _ _ (storeInDict h.objs.size (.str name tk) name v) _ _ _;unfold storeInDict newKeyGuard;refine aA (bA (aA (wpAny_nsSet1 (s:=⟨U,g,d,t,os⟩) (Heap.Ns1.of_empty nd) fun h' hn hs=>?_)));obtain⟨oD,esD,epD,Vh,Vi,Vj⟩:=hn.count (Within.cons name v Within.nil);refine aA (wpAny_lookBehind Vh (by rw[Vi]; exact pastItsLine_dict (aV Vj (by rw[bU,vM,eJ]; lia))) ?_)
 wp_walk
 have lt': ∀b o',h.get? b=some o'->h'.get? b=U.get? b:=fun b o' z=>hs.2 b (aU (aH z));refine hq h' _ (fun b ob z n=>?_) (x1.same fun ob z=>(hs.2 e ne).trans z) hn;obtain⟨z1,sl,z2⟩:=b1 b ob z n;exact⟨fun n'=>(lt' b ob z).trans (z1 n'),sl,(lt' b ob z).trans z2⟩
def Oc {M:Model}{B sa owner:String}{Ez:List Value}{o:Obj}{uL:Value}{Q:Unit->Shared->Prop}(SF:StoreFacts B Ez sa owner)(ho:bm.contains (.type owner)=true)
  (hC:h.get? C=some (excClassObj nm q C N bs bm true sn sub ab col dd k0 k1 k2 k3 k5 newId)) (hx:h.get? e=some o) (hc:o.cls= .ref C) (hq:Q () ⟨h,g,d,t,os⟩):
  wpAny M A (checkBuiltinCall sa ⟨[.ref e,uL,v],[]⟩) Q E ⟨h,g,d,t,os⟩:=by
 have h1:=iq (C:=C) ho; have ha:=SF.args (.ref e) uL v;simp only[checkBuiltinCall,SF.kind,SF.split];refine aA ?_;unfold isInstance
 repeat (first
  |(with_reducible refine br hx ?_; rw[hc])
  |(with_reducible refine cL hC ?_; rw[h1])
  |wp_step)
 cases hs:Manifest.signature? sa with
 |none=>exact bA hq
 |some sg=>
  simp only[argsOk,hs] at ha;have h2:Bind.checkArgs sa sg ⟨[.ref e,uL,v],[]⟩=pure ():=ha;show wpAny M A (Bind.checkArgs sa sg ⟨[.ref e,uL,v],[]⟩) Q E _;rw[h2];exact bA hq
def Lg {B sa owner:String}{Ez:List Value}{Q:Unit->Shared->Prop}(SF:StoreFacts B Ez sa owner)(ho:bm.contains (.type owner)=true)(hC:h.get? C=some (excClassObj nm q C N bs bm true sn sub ab col dd k0 k1 k2 k3 k5 newId))
  (hp: ∀self:Value,refuseLoop self "__setattr__" (.ref C :: bm)=pure ()) (sL:Kc (model prog w) h (typeLookup (.ref C) "__setattr__") (some (.builtin sa))) (tx:Kc (model prog w) h (typeLookup (.ref C) name) none) (x:iK h e (.ref C) none vs)
  (hq: ∀h' Ob,mH [] [e] h h'->iK h' e (.ref C) (some h.objs.size) vs->h'.Ns1 h.objs.size (fun y=>if y=name then some v else none)->Q () ⟨h',g,d,Ob,os⟩):
  wpAny (model prog w) A (setAttr (.ref e) name v) Q E ⟨h,g,d,t,os⟩:=by
 obtain⟨o,hx,hc,_⟩:=id x;have f3:=SF.slot.bind (.ref e);have sL': ∀{tk:Nat} {A':Around} {Q':Option Value->Shared->Prop} {E':Value->Shared->Prop},Q' (some (.builtin sa)) ⟨h,g,d,tk,os⟩->wpAny (model prog w) A' (typeLookup (.ref C) "__setattr__") Q' E' ⟨h,g,d,tk,os⟩:=fun z=>sL _ _ _ _ (fun _ _ y=>y) z;unfold setAttr callSpecial? specialOf
 repeat (any_goals (first
  |assumption
  |(with_reducible refine br hx ?_; rw[hc])
  |with_reducible refine sL' ?_
  |wp_step))
 refine Fg SF.slot.plain SF.entry (Oc SF ho hC hx hc (FZ hC hp tx x fun h' Ob b x' n=>?_))
 repeat (any_goals (first
  |assumption
  |wp_step))
 exact hq h' Ob b x' n
end
section
variable {prog:Program}{w:World}{A:Around}{E:Value->Shared->Prop}{h:Heap}{g:Array GenState}{d:Drawn}{t:Nat}{os:OsState}
variable {nm q:Str}{C N e dx:Addr}{bs bm:List Value}{sn:List Str}{sub:List Value}{ab:Bool}{col:Option Bool}{dd:Option Addr}{k0 k1 k2 k3 k5:Option Value}{newId:String}{vs:Array Value}{name:Str}{v:Value}{mA:Str->Option Value}
def F6 {tk:Tok}{Q:Fin->Shared->Prop}(hC:h.get? C=some (excClassObj nm q C N bs bm true sn sub ab col dd k0 k1 k2 k3 k5 newId))(tx:Kc (model prog w) h (typeLookup (.ref C) name) none)(x:iK h e (.ref C) (some dx) vs)
  (n:h.Ns dx mA) (hm:mA name=some v) (hq:Q (.done (.ret v)) ⟨h,g,d,t,os⟩):wpAny (model prog w) A (Builtin.«object.__getattribute__» ⟨[.ref e,.str name tk],[]⟩) Q E ⟨h,g,d,t,os⟩:=by
 obtain⟨o,hx,hc,V0,hv⟩:=id x;have V3: ∀{A':Around} {Q':Option Value->Shared->Prop} {E':Value->Shared->Prop},Q' none ⟨h,g,d,t,os⟩->wpAny (model prog w) A' (typeLookup (.ref C) name) Q' E' ⟨h,g,d,t,os⟩:=fun z=>tx _ _ _ _ (fun _ _ y=>y) z
 repeat (any_goals (first
  |assumption
  |(with_reducible refine br hx ?_; rw[hc])
  |with_reducible refine V3 ?_
  |wp_step))
 rw[hv];show wpAny _ _ (instanceDict e false) _ _ _;unfold instanceDict;refine aA (br hx ?_);rw[hc];dsimp only;unfold classData;refine aA (aA (br hC (bA ?_)));rw[if_neg (by simp)];rw[V0];refine bA ?_;show wpAny _ _ (nsGet dx name) _ _ _;refine wpAny_nsGet n ?_;rw[hm]
 repeat (first
  |exact hq
  |wp_step)
def Od {M:Model}{uL:Value}{o:Obj}{Q:Unit->Shared->Prop}(hB:bm.contains (.type "BaseException")=true)(hC:h.get? C=some (excClassObj nm q C N bs bm true sn sub ab col dd k0 k1 k2 k3 k5 newId))
  (hx:h.get? e=some o) (hc:o.cls= .ref C) (hq:Q () ⟨h,g,d,t,os⟩):wpAny M A (checkBuiltinCall "BaseException.__getattribute__" ⟨[.ref e,uL],[]⟩) Q E ⟨h,g,d,t,os⟩:=by
 have hk:builtinKind "BaseException.__getattribute__"=some .slot:=by decide +kernel
 have hs:splitId "BaseException.__getattribute__"=some ("BaseException","__getattribute__"):=by decide +kernel
 have h1:=iq (C:=C) hB; have ha:=F.args_bexc_ga (.ref e) uL;simp only[checkBuiltinCall,hk,hs];refine aA ?_;unfold isInstance
 repeat (first
  |(with_reducible refine br hx ?_; rw[hc])
  |(with_reducible refine cL hC ?_; rw[h1])
  |wp_step)
 exact hq
def Lh {T:String}{expr:Bool}{Q:Value->Shared->Prop}(FB:Slot T "__getattribute__" "BaseException.__getattribute__")(hB:bm.contains (.type "BaseException")=true)(hC:h.get? C=some (excClassObj nm q C N bs bm true sn sub ab col dd k0 k1 k2 k3 k5 newId))
  (gL:Kc (model prog w) h (typeLookup (.ref C) "__getattribute__") (some (.builtin "BaseException.__getattribute__"))) (kL:Kc (model prog w) h (typeLookup (.ref C) "__getattr__") none) (tx:Kc (model prog w) h (typeLookup (.ref C) name) none)
  (x:iK h e (.ref C) (some dx) vs) (n:h.Ns dx mA) (hm:mA name=some v) (hv:handedOut v=pure v) (hq:Q v ⟨h,g,d,t + 1,os⟩):wpAny (model prog w) A (getAttr (.ref e) name expr) Q E ⟨h,g,d,t,os⟩:=by
 obtain⟨o,hx,hc,_⟩:=id x;have f3:=FB.bind (.ref e);have x0:(expr && onTheHeap (Value.builtin "BaseException.__getattribute__"))=false:=by cases expr <;> rfl
 have x2:(Value.builtin "BaseException.__getattribute__" == Value.builtin "object.__getattribute__")=false:=by decide +kernel
 have x1:(onTheHeap (Value.ref C) && Value.builtin "BaseException.__getattribute__" == Value.builtin "object.__getattribute__")=false:=by rw[x2]; rfl
 have gL': ∀{tk:Nat} {A':Around} {Q':Option Value->Shared->Prop} {E':Value->Shared->Prop},Q' (some (.builtin "BaseException.__getattribute__")) ⟨h,g,d,tk,os⟩->wpAny (model prog w) A' (typeLookup (.ref C) "__getattribute__") Q' E' ⟨h,g,d,tk,os⟩:=
  fun z=>gL _ _ _ _ (fun _ _ y=>y) z
 have kL': ∀{tk:Nat} {A':Around} {Q':Option Value->Shared->Prop} {E':Value->Shared->Prop},Q' none ⟨h,g,d,tk,os⟩->wpAny (model prog w) A' (typeLookup (.ref C) "__getattr__") Q' E' ⟨h,g,d,tk,os⟩:=fun z=>kL _ _ _ _ (fun _ _ y=>y) z;unfold getAttr
 repeat (any_goals (first
  |assumption
  |(with_reducible refine br hx ?_; rw[hc])
  |with_reducible refine gL' ?_
  |with_reducible refine kL' ?_
  |wp_step))
 refine Fg FB.plain F.entry_bexc_ga (Od hB hC hx hc (F6 hC tx x n hm ?_))
 repeat (any_goals (first
  |assumption
  |wp_step))
end
section
variable {M:Model}{A:Around}{E:Value->Shared->Prop}
variable {nm q:Str}{C N:Addr}{bs bm:List Value}{nY:Bool}{sn:List Str}{sub:List Value}{ab:Bool}{col:Option Bool}{dd:Option Addr}{k0 k1 k2 k3 k5:Option Value}{newId:String}
variable {nm' q':Str}{R N':Addr}{bs' V4:List Value}{RF:Bool}{sn':List Str}{V5:List Value}{ab':Bool}{V6:Option Bool}{Ej:Option Addr}{j0 j1 j2 j3 j5:Option Value}{Oe:String}
def xI {h:Heap}{g:Array GenState}{d:Drawn}{t:Nat}{os:OsState}{e:Addr}{iB:Option Addr}{vs:Array Value}{b:Bool}{Q:Bool->Shared->Prop}
  (hC:h.get? C=some (excClassObj nm q C N bs bm nY sn sub ab col dd k0 k1 k2 k3 k5 newId)) (hR:h.get? R=some (excClassObj nm' q' R N' bs' V4 RF sn' V5 ab' V6 Ej j0 j1 j2 j3 j5 Oe))
  (x:iK h e (.ref C) iB vs) (qj:V4.contains (.type "BaseException")=true) (up:(Value.ref C :: bm).contains (.ref R)=b)
  (hq:Q b ⟨h,g,d,t,os⟩):wpAny M A (excMatches (.ref e) (.ref R)) Q E ⟨h,g,d,t,os⟩:=by
 obtain⟨oe,he,Nm,_⟩:=x;have V7:(Value.ref R :: V4).contains (.type "BaseException")=true:=by rw[List.contains_cons,qj,Bool.or_true]
 have f:=tc_notTuple;unfold excMatches
 repeat (first|(with_reducible refine cL hR ?_; rw[V7])|(with_reducible refine cL hC ?_; rw[up])|(with_reducible refine br he ?_; rw[Nm])|with_reducible refine br hR ?_|wp_step)
 cases b <;> (wp_walk; exact hq)
end
end Ka
namespace L2
open PySem PySem.Spec PyProof.Rows Ka
structure gI (K:Frag)(C R:Addr):Prop where
 obj: ∃(nm q:Str) (N:Addr) (bs bm:List Value) (sn:List Str) (sub:List Value) (ab:Bool) (col:Option Bool) (dd:Option Addr) (k0 k1 k2 k3 k5:Option Value),
  K.lookup C=some (excClassObj nm q C N bs bm true sn sub ab col dd k0 k1 k2 k3 k5 "Exception.__new__")/\
   (bm=[.type "Exception",.type "BaseException",.type "object"]/\C=R∨bm=[.ref R,.type "Exception",.type "BaseException",.type "object"])
 sa:findIn K (.ref C) "__setattr__"=some (some (.builtin "object.__setattr__"))
 ga:findIn K (.ref C) "__getattribute__"=some (some (.builtin "BaseException.__getattribute__"))
 gk:findIn K (.ref C) "__getattr__"=some none
 tx:findIn K (.ref C) "text"=some none
structure V8 (h:Heap)(C R:Addr)(nm q:Str)(N:Addr)(bs bm:List Value)(sn:List Str)(sub:List Value)(ab:Bool)(col:Option Bool)(dd:Option Addr)(k0 k1 k2 k3 k5:Option Value):Prop where
 at_:h.get? C=some (excClassObj nm q C N bs bm true sn sub ab col dd k0 k1 k2 k3 k5 "Exception.__new__")
 e:bm.contains (.type "Exception")=true
 b:bm.contains (.type "BaseException")=true
 o:bm.contains (.type "object")=true
 na:bm.contains (.type "AttributeError")=false
 nn:bm.contains (.type "NameError")=false
 rf: ∀self:Value,refuseLoop self "__setattr__" (.ref C :: bm)=pure ()
 up:(Value.ref C :: bm).contains (.ref R)=true
def gI.on {K:Frag}{C R:Addr}(k:gI K C R): ∃nm q N bs bm sn sub ab col dd k0 k1 k2 k3 k5,∀h:Heap,K.In h->V8 h C R nm q N bs bm sn sub ab col dd k0 k1 k2 k3 k5:=by
 obtain⟨nm,q,N,bs,bm,sn,sub,ab,col,dd,k0,k1,k2,k3,k5,l,hb⟩:=k.obj;have pass: ∀self:Value,refuseLoop self "__setattr__" [.type "Exception",.type "BaseException",.type "object"]=pure ():=F.store_Exception.passes;refine⟨nm,q,N,bs,bm,sn,sub,ab,col,dd,k0,k1,k2,k3,k5,fun h X=>?_⟩;rcases hb with⟨rfl,rfl⟩|rfl
 ·exact⟨X _ _ l,by decide +kernel,by decide +kernel,by decide +kernel,by decide +kernel,by decide +kernel,fun self=>by rw[refuseLoop_ref]; exact pass self,by simp⟩
 ·exact⟨X _ _ l,iq (by decide +kernel),iq (by decide +kernel),iq (by decide +kernel),iq (by decide +kernel),iq (by decide +kernel),fun self=>by rw[refuseLoop_ref,refuseLoop_ref]; exact pass self,by simp⟩
def kW {K:Frag}{M:Model}{h:Heap}(X:K.In h){t:Value}{name:Str}{r:Option Value}(e:findIn K t name=some r):Kc M h (typeLookup t name) r:=PySem.W.looks_findIn X e
abbrev xo (e C:Addr)(iB:Option Addr)(vs:Array Value):HO:= .ext fun h=>iK h e (.ref C) iB vs
def Iy {P:Program}{w:World}{H:Hp}{h:Heap}{e C:Addr}{iB:Option Addr}{vs:Array Value}(x:iK h e (.ref C) iB vs):di P w H h e (xo e C iB vs):=by
 refine⟨x,?_,fun h1 h2 z k=>iK.same z k⟩;obtain⟨o,z,_⟩:=x;exact⟨o,z⟩
abbrev v0 (t:Addr):Array Value:= #[.ref t,.none,.none,.none,.bool false,.none]
section
variable {X:Cx}{pins:List (Addr×Obj)}{σ:St}{H:Hp}{s:Shared}{e C R dx:Addr}{iB:Option Addr}{vs V9:Array Value}{h':Heap}{t':Nat}
def Inv.Dd (I:Inv X pins σ H s)(h:H e=some (xo e C iB vs)):iK s.heap e (.ref C) iB vs:=(I.cm e _ h).1
def Inv.Of (I:Inv X pins σ H s)(h:H e=some (xo e C iB vs))(b:mH [] [e] s.heap h')(x:iK h' e (.ref C) iB V9):Inv X pins σ (upd H e (xo e C iB V9)) {s with heap:=h',toks:=t'}:=by
 refine I.write (x:=e) (e:=e) (by rw[h]; exact True.intro) (.inl rfl) (fun c u n z=>(b c u z (by simpa using n)).1 (by simp)) ?_ (Iy x);obtain⟨o,z,_⟩:=x;exact⟨o,z⟩
def Inv.Li {f:Str}{y:V}{u:Value}(I:Inv X pins σ H s)(h:H e=some (xo e C none vs))(b:mH [] [e] s.heap h')(x:iK h' e (.ref C) (some s.heap.objs.size) vs)(n:h'.Ns1 s.heap.objs.size (fun z=>if z=f then some u else none))(r:RelV y u):
  Inv X pins σ (upd (upd H s.heap.objs.size (.xd [(f,y)])) e (xo e C (some s.heap.objs.size) vs)) {s with heap:=h',toks:=t'}:=by
 have hn:H s.heap.objs.size=none:=I.cm.fresh (aB _);have ne:e≠s.heap.objs.size:=aI h hn;have off: ∀c u,H c=some u->c≠s.heap.objs.size:=fun c u z=>aI z hn;have kp: ∀c o,c≠e->s.heap.get? c=some o->h'.get? c=some o:=fun c o n z=>(b c o z (by simpa using n)).1 (by simp);have low: ∀c o,s.heap.get? c=some o->c≠s.heap.objs.size:=fun c o z=>aU (aH z);have same: ∀c,c≠e->c≠s.heap.objs.size->upd (upd H s.heap.objs.size (.xd [(f,y)])) e (xo e C (some s.heap.objs.size) vs) c=H c:=fun c n1 n2=>by rw[az n1,az n2]
 refine I.un ⟨fun c o z hc _ _=>kp c o (fun w=>by rw[w,h] at hc; cases hc) z,fun c o z hc _ _=>⟨o.slots,kp c o (fun w=>by rw[w,h] at hc; cases hc) z⟩,fun c o z hc _=>?_,fun c o z _=>?_,fun c xs z=>?_,fun c o u z=>?_,fun c ps z=>?_⟩ fun c u z=>?_
 ·rw[same c (fun w=>by rw[w,h] at hc; cases hc) (low c o z)];exact hc
 ·by_cases q:c=e
  ·rw[q];obtain⟨oe,w,_⟩:=x;exact⟨oe,w⟩
  ·exact⟨o,kp c o q z⟩
 ·rw[same c (fun w=>by rw[w,h] at z; cases z) (off c _ z)];exact z
 ·rw[same c (fun w=>by rw[w,h] at z; cases z) (off c _ z)];exact z
 ·refine⟨#[],?_⟩;rw[same c (fun w=>by rw[w,h] at z; cases z) (off c _ z),z];simp
 ·by_cases q:c=e
  ·subst q;rw[ag] at z;cases z;exact Iy x
  ·rw[az q] at z;by_cases q2:c=s.heap.objs.size
   ·subst q2;rw[ag] at z;cases z;refine⟨_,n,fun g=>?_⟩;show kI (List.lookup g [(f,y)]) (if g=f then some u else none);by_cases w:g=f
    ·subst w;rw[aZ rfl];simpa[List.lookup,kI] using r
    ·rw[aL w];have:(g == f)=false:=by simpa using w
     simp[List.lookup,this,kI]
   ·rw[az q2] at z;refine(I.cm c u z).sT (fun d o hd w=>?_) (fun d w=>?_) fun d xs w=>?_
    ·refine kp d o (fun w2=>?_) w;rcases hd with hd|hd
     ·exact q (hd▸w2)
     ·rw[w2,h] at hd;cases hd
    ·rw[same d (fun w2=>by rw[w2,h] at w; cases w) (off d _ w)];exact w
    ·rw[same d (fun w2=>by rw[w2,h] at w; cases w) (off d _ w)];exact w
def gone (H:Hp)(a:Addr):Hp:=fun b=>if b=a then none else H b
def xJ {a:Addr}:gone H a a=none:=by unfold gone; rw[if_pos rfl]
def ir {a b:Addr}(h:b≠a):gone H a b=H b:=by unfold gone; rw[if_neg h]
def Inv.drop {H0:Hp}{s0:Shared}{φ:Heap->Prop}(I0:Inv X pins σ H0 s0)(h0:H0 e=none)(I:Inv X pins σ H s)(h:H e=some (.ext φ)):Inv X pins σ (gone H e) s:=by
 have off: ∀c u,H c=some u->u≠ .ext φ->c≠e:=fun c u z n w=>by
  rw[w,h] at z;cases z;exact n rfl
 refine⟨I.ok,I.os,I.bare,⟨I.base.keep,I.base.slot,fun c o z hc hx=>?_,I.base.there,fun c xs z=>?_,fun c o u z=>?_,fun c ps z=>?_⟩,I.loc,I.cell,?_,fun x c z=>?_,fun p hp=>?_,fun c u z=>?_,I.len⟩
 ·have w:=I.base.free c o z hc hx;rw[ir (fun q=>by rw[q,h] at w; cases w)];exact w
 ·rw[ir (aI (I0.base.pY c xs z) h0)];exact I.base.pY c xs z
 ·rw[ir (aI (I0.base.oR c o u z) h0)];exact I.base.oR c o u z
 ·obtain⟨m,w⟩:=I0.base.oS c ps z;obtain⟨m',w'⟩:=I.base.oS c ps z;exact⟨m',by rw[ir (aI w h0)]; exact w'⟩
 ·rw[ir (fun q=>by have w:=I.free; rw[q,h] at w; cases w)];exact I.free
 ·have w:=I.iC x c z;rw[ir (fun q=>by rw[q,h] at w; cases w)];exact w
 ·obtain⟨w1,w2,w3⟩:=I.pin p hp;refine⟨w1,?_,w3⟩;rw[ir (fun q=>by rw[q,h] at w2; cases w2)];exact w2
 ·by_cases q:c=e
  ·rw[q,xJ] at z;cases z
  ·rw[ir q] at z;refine(I.cm c u z).sT (fun d o _ w=>w) (fun d w=>?_) fun d xs w=>?_
   ·rw[ir (off d _ w (by intro z; cases z))];exact w
   ·rw[ir (off d _ w (by intro z; cases z))];exact w
end
structure g6 (k:Nat)(A:Around):Prop where
 dp:A.depth + 3 * k + 5 < recursionLimit
 un:A.units + 16 * k + 200 < cLine
def eL.h {k:Nat}{A:Around}(r:eL k A):g6 k A:=⟨r.dp,r.un⟩
def g6.mono {j k:Nat}{A:Around}(r:g6 k A)(h:j<=k):g6 j A:=⟨by have:=r.dp; lia,by have:=r.un; lia⟩
def g6.deeper {k:Nat}{A:Around}(r:g6 (k + 1) A)(env:Env):g6 k (A.deeper env):=
 ⟨by have:=r.dp; show A.depth + 1 + 3 * k + 5 < _; lia,by have:=r.un; show A.units + 3 + 16 * k + 200 < _; lia⟩
def g6.make {k:Nat}{A:Around}(r:g6 (k + 1) A)(C:Addr)(us:List Value)(kw:List (Str×Value)):g6 k (A.under (.builtin "type.__call__" ⟨.ref C :: us,kw⟩)):=
 ⟨by have:=r.dp; rw[ub]; lia,by have:=r.un; rw[uc]; lia⟩
def g6.mark {k:Nat}{A:Around}(r:g6 k A)(e:Option Value):g6 k (A.mark e):=⟨r.dp,r.un⟩
structure RG (P:Program)(w:World)(K:Frag)(mg:Str->Option Value)(base:Heap)(k:Nat)(f:Addr)(fd:FuncData)(ps:List Str)(sp:Sp):Prop where
 len: ∀vs H Q E,sp vs H Q E->vs.length=ps.length
 run: ∀(A:Around) (outer:List Env) (s:Shared) (H:Hp) (args:Args) (us:List Value) (vs:List V) (Q:VK) (E:XK),g6 k A->qc P w K mg base A outer s H->BindsTo s fd args (ps.zip us)->Vals vs us->sp vs H Q E->
  codeAny (model P w) A (.call (.ref f) args) (CR rC outer P w H s Q E) s
abbrev uM (P:Program)(w:World)(K:Frag)(mg:Str->Option Value)(base:Heap)(N:List Str)(qual:Str)(scope:Scope)(f:Addr)(cd:Value)(A:Around)(outer:List Env)(s:Shared)(H:Hp)(E:XK):Cx:=
 {kz rC P w K mg base N qual scope f cd A outer s H E with calm:=false}
def uN {P:Program}{w:World}{K:Frag}{mg:Str->Option Value}{base:Heap}{N ps:List Str}{qual:Str}{scope:Scope}{f:Addr}{cd:Value}{A:Around}{outer:List Env}{s s1:Shared}{H:Hp}{E:XK}{us:List Value}{vs:List V}
  (S:aO N ps scope) (e0:qc P w K mg base A outer s H) (hl:vs.length=ps.length) (r:Vals vs us)
  (x:InCallC s s.heap.objs.size (bindL (envOfC qual scope s.heap.objs.size f cd).kindOf (ps.zip us) fun _=>none) (cellsFrom (s.heap.objs.size + 1) scope.names []) (bindC (envOfC qual scope s.heap.objs.size f cd).kindOf (ps.zip us) fun _=>none) s1):
  Inv (uM P w K mg base N qual scope f cd A outer s H E) [] (start N vs) H s1:=by
 have I:=xu (CX:=rC) (E:=E) (A:={A with handled:=none}) (K:=K) (base:=base) (P:=P) (w:=w) (mg:=mg) (N:=N) S rfl ⟨e0.frames,e0.mod,e0.bs,e0.Ay,e0.lz,e0.D0,e0.cm,e0.bare⟩ hl r x;have ok:=I.ok;exact⟨⟨ok.mod,ok.kind,ok.glob,ok.blt,ok.above,ok.inj,ok.has,ok.JX,(fun z=>by cases z),Around.frames_deeper e0.frames,ok.G7,ok.Ku,ok.bs,ok.Ay,ok.vR,ok.vS,ok.lz,ok.D0⟩,I.os,I.bare,I.base,I.loc,I.cell,I.free,I.iC,I.pin,I.cm,I.len⟩
def lM {P:Program}{w:World}{K:Frag}{mg:Str->Option Value}{base:Heap}{k:Nat}{f:Addr}{x qual:Str}{st:Stmt}{fd:FuncData}{N ps:List Str}{sp:Sp}(F:fV K x qual st f fd)(S:aO N ps (ay st))
  (len: ∀vs H Q E,sp vs H Q E->vs.length=ps.length)
  (fL: ∀(cM:Value) (A:Around) (outer:List Env) (s:Shared) (H:Hp) (vs:List V) (Q:VK) (E:XK),g6 k (A.deeper (envOfC qual (ay st) s.heap.objs.size f cM))->sp vs H Q E->
   ∃t,oq (uM P w K mg base N qual (ay st) f cM A outer s H E).CJ (dj st) t/\t {nx:=fun _ H'=>Q .dW H',rt:=Q} (start N vs) H):RG P w K mg base (k + 1) f fd ps sp:=by
 obtain⟨oc,od,kV,doc,pm,an,cM,ct,Fy,rfl,lk,qY⟩:=F.ex;refine⟨len,fun A outer s H args us vs Q E hr e0 hb r yn=>?_⟩;have hl:=len _ _ _ _ yn;have KX:K.In s.heap:=e0.mod.Kt.keeps fun b o e=>(e0.bs b o e).1;have lim:s.heap.NoLimit:=e0.mod.nolimit.keeps fun b o e=>(e0.bs b o e).1;have mw: ∀y∈ps.zip us,(ay st).names.lookup y.1=some .local∨((ay st).names.lookup y.1=some .cell/\((cellsFrom (s.heap.objs.size + 1) (ay st).names []).lookup y.1).isSome=true):=fun⟨n,v⟩ hy=>by
  rcases S.par n (nR hy).1 with q|q
  ·exact .inl q
  ·exact .inr ⟨q,kH _ _ _ (.inl q)⟩
 have dp:A.depth < recursionLimit:=by have:=hr.dp; lia
 refine codeAny_call_function dp (KX _ _ lk) rfl S.co S.gen rfl (PySem.W.codeRec_of KX qY) (hb _ _ _ _ ?_);refine sR S.kind mw fun env he s1 y=>?_;subst he;refine⟨lim.keeps y.toInCall.keep,codeAny_func ?_⟩;obtain⟨t,ht,hq⟩:=fL cM A outer s H vs Q E (hr.deeper _) yn;have I:Inv (uM P w K mg base N qual (ay st) f cM A outer s H E) [] (start N vs) H s1:=uN S e0 hl r y;refine b9 (ht.CJ [] s1 (start N vs) H _ I hq) (fun fl s' hs=>?_) fun e s' hs=>hs;have fin: ∀{σ':St} {H':Hp} {v:V} {u:Value},Inv (uM P w K mg base N qual (ay st) f cM A outer s H E) [] σ' H' s'->RelV v u->Q v H'->CE outer P w H s Q u s':=
  fun{σ' H' v u} J rv q=>⟨v,H',J.os,J.bare,J.base,J.cm,rv,q⟩
 cases fl with
 |ret u=>
  obtain⟨v,σ',H',J,rv,q⟩:=hs;exact fin J rv q
 |next=>
  obtain⟨σ',H',J,q⟩:=hs;exact fin (v:=V.dW) (u:=Value.none) J rfl q
 |brk=>
  obtain⟨_,_,_,q⟩:=hs;exact False.elim q
 |cont=>
  obtain⟨_,_,_,q⟩:=hs;exact False.elim q
section
variable {X:Cx}{k:Nat}{f C R:Addr}{fd:FuncData}{ps:List Str}{sp:Sp}{x:Str}{p pos apos pos':Pos}{a b o value e:Expr}{es:List Expr}{ta tb tv:TE}{t:TA}
def EA {A:Around}{xe:Value->Shared->Prop}{pins:List (Addr×Obj)}{σ:St}{H:Hp}{s:Shared}{Q:VK}{us:List Value}{vs:List V}(F:RG X.prog X.w X.K X.mg X.base k f fd ps sp)(hr:g6 k A)(e0:qc X.prog X.w X.K X.mg X.base A X.stack s H)(hb:Binds X.K fd ps [])
  (I:Inv X pins σ H s) (r:Vals vs us) (h:sp vs H Q E0):wpAny (model X.prog X.w) A (call (.ref f) us) (EP X pins σ Q) xe s:=by
 have hl:(us ++ []).length=ps.length:=by rw[bZ,← r.length]; exact F.len _ _ _ _ h
 have bd:=hb s us I.gx hl;rw[bZ] at bd;refine DZ (CB (F.run A X.stack s H ⟨us,[]⟩ us vs Q E0 hr e0 bd r h) fun r s' hq=>?_);cases r with
 |error e=>exact False.elim hq
 |ok fl=>
  cases fl with
  |ret u=>exact I.after hq
  |next=>exact False.elim hq
  |brk=>exact False.elim hq
  |cont=>exact False.elim hq
def Og (K:Frag)(t:TA):TE:=fun σ H Q=>t σ H fun xs H2=> ∃(e C R t0:Addr) (iB:Option Addr) (vs:Array Value) (y:V),xs=[.ref e,y]/\H2 e=some (xo e C iB vs)/\gI K C R/\vs[0]? =some (.ref t0)/\ ∀t',Q .dW (upd H2 e (xo e C iB (vs.setIfInBounds 0 (.ref t'))))
def Iz {pl:Sem Bool}(hg:Gl X "Exception")(hm:X.mg "Exception"=none)(ha:PA X (e :: es) t)
  (hs:starEach (e :: es) X.env=(false,eval e X.env) :: starEach es X.env:=by rfl) (gN:(backTo pos (starEach es X.env)).any (·.1)=false:=by rfl)
  (ht:eval (.Call (.Attribute (.Name "Exception" p) "__init__" apos) (e :: es) [] pos) X.env=(do
   let ov ← eval (.Name "Exception" p) X.env
   standAt apos.atName
   let(f,first) ← holding [ov] (getMethod ov "__init__" pl)
   callWith pos f first (backTo pos (starEach (e :: es) X.env)) (backToKw pos (keywordEach [] X.env))):=by rfl):
  PE X (.Call (.Attribute (.Name "Exception" p) "__init__" apos) (e :: es) [] pos) (Og X.K t):=by
 intro pins s σ H Q I h;obtain⟨m,F⟩:=I.fr;refine vJ (pl:=pl) (oT I hg hm (u:= .type "Exception") (by rfl) ?_) ht;refine PySem.W.method_type (v:= .builtin "Exception.__init__") F I.mod.Kt (by rfl) (by decide +kernel) (by rfl) (by rfl) ?_;have hA:=ha pos pins {s with toks:=s.toks + 1} σ H _ (I.tok _) h;rw[hs] at hA ⊢;refine iF (by show(false || (backTo pos (starEach es X.env)).any (·.1))=false; rw[gN] <;> rfl) (Fb ?_);refine dN hA fun us s2 ⟨vs,H2,I2,r2,e,C,R,t0,iB,ws,y,e1,e2,k,e3,q⟩=>?_;subst e1;obtain⟨u1,u2,rfl,ru,_⟩:=vals2 r2;obtain rfl:u1=Value.ref e:=ru;obtain⟨nm,qn,N,bs,bm,sn,sub,ab,col,dd,k0,k1,k2,k3,k5,c⟩:=k.on;have c:=c _ I2.gx;obtain⟨hp,g,d,tk,os⟩:=s2;exact FY Nf c.e c.at_ (I2.Dd e2) e3 fun h' b x'=>⟨.dW,_,I2.Of (t':=tk) e2 b x',rfl,q _⟩
def RH (K:Frag)(ta tv:TE):TS:=fun D σ H=>tv σ H fun y H1=>ta σ H1 fun x H2=> ∃(e C R:Addr) (vs:Array Value),x= .ref e/\H2 e=some (xo e C none vs)/\gI K C R/\
 ∀dx,H2 dx=none->D.nx σ (upd (upd H2 dx (.xd [("text",y)])) e (xo e C (some dx) vs))
def Lj (ha:PE X o ta)(hv:PE X value tv)(hs:swapsWith value (some (.Attribute o "text" pos')) pos.line X.env=pure false):PS X (.Assign [.Attribute o "text" pos'] value pos) (RH X.K ta tv):=by
 intro pins s σ H D I h;refine Na (dN (hv pins s σ H _ I h) fun u s1 ⟨y,H1,I1,ry,q⟩=>dN (ha pins s1 σ H1 _ I1 q) fun ov s2 ⟨x,H2,I2,rx,e,C,R,vs,e1,e2,k,q2⟩=>?_) hs;subst e1;obtain rfl:ov=Value.ref e:=rx;obtain⟨nm,qn,N,bs,bm,sn,sub,ab,col,dd,k0,k1,k2,k3,k5,c⟩:=k.on;have c:=c _ I2.gx;have hn:=I2.cm.fresh (aB s2.heap.objs.size);obtain⟨hp,g,d,tk,os⟩:=s2;refine Lg PySem.F.store_Exception c.o c.at_ c.rf (kW I2.gx k.sa) (kW I2.gx k.tx) (I2.Dd e2) fun h' Ob b x' n=>?_;exact⟨σ,_,I2.Li (t':=Ob) e2 b x' n ry,q2 _ hn⟩
structure EB (K:Frag)(R f:Addr):Prop where
 rd:readsIn K R (.type "type")=true
 sp:specialIn K (.ref R) "__getattribute__"=some (some (.builtin "type.__getattribute__"))
 fd:findCls K (.ref R) (.type "type") "__init__"=some (.val (.ref f))
 kp:keepIn K (.ref f)=true
def iW {pl:Sem Bool}(i:EB X.K R f)(F:RG X.prog X.w X.K X.mg X.base k f fd ps sp)(hr:g6 k X.A)(hb:Binds X.K fd ps [])(hg:Gl X x)(hm:X.mg x=some (.ref R))(ha:PA X (e :: es) t)(qd:(x == ("__debug__":Str))=false:=by decide)
  (hs:starEach (e :: es) X.env=(false,eval e X.env) :: starEach es X.env:=by rfl) (gN:(backTo pos (starEach es X.env)).any (·.1)=false:=by rfl)
  (ht:eval (.Call (.Attribute (.Name x p) "__init__" apos) (e :: es) [] pos) X.env=(do
   let ov ← eval (.Name x p) X.env
   standAt apos.atName
   let(f,first) ← holding [ov] (getMethod ov "__init__" pl)
   callWith pos f first (backTo pos (starEach (e :: es) X.env)) (backToKw pos (keywordEach [] X.env))):=by rfl):
  PE X (.Call (.Attribute (.Name x p) "__init__" apos) (e :: es) [] pos) (ud sp [] E0 t):=by
 intro pins s σ H Q I h;refine vJ (pl:=pl) (ji I hg hm ?_ qd) ht;refine PySem.W.method_cls I.gx i.sp (PySem.W.cls_value I.gx i.rd i.fd rfl ?_);refine jV (h₀:=X.base) I.ok.mod.Kt i.kp (dN (ha pos pins _ σ H _ (I.tok _) h) fun us s1 ⟨vs,H1,I1,r,q⟩=>⟨I1.gx,?_⟩) hs gN;have q2:sp (vs ++ []) H1 Q E0:=q;rw[bZ] at q2;exact EA F hr I1.HE hb I1 r q2
end
def Fly (mg:Str->Option Value)(n0:Nat)(H:Hp)(h:Heap)(a C dx:Addr):Prop:=
 ∃(vs:Array Value) (T:Addr),iK h a (.ref C) (some dx) vs/\vs[1]? =some (.ref T)/\Kb h T .none/\T≠a/\n0<=a/\n0<=T/\H a=none/\H T=none/\(vs[2]? =some .none∨mg "Needed"=some (.ref C))
def ma (P:Program)(w:World)(mg:Str->Option Value):Eb:=fun outer H s E e s'=>
 ∃(a C dx:Addr) (H':Hp),e= .ref a/\s'.os=s.os/\AllBare s'.gens/\Un (CF outer) [] H H' s.heap s'.heap/\nV P w H' s'.heap/\Fly mg s.heap.objs.size H' s'.heap a C dx/\E (.ref C) (some dx) H'
def EC {fs fr own:List Addr}{H H2:Hp}{h h2 h3:Heap}(u:Un fs [] H H2 h h2)(b:mH fr own h2 h3)(ho: ∀c∈own,h.objs.size<=c)(hf: ∀c∈fr,c∈fs∨h.objs.size<=c):Un fs [] H H2 h h3 where
 keep:=fun c o z n hc hx=>(b c o (u.keep c o z n hc hx) (fun w=>absurd (aH z) (xh.mpr (ho c w)))).1 (fun w=>(hf c w).elim hc (fun q=>absurd (aH z) (xh.mpr q)))
 slot:=fun c o z n hc hx=>by
  obtain⟨sl,e⟩:=u.slot c o z n hc hx;obtain⟨_,T9,e2⟩:=b c _ e (fun w=>absurd (aH z) (xh.mpr (ho c w)));exact⟨T9,e2⟩
 free:=u.free
 there:=fun c o z hx=>by
  obtain⟨o',e⟩:=u.there c o z hx;obtain⟨_,T9,e2⟩:=b c _ e (fun w=>absurd (aH z) (xh.mpr (ho c w)));exact⟨_,e2⟩
 pY:=u.pY
 oR:=u.oR
 oS:=u.oS
def yK {P:Program}{w:World}{fr own:List Addr}{H:Hp}{h h':Heap}(k:nV P w H h)(b:mH fr own h h')(hf: ∀c∈fr,H c=none)(ho: ∀c∈own,H c=none):nV P w H h':=fun c u z=>by
 refine(k c u z).sT (fun d o hd w=>?_) (fun _ q=>q) fun _ _ q=>q;have t: ∃u',H d=some u':=hd.elim (fun q=>⟨u,by rw[q]; exact z⟩) (fun q=>⟨_,q⟩);obtain⟨u',y⟩:=t;exact(b d o w (fun q=>by rw[ho d q] at y; cases y)).1 (fun q=>by rw[hf d q] at y; cases y)
section
variable {X:Cx}{pins:List (Addr×Obj)}{σ:St}{H:Hp}{s:Shared}{h':Heap}{own:List Addr}
def Inv.jG {c:Addr}(I:Inv X pins σ H s)(h:s.heap.objs.size<=c):(c∈X.ex∨X.s₀.heap.objs.size<=c)/\c≠X.env.locals/\(∀x k,X.env.cells.lookup x=some k->k≠c)/\ ∀p∈X.pn ++ pins,p.1≠c:=by
 refine⟨.inr (aV I.sz h),(aU (ba I.lt h)).symm,fun x k z=>?_,fun p hp=>?_⟩
 ·obtain⟨v,w⟩:=I.cell x k z;exact aU (ba w.lt h)
 ·exact aU (ba (aH (I.pin p hp).1) h)
def Inv.but (I:Inv X pins σ H s)(b:mH (CF X.stack) own s.heap h')
  (ho: ∀c∈own,H c=none/\(c∈X.ex∨X.s₀.heap.objs.size<=c)/\c≠X.env.locals/\(∀x k,X.env.cells.lookup x=some k->k≠c)/\ ∀p∈X.pn ++ pins,p.1≠c):Inv X pins σ H {s with heap:=h'}:=by
 refine I.D3 (s':={s with heap:=h'}) (ch:=own) rfl ⟨fun c o z n hc hx=>(b c o z hx).1 hc,fun c o z n hc hx=>(b c o z hx).2,fun c o z n hx=>n,fun c o z hx=>?_,fun _ _ z=>z,fun _ _ _ z=>z,fun c ps z=>⟨#[],by rw[z]; simp⟩⟩ ?_ I.bare fun c hc=>(ho c hc).2
 ·obtain⟨_,sl,e⟩:=b c o z hx;exact⟨_,e⟩
 ·exact yK I.cm b I.pZ fun c hc=>(ho c hc).1
end
structure P5 (X:Cx)(E:XK):Prop where
 pass:Passes (ma X.prog X.w X.mg) X E
 lY: ∀{pins:List (Addr×Obj)} {σ:St} {H:Hp} {s:Shared} {a C dx:Addr} {vs:Array Value},Inv X pins σ H s->iK s.heap a (.ref C) (some dx) vs->vs[1]? =some .none->(vs[2]? =some .none∨X.mg "Needed"=some (.ref C))->
  X.s₀.heap.objs.size<=a->H a=none->E (.ref C) (some dx) H->X.xe (.ref a) s
 own:PassesOwn (model X.prog X.w) X.A X.env X.xe
 ownAt: ∀hd:Option Value,PassesOwnAt (model X.prog X.w) (X.A.mark hd) X.A X.env X.xe
 G7:X.stack=X.env :: X.outer
 YH:X.env.frame=some X.env.locals
section
variable {P:Program}{w:World}{K:Frag}{mg:Str->Option Value}{base:Heap}{N:List Str}{qual:Str}{scope:Scope}{f:Addr}{cd:Value}{A:Around}{outer:List Env}{s:Shared}{H:Hp}{E:XK}
def RI:Passes (ma P w mg) (kz (ma P w mg) P w K mg base N qual scope f cd A outer s H E) E:=by
 rintro pins σ H1 s1 e s2 I ⟨a,C,dx,H2,rfl,ho,hg,u,cm,⟨vs,T,x,h1,ft,ne,na,nT,Ha,HT,h2⟩,q⟩;have I2:=I.D3 (ch:=[]) ho u cm hg (fun b z=>absurd z (by simp));have sz:s.heap.objs.size<=s1.heap.objs.size:=I.sz;have P6:a < s2.heap.objs.size:=by
  obtain⟨o,z,_⟩:=x;exact aH z
 show wpAny _ _ (leaving (envOfC qual scope s.heap.objs.size f cd) (.ref a)) _ _ s2;refine Oa (base:=base) (outer:=outer) (L:=s.heap.objs.size) I.ok.frames I2.stack rfl x h1 ft ne fun h3 T' b x' hT t'=>?_;have P7:T'≠a:=by
  rw[hT];exact(aU P6).symm
 refine⟨a,C,dx,H2,rfl,I2.os,I2.bare,EC I2.base b ?_ ?_,yK cm b I2.pZ ?_,⟨_,T',x',pq (eR h1),t',P7,aV sz na,?_,Ha,I2.cm.fresh (iz hT.symm),?_⟩,q⟩
 ·intro c hc;rcases av.mp hc with rfl|hc
  ·exact aV sz nT
  ·rw[ak.mp hc];exact aV sz na
 ·intro c hc;rcases av.mp (I2.tW c hc) with hc|hc
  ·rw[hc];exact .inr (aB _)
  ·exact .inl hc
 ·intro c hc;rcases av.mp hc with rfl|hc
  ·exact HT
  ·rw[ak.mp hc];exact Ha
 ·rw[hT];exact I2.sz
 ·rw[qu (by decide)];exact h2
def Oh:P5 (kz (ma P w mg) P w K mg base N qual scope f cd A outer s H E) E where
 pass:=RI
 lY:=by
  intro pins σ H1 s1 a C dx vs I x h1 h2 na Ha q;have P6:a < s1.heap.objs.size:=by
   obtain⟨o,z,_⟩:=x;exact aH z
  show wpAny _ _ (leaving (envOfC qual scope s.heap.objs.size f cd) (.ref a)) _ _ s1;refine N9 (base:=base) (outer:=outer) (L:=s.heap.objs.size) I.ok.frames I.stack rfl x h1 fun h3 T' b x' hT t'=>?_;have P7:T'≠a:=by
   rw[hT];exact(aU P6).symm
  refine⟨a,C,dx,H1,rfl,I.os,I.bare,EC I.base b ?_ ?_,yK I.cm b I.pZ ?_,⟨_,T',x',pq (eR h1),t',P7,na,?_,Ha,I.cm.fresh (iz hT.symm),?_⟩,q⟩
  ·intro c hc;rw[ak.mp hc];exact na
  ·intro c hc;rcases av.mp (I.tW c hc) with hc|hc
   ·rw[hc];exact .inr (aB _)
   ·exact .inl hc
  ·intro c hc;rw[ak.mp hc];exact Ha
  ·rw[hT];exact I.sz
  ·rw[qu (by decide)];exact h2
 own:=PassesOwn.leaving
 ownAt:=fun _=>PassesOwnAt.leaving
 G7:=rfl
 YH:=rfl
def fV.YI {x qual:Str}{st:Stmt}{f:Addr}{fd:FuncData}{N ps:List Str}{k:Nat}{sp:Sp}(F:fV K x qual st f fd)(S:aO N ps (ay st))(len: ∀vs H Q E,sp vs H Q E->vs.length=ps.length)
  (fL: ∀(cM:Value) (A:Around) (outer:List Env) (s:Shared) (H:Hp) (vs:List V) (Q:VK) (E:XK),eL k (A.deeper (envOfC qual (ay st) s.heap.objs.size f cM))->P5 (kz (ma P w mg) P w K mg base N qual (ay st) f cM A outer s H E) E->sp vs H Q E->
   ∃t,oq (kz (ma P w mg) P w K mg base N qual (ay st) f cM A outer s H E) (dj st) t/\t {nx:=fun _ H'=>Q .dW H',rt:=Q} (start N vs) H):lB P w K mg base (ma P w mg) (k + 1) f fd ps sp:=by
 obtain⟨oc,od,kV,doc,pm,an,cM,ct,Fy,rfl,lk,qY⟩:=F.ex;exact HI lk qY S len fun A outer s H vs Q E hr yn=>fL cM A outer s H vs Q E hr Oh yn
end
def Oi (K:Frag)(txt:Str):Sp:=fun vs H Q _=> ∃(e C R t0:Addr),vs=[.ref e]/\H e=some (xo e C none (v0 t0))/\gI K C R/\ ∀dx t',H dx=none->Q .dW (upd (upd H dx (.xd [("text",.str txt)])) e (xo e C (some dx) (v0 t')))
def Oj (E:XK)(C:Addr)(txt:Str):TS:=fun _ _ H=> ∀dx,H dx=none->E (.ref C) (some dx) (upd H dx (.xd [("text",.str txt)]))
structure IA (P:Program)(w:World)(K:Frag)(mg:Str->Option Value)(base:Heap)(k:Nat)(x:Str)(C R:Addr)(txt:Str):Prop where
 YJ:mg x=some (.ref C)
 ek:gI K C R
 kp:keepIn K (.ref C)=true
 init: ∃(f:Addr) (fd:FuncData),findIn K (.ref C) "__init__"=some (some (.ref f))/\typeIn K (.ref f)=some (.type "function")/\RG P w K mg base k f fd ["self"] (Oi K txt)/\Binds K fd ["self"] []
section
variable {X:Cx}{k:Nat}{C R:Addr}{x txt:Str}{p pos gq:Pos}{E:XK}
def IB (M:IA X.prog X.w X.K X.mg X.base k x C R txt)(hr:g6 (k + 1) X.A)(hg:Gl X x)(qd:(x == ("__debug__":Str))=false){pins:List (Addr×Obj)}{σ:St}{H:Hp}{s:Shared}{Q:Value->Shared->Prop}{xe:Value->Shared->Prop}(I:Inv X pins σ H s)
  (q: ∀(s2:Shared) (e dx t':Addr),s.heap.objs.size<=e->H dx=none->H e=none->dx≠e->Inv X pins σ (upd H dx (.xd [("text",.str txt)])) s2->iK s2.heap e (.ref C) (some dx) (v0 t')->Q (.ref e) s2):
  wpAny (model X.prog X.w) X.A (eval (.Call (.Name x p) [] [] gq) X.env) Q xe s:=by
 obtain⟨f,fd,hi,hf,F,hb⟩:=M.init;refine ej (ji I hg M.YJ ?_ qd);refine Au I.gx M.kp ?_;obtain⟨nm,qn,N,bs,bm,sn,sub,ab,col,dd,k0,k1,k2,k3,k5,c⟩:=M.ek.on;have c:=c _ I.gx;have hz:=I.cm.fresh (cD s.heap.objs.size);have I1:=I.kept (t':=s.toks) (h':=s.heap.push (jb [])) (fun b u z=>ax _ z);have ex:iK ((s.heap.push (jb [])).push (lL C s.heap.objs.size)) (s.heap.objs.size + 1) (.ref C) none (v0 s.heap.objs.size):=⟨lL C s.heap.objs.size,by heap_get,rfl,rfl,rfl⟩;have I2:=I1.laid (a:=s.heap.objs.size + 1) (o:=xo (s.heap.objs.size + 1) C none (v0 s.heap.objs.size)) (t':=s.toks) (h':=(s.heap.push (jb [])).push (lL C s.heap.objs.size)) (fun b u z=>ax _ z) (iz (jU _ _)) (Iy ex);have TY:=PySem.W.looks_typeIn (M:=model X.prog X.w) I.gx hf;have Ol: ∃oI,s.heap.get? f=some oI/\oI.cls= .type "function":=by
  have z:=hf;unfold typeIn at z;dsimp only at z;cases w:X.K.lookup f with
  |none=>rw[w] at z; cases z
  |some o=>
   rw[w] at z;exact⟨o,I.gx _ _ w,aE z⟩
 obtain⟨oI,Ol,RC⟩:=Ol;have e0:=I2.HE.make C [] [];obtain⟨hp,g,d,tk,os⟩:=s;refine call_exc Nf c.e c.na c.nn c.at_ (kW I.gx hi) Ol RC ?_;refine dN (EA (X:=X) F (hr.make C [] []) e0 hb I2 (us:=[.ref (hp.objs.size + 1)]) (vs:=[.ref (hp.objs.size + 1)]) (Q:=fun v H'=>v= .dW/\ ∃dx t',H dx=none/\dx≠hp.objs.size + 1/\H'=upd (upd (upd H (hp.objs.size + 1) (xo (hp.objs.size + 1) C none (v0 hp.objs.size))) dx (.xd [("text",.str txt)])) (hp.objs.size + 1) (xo (hp.objs.size + 1) C (some dx) (v0 t'))) (.cons rfl .nil) ?_) fun u s2 h2=>?_
 ·refine⟨_,C,R,_,rfl,ag,M.ek,fun dx t' Ct=>⟨rfl,dx,t',?_⟩⟩;have ne:dx≠hp.objs.size + 1:=fun z=>by
   rw[z,ag] at Ct;cases Ct
  rw[az ne] at Ct;exact⟨Ct,ne,rfl⟩
 ·obtain⟨v,H',I3,rv,rfl,dx,t',Ct,ne,rfl⟩:=h2;refine⟨rv,?_⟩;have I4:=Inv.drop I hz I3 ag;have eH:gone (upd (upd (upd H (hp.objs.size + 1) (xo (hp.objs.size + 1) C none (v0 hp.objs.size))) dx (.xd [("text",.str txt)])) (hp.objs.size + 1) (xo (hp.objs.size + 1) C (some dx) (v0 t'))) (hp.objs.size + 1)=upd H dx (.xd [("text",.str txt)]):=by
   funext b
   by_cases h1:b=hp.objs.size + 1
   ·rw[h1,xJ,az ne.symm,hz]
   ·rw[ir h1,az h1];by_cases h2:b=dx
    ·rw[h2,ag,ag]
    ·rw[az h2,az h2,az h1]
  rw[eH] at I4;exact q s2 _ dx t' (cD _) Ct hz ne I4 (I3.Dd ag)
def jH (T:P5 X E)(M:IA X.prog X.w X.K X.mg X.base k x C R txt)(hr:g6 (k + 1) X.A)(hg:Gl X x)(hc:X.calm=true)(qd:(x == ("__debug__":Str))=false:=by decide):
  PS X (.Raise (some (.Call (.Name x p) [] [] gq)) none pos) (Oj E C txt):=by
 intro pins s σ H D I h;rw[arm_exec_Raise];obtain⟨nm,qn,N,bs,bm,sn,sub,ab,col,dd,k0,k1,k2,k3,k5,c⟩:=M.ek.on;refine aA (hV (C9 (C:=C) (nm:=nm) (q:=qn) (N:=N) (bs:=bs) (bm:=bm) (nY:=true) (sn:=sn) (sub:=sub) (ab:=ab) (col:=col) (dd:=dd) (k0:=k0) (k1:=k1) (k2:=k2) (k3:=k3) (k5:=k5) (newId:="Exception.__new__") (c _ I.gx).b (I.ok.hd hc) (aA (IB M hr hg qd I fun s2 e dx t' he Ct hz ne I2 x2=>aA (hV (bA ?_))))));exact⟨e,some dx,v0 t',rfl,(c _ I2.gx).at_,x2,rfl,T.lY I2 x2 rfl (.inl rfl) (aV I.sz he) (by rw[az ne.symm]; exact hz) (h dx Ct)⟩
end
abbrev Cx.wa (X:Cx)(xe:Value->Shared->Prop)(pn:List (Addr×Obj)):Cx:={X with xe:=xe,pn:=pn}
abbrev Cx.Kd (X:Cx)(e:Value)(pn:List (Addr×Obj))(xe:Value->Shared->Prop):Cx:={X with A:=X.A.mark (some e),calm:=false,pn:=pn,xe:=xe}
section
variable {X:Cx}{pins AA l:List (Addr×Obj)}{σ:St}{H:Hp}{s:Shared}{xe:Value->Shared->Prop}{E:XK}
def Inv.wa (I:Inv X pins σ H s)(xe:Value->Shared->Prop):Inv (X.wa xe (X.pn ++ pins)) [] σ H s:=
 have ok:=I.ok
 ⟨⟨ok.mod,ok.kind,ok.glob,ok.blt,ok.above,ok.inj,ok.has,ok.JX,ok.hd,ok.frames,ok.G7,ok.Ku,ok.bs,ok.Ay,ok.vR,ok.vS,ok.lz,ok.D0⟩,I.os,I.bare,I.base,I.loc,I.cell,I.free,I.iC,fun p hp=>I.pin p (by simpa using hp),I.cm,I.len⟩
def Inv.jI (I:Inv (X.wa xe (X.pn ++ pins)) AA σ H s):Inv X pins σ H s:=
 have ok:=I.ok
 ⟨⟨ok.mod,ok.kind,ok.glob,ok.blt,ok.above,ok.inj,ok.has,ok.JX,ok.hd,ok.frames,ok.G7,ok.Ku,ok.bs,ok.Ay,ok.vR,ok.vS,ok.lz,ok.D0⟩,I.os,I.bare,I.base,I.loc,I.cell,I.free,I.iC,fun p hp=>I.pin p (cO _ hp),I.cm,I.len⟩
def Inv.Kd (I:Inv X pins σ H s)(e:Value)(xe:Value->Shared->Prop)(h: ∀p∈l,s.heap.get? p.1=some p.2/\H p.1=none/\p.1≠X.env.locals/\p.1∉X.fs/\ ∀v,p.2.data≠ .cell v):Inv (X.Kd e (X.pn ++ pins ++ l) xe) [] σ H s:=
 have ok:=I.ok
 ⟨⟨ok.mod,ok.kind,ok.glob,ok.blt,ok.above,ok.inj,ok.has,ok.JX,(fun z=>by cases z),ok.frames,ok.G7,ok.Ku,ok.bs,ok.Ay,ok.vR,ok.vS,ok.lz,ok.D0⟩,I.os,I.bare,I.base,I.loc,I.cell,I.free,I.iC,
  fun p hp=>by
   rw[bZ] at hp;exact(bb.mp hp).elim (fun z=>I.pin p z) (h p),I.cm,I.len⟩
def Inv.RJ (I0:Inv X pins σ H s){e:Value}{σ':St}{H':Hp}{s':Shared}(I:Inv (X.Kd e (X.pn ++ pins ++ l) xe) AA σ' H' s'):Inv X pins σ' H' s':=
 have ok:=I.ok
 ⟨⟨ok.mod,ok.kind,ok.glob,ok.blt,ok.above,ok.inj,ok.has,ok.JX,I0.ok.hd,ok.frames,ok.G7,ok.Ku,ok.bs,ok.Ay,ok.vR,ok.vS,ok.lz,ok.D0⟩,I.os,I.bare,I.base,I.loc,I.cell,I.free,I.iC,
  fun p hp=>I.pin p (cO _ (cO _ hp)),I.cm,I.len⟩
def SP.jI {D:Ends}{f:Flow}{s':Shared}(h:SP (X.wa xe (X.pn ++ pins)) [] D f s'):SP X pins D f s':=by
 cases f with
 |next=>obtain⟨σ',H',I,q⟩:=h; exact⟨σ',H',I.jI,q⟩
 |brk=>obtain⟨σ',H',I,q⟩:=h; exact⟨σ',H',I.jI,q⟩
 |cont=>obtain⟨σ',H',I,q⟩:=h; exact⟨σ',H',I.jI,q⟩
 |ret u=>obtain⟨v,σ',H',I,r,q⟩:=h; exact⟨v,σ',H',I.jI,r,q⟩
def Inv.renamed {h5:Heap}{m5:Str->Option Value}{t':Nat}(I:Inv X pins σ H s)(n5:h5.Ns X.env.locals m5)(sb:Heap.SameBut X.env.locals s.heap h5):Inv X pins (List.replicate X.N.length none) H {s with heap:=h5,toks:=t'}:=by
 have low: ∀c o,X.s₀.heap.get? c=some o->c≠X.env.locals:=fun c o z=>aU (ba (aH z) I.ok.above);refine⟨I.ok,I.os,I.bare,⟨fun c o z n hc hx=>(sb.2 c (low c o z)).trans (I.base.keep c o z n hc hx),fun c o z n hc hx=>?_,I.base.free,fun c o z hx=>?_,I.base.pY,I.base.oR,I.base.oS⟩,⟨m5,n5,fun i x v h1 h2 _=>?_⟩,fun x c z=>?_,I.free,I.iC,fun p hp=>?_,fun c u z=>?_,?_⟩
 ·obtain⟨sl,e⟩:=I.base.slot c o z n hc hx;exact⟨sl,(sb.2 c (low c o z)).trans e⟩
 ·obtain⟨o',e⟩:=I.base.there c o z hx;exact⟨o',(sb.2 c (low c o z)).trans e⟩
 ·rw[List.getElem?_replicate] at h2;split at h2 <;> cases h2
 ·obtain⟨v,w⟩:=I.cell x c z;exact⟨v,w.sameBut sb (I.Ms x c z)⟩
 ·obtain⟨w1,w2,w3,w4⟩:=I.pin p hp;exact⟨(sb.2 _ w3).trans w1,w2,w3,w4⟩
 ·refine(I.cm c u z).sT (fun d o hd w=>(sb.2 d (fun q=>?_)).trans w) (fun _ q=>q) fun _ _ q=>q;rcases hd with hd|hd
  ·rw[← hd,q,I.free] at z;cases z
  ·rw[q,I.free] at hd;cases hd
 ·rw[iA]
def land (qZ:X.stack=X.env :: X.outer)(Cs:X.env.frame=some X.env.locals){e:Value}{s':Shared}(I:Inv X pins σ H s)(c:ma X.prog X.w X.mg X.stack H s E e s'){hs:List ExceptHandler}{Q:Flow->Shared->Prop}
  (q: ∀(a C dx T:Addr) (vs:Array Value) (H':Hp) (s3:Shared),e= .ref a->Inv X pins σ H' s3->iK s3.heap a (.ref C) (some dx) vs->vs[1]? =some (.ref T)->Kb s3.heap T .none->T≠a->s.heap.objs.size<=a->s.heap.objs.size<=T->H' a=none->H' T=none->
   (vs[2]? =some .none∨X.mg "Needed"=some (.ref C))->E (.ref C) (some dx) H'->wpAny (model X.prog X.w) X.A (handleBy e X.env hs) Q xe s3):
  wpAny (model X.prog X.w) X.A (noteFrame e X.env) (fun _ s2=>wpAny (model X.prog X.w) X.A (setFlight e none) (fun _ s3=>wpAny (model X.prog X.w) X.A (handleBy e X.env hs) Q xe s3) xe s2) xe s':=by
 obtain⟨a,C,dx,H2,rfl,ho,hg,u,cm,⟨vs,T,x,h1,ft,ne,na,nT,Ha,HT,h2⟩,z⟩:=c;have I2:=I.D3 (ch:=[]) ho u cm hg (fun b z=>absurd z (by simp));have st:=I2.stack;rw[qZ] at st;have P6:a < s'.heap.objs.size:=by
  obtain⟨o,z,_⟩:=x;exact aH z
 have Wa:s.heap.objs.size<=s'.heap.objs.size:=aV na (c8 P6);refine MG (base:=X.base) (outer:=X.outer) (by rw[I.ok.frames,qZ]) st Cs x h1 ft ne fun h3 T' b x3 hT t3=>?_;have P7:T'≠a:=by
  rw[hT];exact(aU P6).symm
 have YK:H2 T'=none:=I2.cm.fresh (iz hT.symm);have nT':=I2.jG (iz hT.symm);have b':mH (CF X.stack) [T,a] s'.heap h3:=by
  rw[qZ];exact b
 have I3:=I2.but b' (fun c hc=>by
  rcases av.mp hc with rfl|hc
  ·exact⟨HT,I.jG nT⟩
  ·rw[ak.mp hc];exact⟨Ha,I.jG na⟩)
 refine uK (s:={s' with heap:=h3}) x3 (pq (eR h1)) t3 fun h4 b4 t4 _=>?_;have I4:=I3.but (h':=h4) (own:=[T']) (b4.mono (fun _ z=>absurd z (by simp)) (fun _ z=>z)) (fun c hc=>by
  rw[ak.mp hc];exact⟨YK,nT'⟩)
 refine q a C dx T' _ H2 _ rfl I4 (x3.but b4 (by simpa using P7.symm)) (pq (eR h1)) t4 P7 na (by rw[hT]; exact Wa) Ha YK ?_ z;rw[qu (by decide)];exact h2
end
section
variable {X:Cx}{R:Addr}{n x:Str}{i k:Nat}{p1 p2 p3 p4 p5 pos gq:Pos}{body:List Stmt}{t:XK->TS}{E:XK}{CN:Addr}{txt:Str}
def RK (K:Frag)(R:Addr)(D:Ends):XK:=fun c d H'=> ∃(C dx:Addr) (txt:Str),c= .ref C/\d=some dx/\gI K C R/\H' dx=some (.xd [("text",.str txt)])/\D.rt (.str txt) H'
def Lk (K:Frag)(R:Addr)(t:XK->TS):TS:=fun D σ H=>t (RK K R D) D σ H
def F9 (qZ:X.stack=X.env :: X.outer)(Cs:X.env.frame=some X.env.locals)(hc:X.calm=true)(hN:X.N.Nodup)(hi:X.N[i]? =some n)(hl:X.env.scope.names.lookup n=some .local)(hg:Gl X x)(hm:X.mg x=some (.ref R))(kR:gI X.K R R)
  (hb: ∀(xe:Value->Shared->Prop) (pn:List (Addr×Obj)) (E:XK),Passes (ma X.prog X.w X.mg) (X.wa xe pn) E->oq (X.wa xe pn) body (t E)) (hd:(n == ("__debug__":Str))=false:=by decide) (qY:(n == ("__classdict__":Str))=false:=by decide) (hx:(x == ("__debug__":Str))=false:=by decide):
  PS X (.Try body [.ExceptHandler (some (.Name x p1)) (some n) [.Return (some (.Attribute (.Name n p2) "text" p3)) p4] p5] [] [] pos) (Lk X.K R t):=by
 intro pins s σ H D I h;refine wpAny_Try_except (b9 (hb (fun e s1=>wpAny (model X.prog X.w) X.A (noteFrame e X.env) (fun _ s2=>wpAny (model X.prog X.w) X.A (setFlight e none) (fun _ s3=>
  wpAny (model X.prog X.w) X.A (handleBy e X.env [.ExceptHandler (some (.Name x p1)) (some n) [.Return (some (.Attribute (.Name n p2) "text" p3)) p4] p5]) (SP X pins D) X.xe s3) X.xe s2) X.xe s1) (X.pn ++ pins) (RK X.K R D) ?_ [] s σ H D (I.wa _) h) (fun f s1 q=>?_) fun _ _ z=>z)
 ·rintro RL σ1 H1 s1 e s2 I1 cx;refine land qZ Cs I1.jI cx fun a C dx T vs H2 s3 he I3 x3 h1 ft ne na nT Ha HT h2 z=>?_;subst he;obtain⟨C',dx',txt,e1,e2,ek,ed,q⟩:=z;cases e1;cases e2;obtain⟨oe,Wb,PQ,Om,RM⟩:=id x3;have cC:=ek.on;have cR:=kR.on;obtain⟨_,_,_,_,_,_,_,_,_,_,_,_,_,_,_,cC⟩:=cC;obtain⟨_,_,_,_,_,_,_,_,_,_,_,_,_,_,_,cR⟩:=cR;have nw:=I1.jI.jG na;have Im:=I3.Kd (l:=[(a,oe)]) (.ref a) (fun _ _=>False) (fun p hp=>by
   rw[ak.mp hp];exact⟨Wb,Ha,nw.2.1,I1.jI.Fn na,fun v z=>by rw[RM] at z; cases z⟩)
  refine wpAny_handleBy_cons (codeAny_handlers_test (ji Im hg hm ?_ hx)) (by intro q; cases q);obtain⟨hp,g,d,tk,os⟩:=s3;refine xI (cC _ I3.gx).at_ (cR _ I3.gx).at_ x3 (cR _ I3.gx).b (cC _ I3.gx).up ?_;refine codeAny_handlers_suite_as ?_;refine uK x3 h1 ft fun h4 b4 t4 _=>?_;have Ll:=I1.jI.jG nT;have I4:=Im.but (h':=h4) (own:=[T]) (b4.mono (fun _ z=>absurd z (by simp)) (fun _ z=>z)) (fun c hc=>by
   rw[ak.mp hc];refine⟨HT,Ll.1,Ll.2.1,Ll.2.2.1,fun p hp=>?_⟩;rw[bZ] at hp;rcases bb.mp hp with hp|hp
   ·exact Ll.2.2.2 p hp
   ·rw[ak.mp hp];exact ne.symm)
  refine tX (X:=X.Kd (.ref a) (X.pn ++ pins ++ [(a,oe)]) (fun _ _=>False)) (v:= .ref a) I4 hN hi (.inl hl) rfl (fun s5 I5=>?_) (.inr hl);have pe:PE (X.Kd (.ref a) (X.pn ++ pins ++ [(a,oe)]) (fun _ _=>False)) (.Attribute (.Name n p2) "text" p3) (fun σ H Q=>σ[i]? =some (some (.ref a))/\H dx=some (.xd [("text",.str txt)])/\Q (.str txt) H):=by
   rintro MH s6 σ6 H6 Q6 J ⟨e1,e2,q6⟩;refine Ea rfl (dN (CG (X:=X.Kd (.ref a) (X.pn ++ pins ++ [(a,oe)]) (fun _ _=>False)) hi (.inl hl) hd qY MH s6 σ6 H6 (fun v H'=>v= .ref a/\H'=H6) J ⟨_,e1,rfl,rfl⟩) ?_);rintro u s7 ⟨v,H7,J7,rv,rfl,rfl⟩;obtain rfl:u=Value.ref a:=rv;obtain⟨w1,_⟩:=J7.pin (a,oe) (cO _ (bp _ (ak.mpr rfl)));obtain⟨mA,n1,rl⟩:=J7.cm dx _ e2;have rt:=rl "text";have lk:List.lookup ("text":Str) [("text",V.str txt)]=some (V.str txt):=by simp[List.lookup]
   rw[lk] at rt;cases Wc:mA "text" with
   |none=>rw[Wc] at rt; exact False.elim rt
   |some u7=>
    rw[Wc] at rt;obtain⟨tk7,rfl⟩: ∃tk,u7=Value.str txt tk:=rt;obtain⟨hp7,g7,d7,t7,os7⟩:=s7;refine Lh PySem.F.attr_Exception.ga (cC _ J7.gx).b (cC _ J7.gx).at_ (kW J7.gx ek.ga) (kW J7.gx ek.gk) (kW J7.gx ek.tx) ⟨oe,w1,PQ,Om,RM⟩ n1.ns Wc rfl ?_;exact⟨.str txt,H7,J7.tok _,⟨_,rfl⟩,q6⟩
  have hlen:i < σ1.length:=by
   rw[I1.len];exact(ao.mp hi).1
  refine wpAny_mono (au (a6 pe) [] s5 _ H2 {nx:=fun _ _=>False,rt:=fun v H'=>v= .str txt/\H'=H2} I5 ⟨by simp[hlen],ed,rfl,rfl⟩) (fun f s6 q6=>?_) fun _ _ z=>z.elim;cases f with
  |next=>obtain⟨_,_,_,z⟩:=q6; exact z.elim
  |brk=>obtain⟨_,_,_,z⟩:=q6; exact z.elim
  |cont=>obtain⟨_,_,_,z⟩:=q6; exact z.elim
  |ret u=>
   obtain⟨v,σ6,H6,I6,rv,rfl,rfl⟩:=q6;have I7:Inv X pins σ6 H6 s6:=Inv.RJ I3 I6;obtain⟨m6,n6,_⟩:=id I7.loc;have kd:(X.env.scope.kind == .class || (X.env.scope.kind == .module && X.env.locals != X.env.globals))=false:=by
    rw[I.ok.kind];rfl
   refine wpAny_nameGoes hl n6 kd fun h7 m7 n7 sb=>?_;exact⟨.str txt,_,H6,I7.renamed n7 sb,rv,q⟩
 ·have q':=SP.jI q;cases f with
  |next=>exact i9 q'
  |brk=>exact q'
  |cont=>exact q'
  |ret u=>exact q'
def IC (CT CN:Addr)(txt:Str)(E:XK):XK:=fun c d H'=>c= .ref CT/\ ∀dx,H' dx=none->E (.ref CN) (some dx) (upd H' dx (.xd [("text",.str txt)]))
def Ga (CT CN:Addr)(txt:Str)(E:XK)(t:XK->TS):TS:=fun D σ H=>t (IC CT CN txt E) D σ H
def A7 {CT:Addr}{kk:_}(T:P5 X E)(hc:X.calm=true)(hg:Gl X x)(hm:X.mg x=some (.ref CT))(kT:gI X.K CT R)(iU:X.mg "Needed"≠some (.ref CT))(M:IA X.prog X.w X.K X.mg X.base k "Needed" CN R txt)(hr:g6 (k + 1) X.A)(hgN:Gl X "Needed")
  (hb: ∀(xe:Value->Shared->Prop) (pn:List (Addr×Obj)) (E:XK),Passes (ma X.prog X.w X.mg) (X.wa xe pn) E->oq (X.wa xe pn) body (t E)) (hx:(x == ("__debug__":Str))=false:=by decide):
  PS X (.Try body [.ExceptHandler (some (.Name x p1)) none [.Raise (some (.Call (.Name "Needed" p2) [] [] gq)) (some (.Constant .none kk p3)) p4] p5] [] [] pos) (Ga CT CN txt E t):=by
 intro pins s σ H D I h;refine wpAny_Try_except (b9 (hb (fun e s1=>wpAny (model X.prog X.w) X.A (noteFrame e X.env) (fun _ s2=>wpAny (model X.prog X.w) X.A (setFlight e none) (fun _ s3=>
  wpAny (model X.prog X.w) X.A (handleBy e X.env [.ExceptHandler (some (.Name x p1)) none [.Raise (some (.Call (.Name "Needed" p2) [] [] gq)) (some (.Constant .none kk p3)) p4] p5]) (SP X pins D) X.xe s3) X.xe s2) X.xe s1) (X.pn ++ pins) (IC CT CN txt E) ?_ [] s σ H D (I.wa _) h) (fun f s1 q=>?_) fun _ _ z=>z)
 ·rintro RL σ1 H1 s1 e s2 I1 cx;refine land T.G7 T.YH I1.jI cx fun a C dx T0 vs H2 s3 he I3 x3 h1 ft ne na nT Ha HT h2 z=>?_;subst he;obtain⟨e1,q⟩:=z;cases e1;have v2:vs[2]? =some .none:=h2.elim id (fun z=>absurd z iU);obtain⟨oe,Wb,PQ,Om,RM⟩:=id x3;obtain⟨_,_,_,_,_,_,_,_,_,_,_,_,_,_,_,cT⟩:=kT.on;obtain⟨nm,qn,N,bs,bm,sn,sub,ab,col,dd,k0,k1,k2,k3,k5,cN⟩:=M.ek.on;have nw:=I1.jI.jG na;have Wd: ∀p∈[(a,oe)],s3.heap.get? p.1=some p.2/\H2 p.1=none/\p.1≠X.env.locals/\p.1∉X.fs/\ ∀v,p.2.data≠ .cell v:=fun p hp=>by
   rw[ak.mp hp];exact⟨Wb,Ha,nw.2.1,I1.jI.Fn na,fun v z=>by rw[RM] at z; cases z⟩
  have Im:=I3.Kd (l:=[(a,oe)]) (.ref a) X.xe Wd;refine wpAny_handleBy_cons (codeAny_handlers_test (ji Im hg hm ?_ hx)) (by intro q; cases q);obtain⟨hp,g,d,tk,os⟩:=s3;refine xI (b:=true) (cT _ I3.gx).at_ (cT _ I3.gx).at_ x3 (cT _ I3.gx).b (by simp) ?_;refine codeAny_handlers_suite ?_;refine uK x3 h1 ft fun h4 b4 t4 _=>?_;have Ll:=I1.jI.jG nT;have I4:=Im.but (h':=h4) (own:=[T0]) (b4.mono (fun _ z=>absurd z (by simp)) (fun _ z=>z)) (fun c hc=>by
   rw[ak.mp hc];refine⟨HT,Ll.1,Ll.2.1,Ll.2.2.1,fun p hp=>?_⟩;rw[bZ] at hp;rcases bb.mp hp with hp|hp
   ·exact Ll.2.2.2 p hp
   ·rw[ak.mp hp];exact ne.symm)
  refine wpAny_passesOwnAt (T.ownAt (some (.ref a))) ?_;have ps:PS (X.Kd (.ref a) (X.pn ++ pins ++ [(a,oe)]) X.xe) (.Raise (some (.Call (.Name "Needed" p2) [] [] gq)) (some (.Constant .none kk p3)) p4) (fun _ _ H=> ∀dx,H dx=none->E (.ref CN) (some dx) (upd H dx (.xd [("text",.str txt)]))):=by
   intro MH s6 σ6 H6 D6 J h6;rw[arm_exec_Raise];refine aA (hV (Dc (C:=CN) (e0:=a) (nm:=nm) (q:=qn) (N:=N) (bs:=bs) (bm:=bm) (nY:=true) (sn:=sn) (sub:=sub) (ab:=ab) (col:=col) (dd:=dd) (k0:=k0) (k1:=k1) (k2:=k2) (k3:=k3) (k5:=k5) (newId:="Exception.__new__") (cN _ J.gx).b rfl (fun Rr s7 z=>aA (Constant_none (aA (hV (bA z))))) (aA (IB (X:=X.Kd (.ref a) (X.pn ++ pins ++ [(a,oe)]) X.xe) M (hr.mark _) hgN (by decide) J fun s7 e We t' he Ct hz ne7 I7 x7=>aA (hV (bA ?_))))));obtain⟨w1,_⟩:=I7.pin (a,oe) (cO _ (bp _ (ak.mpr rfl)));have w0:=(J.pin (a,oe) (cO _ (bp _ (ak.mpr rfl)))).1;have nea:e≠a:=fun q=>by
    rw[q] at he;exact absurd (aH w0) (xh.mpr he)
   refine⟨e,some We,v0 t',.ref CT,some dx,vs,rfl,nea,(cN _ I7.gx).at_,x7,rfl,rfl,⟨oe,w1,PQ,Om,RM⟩,v2,fun h8 b8 x8=>?_⟩;have Hz:upd H6 We (.xd [("text",.str txt)]) e=none:=by
    rw[az ne7.symm];exact hz
   have I8:=I7.but (h':=h8) (own:=[e]) (b8.mono (fun _ z=>absurd z (by simp)) (fun _ z=>z)) (fun c hc=>by
    rw[ak.mp hc];exact⟨Hz,J.jG he⟩)
   exact T.lY (Inv.RJ I3 I8) x8 rfl (.inr M.YJ) (aV J.sz he) Hz (h6 We Ct)
  refine b9 (au ps [] _ _ H2 {nx:=fun _ _=>False,rt:=fun _ _=>False} I4 q) (fun f s9 z=>?_) fun _ _ z=>z;cases f with
  |next=>obtain⟨_,_,_,z⟩:=z; exact z.elim
  |brk=>obtain⟨_,_,_,z⟩:=z; exact z.elim
  |cont=>obtain⟨_,_,_,z⟩:=z; exact z.elim
  |ret u=>obtain⟨_,_,_,_,_,z⟩:=z; exact z.elim
 ·have q':=SP.jI q;cases f with
  |next=>exact i9 q'
  |brk=>exact q'
  |cont=>exact q'
  |ret u=>exact q'
end
open PySem.W
def BMain (mg:Str->Option Value)(h:Heap):Prop:= ∃bm o,mg "__builtins__"=some (.ref bm)/\bm≠builtinsNs/\bm≠mainGlobals/\h.get? bm=some o/\o.cls= .type "module"/\o.dict=some builtinsNs/\o.data= .plain
abbrev xK (c:Addr)(qual:Str):HO:= .ext fun h=>h.CodeRec (.ref c) qual
def ID {P:Program}{w:World}{H:Hp}{h:Heap}{c:Addr}{qual:Str}(x:h.CodeRec (.ref c) qual):di P w H h c (xK c qual):=by
 refine⟨x,?_,fun h1 h2 z k=>?_⟩
 ·obtain⟨c',o,vs,t,e,g,_⟩:=x;cases e;exact⟨o,g⟩
 ·obtain⟨c',o,vs,t,e,g,r⟩:=z;cases e;exact⟨c,o,vs,t,rfl,k o g,r⟩
def Tb (H:Hp)(P:Addr)(pos:Pos)(qual:Str):Prop:= ∃ps:Array Value,H P=some (.mh ps)/\TriplesOk ps.toList/\(codeAmong pos ps.toList=none∨ ∃c',codeAmong pos ps.toList=some (.ref c')/\H c'=some (xK c' qual))
section
variable {X:Cx}{pins:List (Addr×Obj)}{σ:St}{H:Hp}{s:Shared}{c P:Addr}{params:Arguments}{body:Expr}{scope:Scope}{pos:Pos}{Q:Value->Shared->Prop}{xe:Value->Shared->Prop}
def BMain.at {mg:Str->Option Value}{h h':Heap}(B:BMain mg h)(k: ∀b o,h.get? b=some o->h'.get? b=some o){ps:Array Value}(hP:h'.get? P=some (tabObj ps)):h'.BuiltinsAt mg P:=by
 obtain⟨bm,o,b1,b2,b3,b4,b5,b6,b7⟩:=B;refine⟨bm,o,b1,b2,b3,fun z=>?_,k _ _ b4,b5,b6,b7⟩;have e:=k _ _ b4;rw[z,hP] at e;cases e;cases b5
def IE (I:Inv X pins σ H s)(B:BMain X.mg X.base)(ED:X.env.code= .ref c)(C:CodeHd X.base c P)(tb:Tb H P pos (X.env.qual ++ "<lambda>"))(Oo:defaultsOf params X.env=([],[]))(qw:closureFor scope X.env=pure [])
  (q: ∀(f c':Addr) (EE:Value) (H':Hp) (s':Shared),Inv X pins σ H' s'->Frame [P] H H'->Tb H' P pos (X.env.qual ++ "<lambda>")->H' f=none->s'.heap.get? f=some (kla_obj "<lambda>" (X.env.qual ++ "<lambda>") params body scope [] ((X.mg "__name__").getD .none) c' EE)->
   H' c'=some (xK c' (X.env.qual ++ "<lambda>"))->s.heap.objs.size<=f->Q (.ref f) s'):wpAny (model X.prog X.w) X.A (eval (.Lambda params body scope pos) X.env) Q xe s:=by
 obtain⟨ps,hP,ht,hc⟩:=tb;have Ub:s.heap.get? P=some (tabObj ps):=I.cm P _ hP;have hg:s.heap.Ns mainGlobals X.mg:=I.mod.glob.keeps I.bk;have hgP:mainGlobals≠P:=fun z=>by
  obtain⟨o,es,ep,e,hd,_⟩:=hg;rw[z,Ub] at e;cases e;cases hd
 have hB:=B.at I.bk Ub;refine kla_eval Oo ?_;rcases hc with hn|⟨c',hf,Uc⟩
 ·refine kla_makeFunction qw I.ok.glob hg ED (C.keeps I.bk) Ub ht hn hgP hB fun c' EE h' tk hx N1 iI Wf P8=>?_;have Wg:H c'=none:=I.cm.fresh N1;have cP:c'≠P:=fun z=>by rw[z,hP] at Wg; cases Wg
  have lt: ∀b o,s.heap.get? b=some o->b≠c':=fun b o z=>aU (ba (aH z) N1);have same: ∀b,b≠P->b≠c'->upd (upd H P (.mh (ps ++ #[rawInt pos.line,rawInt pos.col,.ref c']))) c' (xK c' (X.env.qual ++ "<lambda>")) b=H b:=fun b n1 n2=>by rw[az n2,az n1]
  have Lm: ∀b u,H b=some u->u≠ .mh ps->b≠P:=fun b u z n w=>by
   rw[w,hP] at z;cases z;exact n rfl
  have Gb: ∀b u,H b=some u->b≠c':=fun b u z=>aI z Wg;generalize Ua:kla_obj "<lambda>" (X.env.qual ++ "<lambda>") params body scope [] ((X.mg "__name__").getD .none) c' EE=ob;have hf:(h'.push ob).get? h'.objs.size=some ob:=by
   rw[← Ua];exact bH _ rfl
  have kp: ∀b o,b≠P->s.heap.get? b=some o->(h'.push ob).get? b=some o:=fun b o n z=>ax _ (hx b o n z);have RN:(h'.push ob).get? P=some (tabObj (ps ++ #[rawInt pos.line,rawInt pos.col,.ref c'])):=ax _ P8;have I2:Inv X pins σ (upd (upd H P (.mh (ps ++ #[rawInt pos.line,rawInt pos.col,.ref c']))) c' (xK c' (X.env.qual ++ "<lambda>"))) {s with heap:=h'.push ob,toks:=tk}:=by
   refine I.un ⟨fun b o z n _ _=>kp b o (fun w=>by rw[w,hP] at n; cases n) z,fun b o z n _ _=>⟨o.slots,kp b o (fun w=>by rw[w,hP] at n; cases n) z⟩,fun b o z n _=>?_,fun b o z _=>?_,fun b xs z=>?_,fun b o u z=>?_,fun b qs z=>?_⟩ fun b u z=>?_
   ·rw[same b (fun w=>by rw[w,hP] at n; cases n) (lt b o z)];exact n
   ·by_cases w:b=P
    ·rw[w];exact⟨_,RN⟩
    ·exact⟨o,kp b o w z⟩
   ·rw[same b (Lm b _ z (by intro w; cases w)) (Gb b _ z)];exact z
   ·rw[same b (Lm b _ z (by intro w; cases w)) (Gb b _ z)];exact z
   ·by_cases w:b=P
    ·rw[w] at z ⊢;rw[hP] at z;cases z;exact⟨_,by rw[az cP.symm,ag]⟩
    ·exact⟨#[],by rw[same b w (Gb b _ z),z]; simp⟩
   ·by_cases w:b=c'
    ·subst w;rw[ag] at z;cases z;exact ID (Wf.push ob)
    ·rw[az w] at z;by_cases w2:b=P
     ·subst w2;rw[ag] at z;cases z;exact RN
     ·rw[az w2] at z;refine(I.cm b u z).sT (fun d o hd y=>kp d o (fun w3=>?_) y) (fun d y=>?_) fun d xs y=>?_
      ·rcases hd with hd|hd
       ·exact w2 (hd▸w3)
       ·rw[w3,hP] at hd;cases hd
      ·rw[same d (Lm d _ y (by intro w; cases w)) (Gb d _ y)];exact y
      ·rw[same d (Lm d _ y (by intro w; cases w)) (Gb d _ y)];exact y
  have Kw:H h'.objs.size=none:=I.cm.fresh (aV N1 (c8 iI));refine q h'.objs.size c' EE _ _ I2 (fun b o nb z=>?_) ⟨ps ++ #[rawInt pos.line,rawInt pos.col,.ref c'],by rw[az cP.symm,ag],?_,.inr ⟨c',?_,ag⟩⟩ ?_ (by rw[Ua]; exact hf) ag (aV N1 (c8 iI))
  ·rw[same b (fun w=>nb (by rw[w]; exact ak.mpr rfl)) (Gb b _ z)];exact z
  ·rw[Array.toList_append];exact TriplesOk_snoc _ _ _ _ ht
  ·rw[Array.toList_append];exact codeAmong_snoc _ ht hn
  ·rw[same _ (fun w=>by rw[w,hP] at Kw; cases Kw) (pM iI)];exact Kw
 ·refine kla_makeFunctionHit qw I.ok.glob hg ED (C.keeps I.bk) Ub ht hf hB fun EE h' tk hk hsz=>?_;have I2:=(I.kept (t':=tk) (h':=h'.push (kla_obj "<lambda>" (X.env.qual ++ "<lambda>") params body scope [] ((X.mg "__name__").getD .none) c' EE)) fun b u z=>ax _ (hk b u z));exact q h'.objs.size c' EE H _ I2 Frame.refl ⟨ps,hP,ht,.inr ⟨c',hf,Uc⟩⟩ (I.cm.fresh hsz) (bH _ rfl) Uc hsz
def IF {A:Around}{name qual:Str}{pm EE:Value}{f c':Addr}{N ps:List Str}{us:List Value}{vs:List V}{t:TE}{R:VK}(I:Inv X pins σ H s)(e0:qc X.prog X.w X.K X.mg X.base A X.stack s H)(Ud:A.depth < recursionLimit)
  (ho:s.heap.get? f=some (kla_obj name qual params body scope [] pm c' EE)) (qY:s.heap.CodeRec (.ref c') qual) (S:aO N ps scope) (hb:bindArgs (kla_fn name qual params body scope [] pm (.ref c') EE) ⟨us,[]⟩=pure (ps.zip us)) (hl:vs.length=ps.length) (r:Vals vs us)
  (fL:PE (uM X.prog X.w X.K X.mg X.base N qual scope f (.ref c') A X.stack s H E0).CJ body t) (h:t (start N vs) H R):wpAny (model X.prog X.w) A (call (.ref f) us) (EP X pins σ R) xe s:=by
 have lim:s.heap.NoLimit:=I.nolimit;have mw: ∀y∈ps.zip us,scope.names.lookup y.1=some .local∨(scope.names.lookup y.1=some .cell/\((cellsFrom (s.heap.objs.size + 1) scope.names []).lookup y.1).isSome=true):=fun⟨n,v⟩ hy=>by
  rcases S.par n (nR hy).1 with q|q
  ·exact .inl q
  ·exact .inr ⟨q,kH _ _ _ (.inl q)⟩
 refine DZ (kla_callFunE Ud ho rfl S.co S.gen rfl qY ?_);rw[hb];refine bA ?_;refine sR S.kind mw fun env he s1 y=>?_;subst he;refine⟨lim.keeps y.toInCall.keep,kla_codeExpr ?_⟩;have J:Inv (uM X.prog X.w X.K X.mg X.base N qual scope f (.ref c') A X.stack s H E0) [] (start N vs) H s1:=uN S e0 hl r y;refine b9 (fL [] s1 (start N vs) H R (J.tY _) h) (fun v s' hs=>?_) fun e s' hs=>hs.elim;obtain⟨v',H',J',rv,q'⟩:=hs;exact I.after ⟨v',H',J'.os,J'.bare,J'.base,J'.cm,rv,q'⟩
end
section
variable {X:Cx}{pins:List (Addr×Obj)}{σ:St}{H:Hp}{s:Shared}
def Inv.RO {D:Addr}{o:HO}(I:Inv X pins σ H s)(hn:H D=none)(ok:di X.prog X.w (upd H D o) s.heap D o)(nw:(D∈X.ex∨X.s₀.heap.objs.size<=D)/\D≠X.env.locals/\(∀x k,X.env.cells.lookup x=some k->k≠D)/\ ∀p∈X.pn ++ pins,p.1≠D)
  (hx:X.s₀.heap.objs.size<=D):Inv X pins σ (upd H D o) s:=by
 have off: ∀b u,H b=some u->b≠D:=fun b u z=>aI z hn;have low: ∀b ob,X.s₀.heap.get? b=some ob->b≠D:=fun b ob z=>aU (ba (aH z) hx);refine⟨I.ok,I.os,I.bare,⟨I.base.keep,I.base.slot,fun b ob z n hb=>?_,I.base.there,fun b xs z=>?_,fun b ob u z=>?_,fun b ps z=>?_⟩,I.loc,I.cell,?_,fun x k z=>?_,fun p hp=>?_,fun b u z=>?_,I.len⟩
 ·rw[az (low b ob z)];exact I.base.free b ob z n hb
 ·have w:=I.base.pY b xs z;rw[az (off b _ w)];exact w
 ·have w:=I.base.oR b ob u z;rw[az (off b _ w)];exact w
 ·obtain⟨m,w⟩:=I.base.oS b ps z;exact⟨m,by rw[az (off b _ w)]; exact w⟩
 ·rw[az nw.2.1.symm];exact I.free
 ·rw[az (nw.2.2.1 x k z)];exact I.iC x k z
 ·obtain⟨w1,w2,w3⟩:=I.pin p hp;exact⟨w1,by rw[az (nw.2.2.2 p hp)]; exact w2,w3⟩
 ·by_cases q:b=D
  ·subst q;rw[ag] at z;cases z;exact ok
  ·rw[az q] at z;exact(I.cm b u z).sT (fun _ _ _ w=>w) (fun d w=>by rw[az (off d _ w)]; exact w) fun d xs w=>by rw[az (off d _ w)]; exact w
def Frame.sql {K:Frag}{fp:List Addr}{H H':Hp}{a:Addr}{xs:List V}(f:Frame fp H H')(h:bF K H a xs)(ha: ∀o,H a=some o->a∉fp):bF K H' a xs:=by
 rcases h with(h|⟨o,h⟩)|h
 ·exact .inl (.inl (f _ _ (ha _ h) h))
 ·exact .inl (.inr ⟨o,f _ _ (ha _ h) h⟩)
 ·exact .inr h
def Tb.upd {P:Addr}{pos:Pos}{qual:Str}{p:Addr}{o:HO}(t:Tb H P pos qual)(hp:H p=none):Tb (upd H p o) P pos qual:=by
 obtain⟨ps,h1,h2,h3⟩:=t;refine⟨ps,by rw[az (aI h1 hp)]; exact h1,h2,?_⟩;rcases h3 with h3|⟨c',h3,h4⟩
 ·exact .inl h3
 ·exact .inr ⟨c',h3,by rw[az (aI h4 hp)]; exact h4⟩
def Frame.new {fp:List Addr}{H H':Hp}{p:Addr}{o:HO}(f:Frame fp H H')(hp:H' p=none):Frame fp H (L2.upd H' p o):=fun b u hb z=>by
 have w:=f b u hb z;rw[az (aI w hp)];exact w
end
def MI (K:Frag)(P:Addr)(pos:Pos)(qual:Str)(N:List Str)(tb:TE)(Q:VK)(x:V)(H1:Hp):Prop:= ∃(a:Addr) (xs:List V) (ts:List (List Int)) (key:List Int->Int),x= .ref a/\bF K H1 a xs/\xs.length < 64/\ts.length=xs.length/\Tb H1 P pos qual/\
 (∀t∈ts,t≠[])/\(∀t∈ts,∀u∈ts,HT.lexLt t u=decide (key t < key u))/\
 (∀i,i < xs.length-> ∀H2,Frame [P] H1 H2-> ∀R:VK,(∀p,H2 p=none->R (.ref p) (upd H2 p (.tup ((ts.getD i []).map V.int))))->tb (start N [xs.getD i .dW]) H2 R)/\
 ∀(D:Addr) (p:List Nat) (H2:Hp),p.Perm (List.range xs.length)->p.Pairwise (fun i j=>key (ts.getD i [])<=key (ts.getD j []))->Frame [P] H1 H2->Tb H2 P pos qual->H1 D=none->H2 D=some (.lst (p.map fun i=>xs.getD i .dW))->Q (.ref D) H2
def IG (K:Frag)(P:Addr)(pos:Pos)(qual:Str)(N:List Str)(ta tb:TE):TE:=fun σ H Q=>ta σ H (MI K P pos qual N tb Q)
def gW.snoc {H:Hp}: ∀{ts:List (List Int)} {xs:List V} {t:List Int} {p:Addr},gW H ts xs->H p=some (.tup (t.map V.int))->gW H (ts ++ [t]) (xs ++ [.ref p])
 |_,_,_,p,.nil,h=> .cons ⟨p,rfl,h⟩ .nil
 |_,_,_,p,.cons a r,h=> .cons a (gW.snoc r h)
def take_succ_getD {α:Type}{l:List α}{i:Nat}{d:α}(h:i < l.length):l.take (i + 1)=l.take i ++ [l.getD i d]:=by
 rw[Ak,af h,ai,af h];rfl
section
variable {X:Cx}{c P:Addr}{params:Arguments}{body e:Expr}{scope:Scope}{p pos IH QO:Pos}{ta tb:TE}{N:List Str}{y:Str}
def uO (hg:Gl X "sorted")(hm:X.mg "sorted"=none)(B:BMain X.mg X.base)(ED:X.env.code= .ref c)(C:CodeHd X.base c P)(hr:eL 1 X.A)(S:aO N [y] scope)
  (fL: ∀(f c':Addr) (A:Around) (s:Shared) (H:Hp),PE (uM X.prog X.w X.K X.mg X.base N (X.env.qual ++ "<lambda>") scope f (.ref c') A X.stack s H E0).CJ body tb) (ha:PE X e ta)
  (hb: ∀(pm EE u:Value) (c':Addr),bindArgs (kla_fn "<lambda>" (X.env.qual ++ "<lambda>") params body scope [] pm (.ref c') EE) ⟨[u],[]⟩=pure ([y].zip [u]):=by intros; rfl)
  (Oo:defaultsOf params X.env=([],[]):=by rfl) (qw:closureFor scope X.env=pure []:=by rfl)
  (he:backTo pos (starEach [e] X.env)=(false,eval e X.env) :: backTo pos (starEach [] X.env):=by rfl)
  (hs:starEach [e] X.env=(false,eval e X.env) :: starEach [] X.env:=by rfl) (ug:(backTo pos (starEach [e] X.env)).any (·.1)=false:=by rfl):
  PE X (.Call (.Name "sorted" p) [e] [⟨some "key",.Lambda params body scope IH,QO⟩] pos) (IG X.K P IH (X.env.qual ++ "<lambda>") N ta tb):=by
 intro pins s σ H Q I h;refine ej (oT I hg hm (u:= .builtin "sorted") (by rfl) ?_);refine PyProof.Rows.callWith_kw (dN ((aa ha aw hs) pos pins s σ H (fun vs H1=>match vs with|[x]=>MI X.K P IH (X.env.qual ++ "<lambda>") N tb Q x H1|_=>False) I h) fun us s1 h1=>?_) he ug rfl rfl;obtain⟨vs,H1,I1,rv,q1⟩:=h1;cases vs with
 |nil=>exact q1.elim
 |cons x vs=>
 cases vs with
 |cons _ _=>exact q1.elim
 |nil=>
 obtain⟨a,xs,ts,key,rfl,hS,Cr,iI,YL,iU,Hy,hbd,fin⟩:=q1;obtain⟨u,rfl,ru⟩:=vals1 rv;obtain rfl:u=Value.ref a:=ru;show wpAny _ _ (evalAll [(do let v ← eval (.Lambda params body scope IH) X.env; standAt pos; pure v)]) _ _ s1;refine wpAny_evalAll_cons (aA (IE I1 B ED C YL Oo qw fun f c' EE H2 s2 I2 YM tb2 Kw Ol Uc hle=>aA (hV (bA (wpAny_evalAll_nil ?_)))));show wpAny _ _ (call (.builtin "sorted") [.ref a] [(Str.ofString "key",.ref f)]) _ _ s2;have aP: ∀o,H1 a=some o->a∉[P]:=fun o z w=>by
  obtain⟨ps,hP,_⟩:=YL;have w':=ak.mp w;rcases hS with(hS|⟨_,hS⟩)|⟨ob,_,_,hK,qw,_⟩
  ·rw[w',hP] at hS; cases hS
  ·rw[w',hP] at hS; cases hS
  ·have e1:=I1.gx _ _ hK;have e2:s1.heap.get? P=some _:=I1.cm P _ hP;rw[w',e2] at e1;cases e1;cases qw
 have Oq:=YM.sql hS aP;obtain⟨bX,Wh,pl,hz⟩:=I2.list Oq;have hl:=Wh.length;have lf:f < s2.heap.objs.size:=aH Ol;have Wa:s1.heap.objs.size<=s2.heap.objs.size:=aV hle (c8 lf);refine sortedK pl.isList (by lia) fun D kS e1 h' kp d1 k1 YN P9 Ue=>?_;have I3:=I2.kept (t':=s2.toks) kp;have HD:H2 D=none:=I2.cm.fresh P9;have HK:H2 kS=none:=I2.cm.fresh Ue;have MJ:=I2.jG P9;have Ot:=I2.jG Ue;have nwf:=I1.jG hle;have fD:f≠D:=aU (ba lf P9);have fK:f≠kS:=aU (ba lf Ue);have dp:X.A.in1.in1.depth < recursionLimit:=hr.depth;generalize RP:kla_obj "<lambda>" (X.env.qual ++ "<lambda>") params body scope [] ((X.mg "__name__").getD .none) c' EE=Qa at Ol;have loop: ∀(r:List Value) (i:Nat) (ks:List Value) (a9:List V) (Hi:Hp) (si:Shared),r=bX.drop i->i<=xs.length->Inv X (pins ++ [(f,Qa),(D,seqObj "list" #[] e1)]) σ Hi si->(∃e,si.heap.get? kS=some (seqObj "list" ks.toArray e))->Hi kS=none->
   Frame [P] H1 Hi->Tb Hi P IH (X.env.qual ++ "<lambda>")->Hi c'=some (xK c' (X.env.qual ++ "<lambda>"))->gW Hi (ts.take i) a9->Vals a9 ks->
   sy X.prog X.w X.A.in1.in1 kS (.ref f) (FV X.prog X.w X.A.in1.in1 D kS e1 bX (fun s'=>EP X pins σ Q (.ref D) s')) r ks si:=by
  intro r
  induction r with
  |nil=>
   intro i ks a9 Hi si hr hi Ii hk Ln Ug Wi Uh hT rk;have ei:i=xs.length:=by
    have:=cQ List.length hr;rw[vM,l6] at this;lia
   have Ou:gW Hi ts a9:=by rwa [ei,← iI,a8] at hT
   have lk:a9.length=xs.length:=by have:=Ou.length; lia
   have lk2:=rk.length;obtain⟨w1,w2,_⟩:=Ii.pin (D,seqObj "list" #[] e1) (List.mem_append_right _ (List.mem_append_right _ (by simp)));refine⟨tuples' true,fun i=>key (ts.getD i []),YN,w1,fun h2 Q' q'=>?_,fun a b C ha hb q'=>?_,fun pr h5 n RQ hUp hsz hD5 MK=>?_⟩
   ·obtain⟨fs,f1,f2,f3⟩:=rF Ii (fun _ _ z=>z) Ou rk iU;refine kat_kind (T:= .type "int") f1 (by lia) (fun v hv=>?_) rfl q';obtain⟨n,t,rfl⟩:=f3 v hv;exact Looks.of_pure rfl
   ·obtain⟨p1,g1,g2⟩:=Ou.get (i:=a) (by lia);obtain⟨p2,g3,g4⟩:=Ou.get (i:=b) (by lia);have v1:=jr rk a;have v2:=jr rk b;rw[g1] at v1;rw[g3] at v2;have v1':ks.getD a Value.none= .ref p1:=v1;have v2':ks.getD b Value.none= .ref p2:=v2;rw[v1',v2'];obtain⟨o1,VO,n1,FP,hc1,lI,Rm⟩:=Ii.tupI g2;obtain⟨o2,FA,n2,P1,K6,hd2,Rn⟩:=Ii.tupI g4;refine kat_lt FP lI P1 hd2 ?_;have l1:=Rm.length;have l2:=Rn.length;have m1:ts.getD a []∈ts:=by rw[ai,af (show a < ts.length by lia)]; exact bD _
    have m2:ts.getD b []∈ts:=by rw[ai,af (show b < ts.length by lia)]; exact bD _
    have kx:=mC (prog:=X.prog) (w:=X.w) (A:=X.A.in1.in1) (b:=true) (Q:=C) (s:=si) 0 Rm Rn (by rw[Hy _ m1 _ m2]; exact q');rw[bg,bg,l1,l2];exact kx
   ·have In:=Ii.iR;have bt:mH (CF X.stack) [D,kS] si.heap h5:=fun b o z nb=>by
     have n1:b≠D:=fun w=>nb (by simp[w]);have n2:b≠kS:=fun w=>nb (by simp[w]);have e:=(MK b n1 n2).trans z;exact⟨fun _=>e,o.slots,e⟩
    have I5:=In.but bt (fun cc hc=>by
     rcases av.mp hc with rfl|hc
     ·exact⟨w2,MJ⟩
     ·rw[ak.mp hc];exact⟨Ln,Ot⟩)
    have mD:=RQ.size;have I6:=I5.RO (D:=D) (o:= .lst (pr.toList.map fun i=>xs.getD i .dW)) w2 ⟨by rw[ae,nU,mD]; exact aV (iz hl.symm) hz,_,n,rE Wh pr.toList,hD5⟩ MJ (aV I2.sz P9);refine⟨.ref D,_,I6,rfl,fin D pr.toList _ ?_ ?_ (Ug.new w2) (Wi.upd w2) (I1.cm.fresh (aV Wa P9)) ag⟩
    ·have:=RQ.list;rwa [← hl] at this
    ·exact sk mD hUp
  |cons v r ih=>
   intro i ks a9 Hi si hr hi Ii hk Ln Ug Wi Uh hT rk;have yC:i < xs.length:=by
    have:=cQ List.length hr;rw[bU,l6] at this;lia
   have hv:v=bX.getD i Value.none/\r=bX.drop (i + 1):=by
    rw[Ng (by lia)] at hr;injection hr with h1 h2;refine⟨?_,h2⟩;rw[h1,ai,af (by lia)];rfl
   obtain⟨hv,Wj⟩:=hv;obtain⟨ek,hk⟩:=hk;have Ip:Inv X (pins ++ [(f,Qa),(D,seqObj "list" #[] e1)] ++ [(kS,seqObj "list" ks.toArray ek)]) σ Hi si:=Ii.tE fun p hp=>by
    rcases bb.mp hp with hp|hp
    ·exact Ii.pin p (bp _ hp)
    ·rw[ak.mp hp];exact⟨hk,Ln,Ot.2.1,I2.Fn Ue,fun v z=>by cases z⟩
   have Wk:si.heap.get? f=some Qa:=(Ip.pin (f,Qa) (List.mem_append_right _ (List.mem_append_left _ (List.mem_append_right _ (by simp))))).1;have qY:si.heap.CodeRec (.ref c') (X.env.qual ++ "<lambda>"):=(Ip.cm c' _ Uh).1;have YO:=jr Wh i;rw[← hv] at YO;show wpAny _ _ (call (.ref f) [v]) _ _ si;refine b9 (IF (us:=[v]) (vs:=[xs.getD i .dW]) (R:=fun y H'=> ∃p,y= .ref p/\Hi p=none/\H'=upd Hi p (.tup ((ts.getD i []).map V.int))) (xe:=fun _ _=>False) Ip Ip.HE.in1.in1 dp (by rw[Wk,← RP]) qY S (hb _ _ _ _) rfl (.cons YO .nil) (fL _ _ _ _ _)
    (hbd i yC Hi Ug _ fun p hp=>⟨p,rfl,hp,rfl⟩)) (fun u s5 h5=>?_) fun _ _ z=>z
   obtain⟨y,H5,I5,ry,pp,rfl,Ke,rfl⟩:=h5;obtain rfl:u=Value.ref pp:=ry;obtain⟨z1,z2,_⟩:=I5.pin (kS,seqObj "list" ks.toArray ek) (List.mem_append_right _ (List.mem_append_right _ (by simp)));refine⟨ek,z1,fun h6 cc sb hk6=>?_⟩;have I6:Inv X (pins ++ [(f,Qa),(D,seqObj "list" #[] e1)]) σ _ _:=Inv.iR I5;have I7:=I6.turned (t':=s5.toks) (it:=kS) (h':=h6) (fun b o n z=>(sb.2 b n).trans z) z2 Ot.2.1 Ot.1 Ot.2.2.1 (fun p hp=>by
    rcases bb.mp hp with hp|hp
    ·exact Ot.2.2.2 p (cO _ hp)
    ·rcases bb.mp hp with hp|hp
     ·exact Ot.2.2.2 p (bp _ hp)
     ·rcases av.mp hp with rfl|hp
      ·exact fK
      ·rw[ak.mp hp];exact YN)
   have cpp:c'≠pp:=aI Uh Ke;refine ih (i + 1) (ks ++ [.ref pp]) (a9 ++ [.ref pp]) _ _ Wj yC I7 ⟨cc,hk6⟩ z2 (Ug.new Ke) (Wi.upd Ke) (by rw[az cpp]; exact Uh) ?_ (rk.append (show Vals [V.ref pp] [Value.ref pp] from .cons rfl .nil));rw[take_succ_getD (d:=[]) (by lia)];exact gW.snoc (hT.mono fun b xs z=>by rw[az (aI z Ke)]; exact z) ag
 have Ip:Inv X (pins ++ [(f,Qa),(D,seqObj "list" #[] e1)]) σ H2 {s2 with heap:=h'}:=I3.tE fun p hp=>by
  rcases bb.mp hp with hp|hp
  ·exact I3.pin p (bp _ hp)
  ·rcases av.mp hp with rfl|hp
   ·exact⟨kp _ _ Ol,Kw,nwf.2.1,I1.Fn hle,fun v z=>by rw[← RP] at z; cases z⟩
   ·rw[ak.mp hp];exact⟨d1,HD,MJ.2.1,I2.Fn P9,fun v z=>by cases z⟩
 exact loop bX 0 [] [] H2 _ rfl (bq _) Ip ⟨0,k1⟩ HK YM tb2 Uc .nil .nil
end
def Gd {P:Program}{w:World}{K:Frag}{mg mb:Str->Option Value}{CX:Eb}{k:Nat}{fa a:Addr}{fd:FuncData}{x:Str}{sp:Sp}{s₁:Shared}{vs:List Value}{ns:List Int}{cps:List (Addr×Addr)}
  (KX:K.In s₁.heap) (YQ:s₁.heap.Ns mainGlobals mg) (hb:s₁.heap.Ns builtinsNs mb) (hbb: ∀x:Str,x≠"__name__"->mb x=bootBuiltins x) (Wl:s₁.heap.NoLimit) (hg:s₁.gens= #[])
  (ha:s₁.heap.get? a=some {cls:= .type "list",data:= .seq vs.toArray}) (hi:IntsAre vs ns) (hl:ns.length<=sizeLine) (hr:eL k callerA)
  (bm:BMain mg s₁.heap) (P8: ∀cp∈cps,s₁.heap.get? cp.2=some (tabObj #[])) (RS: ∀cp∈cps,codeHdIn K cp.1 cp.2=true/\K.lookup cp.2=none)
  (F: ∀base:Heap,K.In base->base.Ns mainGlobals mg->BMain mg base->lB P w K mg base CX k fa fd [x] sp) (RT: ∀(s:Shared) (u:Value),BindsTo s fd ⟨[u],[]⟩ [(x,u)])
  (yn: ∀H:Hp,(∀cp∈cps,H cp.2=some (.mh #[]))->bF K H a (ns.map V.int)->sp [.ref a] H (fun v _=>v= .bl true) fun _ _ _=>False)
  (hCX: ∀H e s',CX [] H s₁ (fun _ _ _=>False) e s'->False):
  codeAny (model P w) callerA (.call (.ref fa) ⟨[.ref a],[]⟩) (fun r s'=>r= .ok (.ret (.bool true))/\OldK s₁.heap s'.heap/\s'.os=s₁.os/\AllBare s'.gens) s₁:=by
 have rv:=xC hi;have RU:=hi.length;have aT: ∀cp∈cps,cp.2≠a:=fun cp hc z=>by
  have e:=P8 cp hc;rw[z,ha] at e;cases e
 have core: ∀H:Hp,(∀b,H b=none∨(b=a/\H b=some (.Cp {cls:= .type "list",data:= .seq vs.toArray} (.lst (ns.map V.int)))/\K.lookup a=none)∨ ∃cp∈cps,b=cp.2/\H b=some (.mh #[]))->(∀cp∈cps,H cp.2=some (.mh #[]))->bF K H a (ns.map V.int)->
   codeAny (model P w) callerA (.call (.ref fa) ⟨[.ref a],[]⟩) (fun r s'=>r= .ok (.ret (.bool true))/\OldK s₁.heap s'.heap/\s'.os=s₁.os/\AllBare s'.gens) s₁:=by
  intro H hO hT hS;have cm:nV P w H s₁.heap:=fun b u z=>by
   rcases hO b with w|⟨rfl,w,_⟩|⟨cp,hc,rfl,w⟩
   ·rw[z] at w; cases w
   ·rw[z] at w;cases w;exact⟨ha,by rw[ae]; exact hl,vs,_,rv,ha⟩
   ·rw[z] at w;cases w;exact P8 cp hc
  have yL: ∀{b:Addr} {o:Obj},s₁.heap.get? b=some o->H b=none->(vQ s₁.heap H).get? b=some o:=fun e n=>Ho e n;have YR: ∀{b:Addr} {o:Obj},s₁.heap.get? b=some o->((∃es ep,o.data= .dict es ep)∨o.data= .plain)->H b=none:=fun{b o} e d=>by
   rcases hO b with w|⟨rfl,w,_⟩|⟨cp,hc,rfl,w⟩
   ·exact w
   ·rw[ha] at e;cases e;rcases d with⟨es,ep,d⟩|d <;> cases d
   ·rw[P8 cp hc] at e;cases e;rcases d with⟨es,ep,d⟩|d <;> cases d
  have Ui: ∀{b:Addr} {m:Str->Option Value},s₁.heap.Ns b m->(vQ s₁.heap H).Ns b m:=fun{b m} ⟨o,es,ep,e,d,r⟩=>⟨o,es,ep,yL e (YR e (.inl ⟨es,ep,d⟩)),d,r⟩;have YS:K.In (vQ s₁.heap H):=fun b o e=>yL (KX b o e) (by
   rcases hO b with w|⟨rfl,w,hk⟩|⟨cp,hc,rfl,w⟩
   ·exact w
   ·rw[hk] at e; cases e
   ·rw[(RS cp hc).2] at e; cases e)
  have hBb:BMain mg (vQ s₁.heap H):=by
   obtain⟨b,o,b1,b2,b3,b4,b5,b6,b7⟩:=bm;exact⟨b,o,b1,b2,b3,yL b4 (YR b4 (.inr b7)),b5,b6,b7⟩
  have hM:Mod K mg (vQ s₁.heap H):=⟨YS,Ui YQ,⟨mb,Ui hb,hbb⟩,let⟨mc,h1,h2⟩:=Wl; ⟨mc,Ui h1,h2⟩⟩;have e0:qc P w K mg (vQ s₁.heap H) callerA [] s₁ H:=⟨rfl,hM,fun b o e=>Ks e,Nat.le_of_eq (Fm _ _),trivial,fun b hb=>absurd (show b∈([]:List Addr) from hb) (by simp),cm,.of_eq hg⟩;refine CB ((F _ YS (Ui YQ) hBb).run callerA [] s₁ H ⟨[.ref a],[]⟩ [.ref a] [.ref a] _ _ hr e0 (RT s₁ (.ref a)) (.cons rfl .nil) (yn H hT hS)) fun r s' h=>?_;cases r with
  |error e=>exact(hCX H e s' h).elim
  |ok fl=>
   cases fl with
   |next=>exact False.elim h
   |brk=>exact False.elim h
   |cont=>exact False.elim h
   |ret u=>
    obtain⟨v,H',os,bare,un,RV,r',q⟩:=h;have q':v= .bl true:=q;subst q';obtain rfl:u=Value.bool true:=r';have old: ∀b o,s₁.heap.get? b=some o->asItWas s₁.heap s'.heap b o:=fun b o e=>by
     rcases hO b with z|⟨rfl,z,_⟩|⟨cp,hc,rfl,z⟩
     ·exact .inl (un.keep b o e z (by intro w; exact absurd (show b∈([]:List Addr) from w) (by simp)) (by simp))
     ·have z2:=un.oR b _ _ z;obtain⟨e2,_⟩:=RV b _ z2;rw[ha] at e;cases e;exact .inl e2
     ·obtain⟨more,z2⟩:=un.oS _ _ z;have e2:s'.heap.get? cp.2=some (tabObj (#[] ++ more)):=RV _ _ z2;have e1:=P8 cp hc;rw[e1] at e;cases e;obtain⟨oc,ws,_,_,_,_,_,_,_,c1,c2,c3,c4,_⟩:=codeHd_of_K KX (RS cp hc).1;exact .inr (.inl ⟨⟨cp.1,oc,ws,c1,c2,c3,c4⟩,rfl,#[],more,rfl,e2⟩)
    refine⟨rfl,⟨old,fun b o e=>?_⟩,os,bare⟩;exact un.there b o e (by simp)
 cases hk:K.lookup a with
 |some o=>
  have e:=KX a o hk;rw[ha] at e;cases e;refine core (fun b=>if b∈cps.map (·.2) then some (.mh #[]) else none) (fun b=>?_) (fun cp hc=>if_pos (List.mem_map.mpr ⟨cp,hc,rfl⟩)) (.inr ⟨_,vs.toArray,_,hk,rfl,rfl,rfl,by rw[List.size_toArray,RU]; exact hl,by simpa using rv⟩);by_cases hb:b∈cps.map (·.2)
  ·obtain⟨cp,hc,rfl⟩:=bE.mp hb;exact .inr (.inr ⟨cp,hc,rfl,aZ hb⟩)
  ·exact .inl (aL hb)
 |none=>
  have na:a∉cps.map (·.2):=fun h=>by
   obtain⟨cp,hc,z⟩:=bE.mp h;exact aT cp hc z
  refine core (fun b=>if b=a then some (.Cp {cls:= .type "list",data:= .seq vs.toArray} (.lst (ns.map V.int))) else if b∈cps.map (·.2) then some (.mh #[]) else none) (fun b=>?_) (fun cp hc=>?_) (.inl (.inr ⟨{cls:= .type "list",data:= .seq vs.toArray},aZ rfl⟩))
  ·by_cases h1:b=a
   ·exact .inr (.inl ⟨h1,by rw[aZ h1],hk⟩)
   ·by_cases hb:b∈cps.map (·.2)
    ·obtain⟨cp,hc,rfl⟩:=bE.mp hb;exact .inr (.inr ⟨cp,hc,rfl,by rw[aL h1,aZ hb]⟩)
    ·exact .inl (by rw[aL h1,aL hb])
  ·show(if cp.2=a then _ else if cp.2∈cps.map (·.2) then _ else _)=_;rw[aL (aT cp hc),aZ (bE.mpr ⟨cp,hc,rfl⟩)]
def II {l:PySem.W.OpenLaw}{n k:Nat}{q:Program}{loose:List Str}{XP:(Str->Option Value)->Heap->Prop}{YP:World->Heap->Prop}{d:DefRec}{K:Params->Frag}{ts:List Addr}{sp:Frag->List (Addr×Addr)->Sp}{x:Str}
  (hn:l.most=some n) (TV:n<=sizeLine) (Vz:d.params.defaults=[]) (hr:eL k callerA)
  (hY: ∀(w:World) (h:Heap),YP w h->(K w.params).In h/\ ∀P∈ts,h.get? P=some (tabObj #[]))
  (F: ∀(w:World) (mg:Str->Option Value) (fa:Addr) (h:Heap),(K w.params).In h->h.Ns mainGlobals mg->mg d.name=some (.ref fa)->
   ∃(fd:FuncData) (cps:List (Addr×Addr)),(∀cp∈cps,cp.2∈ts)/\(∀cp∈cps,codeHdIn (K w.params) cp.1 cp.2=true/\(K w.params).lookup cp.2=none)/\(∀(s:Shared) (u:Value),BindsTo s fd ⟨[u],[]⟩ [(x,u)])/\
    ∀base:Heap,(K w.params).In base->base.Ns mainGlobals mg->BMain mg base->lB l.prog w (K w.params) mg base rC k fa fd [x] (sp (K w.params) cps))
  (yn: ∀(K:Frag) (cps:List (Addr×Addr)) (H:Hp) (a:Addr) (ns:List Int),ns.length<=n->(∀cp∈cps,H cp.2=some (.mh #[]))->bF K H a (ns.map V.int)->sp K cps [.ref a] H (fun v _=>v= .bl true) fun _ _ _=>False):
  PySem.W.WalkO q loose XP YP l.row.toRowW d [] (fun f vs=>PySem.call f vs):=by
 refine Yq.AV hn Vz fun w s₀ s₁ mg mb fa o pm cd doc a vs ns G Y ho hd qY Q5 NT hints hlen hg=>?_;obtain⟨KX,hT⟩:=hY w _ Y;obtain⟨fd,cps,h1,h2,hb,hF⟩:=F w mg fa _ KX G.T.g Q5;obtain⟨bm,ob,b1,b2,b3,b4,b5,b6⟩:=G.T.bmain;have b7:bm≠mainGlobals:=fun z=>by
  obtain⟨o',es,ep,e,Fo,_⟩:=G.T.g;rw[z,e] at b3;cases b3;rw[Fo] at b6;cases b6
 exact Gd KX G.T.g G.T.b G.T.builtins G.T.nolimit hg NT hints (aV hlen TV) hr ⟨bm,ob,b1,b2,b7,b3,b4,b5,b6⟩ (fun cp hc=>hT _ (h1 cp hc)) h2 hF hb (fun H hO hS=>yn _ cps H a ns hlen hO hS) fun H e s' z=>z
def Kf {C:Eb}{P:Program}{w:World}{K:Frag}{mg:Str->Option Value}{base:Heap}{N:List Str}{q:Str}{sc:Scope}{f:Addr}{cd:Value}{A:Around}{o:List Env}{s:Shared}{H:Hp}{E:XK}:(kz C P w K mg base N q sc f cd A o s H E).CJ.K=K:=rfl
section
variable {X:Cx}{K:Frag}{x:Str}{k n:Nat}{ps:List Str}{sp:Sp}{e:Expr}{es:List Expr}{t:TA}{p pos:Pos}
def fc (C:eQ X.prog X.w X.K X.mg X.base x k ps sp)(hr:eL n X.A)(ha:PA X (e :: es) t)(hle:k<=n:=by decide)(hg:Gl X x:=by rfl)(qd:(x == ("__debug__":Str))=false:=by decide)
  (he:starEach (e :: es) X.env=(false,eval e X.env) :: starEach es X.env:=by rfl) (gN:(backTo pos (starEach es X.env)).any (·.1)=false:=by rfl):PE X (.Call (.Name x p) (e :: es) [] pos) (ud sp [] E0 t):=Rf C (hr.mono hle) hg ha qd he gN
def sv (i:Nat){te:TE}{pos':Pos}(hN:X.N.Nodup)(he:PE X e te)(hi:X.N[i]? =some x:=by rfl)(hx:Loc X.env.scope x:=by first|exact Or.inl rfl|exact Or.inr rfl)(hs:swapsWith e (some (.Name x pos')) pos.line X.env=pure false:=by rfl)(hf:X.fn x=true∨X.env.scope.names.lookup x=some .local:=by first|exact .inl rfl|exact .inr rfl|assumption):
  PS X (.Assign [.Name x pos'] e pos) (KA te (AG i)):=Nu hN hi hx he hs hf
def gn (i:Nat)(hN:X.N.Nodup)(hi:X.N[i]? =some x:=by rfl)(hx:Loc X.env.scope x:=by first|exact Or.inl rfl|exact Or.inr rfl)(hf:X.fn x=true∨X.env.scope.names.lookup x=some .local:=by first|exact .inl rfl|exact .inr rfl|assumption):PG X (.Name x pos) (AG i):=en hN hi hx hf
def xl {a b:Expr}{ta tb:TE}(ha:PE X a ta)(hb:PE X b tb)(hs:yq b:=by exact fun _ _=>rfl)(hK:X.K=K:=by first|with_reducible exact Kf|with_reducible exact kx|rfl):PE X (.Subscript a b pos) (PX (NF K) ta tb):=by subst hK; exact je yr ha hb hs
def xt {a b:Expr}{ta tb:TE}(ha:PE X a ta)(hb:PE X b tb)(hs:yq b:=by exact fun _ _=>rfl)(hK:X.K=K:=by first|with_reducible exact Kf|with_reducible exact kx|rfl):PE X (.Subscript a b pos) (PX (NG K) ta tb):=by subst hK; exact je CS ha hb hs
def tI {tg l:Expr}{tl:TE}(hl:PE X l tl)(hK:X.K=K:=by first|with_reducible exact Kf|with_reducible exact kx|rfl):PI X tg l (Mu K tl):=by subst hK; exact KC hl
def gT {es:List Expr}{k:Nat}{t:Kz}{n:Nat}(h:Hr X es t)(hc:X.calm=true:=by rfl)(hn:(assignEach es X.env).length=n:=by first|exact(rfl:_ =2)|exact(rfl:_ =3)|exact(rfl:_ =4)|rfl)(qZ:(assignEach es X.env).findIdx? (·.1)=none:=by rfl)(hK:X.K=K:=by first|with_reducible exact Kf|with_reducible exact kx|rfl):PG X (.Tuple es k pos) (Nt K n t):=by subst hK; exact Hs hc h hn qZ
def Uj (hK:X.K=K:=by first|with_reducible exact Kf|with_reducible exact kx|rfl):My X (QR K):=by subst hK; exact KO
def jJ {f:Str}{ta:TE}(he:PE X e ta)(hb:attributeBase e f X.env (eval e X.env)=eval e X.env:=by rfl)(hK:X.K=K:=by first|with_reducible exact Kf|with_reducible exact kx|rfl):PE X (.Attribute e f pos) (NA K ta f):=by subst hK; exact HC he hb
def lN {o value:Expr}{f:Str}{pos':Pos}{ta tv:TE}(ha:PE X o ta)(hv:PE X value tv)(hs:swapsWith value (some (.Attribute o f pos')) pos.line X.env=pure false:=by rfl)(hK:X.K=K:=by first|with_reducible exact Kf|with_reducible exact kx|rfl):PS X (.Assign [.Attribute o f pos'] value pos) (QN K ta tv f):=by subst hK; exact NC ha hv hs
end
inductive YT (xs:List V)(S:Addr->List V->Prop)(k:Int->Prop):Prop
 |mk (p:Addr)(ys:List V)(h:xs=[.ref p])(s:S p ys)(q:k ys.length):YT xs S k
def RW (K:Frag):List V->Hp->VK->Prop:=fun xs H Q=>YT xs (fun p ys=>bF K H p ys∨cv K H p ys) fun n=>Q (.int n) H
def Ge {X:Cx}:gE X (.builtin "len") (RW X.K):=fun pins s σ H xs us Q I rv h=>yw pins s σ H xs us Q I rv (by obtain⟨p,ys,e,z,q⟩:=h; exact⟨p,ys,e,z,q⟩)
inductive YU (K:Frag)(xs:List V)(H:Hp)(k:Bool->Prop):Prop
 |mk (x:V)(c:String)(t:Value)(b:Bool)(h:xs=[x,.ty c])(ty:l8 K H x t)(e:PySem.W.kitOne K t (.type c)=some b)(q:k b):YU K xs H k
def YV (K:Frag):List V->Hp->VK->Prop:=fun xs H Q=>YU K xs H fun b=>Q (.bl b) H
def IJ {X:Cx}:gE X (.builtin "isinstance") (YV X.K):=fun pins s σ H xs us Q I rv h=>C2 pins s σ H xs us Q I rv (by obtain⟨x,c,t,b,e,ty,z,q⟩:=h; exact⟨x,c,t,b,e,ty,z,q⟩)
section
variable {X:Cx}{K:Frag}{o e:Expr}{p pos apos gq:Pos}{to te:TE}
def pT (hm:X.mg "len"=none)(h:PE X e te)(hg:Gl X "len":=by rfl)(he:starEach [e] X.env=(false,eval e X.env) :: starEach [] X.env:=by rfl)(gN:(backTo pos (starEach [] X.env)).any (·.1)=false:=by rfl)(hK:X.K=K:=by first|with_reducible exact Kf|with_reducible exact kx|rfl):PE X (.Call (.Name "len" p) [e] [] pos) (TX (RW K) (AK te AJ)):=by
 subst hK;exact fm Ge hg hm PySem.boot_len (aa h aw he) (by decide) (by decide) he gN
def wb {c:String}{y:Str}{p2:Pos}(hm:X.mg "isinstance"=none)(hy:X.mg y=none)(hb:bootBuiltins y=some (.type c))(h:PE X e te)(hg:Gl X "isinstance":=by rfl)(hg2:Gl X y:=by rfl)(hn:y≠"__name__":=by decide)(hd:(y == ("__debug__":Str))=false:=by decide)(he:starEach [e,.Name y p2] X.env=(false,eval e X.env) :: starEach [.Name y p2] X.env:=by rfl)(VE:starEach [.Name y p2] X.env=(false,eval (.Name y p2) X.env) :: starEach [] X.env:=by rfl)(gN:(backTo pos (starEach [.Name y p2] X.env)).any (·.1)=false:=by rfl)(hK:X.K=K:=by first|with_reducible exact Kf|with_reducible exact kx|rfl):PE X (.Call (.Name "isinstance" p) [e,.Name y p2] [] pos) (TX (YV K) (AK te (AK (tC (.ty c)) AJ))):=by
 subst hK;exact fm IJ hg hm boot_isinstance (aa h (aa (yj (v:= .ty c) hg2 hy hb rfl hn hd) aw VE) he) (by decide) (by decide) he gN
def qx (ho:PE X o to)(h:PE X e te)(qj:attributeBase o "append" X.env (eval o X.env)=eval o X.env:=by rfl)
  (NK:((backTo gq (starEach [e] X.env)).all (fun x=> !x.1) && (backToKw gq (keywordEach [] X.env)).all (fun x=>x.1.isSome)
   && decide ([e].length + ([]:List Keyword).length + (if([]:List Keyword).isEmpty then 0 else 1) < 30))=true:=by rfl)
  (uf:(apos.endLine == gq.line)=true:=by rfl) (hs:starEach [e] X.env=(false,eval e X.env) :: starEach [] X.env:=by rfl) (ug:(backTo gq (starEach [] X.env)).any (·.1)=false:=by rfl) (hK:X.K=K:=by first|with_reducible exact Kf|with_reducible exact kx|rfl):PE X (.Call (.Attribute o "append" apos) [e] [] gq) (Yl K "list" Eh to (AK te AJ)):=by
 subst hK;exact QS PySem.F.plainAttrs_list PySem.F.slot_list_append PySem.F.type_list_append xv ho (aa h aw hs) qj NK uf hs ug
end
def Df.fA {P:Program}{w:World}{K:Frag}{mg:Str->Option Value}{base:Heap}{x:Str}{st:Stmt}{N ps:List Str}{k:Nat}{sp:Sp}(D:Df K mg x st)(S:aO N ps (ay st))
  (fL: ∀(f:Addr) (cM:Value) (A:Around) (outer:List Env) (s:Shared) (H:Hp) (vs:List V) (Q:VK) (E:XK),eL k (A.deeper (envOfC x (ay st) s.heap.objs.size f cM))->sp vs H Q E->
   ∃t,oq (kz rC P w K mg base N x (ay st) f cM A outer s H E).CJ (dj st) t/\t {nx:=fun _ H'=>Q .dW H',rt:=Q} (start N vs) H)
  (hb: ∀(kV doc pm:Value) (an:Option Addr) (cM ct:Value) (us:List Value),us.length=ps.length->bindArgs (fnOf x x (gr st) (dj st) (ay st) .none kV doc pm an cM ct) ⟨us,[]⟩=pure (ps.zip us):=by intro _ _ _ _ _ _ us hl; rcases us with _|⟨_,_|⟨_,_|⟨_,_|⟨_,_|⟨_,_|⟨_,_|⟨_,_⟩⟩⟩⟩⟩⟩⟩ <;> first|(cases hl; done)|rfl)
  (len: ∀vs H Q E,sp vs H Q E->vs.length=ps.length:=by intro _ _ _ _ h; first|(cases h; subst_vars; rfl)|(repeat (first|(obtain⟨rfl,_⟩:=h; rfl; done)|obtain⟨_,h⟩:=h))):eQ P w K mg base x (k + 1) ps sp:=D.cal S hb len fL
end L2
namespace eD
open PySem L2 PyProof.Rows Ka
seal L2.oq L2.PS L2.PE L2.PT L2.PW L2.PA L2.PC L2.PG L2.Hr L2.PI L2.KU L2.JZ L2.PO L2.nW L2.Mw L2.gE L2.HL L2.My
def top (i:Nat):Stmt:=PySem.Challenge.pw_spikebook_k06_whole_never_twice.main.body.getD i (.Pass ⟨0,0,0,0⟩)
structure Txt (K:Frag)(mg:Str->Option Value):Prop where
 De:Df K mg "place_of" (top 1)
 Ov:Df K mg "fits" (top 15)
 wc:Df K mg "counts_from" (top 16)
 Gf:Df K mg "bills_in_order" (top 17)
 Dg:Df K mg "credits_in_order" (top 18)
 Lo:Df K mg "alike" (top 20)
 we:Df K mg "first_alike" (top 21)
 yM:Df K mg "shared_out" (top 22)
 Dh:Df K mg "parts_of" (top 23)
 uP:Df K mg "check_amount" (top 26)
 wg:Df K mg "row_of_fits" (top 27)
 Ow:Df K mg "done" (top 30)
 yN:Df K mg "done_again" (top 31)
 Di:Df K mg "settings" (top 33)
 yO:Df K mg "answers_in" (top 34)
 A8:Df K mg "answer_of" (top 35)
 Gg:Df K mg "owed_at" (top 36)
 Gh:Df K mg "free_at" (top 37)
 uQ:Df K mg "remaining_at" (top 38)
 wj:Df K mg "counting_at" (top 39)
 A9:Df K mg "counts_at" (top 40)
 Gi:Df K mg "ages_at" (top 41)
 Ba:Df K mg "_law_room" (top 43)
 Bb:Df K mg "_law_draw" (top 44)
 yP:Df K mg "_law_whole" (top 45)
 yQ:Df K mg "_law_alike" (top 46)
 wm:Df K mg "_law_people" (top 47)
 wo:Df K mg "_law_penned" (top 48)
 wq:Df K mg "_law_chosen" (top 49)
 yR:Df K mg "_law_hasty" (top 50)
 wt:Df K mg "_law_due_in" (top 51)
 yS:Df K mg "_law_deeds" (top 52)
 yT:Df K mg "_law_begun" (top 53)
 Bc:Df K mg "_law_goes" (top 54)
 Dj:Df K mg "_law_put" (top 55)
 uR:Df K mg "_law_in_turn" (top 56)
 yU:Df K mg "_law_swept" (top 57)
 wu:Df K mg "_law_barred" (top 58)
 yV:Df K mg "_law_enter" (top 59)
 wx:Df K mg "_law_worked" (top 60)
 yW:Df K mg "_law_tells" (top 61)
 Bd:Df K mg "_law_done" (top 62)
 nZ:Df K mg "_law_gone_through" (top 63)
 YW:Df K mg "law" (top 64)
 eI:mg "len"=none
 dm:mg "isinstance"=none
 xM:mg "int"=none
 Ox:mg "bool"=none
 EF:mg "str"=none
 rL:mg "list"=none
 tJ:mg "tuple"=none
 nH:mg "range"=none
 Be:mg "min"=none
 RX:mg "max"=none
 IK:mg "sum"=none
 uS:mg "sorted"=none
 iX:mg "enumerate"=none
 Oy:mg "dict"=none
 Bf:mg "Exception"=none
end eD
namespace L2
open PySem PySem.Spec PySem.W PyProof.Rows Ka
structure Wm (P:Program)(w:World)(K:Frag)(mg:Str->Option Value)(base:Heap)(k:Nat)(fa:Addr)(sp:Sp):Prop where
 ex: ∃(fd:FuncData) (ps:List Str),lB P w K mg base rC k fa fd ps sp/\keepIn K (.ref fa)=true/\Binds K fd ps []
def eQ.YX {P:Program}{w:World}{K:Frag}{mg:Str->Option Value}{base:Heap}{x:Str}{k:Nat}{ps:List Str}{sp:Sp}(C:eQ P w K mg base x k ps sp): ∃fa,mg x=some (.ref fa)/\Wm P w K mg base k fa sp:=by
 obtain⟨f,fd,F,hm,hk,hb⟩:=C.ex;exact⟨f,hm,⟨fd,ps,F,hk,hb⟩⟩
section
variable {X:Cx}{x:Str}{i k:Nat}{e:Expr}{es:List Expr}{t:TA}{p pos:Pos}
def Oz (P:Program)(w:World)(K:Frag)(mg:Str->Option Value)(base:Heap)(k i:Nat)(t:TA):TE:=fun σ H Q=> ∃fa sp,σ[i]? =some (some (.ref fa))/\Wm P w K mg base k fa sp/\t σ H fun vs H1=>sp vs H1 Q E0
def OA (hr:eL k X.A)(hN:X.N[i]? =some x)(hv:Qv X.env.scope x)(ha:PA X (e :: es) t)(hd:(x == ("__debug__":Str))=false:=by decide)(qY:(x == ("__classdict__":Str))=false:=by decide)
  (he:starEach (e :: es) X.env=(false,eval e X.env) :: starEach es X.env:=by rfl) (gN:(backTo pos (starEach es X.env)).any (·.1)=false:=by rfl):PE X (.Call (.Name x p) (e :: es) [] pos) (Oz X.prog X.w X.K X.mg X.base k i t):=by
 rintro pins s σ H Q I ⟨fa,sp,e1,⟨fd,ps,F,hk,hb⟩,h⟩;refine ej (dN (CG hN hv hd qY pins s σ H (fun v H'=>v= .ref fa/\H'=H) I ⟨_,e1,rfl,rfl⟩) ?_);rintro u s1 ⟨v,H1,I1,rv,rfl,rfl⟩;obtain rfl:u=Value.ref fa:=rv;refine jV (h₀:=X.base) I.ok.mod.Kt hk (dN (ha pos pins s1 σ H1 _ I1 h) fun us s2 ⟨vs,H2,I2,r,q⟩=>⟨I2.gx,?_⟩) he gN;exact ym F hr hb .nil mz I2 r (by rw[bZ]; exact q)
end
def Bg {X:Cx}:gE X (.type "dict") (fun xs H Q=> ∃a a9,xs=[.ref a]/\H a=some (.dK a9)/\ ∀p,H p=none->Q (.ref p) (upd H p (.dK a9))):=by
 intro pins s σ H xs us Q I r h;obtain⟨a,a9,rfl,e,q⟩:=h;obtain⟨u,rfl,ru⟩:=vals1 r;cases ru;exact HW I (.inl e) fun p s' hp I'=>⟨.ref p,_,I',rfl,q p hp⟩
def EG (P:Program)(w:World)(d:Addr)(a9:List (Key×V))(φ:Heap->Prop):Prop:=(∀(H:Hp) (h:Heap),φ h->di P w H h d (.dK a9))/\ ∀q:Str,φ≠fun h=>h.CodeRec (.ref d) q
def RY (P:Program)(w:World)(td:TE)(g:TG)(tb:TS):TS:=fun D σ H=>td σ H fun v H1=> ∃d a9,v= .ref d/\H1 d=some (.dK a9)/\ ∀φ,EG P w d a9 φ->
 ∃W:Nat->Nat->St->Hp->Prop,(∃m,W 0 m σ (upd H1 d (.ext φ)))/\ ∀i m σ' H',W i m σ' H'->H' d=some (.ext φ)/\((a9.length<=i/\D.nx σ' (upd H' d (.dK a9)))∨
  ∃x,(a9.map (·.2))[i]? =some x/\ ∃N:St->Hp->Prop,(∀K1 G8,N K1 G8-> ∃m',m' < m/\W (i + 1) m' K1 G8)/\g x σ' H' fun σ2 H2=>tb {D with nx:=N,ct:=N,bk:=fun _ _=>False} σ2 H2)
def Lp {X:Cx}{tg o:Expr}{apos gq pos:Pos}{body:List Stmt}{td:TE}{g:TG}{tb:TS}(hp:PassesOwn (model X.prog X.w) X.A X.env X.xe)(hc:X.calm=true)(ho:PE X o td)(hg:PG X tg g)(hb:oq X body tb)
  (qj:attributeBase o "values" X.env (eval o X.env)=eval o X.env:=by rfl) (uf:(apos.endLine == gq.line)=true:=by rfl)
  (hs: ∀x,foldedSetIterable (.Call (.Attribute o "values" apos) [] [] gq) X.env x=pure x:=by intro _; rfl):PS X (.For tg (.Call (.Attribute o "values" apos) [] [] gq) body [] pos) (RY X.prog X.w td g tb):=by
 intro pins s σ H D I h;refine wpAny_For (wpAny_Call_method0_late qj uf (dN (ho pins s σ H _ I h) ?_)) hs;rintro u s1 ⟨v,H1,I1,rv,d,a9,rfl,ed,h⟩;obtain rfl:u=Value.ref d:=rv;obtain⟨hz,hd,vs,rel,dd⟩:=Ei I1.cm ed;refine⟨"dict","dict.values",PySem.F.plainAttrs_dict,PM,PySem.F.type_dict_values,dd.typeIs,dd.mapOf.noDict,iF rfl (PySem.evalArgs_none ?_)⟩;refine call_meetsIn PM dd.typeIs PySem.F.entry_dict_values (PySem.F.args_dict_values_1 _) (meets_dict_values (dI X.prog X.w) d hd) ⟨⟨vs,dd⟩,?_⟩;have I2:=I1.kept (t':=s1.toks) (h':=s1.heap.push {cls:= .type "dict_values",data:= .fields #[.ref d]}) (fun b ob e=>ax _ e);obtain⟨ep,da⟩:=dd.dictAt;obtain⟨od,es,Om,r⟩:=id da;have Wn: ∀h:Heap,h.get? d=some od->h.DictAt (dI X.prog X.w) d vs ep:=fun h e=>⟨od,es,e,r⟩;have YY:EG X.prog X.w d a9 (fun h=>h.get? d=some od):=⟨fun H h e=>⟨hz,hd,vs,rel,⟨od,es,ep,e,r⟩⟩,fun q z=>by
  have z1:(s1.heap.get? d=some od)=s1.heap.CodeRec (.ref d) q:=congrFun z s1.heap;obtain⟨c,o,V9,t,e1,e2,e3,_⟩:=Eq.mp z1 Om;cases e1;rw[Om] at e2;cases e2;rw[r.2.1] at e3;cases e3⟩
 obtain⟨W,⟨m0,w0⟩,turn⟩:=h _ YY;generalize YZ:s1.heap.push {cls:= .type "dict_values",data:= .fields #[.ref d]}=h2 at I2;have hv2:h2.IsValuesView s1.heap.objs.size d:=by
  rw[← YZ];exact⟨_,bH _ rfl,rfl,rfl⟩
 have RZ:h2.get? d=some od:=by
  rw[← YZ];exact ax _ Om
 refine wpAny_pyIter_values (knd:=dI X.prog X.w) hv2 (Wn _ RZ) ?_;have I3:=I2.kept (t':=s1.toks) (h':=h2.push {cls:= .type "dict_valueiterator",data:= .fields #[.ref d,.int 0 0,.int vs.length 0,.int ep 0]}) (fun b ob e=>ax _ e);have OB:(h2.push {cls:= .type "dict_valueiterator",data:= .fields #[.ref d,.int 0 0,.int vs.length 0,.int ep 0]}).IsValIter h2.objs.size d 0 vs.length ep:=⟨_,bH _ rfl,rfl,rfl⟩;have Lq:(h2.push {cls:= .type "dict_valueiterator",data:= .fields #[.ref d,.int 0 0,.int vs.length 0,.int ep 0]}).get? d=some od:=ax _ RZ;have Cs:H1 h2.objs.size=none:=I2.cm.fresh (aB _);have iU:d≠h2.objs.size:=aI ed Cs;have Wo:=I2.Fq (aB _) Cs;generalize h2.push {cls:= .type "dict_valueiterator",data:= .fields #[.ref d,.int 0 0,.int vs.length 0,.int ep 0]}=h3 at I3 OB Lq;generalize h2.objs.size=it at OB Cs iU Wo;have I4:Inv X pins σ (upd H1 d (.ext fun h=>h.get? d=some od)) {s1 with heap:=h3}:=by
  refine I3.write (x:=d) (e:=d) (t':=s1.toks) (h':=h3) (by rw[ed]; exact True.intro) (.inl rfl) (fun _ _ _ q=>q) ⟨od,Lq⟩ ?_;exact⟨Lq,⟨od,Lq⟩,fun h1 h2 q k=>k od q⟩
 have fit:upd H1 d (.ext fun h=>h.get? d=some od) it=none:=by
  rw[az iU.symm];exact Cs
 have RU:vs.length=a9.length:=(aS rel).symm;refine codeAny_forLoop_any (fun n s'=> ∃i σ' H',Inv X pins σ' H' s'/\s'.heap.IsValIter it d i vs.length ep/\H' it=none/\W i n σ' H') ?_ m0 ⟨0,σ,_,I4,OB,fit,w0⟩;rintro n s5 ⟨i,σ5,H5,I5,Y0,PV,w5⟩;obtain⟨e5,tn⟩:=turn i n σ5 H5 w5;have Wq:s5.heap.get? d=some od:=(I5.cm d _ e5).1;have f5:tZ X pins H5 it:=⟨PV,Wo.2⟩;obtain⟨f0,f1,f2,f3,f4,f6⟩:=f5;rcases tn with⟨hle,qn⟩|⟨x,hx,N,hN,step⟩
 ·refine dH hp (wpAny_pyNext_values_end (knd:=dI X.prog X.w) (I5.ok.hd hc) Y0 (Wn _ Wq) (by rw[pW]; lia) fun h6 eb=>?_);have I6:Inv X pins σ5 H5 {s5 with heap:=h6}:=I5.turned (t':=s5.toks) (fun b o hb e=>eb b o hb e) f0 f1 f3 f4 f6;have Y1:h6.get? d=some od:=eb d od iU Wq;have I7:=I6.write (x:=d) (e:=d) (t':=s5.toks) (h':=h6) (o:= .dK a9) (by rw[e5]; exact True.intro) (.inl rfl) (fun _ _ _ q=>q) ⟨od,Y1⟩ (YY.1 _ _ Y1);exact i9 ⟨σ5,_,I7,qn⟩
 ·rw[aD] at hx;obtain⟨kv,Uk,rfl⟩:=bB.mp hx;obtain⟨ku,hku,e1,ru⟩:=bI rel Uk;obtain⟨k1,u⟩:=ku;refine dH hp (wpAny_pyNext_values_item (knd:=dI X.prog X.w) Y0 (Wn _ Wq) hku fun h6 it6 sb=>?_);have I6:Inv X pins σ5 H5 {s5 with heap:=h6}:=I5.turned (t':=s5.toks) (fun b o hb e=>(sb.2 b hb).trans e) f0 f1 f3 f4 f6;obtain⟨oi,FP,P1,Wr⟩:=id it6;refine dH hp (D5 (s:={s5 with heap:=h6}) FP P1 Wr (by decide +kernel) ?_);have I6':Inv X (pins ++ oV [it] h6) σ5 H5 {s5 with heap:=h6}:=I6.pinned (fun b hb=>by rw[ak.mp hb]; exact⟨PV,Wo.2⟩) (fun b hb=>by
   rw[ak.mp hb];exact⟨oi,FP,fun v z=>by rw[Wr] at z; cases z⟩)
  refine dH hp (dN (hg _ _ σ5 H5 kv.2 u _ I6' ru step) fun _ s7 ⟨σ7,H7,I7,q7⟩=>?_);refine dH hp (dN (hb _ s7 σ7 H7 _ I7 q7) fun f s8 q8=>?_);have again: ∀{σ8:St} {H8:Hp},Inv X (pins ++ oV [it] h6) σ8 H8 s8->N σ8 H8-> ∃m,m < n/\ ∃i σ' H',Inv X pins σ' H' s8/\s8.heap.IsValIter it d i vs.length ep/\H' it=none/\W i m σ' H':=fun{σ8 H8} I8 n8=>by
   obtain⟨m',hm,w8⟩:=hN σ8 H8 n8;have pn:=I8.pin (it,oi) (List.mem_append_right _ (List.mem_append_right _ (jz (by simp) FP)));exact⟨m',hm,i + 1,σ8,H8,I8.iR,⟨oi,pn.1,P1,Wr⟩,pn.2.1,w8⟩
  cases f with
  |next=>obtain⟨σ8,H8,I8,n8⟩:=q8; exact again I8 n8
  |cont=>obtain⟨σ8,H8,I8,n8⟩:=q8; exact again I8 n8
  |brk=>obtain⟨σ8,H8,I8,q8⟩:=q8; exact q8.elim
  |ret v=>obtain⟨x8,σ8,H8,I8,r8,q8⟩:=q8; exact⟨x8,σ8,H8,I8.iR,r8,q8⟩
def IL {P:Program}{w:World}{td:TE}{g:TG}{tb:TS}{D:Ends}{σ:St}{H1:Hp}{d:Addr}{a9:List (Key×V)}(ed:H1 d=some (.dK a9))
  (h: ∀φ,EG P w d a9 φ-> ∃Pv:Nat->St->Hp->Prop,Pv 0 σ (upd H1 d (.ext φ))/\(∀i σ' H',Pv i σ' H'->H' d=some (.ext φ))/\(∀i x σ' H',(a9.map (·.2))[i]? =some x->Pv i σ' H'->g x σ' H' fun σ2 H2=>tb {D with nx:=Pv (i + 1),ct:=Pv (i + 1),bk:=fun _ _=>False} σ2 H2)/\
   ∀σ' H',Pv a9.length σ' H'->D.nx σ' (upd H' d (.dK a9))):
  ∃d' IM,V.ref d= .ref d'/\H1 d'=some (.dK IM)/\ ∀φ,EG P w d' IM φ->
 ∃W:Nat->Nat->St->Hp->Prop,(∃m,W 0 m σ (upd H1 d' (.ext φ)))/\ ∀i m σ' H',W i m σ' H'->H' d'=some (.ext φ)/\((IM.length<=i/\D.nx σ' (upd H' d' (.dK IM)))∨
  ∃x,(IM.map (·.2))[i]? =some x/\ ∃N:St->Hp->Prop,(∀K1 G8,N K1 G8-> ∃m',m' < m/\W (i + 1) m' K1 G8)/\g x σ' H' fun σ2 H2=>tb {D with nx:=N,ct:=N,bk:=fun _ _=>False} σ2 H2):=by
 refine⟨d,a9,rfl,ed,fun φ hφ=>?_⟩;obtain⟨Pv,p0,pk,ps,pe⟩:=h φ hφ;refine⟨fun i m σ' H'=>m=a9.length - i/\i<=a9.length/\Pv i σ' H',⟨a9.length,by simp,Nat.zero_le _,p0⟩,?_⟩;rintro i m σ' H' ⟨rfl,hi,p⟩;refine⟨pk i σ' H' p,?_⟩;by_cases iI:i < a9.length
 ·have hg:(a9.map (·.2))[i]? =some a9[i].2:=by rw[aD,af iI]; rfl
  exact .inr ⟨_,hg,Pv (i + 1),fun K1 G8 p'=>⟨a9.length - (i + 1),by lia,rfl,iI,p'⟩,ps i _ σ' H' hg p⟩
 ·have e:i=a9.length:=by lia
  subst e;exact .inl ⟨aB _,pe σ' H' p⟩
def mI {α:Type}(f:α->Int): ∀(l2 l1:List α),l1.Perm l2->l1.Pairwise (fun a b=>f a<=f b)->l2.Pairwise (fun a b=>f a < f b)->l1=l2
 |[],l1,p,_,_=>List.Perm.eq_nil p
 |b :: l2,[],p,_,_=>absurd p.length_eq (by simp)
 |b :: l2,a :: l1,p,h1,h2=>by
  rw[eP] at h1 h2;have hb:b∈a :: l1:=p.mem_iff.mpr bh;have e:a=b:=by
   rcases av.mp (p.mem_iff.mp (bh (a:=a) (l:=l1))) with e|ha
   ·exact e
   ·rcases av.mp hb with e|hb
    ·exact e.symm
    ·have z1:=h1.1 b hb;have z2:=h2.1 a ha;lia
  subst e;rw[mI f l2 l1 (List.Perm.cons_inv p) h1.2 h2.2]
def Lr {x y:Int×Nat}(hx:x.2 < 1000)(hy:y.2 < 1000)(h:sW x=sW y):x.2=y.2:=by
 unfold sW at h;lia
def Bh {l:List (Int×Nat)}(h: ∀x∈l,x.2 < 1000)(nd:(l.map (·.2)).Nodup):(fv l).Pairwise (fun a b=>sW a < sW b):=by
 have p:=dk l;have Ul:((fv l).map (·.2)).Nodup:=(p.map (·.2)).nodup_iff.mpr nd;have h': ∀x∈fv l,x.2 < 1000:=fun x hx=>h x (p.mem_iff.mp hx);have le:=uy l;generalize fv l=m at Ul h' le
 induction m with
 |nil=>exact .nil
 |cons a m ih=>
  rw[eP] at le ⊢;rw[cS,dS] at Ul;refine⟨fun b hb=>?_,ih Ul.2 (fun x hx=>h' x (aQ _ hx)) le.2⟩;have z:=le.1 b hb;have n:sW a≠sW b:=fun e=>Ul.1 (by
   rw[Lr (h' a bh) (h' b (aQ _ hb)) e];exact bE.mpr ⟨b,hb,rfl⟩)
  lia
def uT (t:List Int):Int:=t.getD 0 0 * 1000 + t.getD 1 0
def uU {x y:Int×Nat}{u v:List Int}(hx:x.2 < 1000)(hy:y.2 < 1000)(h:x.2=y.2->u=v/\x=y)(hs:HT.lexLt u u=false):HT.lexLt (x.1 :: (x.2:Int) :: u) (y.1 :: (y.2:Int) :: v)=decide (uT (x.1 :: (x.2:Int) :: u) < uT (y.1 :: (y.2:Int) :: v)):=by
 show _ =decide (x.1 * 1000 + (x.2:Int) < y.1 * 1000 + (y.2:Int));rw[HT.oW];by_cases c:x.1=y.1
 ·rw[aZ c,HT.oW];by_cases d:x.2=y.2
  ·rw[aZ (by lia),← (h d).1,hs,bC (by lia)]
  ·rw[aL (by lia)];exact l7.mpr (by lia)
 ·rw[aL c];exact l7.mpr (by lia)
def Bi {ks:List (Int×Nat)}{g:Int×Nat->List Int}{us:List (List Int)}(h: ∀x∈ks,x.2 < 1000)(nd:(ks.map (·.2)).Nodup)(hg: ∀x∈ks,uT (g x)=sW x)(p:us.Perm (ks.map g))(le:us.Pairwise (fun t u=>uT t<=uT u)):us=(fv ks).map g:=by
 refine mI uT _ _ (p.trans ((dk ks).map g).symm) le ?_;rw[rh];refine(Bh h nd).imp_of_mem fun{a b} ha hb z=>?_;rw[hg a ((dk ks).mem_iff.mp ha),hg b ((dk ks).mem_iff.mp hb)];exact z
def de.tk {H H':Hp}{sd:Addr}{S:Bk}{f:fj}(h:de H sd S f)(k:Frame f.fp H H'):cA H H':=fun b xs e=>k b _ (fun hb=>by
 obtain⟨ms,m1,_⟩:=h.hm;unfold fj.fp at hb;rcases av.mp hb with rfl|hb
 ·rw[h.hb] at e; cases e
 ·rcases av.mp hb with rfl|hb
  ·rw[h.hc] at e; cases e
  ·rcases av.mp hb with rfl|hb
   ·rw[m1] at e; cases e
   ·have rows: ∀(rs:List Rw) (ps:List Addr),eM H rs ps->b∈ps->False:=fun rs ps hr hp=>by
     obtain⟨i,hi⟩:=yi hp;have iI:i < rs.length:=by
      rw[hr.length];exact(ao.mp hi).1
     obtain⟨q,e1,e2⟩:=hr.at iI;rw[e1] at hi;cases hi;rw[e2] at e;cases e
    rcases bb.mp hb with hb|hb
    ·exact rows _ _ h.rb hb
    ·exact rows _ _ h.rc hb) e
def Frame.lO {fp:List Addr}{H1 H2 H3:Hp}(a:aG H1 H2)(b:Frame fp H2 H3):Frame fp H1 H3:=fun x o hx e=>b x o hx (a x o e)
def Frame.cI {fp:List Addr}{H1 H2 H3:Hp}(a:Frame fp H1 H2)(b:aG H2 H3):Frame fp H1 H3:=fun x o hx e=>b x o (a x o hx e)
def Frame.tr {fp:List Addr}{H1 H2 H3:Hp}(a:Frame fp H1 H2)(b:Frame fp H2 H3):Frame fp H1 H3:=fun x o hx e=>b x o hx (a x o hx e)
def K9.dt:K9->Dt
 | .int i=> .int i
 | .txt s=> .str s
 | .sets l=> .lst (l.map fun t=> .tup [.int t.1,.int t.2.1,.int t.2.2])
 | .pairs l=> .lst (l.map fun t=> .tup [.int t.1,.int t.2])
 | .ints l=> .lst (l.map Dt.int)
def gy.Um {H:Hp}: ∀{ms:List (Nat×Nat×Int)} {vs:List V},gy H ms vs->iy H (ms.map fun t=> .tup [.int t.1,.int t.2.1,.int t.2.2]) vs
 |_,_,.nil=>dJ.mpr rfl
 |_,_,.cons ⟨p,e,q⟩ t=>by
  subst e;exact bQ.mpr ⟨_,_,rfl,fM q (bQ.mpr ⟨_,_,rfl,d9.mpr rfl,bQ.mpr ⟨_,_,rfl,d9.mpr rfl,bQ.mpr ⟨_,_,rfl,d9.mpr rfl,dJ.mpr rfl⟩⟩⟩),gy.Um t⟩
def fj.g8 (f:fj)(p:Addr):fj:={f with ip:=f.ip ++ [p]}
def fj.fF (f:fj)(p:Addr):fj:={f with cps:=f.cps ++ [p]}
def fj.IP (f:fj)(p:Addr):(f.g8 p).fp.Perm (p :: f.fp):=by
 show(f.pb :: f.pc :: f.pm :: ((f.ip ++ [p]) ++ f.cps)).Perm (p :: f.pb :: f.pc :: f.pm :: (f.ip ++ f.cps));have h:((f.ip ++ [p]) ++ f.cps).Perm (p :: (f.ip ++ f.cps)):=by
  rw[gi];exact List.perm_middle
 exact(((h.cons f.pm).trans (List.Perm.swap _ _ _)).cons f.pc |>.trans (List.Perm.swap _ _ _)).cons f.pb |>.trans (List.Perm.swap _ _ _)
def fj.EH (f:fj)(p:Addr):(f.fF p).fp.Perm (p :: f.fp):=by
 show(f.pb :: f.pc :: f.pm :: (f.ip ++ (f.cps ++ [p]))).Perm (p :: f.pb :: f.pc :: f.pm :: (f.ip ++ f.cps));have h:(f.ip ++ (f.cps ++ [p])).Perm (p :: (f.ip ++ f.cps)):=by
  rw[← gi];exact List.perm_append_singleton _ _
 exact(((h.cons f.pm).trans (List.Perm.swap _ _ _)).cons f.pc |>.trans (List.Perm.swap _ _ _)).cons f.pb |>.trans (List.Perm.swap _ _ _)
def de.off {H:Hp}{sd D:Addr}{S:Bk}{f:fj}(h:de H sd S f)(n:H D=none):D∉f.fp:=fun z=>by
 obtain⟨ms,m1,_⟩:=h.hm;have rows: ∀(rs:List Rw) (ps:List Addr),eM H rs ps->D∈ps->False:=fun rs ps hr hp=>by
  obtain⟨i,hi⟩:=yi hp;have iI:i < rs.length:=by
   rw[hr.length];exact(ao.mp hi).1
  obtain⟨q,e1,e2⟩:=hr.at iI;rw[e1] at hi;cases hi;rw[n] at e2;cases e2
 unfold fj.fp at z;rcases av.mp z with rfl|z
 ·have:=h.hb; rw[n] at this; cases this
 rcases av.mp z with rfl|z
 ·have:=h.hc; rw[n] at this; cases this
 rcases av.mp z with rfl|z
 ·rw[n] at m1; cases m1
 rcases bb.mp z with z|z
 ·exact rows _ _ h.rb z
 ·exact rows _ _ h.rc z
section
variable {H:Hp}{sd pr:Addr}{S:Bk}{f:fj}{r:Rw}
def de.g8 (h:de H sd S f)(n:H pr=none):de (upd (upd H pr (.lst r.vs)) f.pb (.lst (f.ip.map V.ref ++ [.ref pr]))) sd (S.g8 r) (f.g8 pr):=by
 have s1:aG H (upd H pr (.lst r.vs)):=aG.new n;have h1:=h.same s1;have g1:upd H pr (.lst r.vs) pr=some (.lst r.vs):=ag;have np:=h.off n;have Ls:sd≠pr:=aI h.dict n;generalize upd H pr (.lst r.vs)=H1 at s1 h1 g1;obtain⟨d1,d2,d3,d4,d5,d6,d7⟩:=fj.Ru h.nd;obtain⟨ms,m1,m2⟩:=h1.hm;have es:sd≠f.pb:=fun z=>h.ns (by rw[z]; simp[fj.fp]);have ep:pr≠f.pb:=fun z=>np (by rw[z]; simp[fj.fp]);refine⟨by rw[az es]; exact h1.dict,?_,by rw[show(f.g8 pr).pc=f.pc from rfl,az d1.symm]; exact h1.hc,⟨ms,by rw[show(f.g8 pr).pm=f.pm from rfl,az d2.symm]; exact m1,m2.mono (fY h1.hb)⟩,?_,?_,?_,?_⟩
 ·show upd H1 f.pb _ f.pb=some (.lst ((f.ip ++ [pr]).map V.ref));rw[ag,aM]; rfl
 ·exact cB (h1.rb.gZ fun z=>(d4 _ z).1 rfl) (by rw[az ep]; exact g1)
 ·exact h1.rc.gZ fun z=>(d5 _ z).1 rfl
 ·exact(f.IP pr).nodup_iff.mpr (dS.mpr ⟨np,h.nd⟩)
 ·intro z;rcases av.mp ((f.IP pr).mem_iff.mp z) with z|z
  ·exact Ls z
  ·exact h.ns z
def de.fF (h:de H sd S f)(n:H pr=none):de (upd (upd H pr (.lst r.vs)) f.pc (.lst (f.cps.map V.ref ++ [.ref pr]))) sd (S.fF r) (f.fF pr):=by
 have s1:aG H (upd H pr (.lst r.vs)):=aG.new n;have h1:=h.same s1;have g1:upd H pr (.lst r.vs) pr=some (.lst r.vs):=ag;have np:=h.off n;have Ls:sd≠pr:=aI h.dict n;generalize upd H pr (.lst r.vs)=H1 at s1 h1 g1;obtain⟨d1,d2,d3,d4,d5,d6,d7⟩:=fj.Ru h.nd;obtain⟨ms,m1,m2⟩:=h1.hm;have es:sd≠f.pc:=fun z=>h.ns (by rw[z]; simp[fj.fp]);have ep:pr≠f.pc:=fun z=>np (by rw[z]; simp[fj.fp]);refine⟨by rw[az es]; exact h1.dict,by rw[show(f.fF pr).pb=f.pb from rfl,az d1]; exact h1.hb,?_,⟨ms,by rw[show(f.fF pr).pm=f.pm from rfl,az d3.symm]; exact m1,m2.mono (fY h1.hc)⟩,?_,?_,?_,?_⟩
 ·show upd H1 f.pc _ f.pc=some (.lst ((f.cps ++ [pr]).map V.ref));rw[ag,aM]; rfl
 ·exact h1.rb.gZ fun z=>(d4 _ z).2.1 rfl
 ·exact cB (h1.rc.gZ fun z=>(d5 _ z).2.1 rfl) (by rw[az ep]; exact g1)
 ·exact(f.EH pr).nodup_iff.mpr (dS.mpr ⟨np,h.nd⟩)
 ·intro z;rcases av.mp ((f.EH pr).mem_iff.mp z) with z|z
  ·exact Ls z
  ·exact h.ns z
end
structure dO where
 dF:Addr
 dP:Addr
 work:Addr
 book:Addr
 refusal:Addr
 jK:Addr
 px:Addr
 jv:Addr
 iu:Addr
 tooEarly:Addr
 tooMuch:Addr
 jw:Addr
 iL:Addr
def dY (H:Hp)(p C:Addr)(fs:List (Str×V)):Prop:= ∃dx,H p=some (.ins C dx fs)
def dY.same {H H':Hp}{p C:Addr}{fs:List (Str×V)}(h:dY H p C fs)(s:aG H H'):dY H' p C fs:=let⟨dx,e⟩:=h; ⟨dx,s _ _ e⟩
def dY.frame {H H':Hp}{p C:Addr}{fs:List (Str×V)}{fp:List Addr}(h:dY H p C fs)(s:Frame fp H H')(n:p∉fp):dY H' p C fs:=let⟨dx,e⟩:=h; ⟨dx,s _ _ n e⟩
def sC (c:Int):V:=if c= -1 then .dW else .int c
def eX (i:Nat)(r:Rw):List (Str×V):=[("number",.int i),("who",.str r.aK),("day",.int r.a),("due",.int r.b),("amount",.int r.c)]
def eN (i:Nat)(r:Rw):List (Str×V):=[("number",.int i),("who",.str r.aK),("day",.int r.a),("amount",.int r.b),("only",sC r.c)]
section
variable (i:Nat)(r:Rw)
def kX:(eX i r).lookup ("number":Str)=some (V.int i):=by rfl
def Dk:(eX i r).lookup ("who":Str)=some (V.str r.aK):=by rfl
def OC:(eX i r).lookup ("day":Str)=some (V.int r.a):=by rfl
def IQ:(eX i r).lookup ("due":Str)=some (V.int r.b):=by rfl
def nI:(eN i r).lookup ("number":Str)=some (V.int i):=by rfl
def IS:(eN i r).lookup ("who":Str)=some (V.str r.aK):=by rfl
def IT:(eN i r).lookup ("day":Str)=some (V.int r.a):=by rfl
def Lu:(eN i r).lookup ("only":Str)=some (sC r.c):=by rfl
end
structure eA where
 pb:Addr
 pc:Addr
 pl:Addr
 pf:Addr
 pm:Addr
 ip:List Addr
 cps:List Addr
def eA.fp (f:eA):List Addr:=[f.pb,f.pc,f.pl,f.pf,f.pm]
def kY (f:eA):List (Str×V):=[("bills",.ref f.pb),("all_credits",.ref f.pc),("lefts",.ref f.pl),("frees",.ref f.pf),("made",.ref f.pm)]
def iY (f:eA):(kY f).lookup ("bills":Str)=some (V.ref f.pb):=by rfl
def gS (f:eA):(kY f).lookup ("all_credits":Str)=some (V.ref f.pc):=by rfl
def kZ (f:eA):(kY f).lookup ("lefts":Str)=some (V.ref f.pl):=by rfl
def k4 (f:eA):(kY f).lookup ("frees":Str)=some (V.ref f.pf):=by rfl
def yX (f:eA):(kY f).lookup ("made":Str)=some (V.ref f.pm):=by rfl
def fZ (H:Hp)(C:Addr)(fs:Nat->Rw->List (Str×V))(rows:List Rw)(ps:List Addr):Prop:=ps.length=rows.length/\ ∀i p,ps[i]? =some p->dY H p C (fs i (rows.getD i default))
def fZ.keep {H H':Hp}{C:Addr}{fs:Nat->Rw->List (Str×V)}{rows:List Rw}{ps:List Addr}(h:fZ H C fs rows ps)(k: ∀p dx gs,H p=some (.ins C dx gs)->H' p=some (.ins C dx gs)):fZ H' C fs rows ps:=
 ⟨h.1,fun i p e=>let⟨dx,z⟩:=h.2 i p e; ⟨dx,k _ _ _ z⟩⟩
def fZ.get {H:Hp}{C:Addr}{fs:Nat->Rw->List (Str×V)}{rows:List Rw}{ps:List Addr}(h:fZ H C fs rows ps){i:Nat}(hi:i < rows.length): ∃p,ps[i]? =some p/\dY H p C (fs i (rows.getD i default)):=by
 have iI:i < ps.length:=by rw[h.1]; exact hi
 exact⟨ps[i],af iI,h.2 i _ (af iI)⟩
def fZ.rows {H:Hp}{C:Addr}{fs:Nat->Rw->List (Str×V)}{rows ig:List Rw}{ps:List Addr}(h:fZ H C fs rows ps)(hl:ig.length=rows.length)(e: ∀i,fs i (ig.getD i default)=fs i (rows.getD i default)):fZ H C fs ig ps:=
 ⟨h.1.trans hl.symm,fun i p z=>by rw[e]; exact h.2 i p z⟩
def fZ.add {H:Hp}{C p:Addr}{fs:Nat->Rw->List (Str×V)}{rows:List Rw}{r:Rw}{ps:List Addr}(h:fZ H C fs rows ps)(n:dY H p C (fs rows.length r)):fZ H C fs (rows ++ [r]) (ps ++ [p]):=by
 refine⟨by rw[aF,aF,h.1]; rfl,fun i q e=>?_⟩;by_cases hi:i < ps.length
 ·rw[Nd hi] at e;rw[getD_snoc (by rw[← h.1]; exact hi)];exact h.2 i q e
 ·rw[oP (by lia)] at e;have e0:i - ps.length=0:=by
   have:=(ao.mp e).1;simp at this;lia
  rw[e0] at e;obtain rfl:p=q:=by simpa using e
  obtain rfl:i=rows.length:=by have:=h.1; lia
  rw[getD_last];exact n
structure dr (A:dO)(H:Hp)(pw:Addr)(S:Bk)(f:eA):Prop where
 obj:dY H pw A.work (kY f)
 hb:H f.pb=some (.lst (f.ip.map V.ref))
 hc:H f.pc=some (.lst (f.cps.map V.ref))
 hl:H f.pl=some (.lst (S.aC.map fun r=>V.int r.d))
 hf:H f.pf=some (.lst (S.credits.map fun r=>V.int r.d))
 hm: ∃ms,H f.pm=some (.lst ms)/\gy H S.made ms
 rb:fZ H A.dF eX S.aC f.ip
 rc:fZ H A.dP eN S.credits f.cps
 nd:f.fp.Nodup
section
variable {A:dO}{H H':Hp}{pw:Addr}{S:Bk}{f:eA}
def dr.lists (h:dr A H pw S f): ∀p∈f.fp,∃xs,H p=some (.lst xs):=fun p hp=>by
 obtain⟨ms,m1,_⟩:=h.hm;simp only[eA.fp,List.mem_cons,List.not_mem_nil,or_false] at hp;rcases hp with rfl|rfl|rfl|rfl|rfl
 ·exact⟨_,h.hb⟩
 ·exact⟨_,h.hc⟩
 ·exact⟨_,h.hl⟩
 ·exact⟨_,h.hf⟩
 ·exact⟨_,m1⟩
def dr.off (h:dr A H pw S f){p:Addr}(n: ∀xs,H p≠some (.lst xs)):p∉f.fp:=fun z=>by
 obtain⟨xs,e⟩:=h.lists p z;exact n xs e
def dr.new (h:dr A H pw S f){p:Addr}(n:H p=none):p∉f.fp:=h.off fun xs e=>by rw[n] at e; cases e
def dr.ins (h:dr A H pw S f){p C:Addr}{fs:List (Str×V)}(n:dY H p C fs):p∉f.fp:=h.off fun xs e=>by
 obtain⟨dx,z⟩:=n;rw[z] at e;cases e
def dr.tk (h:dr A H pw S f)(k:Frame f.fp H H'):cA H H':=fun b xs e=>k b _ (h.off fun ys z=>by rw[e] at z; cases z) e
def dr.objs (h:dr A H pw S f)(k:Frame f.fp H H'):dY H' pw A.work (kY f)/\fZ H' A.dF eX S.aC f.ip/\fZ H' A.dP eN S.credits f.cps:=by
 have go: ∀{p C:Addr} {dx:Addr} {gs:List (Str×V)},H p=some (.ins C dx gs)->H' p=some (.ins C dx gs):=fun e=>k _ _ (h.off fun ys z=>by rw[e] at z; cases z) e;exact⟨let⟨dx,e⟩:=h.obj; ⟨dx,go e⟩,h.rb.keep fun _ _ _ e=>go e,h.rc.keep fun _ _ _ e=>go e⟩
def dr.same (h:dr A H pw S f)(s:aG H H'):dr A H' pw S f:=by
 obtain⟨o1,o2,o3⟩:=h.objs (s.frame (fp:=f.fp));obtain⟨ms,m1,m2⟩:=h.hm;exact⟨o1,s _ _ h.hb,s _ _ h.hc,s _ _ h.hl,s _ _ h.hf,⟨ms,s _ _ m1,m2.mono s.tk⟩,o2,o3,h.nd⟩
def eA.ne (h:f.fp.Nodup):f.pb≠f.pc/\f.pb≠f.pl/\f.pb≠f.pf/\f.pb≠f.pm/\f.pc≠f.pl/\f.pc≠f.pf/\f.pc≠f.pm/\f.pl≠f.pf/\f.pl≠f.pm/\f.pf≠f.pm:=by
 simp only[eA.fp,List.nodup_cons,List.mem_cons,List.not_mem_nil,or_false,not_or] at h;obtain⟨⟨h1,h2,h3,h4⟩,⟨h5,h6,h7⟩,⟨h8,h9⟩,J2,_⟩:=h;exact⟨h1,h2,h3,h4,h5,h6,h7,h8,h9,J2⟩
def xN {rows:List Rw}{i:Nat}{x:Int}:(rows.set i ((rows.getD i default).less x)).map (fun r=>V.int r.d)=(rows.map fun r=>V.int r.d).set i (.int ((rows.getD i default).d - x)):=by
 rw[vO]; rfl
def dr.put (h:dr A H pw S f){c b:Nat}{x:Int}{ms:List V}{p:Addr}(hc:c < S.credits.length)(hb:b < S.aC.length)(m1:H f.pm=some (.lst ms))(m2:gy H S.made ms)(np:H p=none):
  dr A (upd (upd (upd (upd H f.pf (.lst ((S.credits.map fun r=>V.int r.d).set c (.int ((S.cr c).d - x))))) f.pl (.lst ((S.aC.map fun r=>V.int r.d).set b (.int ((S.bl b).d - x))))) p (.tup [.int c,.int b,.int x])) f.pm (.lst (ms ++ [.ref p]))) pw (S.put c b x) f/\
  Frame f.fp H (upd (upd (upd (upd H f.pf (.lst ((S.credits.map fun r=>V.int r.d).set c (.int ((S.cr c).d - x))))) f.pl (.lst ((S.aC.map fun r=>V.int r.d).set b (.int ((S.bl b).d - x))))) p (.tup [.int c,.int b,.int x])) f.pm (.lst (ms ++ [.ref p]))):=by
 obtain⟨e1,e2,e3,e4,e5,e6,e7,e8,e9,ML⟩:=eA.ne h.nd;have pf: ∀q∈f.fp,q≠p:=fun q hq z=>h.new np (z▸hq);have i1:f.pb∈f.fp:=by simp[eA.fp]
 have i2:f.pc∈f.fp:=by simp[eA.fp]
 have i3:f.pl∈f.fp:=by simp[eA.fp]
 have i4:f.pf∈f.fp:=by simp[eA.fp]
 have i5:f.pm∈f.fp:=by simp[eA.fp]
 have t3: ∀(G:Hp) (q:Addr),q≠f.pf->q≠f.pl->q≠p->q≠f.pm-> ∀(a b c d:HO),upd (upd (upd (upd G f.pf a) f.pl b) p c) f.pm d q=G q:=fun G q h1 h2 h3 h4 a b c d=>by
  rw[az h4,az h3,az h2,az h1]
 have F:Frame f.fp H (upd (upd (upd (upd H f.pf (.lst ((S.credits.map fun r=>V.int r.d).set c (.int ((S.cr c).d - x))))) f.pl (.lst ((S.aC.map fun r=>V.int r.d).set b (.int ((S.bl b).d - x))))) p (.tup [.int c,.int b,.int x])) f.pm (.lst (ms ++ [.ref p]))):=fun q o hq e=>by
  rw[t3 H q (fun z=>hq (z▸i4)) (fun z=>hq (z▸i3)) (aI e np) (fun z=>hq (z▸i5))];exact e
 refine⟨?_,F⟩;obtain⟨o1,o2,o3⟩:=h.objs F;have tk:=h.tk F;refine⟨o1,by rw[t3 H _ e3 e2 (pf _ i1) e4]; exact h.hb,by rw[t3 H _ e6 e5 (pf _ i2) e7]; exact h.hc,?_,?_,⟨_,ag,?_⟩,?_,?_,h.nd⟩
 ·rw[az e9,az (pf _ i3),ag];show _ =some (HO.lst ((S.aC.set b ((S.aC.getD b default).less x)).map fun r=>V.int r.d));rw[xN]; rfl
 ·rw[az ML,az (pf _ i4),az e8.symm,ag];show _ =some (HO.lst ((S.credits.set c ((S.credits.getD c default).less x)).map fun r=>V.int r.d));rw[xN]; rfl
 ·refine cB (m2.mono tk) ⟨p,rfl,?_⟩;rw[az (pf _ i5).symm,ag]
 ·refine o2.rows dz fun i=>?_;show eX i ((S.put c b x).bl i)=eX i (S.bl i);rw[mE hb];split
  ·rename_i z; subst z; rfl
  ·rfl
 ·refine o3.rows dz fun i=>?_;show eN i ((S.put c b x).cr i)=eN i (S.cr i);rw[o6 hc];split
  ·rename_i z; subst z; rfl
  ·rfl
end
end L2
namespace eD
open PySem L2 PyProof.Rows Ka
def Lv:Stmt->List Stmt
 | .ClassDef _ _ _ b _ _ _ _ _ _ _=>b
 |_=>[]
def mem (i j:Nat):Stmt:=(Lv (top i)).getD j (.Pass ⟨0,0,0,0⟩)
structure jl (K:Frag)(mg:Str->Option Value)(A:dO):Prop where
 fG:mg "Refusal"=some (.ref A.refusal)
 Dl:gI K A.refusal A.refusal
 OD:keepIn K (.ref A.refusal)=true
 f7: ∃f fd,fV K "__init__" "Refusal.__init__" (mem 3 0) f fd/\EB K A.refusal f
 Bj:mg "NoCredit"=some (.ref A.jK)
 sD:gI K A.jK A.refusal
 Bl:keepIn K (.ref A.jK)=true
 Bm: ∃f fd,fV K "__init__" "NoCredit.__init__" (mem 4 0) f fd/\findIn K (.ref A.jK) "__init__"=some (some (.ref f))/\typeIn K (.ref f)=some (.type "function")
 Gj:mg "NoBill"=some (.ref A.px)
 xO:gI K A.px A.refusal
 Gk:keepIn K (.ref A.px)=true
 Gm: ∃f fd,fV K "__init__" "NoBill.__init__" (mem 5 0) f fd/\findIn K (.ref A.px) "__init__"=some (some (.ref f))/\typeIn K (.ref f)=some (.type "function")
 yY:mg "NotTheirs"=some (.ref A.jv)
 qy:gI K A.jv A.refusal
 yZ:keepIn K (.ref A.jv)=true
 y0: ∃f fd,fV K "__init__" "NotTheirs.__init__" (mem 6 0) f fd/\findIn K (.ref A.jv) "__init__"=some (some (.ref f))/\typeIn K (.ref f)=some (.type "function")
 Bn:mg "NoAmount"=some (.ref A.iu)
 ka:gI K A.iu A.refusal
 Bo:keepIn K (.ref A.iu)=true
 Bp: ∃f fd,fV K "__init__" "NoAmount.__init__" (mem 7 0) f fd/\findIn K (.ref A.iu) "__init__"=some (some (.ref f))/\typeIn K (.ref f)=some (.type "function")
 Bq:mg "TooEarly"=some (.ref A.tooEarly)
 sE:gI K A.tooEarly A.refusal
 Br:keepIn K (.ref A.tooEarly)=true
 Bs: ∃f fd,fV K "__init__" "TooEarly.__init__" (mem 8 0) f fd/\findIn K (.ref A.tooEarly) "__init__"=some (some (.ref f))/\typeIn K (.ref f)=some (.type "function")
 uV:mg "TooMuch"=some (.ref A.tooMuch)
 pz:gI K A.tooMuch A.refusal
 Dm:keepIn K (.ref A.tooMuch)=true
 Dn: ∃f fd,fV K "__init__" "TooMuch.__init__" (mem 9 0) f fd/\findIn K (.ref A.tooMuch) "__init__"=some (some (.ref f))/\typeIn K (.ref f)=some (.type "function")
 y1:mg "NoSetting"=some (.ref A.jw)
 qz:gI K A.jw A.refusal
 y2:keepIn K (.ref A.jw)=true
 y3: ∃f fd,fV K "__init__" "NoSetting.__init__" (mem 10 0) f fd/\findIn K (.ref A.jw) "__init__"=some (some (.ref f))/\typeIn K (.ref f)=some (.type "function")
 xP:mg "Needed"=some (.ref A.iL)
 xQ:gI K A.iL A.refusal
 Gn:keepIn K (.ref A.iL)=true
 Gp: ∃f fd,fV K "__init__" "Needed.__init__" (mem 11 0) f fd/\findIn K (.ref A.iL) "__init__"=some (some (.ref f))/\typeIn K (.ref f)=some (.type "function")
 Lw:mg "Bill"=some (.ref A.dF)
 dQ:vT K A.dF
 eE:bY K A.dF "number"
 kb:bY K A.dF "who"
 mJ:bY K A.dF "day"
 mK:bY K A.dF "due"
 mL:bY K A.dF "amount"
 Lx: ∃f fd,fV K "__init__" "Bill.__init__" (mem 13 0) f fd/\Mk K A.dF f
 Gq:mg "Credit"=some (.ref A.dP)
 cV:vT K A.dP
 eB:bY K A.dP "number"
 kC:bY K A.dP "who"
 iP:bY K A.dP "day"
 k6:bY K A.dP "amount"
 jL:bY K A.dP "only"
 Gr: ∃f fd,fV K "__init__" "Credit.__init__" (mem 14 0) f fd/\Mk K A.dP f
 Ly:mg "Work"=some (.ref A.work)
 bw:vT K A.work
 dM:bY K A.work "bills"
 cw:bY K A.work "all_credits"
 eY:bY K A.work "lefts"
 eZ:bY K A.work "frees"
 jm:bY K A.work "made"
 Lz: ∃f fd,fV K "__init__" "Work.__init__" (mem 25 0) f fd/\Mk K A.work f
 qA: ∃f fd,fV K "tell_bill" "Work.tell_bill" (mem 25 1) f fd/\Meth K A.work "tell_bill" f
 mM: ∃f fd,fV K "tell_payment" "Work.tell_payment" (mem 25 2) f fd/\Meth K A.work "tell_payment" f
 qB: ∃f fd,fV K "tell_note" "Work.tell_note" (mem 25 3) f fd/\Meth K A.work "tell_note" f
 oa: ∃f fd,fV K "tell_credit" "Work.tell_credit" (mem 25 4) f fd/\Meth K A.work "tell_credit" f
 og: ∃f fd,fV K "set_by_hand" "Work.set_by_hand" (mem 25 5) f fd/\Meth K A.work "set_by_hand" f
 wy: ∃f fd,fV K "sweep" "Work.sweep" (mem 25 6) f fd/\Meth K A.work "sweep" f
 qC: ∃f fd,fV K "one_round" "Work.one_round" (mem 25 7) f fd/\Meth K A.work "one_round" f
 Bt: ∃f fd,fV K "put" "Work.put" (mem 25 8) f fd/\Meth K A.work "put" f
 qD: ∃f fd,fV K "credit_at" "Work.credit_at" (mem 25 9) f fd/\Meth K A.work "credit_at" f
 sX: ∃f fd,fV K "bill_at" "Work.bill_at" (mem 25 10) f fd/\Meth K A.work "bill_at" f
 LA:mg "Book"=some (.ref A.book)
 eh:vT K A.book
 gu:bY K A.book "kept"
 fH:bY K A.book "work"
 LB: ∃f fd,fV K "__init__" "Book.__init__" (mem 29 0) f fd/\Mk K A.book f
 Dp: ∃f fd,fV K "do" "Book.do" (mem 29 1) f fd/\Meth K A.book "do" f
 y4: ∃f fd,fV K "undo" "Book.undo" (mem 29 2) f fd/\Meth K A.book "undo" f
 rM: ∃f fd,fV K "in_force" "Book.in_force" (mem 29 3) f fd/\Meth K A.book "in_force" f
end eD
namespace L2
open PySem PySem.Spec PySem.W PyProof.Rows Ka
structure gJ (CX:Eb)(P:Program)(w:World)(K:Frag)(mg:Str->Option Value)(base:Heap)(C:Addr)(m:Str)(k:Nat)(ps:List Str)(sp:Sp):Prop where
 ex: ∃(f:Addr) (fd:FuncData),vT K C/\Meth K C m f/\lB P w K mg base CX k f fd ps sp/\Binds K fd ps []
structure uW (P:Program)(w:World)(K:Frag)(mg:Str->Option Value)(base:Heap)(x:Str)(k:Nat)(ps:List Str)(sp:Sp):Prop where
 ex: ∃(f:Addr) (fd:FuncData),lB P w K mg base (ma P w mg) k f fd ps sp/\mg x=some (.ref f)/\keepIn K (.ref f)=true/\Binds K fd ps []
structure sY (P:Program)(w:World)(K:Frag)(mg:Str->Option Value)(base:Heap)(x:Str)(C:Addr)(k:Nat)(ps:List Str)(sp:Sp):Prop where
 ex: ∃(f:Addr) (fd:FuncData),Mk K C f/\lB P w K mg base rC k f fd ps sp/\Binds K fd ps []/\mg x=some (.ref C)
section
variable {X:Cx}{CX:Eb}{C:Addr}{x m:Str}{k:Nat}{ps:List Str}{sp:Sp}{o e:Expr}{es:List Expr}{ta:TE}{t:TA}{p pos apos:Pos}{E:XK}
def mN {pl:Sem Bool}(M:gJ CX X.prog X.w X.K X.mg X.base C m k ps sp)(hr:eL k X.A)(hx:Passes CX X E)(he:PE X o ta)(ha:PA X (e :: es) t)
  (qZ:starEach (e :: es) X.env=(false,eval e X.env) :: starEach es X.env:=by rfl) (gN:(backTo pos (starEach es X.env)).any (·.1)=false:=by rfl)
  (ht:eval (.Call (.Attribute o m apos) (e :: es) [] pos) X.env=(do
   let ov ← eval o X.env
   standAt apos.atName
   let(f,first) ← holding [ov] (getMethod ov m pl)
   callWith pos f first (backTo pos (starEach (e :: es) X.env)) (backToKw pos (keywordEach [] X.env))):=by rfl):
  PE X (.Call (.Attribute o m apos) (e :: es) [] pos) (Mx C m sp [] E ta t):=by
 obtain⟨f,fd,hc,hm,F,hb⟩:=M.ex;exact KI he hc hm F hr hb .nil hx ha qZ gN ht
def rN (M:uW X.prog X.w X.K X.mg X.base x k ps sp)(hr:eL k X.A)(hg:Gl X x)(hx:Passes (ma X.prog X.w X.mg) X E)(ha:PA X (e :: es) t)(qd:(x == ("__debug__":Str))=false:=by decide)
  (he:starEach (e :: es) X.env=(false,eval e X.env) :: starEach es X.env:=by rfl) (gN:(backTo pos (starEach es X.env)).any (·.1)=false:=by rfl):PE X (.Call (.Name x p) (e :: es) [] pos) (ud sp [] E t):=by
 obtain⟨f,fd,F,hm,hk,hb⟩:=M.ex;exact Ed F hr hg hm hk hb .nil hx ha qd he gN
def R0 (M:sY X.prog X.w X.K X.mg X.base x C k ps sp)(hr:eL (k + 1) X.A)(hg:Gl X x)(ha:PA X (e :: es) t)(qd:(x == ("__debug__":Str))=false:=by decide)
  (he:starEach (e :: es) X.env=(false,eval e X.env) :: starEach es X.env:=by rfl) (gN:(backTo pos (starEach es X.env)).any (·.1)=false:=by rfl):PE X (.Call (.Name x p) (e :: es) [] pos) (Ec C sp [] E0 t):=by
 obtain⟨f,fd,hk,F,hb,hm⟩:=M.ex;exact KJ hk F hr hg hm hb .nil mz ha qd he gN
def IU (M:sY X.prog X.w X.K X.mg X.base x C k ps sp)(hr:eL (k + 1) X.A)(hg:Gl X x)(qd:(x == ("__debug__":Str))=false:=by decide):PE X (.Call (.Name x p) [] [] pos) (Ec C sp [] E0 AJ):=by
 obtain⟨f,fd,hk,F,hb,hm⟩:=M.ex;exact HG hk F hr hg hm hb .nil mz qd
end
section
variable {P:Program}{w:World}{K:Frag}{mg:Str->Option Value}{base:Heap}{C:Addr}{x m qual:Str}{st:Stmt}{N ps:List Str}{k:Nat}{sp:Sp}
def LC (D: ∃f fd,fV K m qual st f fd/\Meth K C m f)(hc:vT K C)(S:aO N ps (ay st))
  (fL: ∀(f:Addr) (cM:Value) (A:Around) (outer:List Env) (s:Shared) (H:Hp) (vs:List V) (Q:VK) (E:XK),eL k (A.deeper (envOfC qual (ay st) s.heap.objs.size f cM))->sp vs H Q E->
   ∃t,oq (kz rC P w K mg base N qual (ay st) f cM A outer s H E).CJ (dj st) t/\t {nx:=fun _ H'=>Q .dW H',rt:=Q} (start N vs) H)
  (hb: ∀(kV doc pm:Value) (an:Option Addr) (cM ct:Value) (us:List Value),us.length=ps.length->bindArgs (fnOf m qual (gr st) (dj st) (ay st) .none kV doc pm an cM ct) ⟨us,[]⟩=pure (ps.zip us):=by intro _ _ _ _ _ _ us hl; rcases us with _|⟨_,_|⟨_,_|⟨_,_|⟨_,_|⟨_,_|⟨_,_|⟨_,_⟩⟩⟩⟩⟩⟩⟩ <;> first|(cases hl; done)|rfl)
  (len: ∀vs H Q E,sp vs H Q E->vs.length=ps.length:=by intro _ _ _ _ h; first|(cases h; subst_vars; rfl)|(repeat (first|(obtain⟨rfl,_⟩:=h; rfl; done)|obtain⟨_,h⟩:=h))):gJ rC P w K mg base C m (k + 1) ps sp:=by
 obtain⟨f,fd,F,hm⟩:=D;exact⟨f,fd,hc,hm,F.ok S len (fL f),F.binds hb⟩
def qE (D: ∃f fd,fV K m qual st f fd/\Meth K C m f)(hc:vT K C)(S:aO N ps (ay st))
  (fL: ∀(f:Addr) (cM:Value) (A:Around) (outer:List Env) (s:Shared) (H:Hp) (vs:List V) (Q:VK) (E:XK),eL k (A.deeper (envOfC qual (ay st) s.heap.objs.size f cM))->P5 (kz (ma P w mg) P w K mg base N qual (ay st) f cM A outer s H E) E->sp vs H Q E->
   ∃t,oq (kz (ma P w mg) P w K mg base N qual (ay st) f cM A outer s H E) (dj st) t/\t {nx:=fun _ H'=>Q .dW H',rt:=Q} (start N vs) H)
  (hb: ∀(kV doc pm:Value) (an:Option Addr) (cM ct:Value) (us:List Value),us.length=ps.length->bindArgs (fnOf m qual (gr st) (dj st) (ay st) .none kV doc pm an cM ct) ⟨us,[]⟩=pure (ps.zip us):=by intro _ _ _ _ _ _ us hl; rcases us with _|⟨_,_|⟨_,_|⟨_,_|⟨_,_|⟨_,_|⟨_,_|⟨_,_⟩⟩⟩⟩⟩⟩⟩ <;> first|(cases hl; done)|rfl)
  (len: ∀vs H Q E,sp vs H Q E->vs.length=ps.length:=by intro _ _ _ _ h; first|(cases h; subst_vars; rfl)|(repeat (first|(obtain⟨rfl,_⟩:=h; rfl; done)|obtain⟨_,h⟩:=h))):gJ (ma P w mg) P w K mg base C m (k + 1) ps sp:=by
 obtain⟨f,fd,F,hm⟩:=D;exact⟨f,fd,hc,hm,F.YI S len (fL f),F.binds hb⟩
def OE (D:Df K mg x st)(S:aO N ps (ay st))
  (fL: ∀(f:Addr) (cM:Value) (A:Around) (outer:List Env) (s:Shared) (H:Hp) (vs:List V) (Q:VK) (E:XK),eL k (A.deeper (envOfC x (ay st) s.heap.objs.size f cM))->P5 (kz (ma P w mg) P w K mg base N x (ay st) f cM A outer s H E) E->sp vs H Q E->
   ∃t,oq (kz (ma P w mg) P w K mg base N x (ay st) f cM A outer s H E) (dj st) t/\t {nx:=fun _ H'=>Q .dW H',rt:=Q} (start N vs) H)
  (hb: ∀(kV doc pm:Value) (an:Option Addr) (cM ct:Value) (us:List Value),us.length=ps.length->bindArgs (fnOf x x (gr st) (dj st) (ay st) .none kV doc pm an cM ct) ⟨us,[]⟩=pure (ps.zip us):=by intro _ _ _ _ _ _ us hl; rcases us with _|⟨_,_|⟨_,_|⟨_,_|⟨_,_|⟨_,_|⟨_,_|⟨_,_⟩⟩⟩⟩⟩⟩⟩ <;> first|(cases hl; done)|rfl)
  (len: ∀vs H Q E,sp vs H Q E->vs.length=ps.length:=by intro _ _ _ _ h; first|(cases h; subst_vars; rfl)|(repeat (first|(obtain⟨rfl,_⟩:=h; rfl; done)|obtain⟨_,h⟩:=h))):uW P w K mg base x (k + 1) ps sp:=by
 obtain⟨f,fd,F,hm⟩:=D.ex;exact⟨f,fd,F.YI S len (fL f),hm,F.kp,F.binds hb⟩
def LD (D: ∃f fd,fV K "__init__" qual st f fd/\Mk K C f)(hm:mg x=some (.ref C))(S:aO N ps (ay st))
  (fL: ∀(f:Addr) (cM:Value) (A:Around) (outer:List Env) (s:Shared) (H:Hp) (vs:List V) (Q:VK) (E:XK),eL k (A.deeper (envOfC qual (ay st) s.heap.objs.size f cM))->sp vs H Q E->
   ∃t,oq (kz rC P w K mg base N qual (ay st) f cM A outer s H E).CJ (dj st) t/\t {nx:=fun _ H'=>Q .dW H',rt:=Q} (start N vs) H)
  (hb: ∀(kV doc pm:Value) (an:Option Addr) (cM ct:Value) (us:List Value),us.length=ps.length->bindArgs (fnOf "__init__" qual (gr st) (dj st) (ay st) .none kV doc pm an cM ct) ⟨us,[]⟩=pure (ps.zip us):=by intro _ _ _ _ _ _ us hl; rcases us with _|⟨_,_|⟨_,_|⟨_,_|⟨_,_|⟨_,_|⟨_,_|⟨_,_⟩⟩⟩⟩⟩⟩⟩ <;> first|(cases hl; done)|rfl)
  (len: ∀vs H Q E,sp vs H Q E->vs.length=ps.length:=by intro _ _ _ _ h; first|(cases h; subst_vars; rfl)|(repeat (first|(obtain⟨rfl,_⟩:=h; rfl; done)|obtain⟨_,h⟩:=h))):sY P w K mg base x C (k + 1) ps sp:=by
 obtain⟨f,fd,F,hk⟩:=D;exact⟨f,fd,hk,F.ok S len (fL f),F.binds hb,hm⟩
end
end L2
namespace eD
open PySem L2 PyProof.Rows Ka
seal L2.oq L2.PS L2.PE L2.PT L2.PW L2.PA L2.PC L2.PG L2.Hr L2.PI L2.KU L2.JZ L2.PO L2.nW L2.Mw L2.gE L2.HL L2.My
section
variable {P:Program}{w:World}{K:Frag}{mg:Str->Option Value}{base:Heap}
def Gs {H:Hp}{e dx:Addr}{a b c:HO}(h:dx≠e):upd (upd (upd H e a) dx b) e c=upd (upd H dx b) e c:=by
 funext q
 by_cases h1:q=e
 ·rw[h1,ag,ag]
 ·rw[az h1,az h1];by_cases h2:q=dx
  ·rw[h2,ag,ag]
  ·rw[az h2,az h2,az h1]
inductive MM (K:Frag)(vs:List V)(H:Hp)(Q:VK)(E':XK):Prop
 |mk (e C R t0:Addr)(txt:Str)(h1:vs=[.ref e,.str txt])(h2:H e=some (xo e C none (v0 t0)))(h3:gI K C R)(h4: ∀dx t',H dx=none->Q .dW (upd (upd H dx (.xd [("text",.str txt)])) e (xo e C (some dx) (v0 t')))):MM K vs H Q E'
def Dq:aO ["self","text"] ["self","text"] (ay (mem 3 0)):={}
def f9 (T:Txt K mg){f:Addr}{fd:FuncData}(F:fV K "__init__" "Refusal.__init__" (mem 3 0) f fd):RG P w K mg base 1 f fd ["self","text"] (MM K):=by
 refine lM (k:=0) F Dq (fun vs H Q E h=>?_) (fun cM A outer s H vs Q E hr h=>?_)
 ·obtain⟨e,C,R,t0,txt,rfl,_⟩:=h;rfl
 ·obtain⟨e,C,R,t0,txt,rfl,he,ek,k⟩:=h;refine⟨_,(ah (bG (Iz rfl T.Bf (aa (pv 0) (aa (pv 1) aw)))) (au (Lj (pv 0) (pv 1) rfl))),?_⟩;refine⟨_,rfl,_,rfl,e,C,R,t0,none,v0 t0,_,rfl,he,ek,rfl,fun t'=>?_⟩;refine⟨_,rfl,_,rfl,e,C,R,v0 t',rfl,ag,ek,fun dx IV=>?_⟩;have ne:dx≠e:=fun z=>by rw[z,ag] at IV; cases IV
  rw[az ne] at IV;have q:=k dx t' IV;rw[← Gs (a:=xo e C none (v0 t')) ne] at q;exact q
def Bu:aO ["self"] ["self"] (ay (mem 4 0)):={}
def Bv (T:Txt K mg){A:dO}(G:jl K mg A):IA P w K mg base 2 "NoCredit" A.jK A.refusal "no credit":=by
 obtain⟨f,fd,F,hi,ht⟩:=G.Bm;obtain⟨f0,OF,F0,ik⟩:=G.f7;refine⟨G.Bj,G.sD,G.Bl,f,fd,hi,ht,?_,F.binds (fun _ _ _ _ _ _ us hl=>match us,hl with|[_],_=>rfl)⟩;refine lM (k:=1) F Bu (fun vs H Q E h=>?_) (fun cM A' outer s H vs Q E hr h=>?_)
 ·obtain⟨e,C,R,t0,rfl,_⟩:=h;rfl
 ·obtain⟨e,C,R,t0,rfl,he,ek,k⟩:=h;refine⟨_,(au (bG (iW ik (f9 T F0) hr (F0.binds (fun _ _ _ _ _ _ us hl=>match us,hl with|[_,_],_=>rfl)) rfl G.fG (aa (pv 0) (aa aN aw))))),?_⟩;exact⟨_,rfl,e,C,R,t0,_,rfl,he,ek,fun dx t' n=>k dx t' n⟩
def Gu:aO ["self"] ["self"] (ay (mem 5 0)):={}
def Gv (T:Txt K mg){A:dO}(G:jl K mg A):IA P w K mg base 2 "NoBill" A.px A.refusal "no bill":=by
 obtain⟨f,fd,F,hi,ht⟩:=G.Gm;obtain⟨f0,OF,F0,ik⟩:=G.f7;refine⟨G.Gj,G.xO,G.Gk,f,fd,hi,ht,?_,F.binds (fun _ _ _ _ _ _ us hl=>match us,hl with|[_],_=>rfl)⟩;refine lM (k:=1) F Gu (fun vs H Q E h=>?_) (fun cM A' outer s H vs Q E hr h=>?_)
 ·obtain⟨e,C,R,t0,rfl,_⟩:=h;rfl
 ·obtain⟨e,C,R,t0,rfl,he,ek,k⟩:=h;refine⟨_,(au (bG (iW ik (f9 T F0) hr (F0.binds (fun _ _ _ _ _ _ us hl=>match us,hl with|[_,_],_=>rfl)) rfl G.fG (aa (pv 0) (aa aN aw))))),?_⟩;exact⟨_,rfl,e,C,R,t0,_,rfl,he,ek,fun dx t' n=>k dx t' n⟩
def y6:aO ["self"] ["self"] (ay (mem 6 0)):={}
def y7 (T:Txt K mg){A:dO}(G:jl K mg A):IA P w K mg base 2 "NotTheirs" A.jv A.refusal "not theirs":=by
 obtain⟨f,fd,F,hi,ht⟩:=G.y0;obtain⟨f0,OF,F0,ik⟩:=G.f7;refine⟨G.yY,G.qy,G.yZ,f,fd,hi,ht,?_,F.binds (fun _ _ _ _ _ _ us hl=>match us,hl with|[_],_=>rfl)⟩;refine lM (k:=1) F y6 (fun vs H Q E h=>?_) (fun cM A' outer s H vs Q E hr h=>?_)
 ·obtain⟨e,C,R,t0,rfl,_⟩:=h;rfl
 ·obtain⟨e,C,R,t0,rfl,he,ek,k⟩:=h;refine⟨_,(au (bG (iW ik (f9 T F0) hr (F0.binds (fun _ _ _ _ _ _ us hl=>match us,hl with|[_,_],_=>rfl)) rfl G.fG (aa (pv 0) (aa aN aw))))),?_⟩;exact⟨_,rfl,e,C,R,t0,_,rfl,he,ek,fun dx t' n=>k dx t' n⟩
def Bw:aO ["self"] ["self"] (ay (mem 7 0)):={}
def Bx (T:Txt K mg){A:dO}(G:jl K mg A):IA P w K mg base 2 "NoAmount" A.iu A.refusal "no amount":=by
 obtain⟨f,fd,F,hi,ht⟩:=G.Bp;obtain⟨f0,OF,F0,ik⟩:=G.f7;refine⟨G.Bn,G.ka,G.Bo,f,fd,hi,ht,?_,F.binds (fun _ _ _ _ _ _ us hl=>match us,hl with|[_],_=>rfl)⟩;refine lM (k:=1) F Bw (fun vs H Q E h=>?_) (fun cM A' outer s H vs Q E hr h=>?_)
 ·obtain⟨e,C,R,t0,rfl,_⟩:=h;rfl
 ·obtain⟨e,C,R,t0,rfl,he,ek,k⟩:=h;refine⟨_,(au (bG (iW ik (f9 T F0) hr (F0.binds (fun _ _ _ _ _ _ us hl=>match us,hl with|[_,_],_=>rfl)) rfl G.fG (aa (pv 0) (aa aN aw))))),?_⟩;exact⟨_,rfl,e,C,R,t0,_,rfl,he,ek,fun dx t' n=>k dx t' n⟩
def By:aO ["self"] ["self"] (ay (mem 8 0)):={}
def Bz (T:Txt K mg){A:dO}(G:jl K mg A):IA P w K mg base 2 "TooEarly" A.tooEarly A.refusal "too early":=by
 obtain⟨f,fd,F,hi,ht⟩:=G.Bs;obtain⟨f0,OF,F0,ik⟩:=G.f7;refine⟨G.Bq,G.sE,G.Br,f,fd,hi,ht,?_,F.binds (fun _ _ _ _ _ _ us hl=>match us,hl with|[_],_=>rfl)⟩;refine lM (k:=1) F By (fun vs H Q E h=>?_) (fun cM A' outer s H vs Q E hr h=>?_)
 ·obtain⟨e,C,R,t0,rfl,_⟩:=h;rfl
 ·obtain⟨e,C,R,t0,rfl,he,ek,k⟩:=h;refine⟨_,(au (bG (iW ik (f9 T F0) hr (F0.binds (fun _ _ _ _ _ _ us hl=>match us,hl with|[_,_],_=>rfl)) rfl G.fG (aa (pv 0) (aa aN aw))))),?_⟩;exact⟨_,rfl,e,C,R,t0,_,rfl,he,ek,fun dx t' n=>k dx t' n⟩
def Dr:aO ["self"] ["self"] (ay (mem 9 0)):={}
def Ds (T:Txt K mg){A:dO}(G:jl K mg A):IA P w K mg base 2 "TooMuch" A.tooMuch A.refusal "too much":=by
 obtain⟨f,fd,F,hi,ht⟩:=G.Dn;obtain⟨f0,OF,F0,ik⟩:=G.f7;refine⟨G.uV,G.pz,G.Dm,f,fd,hi,ht,?_,F.binds (fun _ _ _ _ _ _ us hl=>match us,hl with|[_],_=>rfl)⟩;refine lM (k:=1) F Dr (fun vs H Q E h=>?_) (fun cM A' outer s H vs Q E hr h=>?_)
 ·obtain⟨e,C,R,t0,rfl,_⟩:=h;rfl
 ·obtain⟨e,C,R,t0,rfl,he,ek,k⟩:=h;refine⟨_,(au (bG (iW ik (f9 T F0) hr (F0.binds (fun _ _ _ _ _ _ us hl=>match us,hl with|[_,_],_=>rfl)) rfl G.fG (aa (pv 0) (aa aN aw))))),?_⟩;exact⟨_,rfl,e,C,R,t0,_,rfl,he,ek,fun dx t' n=>k dx t' n⟩
def zd:aO ["self"] ["self"] (ay (mem 10 0)):={}
def ze (T:Txt K mg){A:dO}(G:jl K mg A):IA P w K mg base 2 "NoSetting" A.jw A.refusal "no setting":=by
 obtain⟨f,fd,F,hi,ht⟩:=G.y3;obtain⟨f0,OF,F0,ik⟩:=G.f7;refine⟨G.y1,G.qz,G.y2,f,fd,hi,ht,?_,F.binds (fun _ _ _ _ _ _ us hl=>match us,hl with|[_],_=>rfl)⟩;refine lM (k:=1) F zd (fun vs H Q E h=>?_) (fun cM A' outer s H vs Q E hr h=>?_)
 ·obtain⟨e,C,R,t0,rfl,_⟩:=h;rfl
 ·obtain⟨e,C,R,t0,rfl,he,ek,k⟩:=h;refine⟨_,(au (bG (iW ik (f9 T F0) hr (F0.binds (fun _ _ _ _ _ _ us hl=>match us,hl with|[_,_],_=>rfl)) rfl G.fG (aa (pv 0) (aa aN aw))))),?_⟩;exact⟨_,rfl,e,C,R,t0,_,rfl,he,ek,fun dx t' n=>k dx t' n⟩
def Gw:aO ["self"] ["self"] (ay (mem 11 0)):={}
def Gx (T:Txt K mg){A:dO}(G:jl K mg A):IA P w K mg base 2 "Needed" A.iL A.refusal "needed":=by
 obtain⟨f,fd,F,hi,ht⟩:=G.Gp;obtain⟨f0,OF,F0,ik⟩:=G.f7;refine⟨G.xP,G.xQ,G.Gn,f,fd,hi,ht,?_,F.binds (fun _ _ _ _ _ _ us hl=>match us,hl with|[_],_=>rfl)⟩;refine lM (k:=1) F Gw (fun vs H Q E h=>?_) (fun cM A' outer s H vs Q E hr h=>?_)
 ·obtain⟨e,C,R,t0,rfl,_⟩:=h;rfl
 ·obtain⟨e,C,R,t0,rfl,he,ek,k⟩:=h;refine⟨_,(au (bG (iW ik (f9 T F0) hr (F0.binds (fun _ _ _ _ _ _ us hl=>match us,hl with|[_,_],_=>rfl)) rfl G.fG (aa (pv 0) (aa aN aw))))),?_⟩;exact⟨_,rfl,e,C,R,t0,_,rfl,he,ek,fun dx t' n=>k dx t' n⟩
def ox (rc rb:Rw)(b:Nat):Bool:=if rc.c= -1 then decide (rc.aK=rb.aK) else decide (rc.c=(b:Int))
def EX (E:XK)(C:Addr)(txt:Str)(H:Hp):Prop:= ∀(dx:Addr) (H':Hp),aG H H'->H dx=none->H' dx=some (.xd [("text",.str txt)])->E (.ref C) (some dx) H'
def EX.at {E:XK}{C dx:Addr}{txt:Str}{H:Hp}(h:EX E C txt H)(n:H dx=none):E (.ref C) (some dx) (upd H dx (.xd [("text",.str txt)])):=h dx _ (aG.new n) n ag
inductive qF (A:dO)(vs:List V)(H:Hp)(Q:VK)(E:XK):Prop
 |mk (a:Int)(h1:vs=[.int a])(h2:(1<=a->Q .dW H))(h3:(a < 1->EX E A.iu "no amount" H)):qF A vs H Q E
def sZ:aO ["amount"] ["amount"] (ay (top 26)):={}
def jM (T:Txt K mg){A:dO}(G:jl K mg A):uW P w K mg base "check_amount" 4 ["amount"] (qF A):=by
 refine OE (k:=3) T.uP sZ (fun f cM A' outer s H vs Q E hr lY h=>?_)
 ·obtain⟨a,rfl,k1,k2⟩:=h;refine⟨_,(au (bO (a0 jA (pv 0) aj (a7 _)) (au (jH lY (Bx T G) hr.h rfl rfl)) bf)),?_⟩;refine⟨_,rfl,_,_,rfl,rfl,_,rfl,cy (fun z=>?_) (fun z=>?_)⟩
  ·exact fun dx n=>(k2 (aX z)).at n
  ·exact k1 (by have: ¬ a < 1:=fun q=>z (aJ q); lia)
inductive zf (A:dO)(vs:List V)(H:Hp)(Q:VK)(E':XK):Prop
 |mk (p q:Addr)(c b:Nat)(rc rb:Rw)(h1:vs=[.ref p,.ref q])(h2:dY H p A.dP (eN c rc))(h3:dY H q A.dF (eX b rb))(h4:Q (.bl (ox rc rb b)) H):zf A vs H Q E'
def LF:aO ["credit","bill"] ["credit","bill"] (ay (top 15)):={}
def IW (T:Txt K mg){A:dO}(G:jl K mg A):eQ P w K mg base "fits" 1 ["credit","bill"] (zf A):=by
 refine T.Ov.fA (k:=0) LF (fun f cM A' outer s H vs Q E hr h=>?_)
 ·obtain⟨p,q,c,b,rc,rb,rfl,⟨dp,hp⟩,⟨dq,hq⟩,k⟩:=h;refine⟨_,(ah (bO (yk (Hq (jJ (pv 0))))
(au (a6 (eG cW (jJ (pv 0)) (jJ (pv 1)) (a7 _))))
bf)
(au (a6 (eG cW (jJ (pv 0)) (jJ (pv 1)) (a7 _))))),?_⟩
  have fo:=Lu c rc;refine⟨_,rfl,p,_,dp,_,_,rfl,hp,G.cV,G.jL,fo,?_⟩;by_cases z:rc.c= -1
  ·have e:sC rc.c= .dW:=aZ z;refine⟨true,by rw[e]; rfl,fe ?_⟩;refine⟨_,rfl,p,_,dp,_,_,rfl,hp,G.cV,G.kC,IS c rc,_,rfl,q,_,dq,_,_,rfl,hq,G.dQ,G.kb,Dk b rb,rfl,?_⟩;have e2:ox rc rb b=decide (V.str rc.aK=V.str rb.aK):=by
    unfold ox;rw[aZ z];exact l7.mpr ⟨fun h=>by rw[h],fun h=>by injection h⟩
   rw[e2] at k;exact k
  ·have e:sC rc.c= .int rc.c:=aL z;refine⟨false,by rw[e]; rfl,bV ?_⟩;rw[e] at fo;refine⟨_,rfl,p,_,dp,_,_,rfl,hp,G.cV,G.jL,fo,_,rfl,q,_,dq,_,_,rfl,hq,G.dQ,G.eE,kX b rb,rfl,?_⟩;have e2:ox rc rb b=decide (V.int rc.c=V.int (b:Int)):=by
    unfold ox;rw[aL z];exact l7.mpr ⟨fun h=>by rw[h],fun h=>by injection h⟩
   rw[e2] at k;exact k
inductive Du (A:dO)(vs:List V)(H:Hp)(Q:VK)(E':XK):Prop
 |mk (p q:Addr)(c b:Nat)(rc rb:Rw)(h1:vs=[.ref p,.ref q])(h2:dY H p A.dP (eN c rc))(h3:dY H q A.dF (eX b rb))(h4:Q (.int (if rb.a > rc.a then rb.a else rc.a)) H):Du A vs H Q E'
def uX:aO ["credit","bill"] ["credit","bill"] (ay (top 16)):={}
def wz (T:Txt K mg){A:dO}(G:jl K mg A):eQ P w K mg base "counts_from" 1 ["credit","bill"] (Du A):=by
 refine T.wc.fA (k:=0) uX (fun f cM A' outer s H vs Q E hr h=>?_)
 ·obtain⟨p,q,c,b,rc,rb,rfl,⟨dp,hp⟩,⟨dq,hq⟩,k⟩:=h;refine⟨_,(au (a6 (fm (Fu rfl) (by rfl) T.RX boot_max (aa (jJ (pv 0)) (aa (jJ (pv 1)) aw))))),?_⟩;exact⟨_,rfl,p,_,dp,_,_,rfl,hp,G.cV,G.iP,IT c rc,_,rfl,q,_,dq,_,_,rfl,hq,G.dQ,G.mJ,OC b rb,_,_,rfl,k⟩
def getD_at {α:Type}{xs:List α}{d:α}{i:Nat}(h:i < xs.length):xs.getD i d=xs[i]:=by rw[ai,af h]; rfl
def mO {g:Int->V}{xs:List Int}{i:Nat}(h:i < xs.length):tF (xs.map g) (i:Int)=some (g (xs.getD i 0)):=by
 rw[getD_at h];exact cz (by rw[aD,af h]; rfl)
def nJ {n j:Nat}(h:j < n):KN n (j:Int)=some j:=by
 unfold KN;rw[if_pos (by lia),if_pos (by lia)]; simp
def fP {H H':Hp}(s:aG H H'): ∀b xs,H b=some (.tup xs)->H' b=some (.tup xs):=fun b xs e=>s _ _ e
def lV {α:Type}{xs:List α}{m:Nat}(h:m < xs.length):xs.take (m + 1)=xs.take m ++ [xs[m]]:=by
 rw[Ak,af h]; rfl
def R3 (cs:List Int)(lo hi:Option Int): ∃ds:List Int,qg (cs.map V.int) lo hi=ds.map V.int/\ds.length<=cs.length:=by
 unfold qg;refine⟨_,by rw[← List.map_drop,← List.map_take],?_⟩;rw[bo,l6];lia
def zh (x m:Int)(h:0 < m): ∃n:Nat,x % m=(n:Int)/\(n:Int) < m:=by
 have h1:=jX x (show m≠0 by lia);have h2:=pO x h;exact⟨(x % m).toNat,by lia,by lia⟩
def ke {α:Type}{g:α->V}{xs:List α}{m:Int}{x:Int}(hm:m=(xs.length:Int))(h:0 < m): ∃y∈xs,tF (xs.map g) (x % m)=some (g y):=by
 obtain⟨n,e,hn⟩:=zh x m h;have hl:n < xs.length:=by lia
 exact⟨xs[n],bD _,by rw[e]; exact cz (by rw[aD,af hl]; rfl)⟩
inductive Dv (vs:List V)(H:Hp)(Q:VK)(E':XK):Prop
 |mk (n p m:Int)(h1:vs=[.int n,.int p,.int m])(h2:0 < p)(h3:0 < m)(h4: ∀r,0<=r->r < m->Q (.int r) H):Dv vs H Q E'
def zi:aO ["_law_number","_law_prime","_law_many"] ["_law_number","_law_prime","_law_many"] (ay (top 44)):={}
def BA (T:Txt K mg):eQ P w K mg base "_law_draw" 1 ["_law_number","_law_prime","_law_many"] Dv:=by
 refine T.Bb.fA (k:=0) zi (fun f cM A outer s H vs Q E hr h=>?_)
 ·obtain⟨n,p,m,rfl,hp,hm,k⟩:=h;refine⟨_,(au (a6 (aR cf (aR cf (aR lA (pv 0) aj) (pv 1)) (pv 2)))),?_⟩;refine⟨_,rfl,_,_,rfl,rfl,.inr ⟨by decide,by decide⟩,_,rfl,_,_,rfl,rfl,hp,_,rfl,_,_,rfl,rfl,hm,?_⟩;exact k _ (jX _ (by lia)) (pO _ hm)
inductive uY (K:Frag)(vs:List V)(H:Hp)(Q:VK)(E':XK):Prop
 |mk (a:Addr)(cs:List Int)(h1:vs=[.ref a])(h2:bF K H a (cs.map V.int))(h3: ∀(pn:Addr) (names:List Str) (H':Hp),aG H H'->H' pn=some (.lst (names.map V.str))->names≠[]->names.length<=6->Q (.ref pn) H'):uY K vs H Q E'
def mP:aO ["_law_cells","_law_spot","_law_made"] ["_law_cells"] (ay (top 47)):={}
def wA (T:Txt K mg):eQ P w K mg base "_law_people" 1 ["_law_cells"] (uY K):=by
 refine T.wm.fA (k:=0) mP (fun f cM A outer s H vs Q E hr h=>?_)
 ·obtain⟨a,cs,rfl,hS,k⟩:=h;have nd:=mP.nd;refine⟨_,(ah (sv 1 nd (aR cf (aR jj (fm (rG rfl) (by rfl) T.IK boot_sum (aa (qf Uj (pv 0) yp (qe aj)) aw)) aj) aj))
(ah (sv 2 nd (bP (aa (bP (aa aN (aa aN (aa aN aw)))) (aa (bP (aa aN (aa aN (aa aN aw)))) aw))))
(ah (bG (qx (pv 2) (bP (aa (aR yE aN aj) (aa (aR ua (aR ua (aR yE aN (pv 1)) aN) (aR yE aN (aR eK aj (pv 1)))) (aa aN aw))))))
(au (a6 (xl (aR lD (pv 2) (bP (aa (bP (aa aN (aa aN (aa aN (aa aN (aa aN (aa aN aw))))))) aw))) (aR cf (aR jj (fm (rG rfl) (by rfl) T.IK boot_sum (aa (qf Uj (pv 0) yp (qe aj)) aw)) aj) aj))))))),?_⟩
  refine⟨_,rfl,_,rfl,a,_,rfl,hS,fun p1 n1=>?_⟩;obtain⟨ds,ed,_⟩:=R3 cs none (some 1);rw[ed];have s1:aG H (upd H p1 (.lst (ds.map V.int))):=aG.new n1;refine⟨p1,ds,rfl,bF.of ag,_,_,rfl,rfl,⟨by decide,by decide⟩,_,_,rfl,rfl,(by show(0:Int) < 60; decide),?_⟩;obtain⟨sp,Uo,yn⟩:=zh (ds.sum / 28) 60 (by decide);show _;generalize upd H p1 (.lst (ds.map V.int))=H1 at s1 ⊢;refine⟨(by show 3<=sizeLine; decide),fun p2 n2=>⟨(by show 3<=sizeLine; decide),fun p3 n3=>⟨(by show 2<=sizeLine; decide),fun p4 n4=>?_⟩⟩⟩;have t2:=aG.new (o:= .lst [V.str "ann",.str "",.str "bo"]) n2;have t3:=aG.new (o:= .lst [V.str "ann",.str "ann lee",.str "Ann"]) n3;have t4:=aG.new (o:= .lst [V.ref p2,.ref p3]) n4;have s4:=((s1.trans t2).trans t3).trans t4;have g2:=(t3.trans t4) _ _ (ag (H:=H1) (a:=p2) (o:= .lst [V.str "ann",.str "",.str "bo"]));have g3:=t4 _ _ (ag (H:=upd H1 p2 (.lst [V.str "ann",.str "",.str "bo"])) (a:=p3) (o:= .lst [V.str "ann",.str "ann lee",.str "Ann"]));have g4:=ag (H:=upd (upd H1 p2 (.lst [V.str "ann",.str "",.str "bo"])) p3 (.lst [V.str "ann",.str "ann lee",.str "Ann"])) (a:=p4) (o:= .lst [V.ref p2,.ref p3]);have m4:H p4=none:=((s1.trans t2).trans t3).free n4;generalize upd (upd (upd H1 p2 (.lst [V.str "ann",.str "",.str "bo"])) p3 (.lst [V.str "ann",.str "ann lee",.str "Ann"])) p4 (.lst [V.ref p2,.ref p3])=H4 at s4 g2 g3 g4 ⊢;clear t2 t3 t4;refine⟨_,rfl,.inl ⟨rfl,_,bF.of g4⟩,?_⟩;refine⟨_,_,rfl,rfl,rfl,(by decide),(by decide),fun z1 hz1=>?_⟩;refine⟨_,rfl,_,_,rfl,rfl,rfl,(by rw[Uo]; lia),(by rw[Uo]; lia),fun z2 hz2=>?_⟩;refine⟨_,_,rfl,rfl,c8 (iO (by show z2.length + 1<=_; lia)),?_⟩;refine⟨_,rfl,_,_,rfl,rfl,_,_,rfl,rfl,rfl,(by rw[Uo]; lia),(by rw[Uo]; lia),fun z3 hz3=>?_⟩;refine⟨_,_,rfl,rfl,c8 (iO (by
   have:(z2 ++ ("y":Str)).length=z2.length + 1:=by
    show(z2.cps ++ _).size=_;rw[Array.size_append]; rfl
   rw[this]; lia)),?_⟩
  refine⟨(by show 3<=sizeLine; decide),fun p5 n5=>?_⟩;generalize (z2 ++ ("y":Str)) ++ z3=z4;have t5:=aG.new (o:= .lst [V.str z1,.str z4,.str " ~"]) n5;refine⟨p4,_,_,rfl,rfl,t5 _ _ g4,(by show 2 < sizeLine; decide),?_⟩;have s5:aG H (upd (upd H4 p5 (.lst [V.str z1,.str z4,.str " ~"])) p4 (.lst ([V.ref p2,.ref p3] ++ [.ref p5]))):=(s4.trans t5).cZ m4;have Ws:p2≠p4:=fun e=>by rw[e,g4] at g2; cases g2
  have Wt:p3≠p4:=fun e=>by rw[e,g4] at g3; cases g3
  have Wu:p5≠p4:=(aI g4 n5).symm;have j2:upd (upd H4 p5 (.lst [V.str z1,.str z4,.str " ~"])) p4 (.lst ([V.ref p2,.ref p3] ++ [.ref p5])) p2=some (.lst [V.str "ann",.str "",.str "bo"]):=by rw[az Ws]; exact t5 _ _ g2
  have j3:upd (upd H4 p5 (.lst [V.str z1,.str z4,.str " ~"])) p4 (.lst ([V.ref p2,.ref p3] ++ [.ref p5])) p3=some (.lst [V.str "ann",.str "ann lee",.str "Ann"]):=by rw[az Wt]; exact t5 _ _ g3
  have j5:upd (upd H4 p5 (.lst [V.str z1,.str z4,.str " ~"])) p4 (.lst ([V.ref p2,.ref p3] ++ [.ref p5])) p5=some (.lst [V.str z1,.str z4,.str " ~"]):=by rw[az Wu]; exact ag
  have j4:upd (upd H4 p5 (.lst [V.str z1,.str z4,.str " ~"])) p4 (.lst ([V.ref p2,.ref p3] ++ [.ref p5])) p4=some (.lst ([V.ref p2,.ref p3] ++ [.ref p5])):=ag;generalize upd (upd H4 p5 (.lst [V.str z1,.str z4,.str " ~"])) p4 (.lst ([V.ref p2,.ref p3] ++ [.ref p5]))=H5 at s5 j2 j3 j4 j5 ⊢;clear t5;refine⟨_,rfl,?_⟩;refine⟨(by show 6<=sizeLine; decide),fun p6 n6=>⟨(by show 1<=sizeLine; decide),fun p7 n7=>?_⟩⟩;have t6:=aG.new (o:= .lst [V.str "ann",.str "",.str "bo",.str "Cy ~",.str "ann ",.str "dee"]) n6;have t7:=aG.new (o:= .lst [V.ref p6]) n7;have Y2:=t6.trans t7;have j6:=t7 _ _ (ag (H:=H5) (a:=p6) (o:= .lst [V.str "ann",.str "",.str "bo",.str "Cy ~",.str "ann ",.str "dee"]));refine⟨p4,p7,_,_,rfl,rfl,Y2 _ _ j4,ag,(by show 4<=sizeLine; decide),fun p8 n8=>?_⟩;have t8:=aG.new (o:= .lst (([V.ref p2,.ref p3] ++ [.ref p5]) ++ [.ref p6])) n8;have Y3:=Y2.trans t8;have s8:=s5.trans Y3;refine⟨_,rfl,_,rfl,a,_,rfl,s8.seq hS,fun p9 n9=>?_⟩;rw[ed];have t9:=aG.new (o:= .lst (ds.map V.int)) n9;refine⟨p9,ds,rfl,bF.of ag,_,_,rfl,rfl,⟨by decide,by decide⟩,_,_,rfl,rfl,(by show(0:Int) < 4; decide),?_⟩;obtain⟨r,er,Wv⟩:=zh (ds.sum / 7) 4 (by decide);have Ww:r < 4:=by lia
  have fin: ∀(pn:Addr) (names:List Str),H5 pn=some (.lst (names.map V.str))∨upd (upd H5 p6 (.lst [V.str "ann",.str "",.str "bo",.str "Cy ~",.str "ann ",.str "dee"])) p7 (.lst [V.ref p6]) pn=some (.lst (names.map V.str))->names≠[]->names.length<=6->Q (.ref pn) _:=fun pn names h h1 h2=>
   k pn names _ (s8.trans t9) (by
    rcases h with h|h
    ·exact(Y3.trans t9) _ _ h
    ·exact(t8.trans t9) _ _ h) h1 h2
  have Up:=t9 _ _ (ag (H:=upd (upd H5 p6 (.lst [V.str "ann",.str "",.str "bo",.str "Cy ~",.str "ann ",.str "dee"])) p7 (.lst [V.ref p6])) (a:=p8) (o:= .lst (([V.ref p2,.ref p3] ++ [.ref p5]) ++ [.ref p6])))
  match r,Ww,er with
  |0,_,er=>exact⟨p8,_,_,.ref p2,rfl,rfl,bF.of Up,by show tF _ (ds.sum / 7 % 4)=_; rw[er]; rfl,fin p2 [_,_,_] (.inl j2) (by simp) (by simp)⟩
  |1,_,er=>exact⟨p8,_,_,.ref p3,rfl,rfl,bF.of Up,by show tF _ (ds.sum / 7 % 4)=_; rw[er]; rfl,fin p3 [_,_,_] (.inl j3) (by simp) (by simp)⟩
  |2,_,er=>exact⟨p8,_,_,.ref p5,rfl,rfl,bF.of Up,by show tF _ (ds.sum / 7 % 4)=_; rw[er]; rfl,fin p5 [_,_,_] (.inl j5) (by simp) (by simp)⟩
  |3,_,er=>exact⟨p8,_,_,.ref p6,rfl,rfl,bF.of Up,by show tF _ (ds.sum / 7 % 4)=_; rw[er]; rfl,fin p6 [_,_,_,_,_,_] (.inr j6) (by simp) (by simp)⟩
  |r + 4,h,_=>lia
def at4 (a b c d x:Int): ∃y,tF [V.int a,V.int b,V.int c,V.int d] (x % 4)=some (V.int y):=by
 obtain⟨y,_,h⟩:=ke (g:=V.int) (xs:=[a,b,c,d]) (m:=4) (x:=x) rfl (by decide);exact⟨y,h⟩
def Y4 (a b c x:Int): ∃y,(y=a∨y=b∨y=c)/\tF [V.int a,V.int b,V.int c] (x % 3)=some (V.int y):=by
 obtain⟨y,hy,h⟩:=ke (g:=V.int) (xs:=[a,b,c]) (m:=3) (x:=x) rfl (by decide);exact⟨y,by simpa using hy,h⟩
def BB {x:Int}(h:x<=1000000000):x<=uI:=Ew (lx h (by decide +kernel))
def Wx (a b x:Int): ∃y,(y=a∨y=b)/\tF [V.int a,V.int b] (x % 2)=some (V.int y):=by
 obtain⟨y,hy,h⟩:=ke (g:=V.int) (xs:=[a,b]) (m:=2) (x:=x) rfl (by decide);exact⟨y,by simpa using hy,h⟩
inductive uZ (K:Frag)(vs:List V)(H:Hp)(Q:VK)(E':XK):Prop
 |mk (a:Addr)(cs:List Int)(i:Nat)(h1:vs=[.ref a,.int i])(h2:bF K H a (cs.map V.int))(h3:i < cs.length)(h4: ∀(p:Addr) (aK:Str) (day dD:Int) (H':Hp),aG H H'->H' p=some (.tup [.str aK,.int day,.int dD])->day<=uI->Q (.ref p) H'):uZ K vs H Q E'
def mQ:aO ["_law_cells","_law_k","_law_cell","_law_rest","_law_names","_law_who","_law_day","_law_amount"] ["_law_cells","_law_k"] (ay (top 48)):={}
def wB (T:Txt K mg):eQ P w K mg base "_law_penned" 2 ["_law_cells","_law_k"] (uZ K):=by
 have wC:eQ P w K mg base "_law_people" 1 ["_law_cells"] (uY K):=wA T;have mR:eQ P w K mg base "_law_draw" 1 ["_law_number","_law_prime","_law_many"] Dv:=BA T;refine T.wo.fA (k:=1) mQ (fun f cM A outer s H vs Q E hr h=>?_)
 ·obtain⟨a,cs,i,rfl,hS,hi,k⟩:=h;have nd:=mQ.nd;refine⟨_,(ah (sv 2 nd (xl (pv 0) (pv 1)))
(ah (sv 3 nd (aR jj (pv 2) aj))
(ah (sv 4 nd (fc wC hr (aa (pv 0) aw)))
(ah (sv 5 nd (xl (pv 4) (aR cf (aR dB (pv 3) (pv 1)) (pT T.eI (pv 4)))))
(ah (sv 6 nd (aR eK (fc mR hr (aa (aR dB (pv 2) (aR lA aj (pv 1))) (aa aj (aa aj aw)))) aj))
(ah (sv 7 nd (aR dB aj (fc mR hr (aa (aR dB (pv 2) (aR lA aj (pv 1))) (aa aj (aa aj aw))))))
(jk (bO (a0 cW (aR cf (pv 2) aj) aj (a7 _))
(au (sv 7 nd (aR dB aj (aR lA (fc mR hr (aa (aR dB (pv 2) (aR lA aj (pv 1))) (aa aj (aa aj aw)))) aj))))
bf)
(jk (bO (a0 cW (aR cf (pv 2) aj) aj (a7 _))
(au (sv 7 nd (aR dB aj (aR cf (pv 2) (aR eK (aR K3 (aR ja aj aj) (aR ja aj aj)) aj)))))
bf)
(jk (bO (a0 cW (aR cf (pv 2) aj) aj (a7 _))
(au (sv 7 nd (xl (bP (aa aj (aa (ou kr aj) (aa (aR ja aj aj) (aa (aR eK aj (aR cf (pv 2) (aR ja aj aj))) aw))))) (aR cf (pv 3) aj))))
bf)
(jk (bO (a0 cW (aR cf (pv 2) aj) aj (a7 _))
(au (sv 6 nd (xl (bP (aa (aR ja aj aj) (aa (ou kr (aR ja aj aj)) (aa (aR eK (aR cf (pv 2) aj) aj) aw)))) (aR cf (pv 3) aj))))
bf)
(jk (bO (a0 cW (aR cf (pv 2) aj) aj (a7 _))
(au (sv 6 nd (aR lA (aR cf (pv 2) (aR ja aj aj)) (xl (bP (aa aj (aa (ou kr aj) aw))) (aR cf (pv 1) aj)))))
bf)
(au (a6 (dh (aa (pv 5) (aa (pv 6) (aa (pv 7) aw))))))))))))))))),?_⟩
  refine⟨_,rfl,_,rfl,a,_,_,.int (cs.getD i 0),rfl,rfl,hS,mO hi,?_⟩;generalize cs.getD i 0=cell;refine⟨_,rfl,_,_,rfl,rfl,⟨by decide,by decide⟩,?_⟩;refine⟨_,rfl,a,cs,rfl,hS,fun pn names H1 s1 OG hn0 hn6=>?_⟩;have Uq:0 < names.length:=List.length_pos_iff.mpr hn0;obtain⟨aK,_,R4⟩:=ke (g:=V.str) (xs:=names) (m:=((names.map V.str).length:Int)) (x:=cell / 16 + (i:Int)) (by rw[ae]) (by rw[ae]; lia);refine⟨_,rfl,_,rfl,_,rfl,_,_,rfl,rfl,_,rfl,pn,_,rfl,.inl (bF.of OG),_,_,rfl,rfl,(by rw[ae]; show(0:Int) < _; lia),pn,_,_,.str aK,rfl,rfl,bF.of OG,R4,?_⟩;refine⟨_,rfl,_,rfl,_,_,rfl,rfl,.inl ⟨by decide,by decide⟩,_,_,rfl,rfl,_,_,_,rfl,by decide,by decide,fun r1 _ MN=>⟨_,_,rfl,rfl,?_⟩⟩;refine⟨_,rfl,_,rfl,_,_,rfl,rfl,.inl ⟨by decide,by decide⟩,_,_,rfl,rfl,_,_,_,rfl,by decide,by decide,fun r2 _ _=>⟨_,_,rfl,rfl,?_⟩⟩;refine⟨fun σ' H'=> ∃day dD:Int,σ'=[some (.ref a),some (.int i),some (.int cell),some (.int (cell / 16)),some (.ref pn),some (.str aK),some (.int day),some (.int dD)]/\aG H H'/\day<=uI,?_,?_⟩
  ·refine⟨_,rfl,_,_,rfl,rfl,(by show(0:Int) < 7; decide),rfl,_,rfl,cy (fun c=>?_) (fun c=>⟨_,_,rfl,s1,BB (by lia)⟩)⟩;refine⟨_,rfl,_,rfl,_,_,rfl,rfl,.inl ⟨by decide,by decide⟩,_,_,rfl,rfl,_,_,_,rfl,by decide,by decide,fun r3 _ _=>⟨_,_,rfl,rfl,.inr ⟨by decide,by decide⟩,_,_,rfl,rfl,?_⟩⟩;exact⟨_,_,rfl,s1,BB (by lia)⟩
  rintro σ' H2 ⟨day,dD,rfl,s2,oh⟩;clear OG R4 s1;refine⟨fun σ' H'=> ∃day dD:Int,σ'=[some (.ref a),some (.int i),some (.int cell),some (.int (cell / 16)),some (.ref pn),some (.str aK),some (.int day),some (.int dD)]/\aG H H'/\day<=uI,?_,?_⟩
  ·refine⟨_,rfl,_,_,rfl,rfl,(by show(0:Int) < 41; decide),rfl,_,rfl,cy (fun c=>?_) (fun c=>⟨_,_,rfl,s2,oh⟩)⟩;refine⟨_,rfl,_,_,rfl,rfl,⟨by decide,by decide,by decide⟩,_,_,rfl,rfl,⟨by decide,by decide,by decide⟩,_,_,rfl,rfl,⟨by decide +kernel,by decide +kernel⟩,_,_,rfl,rfl,_,_,rfl,rfl,(by show(0:Int) < _; decide +kernel),_,_,rfl,rfl,?_⟩;exact⟨_,_,rfl,s2,oh⟩
  rintro σ' H3 ⟨day,dD,rfl,s3,oh⟩;refine⟨fun σ' H'=> ∃day dD:Int,σ'=[some (.ref a),some (.int i),some (.int cell),some (.int (cell / 16)),some (.ref pn),some (.str aK),some (.int day),some (.int dD)]/\aG H H'/\day<=uI,?_,?_⟩
  ·refine⟨_,rfl,_,_,rfl,rfl,(by show(0:Int) < 41; decide),rfl,_,rfl,cy (fun c=>?_) (fun c=>⟨_,_,rfl,s3,oh⟩)⟩;refine⟨_,rfl,_,_,rfl,rfl,⟨by decide,by decide,by decide⟩,_,rfl,_,_,rfl,rfl,⟨by decide,by decide,by decide⟩,_,_,rfl,rfl,(by show(0:Int) < _; decide +kernel),_,_,rfl,rfl,(by show 4<=sizeLine; decide),fun p4 n4=>?_⟩;obtain⟨y,hy⟩:=at4 0 (-1) (10 ^ (12:Int).toNat) (0 - cell % 10 ^ (60:Int).toNat) (cell / 16);refine⟨_,rfl,_,_,rfl,rfl,(by show(0:Int) < 4; decide),p4,_,_,.int y,rfl,rfl,bF.of ag,hy,?_⟩;exact⟨_,_,rfl,s3.trans (aG.new n4),oh⟩
  rintro σ' H4 ⟨day,dD,rfl,s4,oh⟩;refine⟨fun σ' H'=> ∃day dD:Int,σ'=[some (.ref a),some (.int i),some (.int cell),some (.int (cell / 16)),some (.ref pn),some (.str aK),some (.int day),some (.int dD)]/\aG H H'/\day<=uI,?_,?_⟩
  ·refine⟨_,rfl,_,_,rfl,rfl,(by show(0:Int) < 43; decide),rfl,_,rfl,cy (fun c=>?_) (fun c=>⟨_,_,rfl,s4,oh⟩)⟩;refine⟨_,_,rfl,rfl,⟨by decide,by decide,by decide⟩,_,_,rfl,rfl,⟨by decide,by decide,by decide⟩,_,rfl,_,rfl,_,_,rfl,rfl,(by show(0:Int) < 2001; decide),_,_,rfl,rfl,(by show 3<=sizeLine; decide),fun p4 n4=>?_⟩;obtain⟨y,hy3,hy⟩:=Y4 (10 ^ (9:Int).toNat) (-(10 ^ (9:Int).toNat)) (cell % 2001 - 1000) (cell / 16);refine⟨_,rfl,_,_,rfl,rfl,(by show(0:Int) < 3; decide),p4,_,_,.int y,rfl,rfl,bF.of ag,hy,?_⟩;refine⟨_,_,rfl,s4.trans (aG.new n4),?_⟩;rcases hy3 with rfl|rfl|rfl
   ·exact BB (by decide +kernel)
   ·exact BB (by decide +kernel)
   ·exact BB (by lia)
  rintro σ' H5 ⟨day,dD,rfl,s5,oh⟩;refine⟨fun σ' H'=> ∃day dD:Int,σ'=[some (.ref a),some (.int i),some (.int cell),some (.int (cell / 16)),some (.ref pn),some (.str aK),some (.int day),some (.int dD)]/\aG H H'/\day<=uI,?_,?_⟩
  ·refine⟨_,rfl,_,_,rfl,rfl,(by show(0:Int) < 43; decide),rfl,_,rfl,cy (fun c=>?_) (fun c=>⟨_,_,rfl,s5,oh⟩)⟩;refine⟨_,rfl,_,_,rfl,rfl,⟨by decide,by decide,by decide⟩,_,_,rfl,rfl,(by show(0:Int) < _; decide +kernel),_,rfl,(by show 2<=sizeLine; decide),fun p4 n4=>?_⟩;obtain⟨y,Wy,hy⟩:=Wx 1 (-1) (i:Int);refine⟨_,rfl,_,_,rfl,rfl,(by show(0:Int) < 2; decide),p4,_,_,.int y,rfl,rfl,bF.of ag,hy,_,_,rfl,rfl,.inr (by rcases Wy with rfl|rfl <;> exact⟨by decide,by decide⟩),?_⟩;refine⟨_,_,rfl,s5.trans (aG.new n4),?_⟩;have m1:0<=cell % 10 ^ (60:Int).toNat:=jX _ (by decide +kernel);have m2:cell % 10 ^ (60:Int).toNat < 10 ^ 60:=pO _ (by decide +kernel);have m3:(0:Int)<=10 ^ 60:=by decide +kernel
   refine Ew ?_;generalize (10:Int) ^ 60=b60 at m2 m3 ⊢;rcases Wy with rfl|rfl <;> lia
  rintro σ' H6 ⟨day,dD,rfl,s6,oh⟩;refine⟨_,rfl,_,rfl,_,rfl,(by show 3<=sizeLine; decide),fun p n=>?_⟩;exact k p aK day dD _ (s6.trans (aG.new n)) ag oh
def fQ {H:Hp}{a:Addr}{o o':HO}:upd (upd H a o) a o'=upd H a o':=by
 funext b
 by_cases h:b=a
 ·rw[h,ag,ag]
 ·rw[az h,az h,az h]
def pl {f:Str}{v:V}{fs:List (Str×V)}{n:Nat}(h:fs.length<=n):(ee f v fs).length<=n + 1:=aV (mr f v fs) (Nat.add_le_add_right h 1)
def BC:([]:List (Str×V)).length<=0:=aB _
def lt1000 {fs:List (Str×V)}{n:Nat}(h:fs.length<=n)(k:n < 1000):fs.length < 1000:=pN h k
def IX (n:Nat)(r:Rw):ee "amount" (.int r.c) (ee "due" (.int r.b) (ee "day" (.int r.a) (ee "who" (.str r.aK) (ee "number" (.int n) []))))=eX n r:=by rfl
def IZ (n:Nat)(r:Rw):ee "only" (sC r.c) (ee "amount" (.int r.b) (ee "day" (.int r.a) (ee "who" (.str r.aK) (ee "number" (.int n) []))))=eN n r:=by rfl
inductive zj (A:dO)(vs:List V)(H:Hp)(Q:VK)(E':XK):Prop
 |mk (x dx:Addr)(n:Nat)(r:Rw)(h1:vs=[.ref x,.int n,.str r.aK,.int r.a,.int r.b,.int r.c])(h2:H x=some (.ins A.dF dx []))(h3:Q .dW (upd H x (.ins A.dF dx (eX n r)))):zj A vs H Q E'
def LG:aO ["self","number","who","day","due","amount"] ["self","number","who","day","due","amount"] (ay (mem 13 0)):={}
def OH {A:dO}(G:jl K mg A):sY P w K mg base "Bill" A.dF 1 ["self","number","who","day","due","amount"] (zj A):=by
 refine LD (k:=0) G.Lx G.Lw LG (fun f cM A' outer s H vs Q E hr h=>?_)
 ·obtain⟨x,dx,n,r,rfl,hx,k⟩:=h;refine⟨_,(ah (lN (pv 0) (pv 1))
(ah (lN (pv 0) (pv 2))
(ah (lN (pv 0) (pv 3))
(ah (lN (pv 0) (pv 4))
(au (lN (pv 0) (pv 5))))))),?_⟩
  refine⟨_,rfl,_,rfl,x,_,dx,_,rfl,hx,G.dQ,G.eE,lt1000 BC (by decide),?_⟩;refine⟨_,rfl,_,rfl,x,_,dx,_,rfl,ag,G.dQ,G.kb,lt1000 (pl BC) (by decide),?_⟩;refine⟨_,rfl,_,rfl,x,_,dx,_,rfl,ag,G.dQ,G.mJ,lt1000 (pl (pl BC)) (by decide),?_⟩;refine⟨_,rfl,_,rfl,x,_,dx,_,rfl,ag,G.dQ,G.mK,lt1000 (pl (pl (pl BC))) (by decide),?_⟩;refine⟨_,rfl,_,rfl,x,_,dx,_,rfl,ag,G.dQ,G.mL,lt1000 (pl (pl (pl (pl BC)))) (by decide),?_⟩;rw[fQ,fQ,fQ,fQ,IX];exact k
inductive zk (A:dO)(vs:List V)(H:Hp)(Q:VK)(E':XK):Prop
 |mk (x dx:Addr)(n:Nat)(r:Rw)(h1:vs=[.ref x,.int n,.str r.aK,.int r.a,.int r.b,sC r.c])(h2:H x=some (.ins A.dP dx []))(h3:Q .dW (upd H x (.ins A.dP dx (eN n r)))):zk A vs H Q E'
def Gy:aO ["self","number","who","day","amount","only"] ["self","number","who","day","amount","only"] (ay (mem 14 0)):={}
def I9 {A:dO}(G:jl K mg A):sY P w K mg base "Credit" A.dP 1 ["self","number","who","day","amount","only"] (zk A):=by
 refine LD (k:=0) G.Gr G.Gq Gy (fun f cM A' outer s H vs Q E hr h=>?_)
 ·obtain⟨x,dx,n,r,rfl,hx,k⟩:=h;refine⟨_,(ah (lN (pv 0) (pv 1))
(ah (lN (pv 0) (pv 2))
(ah (lN (pv 0) (pv 3))
(ah (lN (pv 0) (pv 4))
(au (lN (pv 0) (pv 5))))))),?_⟩
  refine⟨_,rfl,_,rfl,x,_,dx,_,rfl,hx,G.cV,G.eB,lt1000 BC (by decide),?_⟩;refine⟨_,rfl,_,rfl,x,_,dx,_,rfl,ag,G.cV,G.kC,lt1000 (pl BC) (by decide),?_⟩;refine⟨_,rfl,_,rfl,x,_,dx,_,rfl,ag,G.cV,G.iP,lt1000 (pl (pl BC)) (by decide),?_⟩;refine⟨_,rfl,_,rfl,x,_,dx,_,rfl,ag,G.cV,G.k6,lt1000 (pl (pl (pl BC))) (by decide),?_⟩;refine⟨_,rfl,_,rfl,x,_,dx,_,rfl,ag,G.cV,G.jL,lt1000 (pl (pl (pl (pl BC)))) (by decide),?_⟩;rw[fQ,fQ,fQ,fQ,IZ];exact k
inductive zl (A:dO)(vs:List V)(H:Hp)(Q:VK)(E':XK):Prop
 |mk (pw:Addr)(S:Bk)(f:eA)(c b:Nat)(x:Int)(h1:vs=[.ref pw,.int c,.int b,.int x])(h2:dr A H pw S f)(h3:c < S.credits.length)(h4:b < S.aC.length)(h5:S.made.length < sizeLine)(h6: ∀H',Frame f.fp H H'->dr A H' pw (S.put c b x) f->Q .dW H'):zl A vs H Q E'
def BD:aO ["self","credit_number","bill_number","amount"] ["self","credit_number","bill_number","amount"] (ay (mem 25 8)):={}
def LH {rows:List Rw}{i:Nat}(h:i < rows.length):tF (rows.map fun r=>V.int r.d) (i:Int)=some (.int (rows.getD i default).d):=cz (by
 rw[aD,ai,af h]; rfl)
def MO {A:dO}(G:jl K mg A):gJ rC P w K mg base A.work "put" 1 ["self","credit_number","bill_number","amount"] (zl A):=by
 refine LC (k:=0) G.Bt G.bw BD (fun f cM A' outer s H vs Q E hr h=>?_)
 ·obtain⟨pw,S,g,c,b,x,rfl,hW,hc,hb,hz,k⟩:=h;obtain⟨dw,hw⟩:=hW.obj;obtain⟨ms,m1,m2⟩:=hW.hm;obtain⟨e1,e2,e3,e4,e5,e6,e7,e8,e9,ML⟩:=eA.ne hW.nd;have nw: ∀q∈g.fp,pw≠q:=fun q hq z=>hW.ins hW.obj (z▸hq);have w3:=nw g.pl (by simp[eA.fp]);have w4:=nw g.pf (by simp[eA.fp]);refine⟨_,(ah (kq (aR eK (xl (jJ (pv 0)) (pv 1)) (pv 3)) (mq (jJ (pv 0)) (pv 1) set_list))
(ah (kq (aR eK (xl (jJ (pv 0)) (pv 2)) (pv 3)) (mq (jJ (pv 0)) (pv 2) set_list))
(au (bG (qx (jJ (pv 0)) (dh (aa (pv 1) (aa (pv 2) (aa (pv 3) aw))))))))),?_⟩
  refine⟨_,rfl,pw,_,dw,_,_,rfl,hw,G.bw,G.eZ,k4 g,_,rfl,g.pf,_,_,_,rfl,rfl,bF.of hW.hf,LH hc,_,rfl,_,_,rfl,rfl,?_⟩;refine⟨_,rfl,pw,_,dw,_,_,rfl,hw,G.bw,G.eZ,k4 g,_,rfl,g.pf,_,_,c,rfl,rfl,hW.hf,nJ (by rw[ae]; exact hc),?_⟩;have R5:upd H g.pf (.lst ((S.credits.map fun r=>V.int r.d).set c (.int ((S.cr c).d - x)))) pw=some (.ins A.work dw (kY g)):=by rw[az w4]; exact hw
  have R6:upd H g.pf (.lst ((S.credits.map fun r=>V.int r.d).set c (.int ((S.cr c).d - x)))) g.pl=some (.lst (S.aC.map fun r=>V.int r.d)):=by rw[az e8]; exact hW.hl
  refine⟨_,rfl,pw,_,dw,_,_,rfl,R5,G.bw,G.eY,kZ g,_,rfl,g.pl,_,_,_,rfl,rfl,bF.of R6,LH hb,_,rfl,_,_,rfl,rfl,?_⟩;refine⟨_,rfl,pw,_,dw,_,_,rfl,R5,G.bw,G.eY,kZ g,_,rfl,g.pl,_,_,b,rfl,rfl,R6,nJ (by rw[ae]; exact hb),?_⟩;have MP:upd (upd H g.pf (.lst ((S.credits.map fun r=>V.int r.d).set c (.int ((S.cr c).d - x))))) g.pl (.lst ((S.aC.map fun r=>V.int r.d).set b (.int ((S.bl b).d - x)))) pw=some (.ins A.work dw (kY g)):=by rw[az w3]; exact R5
  have Wz:upd (upd H g.pf (.lst ((S.credits.map fun r=>V.int r.d).set c (.int ((S.cr c).d - x))))) g.pl (.lst ((S.aC.map fun r=>V.int r.d).set b (.int ((S.bl b).d - x)))) g.pm=some (.lst ms):=by rw[az e9.symm,az ML.symm]; exact m1
  refine⟨_,rfl,pw,_,dw,_,_,rfl,MP,G.bw,G.jm,yX g,.inl ⟨rfl,_,bF.of Wz⟩,_,rfl,_,rfl,_,rfl,(by show 3<=sizeLine; decide),fun p8 n8=>?_⟩;have n8':H p8=none:=by
   by_cases z1:p8=g.pl
   ·rw[z1,ag] at n8; cases n8
   ·rw[az z1] at n8;by_cases z2:p8=g.pf
    ·rw[z2,ag] at n8; cases n8
    ·rw[az z2] at n8; exact n8
  refine⟨g.pm,ms,_,rfl,rfl,aG.new n8 _ _ Wz,by rw[← aS m2]; exact hz,?_⟩;obtain⟨W,F⟩:=hW.put (x:=x) hc hb m1 m2 n8';exact k _ F W
end
end eD
namespace L2
open PySem PySem.Spec PySem.W PyProof.Rows
section
variable {A:dO}{H H':Hp}{pw x:Addr}{S:Bk}{f:eA}{r:Rw}
def eA.g8 (f:eA)(p:Addr):eA:={f with ip:=f.ip ++ [p]}
def eA.fF (f:eA)(p:Addr):eA:={f with cps:=f.cps ++ [p]}
def dr.g8 (h:dr A H pw S f)(hx:dY H x A.dF (eX S.aC.length r)):
  dr A (upd (upd H f.pb (.lst (f.ip.map V.ref ++ [.ref x]))) f.pl (.lst ((S.aC.map fun r=>V.int r.d) ++ [.int r.d]))) pw (S.g8 r) (f.g8 x)/\Frame f.fp H (upd (upd H f.pb (.lst (f.ip.map V.ref ++ [.ref x]))) f.pl (.lst ((S.aC.map fun r=>V.int r.d) ++ [.int r.d]))):=by
 obtain⟨e1,e2,e3,e4,e5,e6,e7,e8,e9,ML⟩:=eA.ne h.nd;have F:Frame f.fp H (upd (upd H f.pb (.lst (f.ip.map V.ref ++ [.ref x]))) f.pl (.lst ((S.aC.map fun r=>V.int r.d) ++ [.int r.d]))):=(Frame.upd (by simp[eA.fp])).tr (Frame.upd (by simp[eA.fp]));refine⟨?_,F⟩;obtain⟨o1,o2,o3⟩:=h.objs F;have tk:=h.tk F;obtain⟨ms,m1,m2⟩:=h.hm;have t: ∀q,q≠f.pb->q≠f.pl->upd (upd H f.pb (.lst (f.ip.map V.ref ++ [.ref x]))) f.pl (.lst ((S.aC.map fun r=>V.int r.d) ++ [.int r.d])) q=H q:=fun q z1 z2=>by rw[az z2,az z1]
 refine⟨o1,?_,?_,?_,?_,⟨ms,?_,m2.mono tk⟩,o2.add (hx.frame F (h.ins hx)),o3,h.nd⟩
 ·show upd (upd H f.pb _) f.pl _ f.pb=some (.lst ((f.ip ++ [x]).map V.ref));rw[az e2,ag,aM]; rfl
 ·exact(t f.pc e1.symm e5).trans h.hc
 ·show upd (upd H f.pb _) f.pl _ f.pl=some (.lst ((S.aC ++ [r]).map fun r=>V.int r.d));rw[ag,aM]; rfl
 ·exact(t f.pf e3.symm e8.symm).trans h.hf
 ·exact(t f.pm e4.symm e9.symm).trans m1
def dr.fF (h:dr A H pw S f)(hx:dY H x A.dP (eN S.credits.length r)):
  dr A (upd (upd H f.pc (.lst (f.cps.map V.ref ++ [.ref x]))) f.pf (.lst ((S.credits.map fun r=>V.int r.d) ++ [.int r.d]))) pw (S.fF r) (f.fF x)/\Frame f.fp H (upd (upd H f.pc (.lst (f.cps.map V.ref ++ [.ref x]))) f.pf (.lst ((S.credits.map fun r=>V.int r.d) ++ [.int r.d]))):=by
 obtain⟨e1,e2,e3,e4,e5,e6,e7,e8,e9,ML⟩:=eA.ne h.nd;have F:Frame f.fp H (upd (upd H f.pc (.lst (f.cps.map V.ref ++ [.ref x]))) f.pf (.lst ((S.credits.map fun r=>V.int r.d) ++ [.int r.d]))):=(Frame.upd (by simp[eA.fp])).tr (Frame.upd (by simp[eA.fp]));refine⟨?_,F⟩;obtain⟨o1,o2,o3⟩:=h.objs F;have tk:=h.tk F;obtain⟨ms,m1,m2⟩:=h.hm;have t: ∀q,q≠f.pc->q≠f.pf->upd (upd H f.pc (.lst (f.cps.map V.ref ++ [.ref x]))) f.pf (.lst ((S.credits.map fun r=>V.int r.d) ++ [.int r.d])) q=H q:=fun q z1 z2=>by rw[az z2,az z1]
 refine⟨o1,?_,?_,?_,?_,⟨ms,?_,m2.mono tk⟩,o2,o3.add (hx.frame F (h.ins hx)),h.nd⟩
 ·exact(t f.pb e1 e3).trans h.hb
 ·show upd (upd H f.pc _) f.pf _ f.pc=some (.lst ((f.cps ++ [x]).map V.ref));rw[az e6,ag,aM]; rfl
 ·exact(t f.pl e5.symm e8).trans h.hl
 ·show upd (upd H f.pc _) f.pf _ f.pf=some (.lst ((S.credits ++ [r]).map fun r=>V.int r.d));rw[ag,aM]; rfl
 ·exact(t f.pm e7.symm ML.symm).trans m1
end
end L2
namespace eD
open PySem L2 PyProof.Rows Ka
seal L2.oq L2.PS L2.PE L2.PT L2.PW L2.PA L2.PC L2.PG L2.Hr L2.PI L2.KU L2.JZ L2.PO L2.nW L2.Mw L2.gE L2.HL L2.My
section
variable {P:Program}{w:World}{K:Frag}{mg:Str->Option Value}{base:Heap}
def LI (A:dO)(K:Frag)(E:XK)(t:Str)(H:Hp):Prop:= ∀C,gI K C A.refusal->(t="too much"->C=A.tooMuch)->EX E C t H
inductive Ja (A:dO)(K:Frag)(vs:List V)(H:Hp)(Q:VK)(E:XK):Prop
 |mk (pw:Addr)(S:Bk)(f:eA)(n:Int)(h1:vs=[.ref pw,.int n])(h2:dr A H pw S f)(h3:(pS n S.credits.length-> ∀p,dY H p A.dP (eN n.toNat (S.cr n.toNat))->Q (.ref p) H))(h4:(¬ pS n S.credits.length->LI A K E "no credit" H)):Ja A K vs H Q E
inductive EI (A:dO)(K:Frag)(vs:List V)(H:Hp)(Q:VK)(E:XK):Prop
 |mk (pw:Addr)(S:Bk)(f:eA)(n:Int)(h1:vs=[.ref pw,.int n])(h2:dr A H pw S f)(h3:(pS n S.aC.length-> ∀p,dY H p A.dF (eX n.toNat (S.bl n.toNat))->Q (.ref p) H))(h4:(¬ pS n S.aC.length->LI A K E "no bill" H)):EI A K vs H Q E
def qG:aO ["self","number"] ["self","number"] (ay (mem 25 9)):={}
def BE (T:Txt K mg){A:dO}(G:jl K mg A):gJ (ma P w mg) P w K mg base A.work "credit_at" 4 ["self","number"] (Ja A K):=by
 refine qE (k:=3) G.qD G.bw qG (fun f cM A' outer s H vs Q E hr lY h=>?_)
 ·obtain⟨pw,S,g,n,rfl,hW,k1,k2⟩:=h;obtain⟨dw,hw⟩:=hW.obj;have hlen:(g.cps.map V.ref).length=S.credits.length:=by rw[ae]; exact hW.rc.1
  refine⟨_,(ah (bO (PW.pt (pw_or (a0 jA (pv 1) aj (a7 _)) (pw_or1 (a0 AH (pv 1) (pT T.eI (jJ (pv 0))) (a7 _)))))
(au (jH lY (Bv T G) (hr.h.mono (by decide)) rfl rfl))
bf)
(au (a6 (xl (jJ (pv 0)) (pv 1))))),?_⟩
  have no: ¬ pS n S.credits.length-> ∀dx,H dx=none->E (.ref A.jK) (some dx) (upd H dx (.xd [("text",.str "no credit")])):=fun z dx hd=>(k2 z A.jK G.sD (fun q=>absurd q (by decide +kernel))).at hd;refine⟨_,rfl,_,_,rfl,rfl,_,rfl,cy (fun z=>fe (no fun q=>?_)) (fun z=>?_)⟩
  ·have z':n < 0:=aX z;have:=q.1;lia
  have z1: ¬ n < 0:=fun q=>z (aJ q);refine⟨_,rfl,_,rfl,pw,_,dw,_,_,rfl,hw,G.bw,G.cw,gS g,g.pc,_,rfl,.inl (bF.of hW.hc),_,_,rfl,rfl,_,rfl,cy (fun z=>no fun q=>?_) (fun z=>?_)⟩
  ·have z':((g.cps.map V.ref).length:Int)<=n:=aX z;have:=q.2;lia
  have z2: ¬ ((g.cps.map V.ref).length:Int)<=n:=fun q=>z (aJ q);have ju:pS n S.credits.length:=⟨by lia,by lia⟩;obtain⟨c,rfl⟩:=ck ju.1;have hc:c < S.credits.length:=by have:=ju.2; lia
  obtain⟨p,WA,xB⟩:=hW.rc.get hc;refine⟨_,rfl,pw,_,dw,_,_,rfl,hw,G.bw,G.cw,gS g,_,rfl,g.pc,_,_,.ref p,rfl,rfl,bF.of hW.hc,cz (by rw[aD,WA]; rfl),?_⟩;exact k1 ju p xB
def tf:aO ["self","number"] ["self","number"] (ay (mem 25 10)):={}
def xR (T:Txt K mg){A:dO}(G:jl K mg A):gJ (ma P w mg) P w K mg base A.work "bill_at" 4 ["self","number"] (EI A K):=by
 refine qE (k:=3) G.sX G.bw tf (fun f cM A' outer s H vs Q E hr lY h=>?_)
 ·obtain⟨pw,S,g,n,rfl,hW,k1,k2⟩:=h;obtain⟨dw,hw⟩:=hW.obj;have hlen:(g.ip.map V.ref).length=S.aC.length:=by rw[ae]; exact hW.rb.1
  refine⟨_,(ah (bO (PW.pt (pw_or (a0 jA (pv 1) aj (a7 _)) (pw_or1 (a0 AH (pv 1) (pT T.eI (jJ (pv 0))) (a7 _)))))
(au (jH lY (Gv T G) (hr.h.mono (by decide)) rfl rfl))
bf)
(au (a6 (xl (jJ (pv 0)) (pv 1))))),?_⟩
  have no: ¬ pS n S.aC.length-> ∀dx,H dx=none->E (.ref A.px) (some dx) (upd H dx (.xd [("text",.str "no bill")])):=fun z dx hd=>(k2 z A.px G.xO (fun q=>absurd q (by decide +kernel))).at hd;refine⟨_,rfl,_,_,rfl,rfl,_,rfl,cy (fun z=>fe (no fun q=>?_)) (fun z=>?_)⟩
  ·have z':n < 0:=aX z;have:=q.1;lia
  have z1: ¬ n < 0:=fun q=>z (aJ q);refine⟨_,rfl,_,rfl,pw,_,dw,_,_,rfl,hw,G.bw,G.dM,iY g,g.pb,_,rfl,.inl (bF.of hW.hb),_,_,rfl,rfl,_,rfl,cy (fun z=>no fun q=>?_) (fun z=>?_)⟩
  ·have z':((g.ip.map V.ref).length:Int)<=n:=aX z;have:=q.2;lia
  have z2: ¬ ((g.ip.map V.ref).length:Int)<=n:=fun q=>z (aJ q);have ju:pS n S.aC.length:=⟨by lia,by lia⟩;obtain⟨c,rfl⟩:=ck ju.1;have hc:c < S.aC.length:=by have:=ju.2; lia
  obtain⟨p,WA,xB⟩:=hW.rb.get hc;refine⟨_,rfl,pw,_,dw,_,_,rfl,hw,G.bw,G.dM,iY g,_,rfl,g.pb,_,_,.ref p,rfl,rfl,bF.of hW.hb,cz (by rw[aD,WA]; rfl),?_⟩;exact k1 ju p xB
def R7 (A:dO)(Q:VK)(H:Hp)(pw:Addr)(f:eA)(S':Bk)(v:V):Prop:= ∀f' H',f'.fp=f.fp->Frame f.fp H H'->dr A H' pw S' f'->Q v H'
inductive tK (A:dO)(K:Frag)(vs:List V)(H:Hp)(Q:VK)(E:XK):Prop
 |mk (pw:Addr)(S:Bk)(f:eA)(aK:Str)(day dD only:Int)(h1:vs=[.ref pw,.str aK,.int day,.int dD,sC only])(h2:dr A H pw S f)(h3:S.credits.length<=900)(h4:(1<=dD->R7 A Q H pw f (S.fF ⟨aK,day,dD,only,dD⟩) (.int S.credits.length)))(h5:(dD < 1->LI A K E "no amount" H)):tK A K vs H Q E
def jf:aO ["self","who","day","amount","only","number"] ["self","who","day","amount","only"] (ay (mem 25 4)):={}
def k7 {H:Hp}{x dx C:Addr}{fs:List (Str×V)}(nx:H x=none)(nd:H dx=none)(ne:dx≠x):aG H (upd (upd H dx (.own x)) x (.ins C dx fs)):=(aG.new nd).trans (aG.new (by rw[az ne.symm]; exact nx))
def oy (T:Txt K mg){A:dO}(G:jl K mg A):gJ (ma P w mg) P w K mg base A.work "tell_credit" 5 ["self","who","day","amount","only"] (tK A K):=by
 have gf:uW P w K mg base "check_amount" 4 ["amount"] (qF A):=jM T G;have Jb:sY P w K mg base "Credit" A.dP 1 ["self","number","who","day","amount","only"] (zk A):=I9 G;refine qE (k:=4) G.oa G.bw jf (fun f cM A' outer s H vs Q E hr lY h=>?_)
 ·obtain⟨pw,S,g,aK,day,dD,only,rfl,hW,hl,k1,k2⟩:=h;have nd:=jf.nd;obtain⟨dw,hw⟩:=hW.obj;have hlen:(g.cps.map V.ref).length=S.credits.length:=by rw[ae]; exact hW.rc.1
  refine⟨_,(ah (bG (rN gf (hr.mono (by decide)) rfl lY.pass (aa (pv 3) aw)))
(ah (sv 5 nd (pT T.eI (jJ (pv 0))))
(ah (bG (qx (jJ (pv 0)) (R0 Jb (hr.mono (by decide)) rfl (aa (pv 5) (aa (pv 1) (aa (pv 2) (aa (pv 3) (aa (pv 4) aw))))))))
(ah (bG (qx (jJ (pv 0)) (pv 3)))
(au (a6 (pv 5))))))),?_⟩
  refine⟨_,rfl,dD,rfl,fun h1=>?_,fun h2=>k2 h2 A.iu G.ka (fun q=>absurd q (by decide +kernel))⟩;refine⟨_,rfl,pw,_,dw,_,_,rfl,hw,G.bw,G.cw,gS g,g.pc,_,rfl,.inl (bF.of hW.hc),?_⟩;refine⟨_,rfl,pw,_,dw,_,_,rfl,hw,G.bw,G.cw,gS g,.inl ⟨rfl,_,bF.of hW.hc⟩,_,rfl,_,rfl,_,rfl,_,rfl,_,rfl,fun x dx nx IV ne=>?_⟩;refine⟨x,dx,(g.cps.map V.ref).length,⟨aK,day,dD,only,dD⟩,rfl,ag,rfl,?_⟩;rw[fQ,hlen];have s1:=k7 (C:=A.dP) (fs:=eN S.credits.length ⟨aK,day,dD,only,dD⟩) nx IV ne;have hx:dY (upd (upd H dx (.own x)) x (.ins A.dP dx (eN S.credits.length ⟨aK,day,dD,only,dD⟩))) x A.dP (eN S.credits.length ⟨aK,day,dD,only,dD⟩):=⟨dx,ag⟩;generalize upd (upd H dx (.own x)) x (.ins A.dP dx (eN S.credits.length ⟨aK,day,dD,only,dD⟩))=H3 at s1 hx;have zo:=hW.same s1;obtain⟨W4,F4⟩:=zo.fF hx;refine⟨g.pc,_,_,rfl,rfl,zo.hc,bc (by lia),?_⟩;have ew:pw≠g.pc:=fun z=>zo.ins zo.obj (z▸(by simp[eA.fp]));obtain⟨e1,e2,e3,e4,e5,e6,e7,e8,e9,ML⟩:=eA.ne zo.nd;refine⟨_,rfl,pw,_,dw,_,_,rfl,(by rw[az ew]; exact s1 _ _ hw),G.bw,G.eZ,k4 g,.inl ⟨rfl,_,bF.of (by rw[az e6.symm]; exact zo.hf)⟩,_,rfl,g.pf,_,_,rfl,rfl,(by rw[az e6.symm]; exact zo.hf),bc (by rw[ae]; lia),?_⟩;refine⟨_,rfl,?_⟩;exact k1 h1 (g.fF x) _ rfl (F4.lO s1) W4
inductive zp (A:dO)(K:Frag)(vs:List V)(H:Hp)(Q:VK)(E:XK):Prop
 |mk (pw:Addr)(S:Bk)(f:eA)(aK:Str)(day An dD:Int)(h1:vs=[.ref pw,.str aK,.int day,.int An,.int dD])(h2:dr A H pw S f)(h3:S.aC.length<=900)(h4:(S.bar (.dF aK day An dD)=""->R7 A Q H pw f (S.enter (.dF aK day An dD)) (.int S.aC.length)))(h5:(S.bar (.dF aK day An dD)≠""->LI A K E (S.bar (.dF aK day An dD)) H)):zp A K vs H Q E
def kg:aO ["self","who","day","due","amount","number"] ["self","who","day","due","amount"] (ay (mem 25 1)):={}
def BF (T:Txt K mg){A:dO}(G:jl K mg A):gJ (ma P w mg) P w K mg base A.work "tell_bill" 5 ["self","who","day","due","amount"] (zp A K):=by
 have gf:uW P w K mg base "check_amount" 4 ["amount"] (qF A):=jM T G;have OI:sY P w K mg base "Bill" A.dF 1 ["self","number","who","day","due","amount"] (zj A):=OH G;refine qE (k:=4) G.qA G.bw kg (fun f cM A' outer s H vs Q E hr lY h=>?_)
 ·obtain⟨pw,S,g,aK,day,An,dD,rfl,hW,hl,k1,k2⟩:=h;have nd:=kg.nd;obtain⟨dw,hw⟩:=hW.obj;have oj:S.bar (.dF aK day An dD)=(if dD < 1 then("no amount":Str) else if An < day then("too early":Str) else("":Str)):=rfl;rw[oj] at k1 k2;have hlen:(g.ip.map V.ref).length=S.aC.length:=by rw[ae]; exact hW.rb.1
  refine⟨_,(ah (bG (rN gf (hr.mono (by decide)) rfl lY.pass (aa (pv 4) aw)))
(ah (bO (a0 jA (pv 3) (pv 2) (a7 _))
(au (jH lY (Bz T G) (hr.h.mono (by decide)) rfl rfl))
bf)
(ah (sv 5 nd (pT T.eI (jJ (pv 0))))
(ah (bG (qx (jJ (pv 0)) (R0 OI (hr.mono (by decide)) rfl (aa (pv 5) (aa (pv 1) (aa (pv 2) (aa (pv 3) (aa (pv 4) aw))))))))
(ah (bG (qx (jJ (pv 0)) (pv 4)))
(au (a6 (pv 5)))))))),?_⟩
  refine⟨_,rfl,dD,rfl,fun h1=>?_,fun h2=>?_⟩
  ·have n1': ¬ dD < 1:=by lia
   rw[aL n1'] at k1 k2;refine⟨_,rfl,_,rfl,_,_,rfl,rfl,_,rfl,cy (fun z=>?_) (fun z=>?_)⟩
   ·have z':An < day:=aX z;rw[aZ z'] at k2;exact fun dx n=>(k2 (by decide +kernel) A.tooEarly G.sE (fun q=>absurd q (by decide +kernel))).at n
   have z': ¬ An < day:=fun q=>z (aJ q);rw[aL z'] at k1;refine⟨_,rfl,pw,_,dw,_,_,rfl,hw,G.bw,G.dM,iY g,g.pb,_,rfl,.inl (bF.of hW.hb),?_⟩;refine⟨_,rfl,pw,_,dw,_,_,rfl,hw,G.bw,G.dM,iY g,.inl ⟨rfl,_,bF.of hW.hb⟩,_,rfl,_,rfl,_,rfl,_,rfl,_,rfl,fun x dx nx IV ne=>?_⟩;refine⟨x,dx,(g.ip.map V.ref).length,⟨aK,day,An,dD,dD⟩,rfl,ag,rfl,?_⟩;rw[fQ,hlen];have s1:=k7 (C:=A.dF) (fs:=eX S.aC.length ⟨aK,day,An,dD,dD⟩) nx IV ne;have hx:dY (upd (upd H dx (.own x)) x (.ins A.dF dx (eX S.aC.length ⟨aK,day,An,dD,dD⟩))) x A.dF (eX S.aC.length ⟨aK,day,An,dD,dD⟩):=⟨dx,ag⟩;generalize upd (upd H dx (.own x)) x (.ins A.dF dx (eX S.aC.length ⟨aK,day,An,dD,dD⟩))=H3 at s1 hx;have zo:=hW.same s1;obtain⟨W4,F4⟩:=zo.g8 hx;refine⟨g.pb,_,_,rfl,rfl,zo.hb,bc (by lia),?_⟩;have ew:pw≠g.pb:=fun z=>zo.ins zo.obj (z▸(by simp[eA.fp]));obtain⟨e1,e2,e3,e4,e5,e6,e7,e8,e9,ML⟩:=eA.ne zo.nd;refine⟨_,rfl,pw,_,dw,_,_,rfl,(by rw[az ew]; exact s1 _ _ hw),G.bw,G.eY,kZ g,.inl ⟨rfl,_,bF.of (by rw[az e2.symm]; exact zo.hl)⟩,_,rfl,g.pl,_,_,rfl,rfl,(by rw[az e2.symm]; exact zo.hl),bc (by rw[ae]; lia),?_⟩;refine⟨_,rfl,?_⟩;exact k1 rfl (g.g8 x) _ rfl (F4.lO s1) W4
  ·rw[aZ h2] at k2;exact k2 (by decide +kernel) A.iu G.ka (fun q=>absurd q (by decide +kernel))
def mS (g:eA):(kY g).lookup ("tell_credit":Str)=none:=by rfl
def u0 (g:eA):(kY g).lookup ("bill_at":Str)=none:=by rfl
def zq (g:eA):(kY g).lookup ("credit_at":Str)=none:=by rfl
def Jc (g:eA):(kY g).lookup ("put":Str)=none:=by rfl
inductive zr (A:dO)(K:Frag)(vs:List V)(H:Hp)(Q:VK)(E:XK):Prop
 |mk (pw:Addr)(S:Bk)(f:eA)(aK:Str)(day dD:Int)(h1:vs=[.ref pw,.str aK,.int day,.int dD])(h2:dr A H pw S f)(h3:S.credits.length<=900)(h4:(S.bar (.pQ aK day dD)=""->R7 A Q H pw f (S.enter (.pQ aK day dD)) (.int S.credits.length)))(h5:(S.bar (.pQ aK day dD)≠""->LI A K E (S.bar (.pQ aK day dD)) H)):zr A K vs H Q E
def mT:aO ["self","who","day","amount"] ["self","who","day","amount"] (ay (mem 25 2)):={}
def u5 (T:Txt K mg){A:dO}(G:jl K mg A):gJ (ma P w mg) P w K mg base A.work "tell_payment" 6 ["self","who","day","amount"] (zr A K):=by
 have kE:gJ (ma P w mg) P w K mg base A.work "tell_credit" 5 ["self","who","day","amount","only"] (tK A K):=oy T G;refine qE (k:=5) G.mM G.bw mT (fun f cM A' outer s H vs Q E hr lY h=>?_)
 ·obtain⟨pw,S,g,aK,day,dD,rfl,hW,hl,k1,k2⟩:=h;obtain⟨dw,hw⟩:=hW.obj;have oj:S.bar (.pQ aK day dD)=(if dD < 1 then("no amount":Str) else("":Str)):=rfl;rw[oj] at k1 k2;refine⟨_,(au (a6 (mN kE (hr.mono (by decide)) lY.pass (pv 0) (aa (pv 1) (aa (pv 2) (aa (pv 3) (aa CI aw))))))),?_⟩;refine⟨_,rfl,pw,dw,_,rfl,hw,mS g,_,rfl,_,rfl,_,rfl,pw,S,g,aK,day,dD,-1,rfl,hW,hl,fun h1=>?_,fun h2=>?_⟩
  ·rw[aL (by lia)] at k1;exact k1 rfl
  ·rw[aZ h2] at k2;exact k2 (by decide +kernel)
inductive zt (A:dO)(K:Frag)(vs:List V)(H:Hp)(Q:VK)(E:XK):Prop
 |mk (pw:Addr)(S:Bk)(f:eA)(b day dD:Int)(h1:vs=[.ref pw,.int b,.int day,.int dD])(h2:dr A H pw S f)(h3:S.credits.length<=900)(h4:(S.bar (.note b day dD)=""->R7 A Q H pw f (S.enter (.note b day dD)) (.int S.credits.length)))(h5:(S.bar (.note b day dD)≠""->LI A K E (S.bar (.note b day dD)) H)):zt A K vs H Q E
def kh:aO ["self","bill_number","day","amount","bill"] ["self","bill_number","day","amount"] (ay (mem 25 3)):={}
def BG (T:Txt K mg){A:dO}(G:jl K mg A):gJ (ma P w mg) P w K mg base A.work "tell_note" 6 ["self","bill_number","day","amount"] (zt A K):=by
 have kE:gJ (ma P w mg) P w K mg base A.work "tell_credit" 5 ["self","who","day","amount","only"] (tK A K):=oy T G;have rO:gJ (ma P w mg) P w K mg base A.work "bill_at" 4 ["self","number"] (EI A K):=xR T G;refine qE (k:=5) G.qB G.bw kh (fun f cM A' outer s H vs Q E hr lY h=>?_)
 ·obtain⟨pw,S,g,b,day,dD,rfl,hW,hl,k1,k2⟩:=h;have nd:=kh.nd;obtain⟨dw,hw⟩:=hW.obj;rw[uE] at k1 k2;refine⟨_,(ah (sv 4 nd (mN rO (hr.mono (by decide)) lY.pass (pv 0) (aa (pv 1) aw)))
(au (a6 (mN kE (hr.mono (by decide)) lY.pass (pv 0) (aa (jJ (pv 4)) (aa (pv 2) (aa (pv 3) (aa (pv 1) aw)))))))),?_⟩
  refine⟨_,rfl,pw,dw,_,rfl,hw,u0 g,_,rfl,pw,S,g,b,rfl,hW,fun ju p hp=>?_,fun hn=>?_⟩
  ·obtain⟨dp,R8⟩:=hp;have zb: ¬ ¬ pS b S.aC.length:=fun z=>z ju;rw[aL zb] at k1 k2;have ho:sC b=V.int b:=aL (fun z=>by have:=ju.1; lia);refine⟨_,rfl,pw,dw,_,rfl,hw,mS g,_,rfl,p,_,dp,_,_,rfl,R8,G.dQ,G.kb,Dk _ _,_,rfl,_,rfl,_,rfl,pw,S,g,(S.bl b.toNat).aK,day,dD,b,(by rw[ho]; rfl),hW,hl,fun h1=>?_,fun h2=>?_⟩
   ·rw[aL (by lia)] at k1;exact k1 rfl
   ·rw[aZ h2] at k2;exact k2 (by decide +kernel)
  ·rw[aZ hn] at k2;exact k2 (by decide +kernel)
def xS {S:Bk}{n c b:Nat}(wf:WF S n)(hc:c < S.credits.length)(hb:b < S.aC.length):ox (S.cr c) (S.bl b) b=S.dG c b:=by
 unfold ox Bk.dG;by_cases z:(S.cr c).c= -1
 ·rw[aZ z,aJ z,Bool.true_or,Bool.and_true]
 ·rw[aL z,bC z,Bool.false_or];rcases wf.o c hc with q|⟨b',e1,e2,e3⟩
  ·exact absurd q z
  ·by_cases y:(S.cr c).c=(b:Int)
   ·have:b'=b:=by lia
    subst this;rw[aJ y,aJ e3]; rfl
   ·rw[bC y,Bool.and_false]
inductive Jd (A:dO)(K:Frag)(vs:List V)(H:Hp)(Q:VK)(E:XK):Prop
 |mk (pw:Addr)(S:Bk)(f:eA)(n:Nat)(ci bi dD:Int)(h1:vs=[.ref pw,.int ci,.int bi,.int dD])(h2:dr A H pw S f)(h3:WF S n)(h4:S.made.length < sizeLine)(h5:(S.bar (.set ci bi dD)=""->R7 A Q H pw f (S.enter (.set ci bi dD)) (.int dD)))(h6:(S.bar (.set ci bi dD)≠""->LI A K E (S.bar (.set ci bi dD)) H)):Jd A K vs H Q E
def jg:aO ["self","credit_number","bill_number","amount","credit","bill"] ["self","credit_number","bill_number","amount"] (ay (mem 25 5)):={}
def wD (T:Txt K mg){A:dO}(G:jl K mg A):gJ (ma P w mg) P w K mg base A.work "set_by_hand" 5 ["self","credit_number","bill_number","amount"] (Jd A K):=by
 have BH:gJ (ma P w mg) P w K mg base A.work "credit_at" 4 ["self","number"] (Ja A K):=BE T G;have rO:gJ (ma P w mg) P w K mg base A.work "bill_at" 4 ["self","number"] (EI A K):=xR T G;have Je:gJ rC P w K mg base A.work "put" 1 ["self","credit_number","bill_number","amount"] (zl A):=MO G;have Dw:eQ P w K mg base "fits" 1 ["credit","bill"] (zf A):=IW T G;have gf:uW P w K mg base "check_amount" 4 ["amount"] (qF A):=jM T G;refine qE (k:=4) G.og G.bw jg (fun f cM A' outer s H vs Q E hr lY h=>?_)
 ·obtain⟨pw,S,g,n,ci,bi,dD,rfl,hW,wf,hz,k1,k2⟩:=h;have nd:=jg.nd;obtain⟨dw,hw⟩:=hW.obj;rw[yI] at k1 k2;refine⟨_,(ah (sv 4 nd (mN BH (hr.mono (by decide)) lY.pass (pv 0) (aa (pv 1) aw)))
(ah (sv 5 nd (mN rO (hr.mono (by decide)) lY.pass (pv 0) (aa (pv 2) aw)))
(ah (bO (jy (fS (fc Dw hr (aa (pv 4) (aa (pv 5) aw)))))
(au (jH lY (y7 T G) (hr.h.mono (by decide)) rfl rfl))
bf)
(ah (bG (rN gf (hr.mono (by decide)) rfl lY.pass (aa (pv 3) aw)))
(ah (bO (PW.pt (pw_or (a0 jd (pv 3) (xl (jJ (pv 0)) (pv 1)) (a7 _)) (pw_or1 (a0 jd (pv 3) (xl (jJ (pv 0)) (pv 2)) (a7 _)))))
(au (jH lY (Ds T G) (hr.h.mono (by decide)) rfl rfl))
bf)
(ah (bG (mN Je (hr.mono (by decide)) mz (pv 0) (aa (pv 1) (aa (pv 2) (aa (pv 3) aw)))))
(au (a6 (pv 3))))))))),?_⟩
  refine⟨_,rfl,pw,dw,_,rfl,hw,zq g,_,rfl,pw,S,g,ci,rfl,hW,fun ic p hp=>?_,fun hn=>?_⟩
  case refine_2=>
   rw[aZ hn] at k2;exact k2 (by decide +kernel)
  have zc: ¬ ¬ pS ci S.credits.length:=fun z=>z ic;rw[aL zc] at k1 k2;refine⟨_,rfl,pw,dw,_,rfl,hw,u0 g,_,rfl,pw,S,g,bi,rfl,hW,fun ib q hq=>?_,fun hn=>?_⟩
  case refine_2=>
   rw[aZ hn] at k2;exact k2 (by decide +kernel)
  have zb: ¬ ¬ pS bi S.aC.length:=fun z=>z ib;rw[aL zb] at k1 k2;obtain⟨c,rfl⟩:=ck ic.1;obtain⟨b,rfl⟩:=ck ib.1;have hc:c < S.credits.length:=by have:=ic.2; lia
  have hb:b < S.aC.length:=by have:=ib.2; lia
  rw[eo] at hp hq k1 k2;rw[eo] at k1 k2;have hfg:=xS wf hc hb;refine⟨_,rfl,_,rfl,p,q,c,b,_,_,rfl,hp,hq,_,rfl,?_⟩;rw[hfg];refine cy (fun z=>?_) (fun z=>?_)
  ·have z':S.dG c b=false:=by simpa using z
   rw[aZ z'] at k2;exact fun dx nn=>(k2 (by decide +kernel) A.jv G.qy (fun q=>absurd q (by decide +kernel))).at nn
  have zg: ¬ S.dG c b=false:=by simpa using z
  rw[aL zg] at k1 k2;refine⟨_,rfl,dD,rfl,fun h1=>?_,fun h2=>?_⟩
  case refine_2=>
   rw[aZ h2] at k2;exact k2 (by decide +kernel) A.iu G.ka (fun q=>absurd q (by decide +kernel))
  rw[aL (by lia: ¬ dD < 1)] at k1 k2;have R9:ff (S.cr c).d (S.bl b).d < dD-> ∀dx,H dx=none->E (.ref A.tooMuch) (some dx) (upd H dx (.xd [("text",.str "too much")])):=fun z dx nn=>by
   rw[aZ z] at k2;exact(k2 (by decide +kernel) A.tooMuch G.pz (fun _=>rfl)).at nn
  refine⟨_,rfl,_,rfl,pw,_,dw,_,_,rfl,hw,G.bw,G.eZ,k4 g,_,rfl,g.pf,_,_,_,rfl,rfl,bF.of hW.hf,LH hc,_,_,rfl,rfl,_,rfl,cy (fun z=>fe (R9 ?_)) (fun z=>?_)⟩
  ·have z':(S.cr c).d < dD:=aX z;unfold ff;split <;> lia
  have z1: ¬ (S.cr c).d < dD:=fun q=>z (aJ q);refine⟨_,rfl,_,rfl,pw,_,dw,_,_,rfl,hw,G.bw,G.eY,kZ g,_,rfl,g.pl,_,_,_,rfl,rfl,bF.of hW.hl,LH hb,_,_,rfl,rfl,_,rfl,cy (fun z=>R9 ?_) (fun z=>?_)⟩
  ·have z':(S.bl b).d < dD:=aX z;unfold ff;split <;> lia
  have z2: ¬ (S.bl b).d < dD:=fun q=>z (aJ q);have zm: ¬ ff (S.cr c).d (S.bl b).d < dD:=by
   unfold ff;split <;> lia
  rw[aL zm] at k1;refine⟨_,rfl,pw,dw,_,rfl,hw,Jc g,_,rfl,_,rfl,_,rfl,pw,S,g,c,b,dD,rfl,hW,hc,hb,hz,fun H2 F2 W2=>?_⟩;exact⟨_,rfl,k1 rfl g H2 rfl F2 W2⟩
def EJ:Sp:=fun vs H Q _=>vs=[]/\ ∀(sd:Addr) (f:fj) (H':Hp),aG H H'->de H' sd Bk.new f->H sd=none->(∀b∈f.fp,H b=none)->Q (.ref sd) H'
def wF:aO [] [] (ay (top 53)):={}
def qH (T:Txt K mg):eQ P w K mg base "_law_begun" 1 [] EJ:=by
 refine T.yT.fA (k:=0) wF (fun f cM A outer s H vs Q E hr h=>?_)
 ·obtain⟨rfl,k⟩:=h;refine⟨_,(au (a6 (KZ (uk aN (bP aw) (uk aN (bP aw) (uk aN (bP aw) KY))) (by rfl) rfl (by simp) (by decide)))),?_⟩;intro sd Ls;refine⟨bq _,fun pb nb=>⟨bq _,fun pc nc=>⟨bq _,fun pm nm=>?_⟩⟩⟩;have t0:=aG.new (o:= .dK []) Ls;have t1:=aG.new (o:= .lst []) nb;have t2:=aG.new (o:= .lst []) nc;have t3:=aG.new (o:= .lst []) nm;have g0:=((t1.trans t2).trans t3) _ _ (ag (H:=H) (a:=sd) (o:= .dK []));have gb:=(t2.trans t3) _ _ (ag (H:=upd H sd (.dK [])) (a:=pb) (o:= .lst []));have gc:=t3 _ _ (ag (H:=upd (upd H sd (.dK [])) pb (.lst [])) (a:=pc) (o:= .lst []));have gm:=ag (H:=upd (upd (upd H sd (.dK [])) pb (.lst [])) pc (.lst [])) (a:=pm) (o:= .lst []);have nb0:=t0.free nb;have nc0:=(t0.trans t1).free nc;have nm0:=((t0.trans t1).trans t2).free nm;have e1:sd≠pb:=aI ag nb;have e2:sd≠pc:=aI (t1 _ _ ag) nc;have e3:sd≠pm:=aI ((t1.trans t2) _ _ ag) nm;have e4:pb≠pc:=aI ag nc;have e5:pb≠pm:=aI (t2 _ _ ag) nm;have e6:pc≠pm:=aI ag nm;have s3:=((t0.trans t1).trans t2).trans t3;generalize upd (upd (upd (upd H sd (.dK [])) pb (.lst [])) pc (.lst [])) pm (.lst [])=H3 at g0 gb gc gm s3 ⊢;refine⟨g0,[(Sum.inr "bills",.ref pb),(Sum.inr "credits",.ref pc),(Sum.inr "made",.ref pm)],rfl,(by show 3<=15; lia),?_⟩;refine k sd ⟨pb,pc,pm,[],[]⟩ _ (s3.cZ Ls) ⟨?_,by rw[az e1.symm]; exact gb,by rw[az e2.symm]; exact gc,⟨[],by rw[az e3.symm]; exact gm,.nil⟩,.nil,.nil,?_,?_⟩ Ls ?_
  ·rw[ag,N7]; rfl
  ·simp[fj.fp,e4,e5,e6]
  ·simp[fj.fp,e1,e2,e3]
  ·intro b hb;simp only[fj.fp,List.append_nil,List.mem_cons,List.not_mem_nil,or_false] at hb;rcases hb with rfl|rfl|rfl
   ·exact nb0
   ·exact nc0
   ·exact nm0
inductive zu (vs:List V)(H:Hp)(Q:VK)(E':XK):Prop
 |mk (sd:Addr)(S:Bk)(f:fj)(c b:Nat)(h1:vs=[.ref sd,.int c,.int b])(h2:de H sd S f)(h3:c < S.credits.length)(h4:b < S.aC.length)(h5: ∀H',aG H H'->Q (.bl (S.dG c b)) H'):zu vs H Q E'
def qI:aO ["_law_state","_law_credit","_law_bill","_law_one"] ["_law_state","_law_credit","_law_bill"] (ay (top 54)):={}
def mU (T:Txt K mg):eQ P w K mg base "_law_goes" 1 ["_law_state","_law_credit","_law_bill"] zu:=by
 refine T.Bc.fA (k:=0) qI (fun f cM A outer s H vs Q E hr h=>?_)
 ·obtain⟨sd,S,g,c,b,rfl,hB,hc,hb,k⟩:=h;have hu:=j8 hr;have nd:=qI.nd;obtain⟨p,_,ap,hp⟩:=hB.lc hc;obtain⟨q,_,aq,hq⟩:=hB.lb hb;refine⟨_,(ah (sv 3 nd (xl (cF hu (pv 0) aN (fun _ _=>rfl)) (pv 1)))
(au (a6 (oU (eG cW (xl (pv 3) aj) (xl (xl (cF hu (pv 0) aN (fun _ _=>rfl)) (pv 2)) aj) (a7 _)) (mj (eG nE (xl (pv 3) aj) (bP (aa (ou kr aj) (aa (pv 2) aw))) (by rfl))))))),?_⟩
  refine⟨_,rfl,sd,_,rfl,hB.gC,_,rfl,g.pc,_,_,.ref p,rfl,rfl,bF.of hB.hc,ap,?_⟩;refine⟨_,rfl,p,_,_,.str (S.cr c).aK,rfl,rfl,bF.of hp,rfl,_,rfl,sd,_,rfl,hB.gB,_,rfl,g.pb,_,_,.ref q,rfl,rfl,bF.of hB.hb,aq,q,_,_,.str (S.bl b).aK,rfl,rfl,bF.of hq,rfl,rfl,_,rfl,cy (fun d=>?_) (fun d=>?_)⟩
  ·have d':(S.cr c).aK=(S.bl b).aK:=by have:=aX d; injection this
   refine⟨_,rfl,p,_,_,.int (S.cr c).c,rfl,rfl,bF.of hp,rfl,_,rfl,_,rfl,(by show 2<=sizeLine; decide),fun p9 n9=>?_⟩;refine⟨p9,_,rfl,.inl (bF.of ag),rfl,rfl,?_⟩;have e:S.dG c b=vV (V.int (S.cr c).c) [V.int (-1),V.int (b:Int)]:=by
    unfold Bk.dG;rw[aJ d',Bool.true_and];rw[nQ];simp[vV,KP];lia
   have q9:=k _ (aG.new (o:= .lst [V.int (-1),V.int (b:Int)]) n9);rw[e] at q9;exact q9
  ·have d': ¬ (S.cr c).aK=(S.bl b).aK:=fun z=>d (aJ (by rw[z]));have e:S.dG c b=false:=by
    unfold Bk.dG;rw[bC d',M8]
   have q9:=k H (aG.refl _);rw[e] at q9;exact q9
def jn {A:Hp->Prop}{H H':Hp}(e:H=H')(h:A H'):A H:=e▸h
inductive BI (vs:List V)(H:Hp)(Q:VK)(E':XK):Prop
 |mk (sd:Addr)(S:Bk)(f:fj)(c b:Nat)(x:Int)(h1:vs=[.ref sd,.int c,.int b,.int x])(h2:de H sd S f)(h3:c < S.credits.length)(h4:b < S.aC.length)(h5:S.made.length < sizeLine)(h6: ∀H',Frame f.fp H H'->de H' sd (S.put c b x) f->Q .dW H'):BI vs H Q E'
def sF:aO ["_law_state","_law_credit","_law_bill","_law_amount"] ["_law_state","_law_credit","_law_bill","_law_amount"] (ay (top 55)):={}
def u6 (T:Txt K mg):eQ P w K mg base "_law_put" 1 ["_law_state","_law_credit","_law_bill","_law_amount"] BI:=by
 refine T.Dj.fA (k:=0) sF (fun f cM A outer s H vs Q E hr h=>?_)
 ·obtain⟨sd,S,g,c,b,x,rfl,hB,hc,hb,hz,k⟩:=h;have hu:=j8 hr;have nd:=sF.nd;obtain⟨p,pi,ap,hp⟩:=hB.lc hc;refine⟨_,(ah (kq (aR eK (xl (xl (cF hu (pv 0) aN (fun _ _=>rfl)) (pv 1)) aj) (pv 3)) (mq (xl (cF hu (pv 0) aN (fun _ _=>rfl)) (pv 1)) aj set_list))
(ah (kq (aR eK (xl (xl (cF hu (pv 0) aN (fun _ _=>rfl)) (pv 2)) aj) (pv 3)) (mq (xl (cF hu (pv 0) aN (fun _ _=>rfl)) (pv 2)) aj set_list))
(au (bG (qx (cF hu (pv 0) aN (fun _ _=>rfl)) (dh (aa (pv 1) (aa (pv 2) (aa (pv 3) aw))))))))),?_⟩
  refine⟨_,rfl,sd,_,rfl,hB.gC,_,rfl,g.pc,_,_,.ref p,rfl,rfl,bF.of hB.hc,ap,p,_,_,.int (S.cr c).d,rfl,rfl,bF.of hp,rfl,_,rfl,_,_,rfl,rfl,?_⟩;refine⟨_,rfl,sd,_,rfl,hB.gC,_,rfl,g.pc,_,_,.ref p,rfl,rfl,bF.of hB.hc,ap,p,_,4,4,rfl,rfl,hp,rfl,?_⟩;have B1:=hB.setC (r:=(S.cr c).less x) pi ⟨_,hp⟩;have F1:Frame g.fp H (upd H p (.lst ((S.cr c).less x).vs)):=Frame.upd (by have:=List.mem_of_getElem? pi; simp[fj.fp,this]);refine jn (H':=upd H p (.lst ((S.cr c).less x).vs)) rfl ?_;generalize upd H p (.lst ((S.cr c).less x).vs)=H1 at B1 F1 ⊢;obtain⟨q,qi,aq,hq⟩:=B1.lb (b:=b) hb
  change H1 q=some (.lst (S.bl b).vs) at hq
  refine⟨_,rfl,sd,_,rfl,B1.gB,_,rfl,g.pb,_,_,.ref q,rfl,rfl,bF.of B1.hb,aq,q,_,_,.int (S.bl b).d,rfl,rfl,bF.of hq,rfl,_,rfl,_,_,rfl,rfl,?_⟩;refine⟨_,rfl,sd,_,rfl,B1.gB,_,rfl,g.pb,_,_,.ref q,rfl,rfl,bF.of B1.hb,aq,q,_,4,4,rfl,rfl,hq,rfl,?_⟩;have B2:=B1.setB (r:=(S.bl b).less x) qi ⟨_,hq⟩;have F2:Frame g.fp H1 (upd H1 q (.lst ((S.bl b).less x).vs)):=Frame.upd (by have:=List.mem_of_getElem? qi; simp[fj.fp,this]);refine jn (H':=upd H1 q (.lst ((S.bl b).less x).vs)) rfl ?_;generalize upd H1 q (.lst ((S.bl b).less x).vs)=H2 at B2 F2 ⊢;obtain⟨ms,m1,m2⟩:=B2.hm;refine⟨_,rfl,sd,_,rfl,B2.gM,.inl ⟨rfl,_,bF.of m1⟩,_,rfl,_,rfl,_,rfl,(by show 3<=sizeLine; decide),fun p8 n8=>?_⟩;have t8:=aG.new (o:= .tup [V.int c,.int b,.int x]) n8;refine⟨g.pm,ms,_,rfl,rfl,t8 _ _ m1,?_,?_⟩
  ·rw[← aS m2];exact hz
  ·refine k _ ((F1.tr F2).tr ((t8.frame).tr (Frame.upd (by simp[fj.fp])))) ?_;exact(B2.same t8).VS (t:=(c,b,x)) (t8 _ _ m1) (m2.mono t8.tk) ag
def EK (x:Int×Nat):List Int:=[x.1,(x.2:Int)]
def BJ (rows:List Rw)(aK:Str)(key:Rw->Int)(i:Nat):List (Int×Nat):=
 ((List.range i).filter fun k=>decide ((rows.getD k default).aK=aK) && decide (0 < (rows.getD k default).d)).map fun k=>(key (rows.getD k default),k)
def LJ {rows:List Rw}{aK:Str}{key:Rw->Int}{i:Nat}(h:(rows.getD i default).aK=aK)(h2:0 < (rows.getD i default).d):BJ rows aK key (i + 1)=BJ rows aK key i ++ [(key (rows.getD i default),i)]:=by
 unfold BJ;rw[vP,fR,aM]
 congr 1
 rw[cE (by rw[aJ h,aJ h2]; rfl)];rfl
def OJ {rows:List Rw}{aK:Str}{key:Rw->Int}{i:Nat}(h: ¬ ((rows.getD i default).aK=aK/\0 < (rows.getD i default).d)):BJ rows aK key (i + 1)=BJ rows aK key i:=by
 unfold BJ;rw[List.range_succ,List.filter_append,List.map_append,List.filter_cons_of_neg (by simpa using h)];simp
def OK {rows:List Rw}{aK:Str}{key:Rw->Int}{i:Nat}: ∀x∈BJ rows aK key i,x.2 < i:=by
 intro x hx;obtain⟨k,hk,rfl⟩:=bE.mp hx;exact cK.mp (fC.mp hk).1
def OL {rows:List Rw}{aK:Str}{key:Rw->Int}{i:Nat}:((BJ rows aK key i).map (·.2)).Nodup:=by
 unfold BJ;rw[fh];have e:((fun x:Int×Nat=>x.2) ∘ fun k=>(key (rows.getD k default),k))=id:=rfl;rw[e,Kq];exact tw.filter _
def zv {rows:List Rw}{aK:Str}{key:Rw->Int}{i:Nat}:(BJ rows aK key i).length<=i:=by
 unfold BJ;rw[ae];exact aV (aY _ _) (by rw[df]; exact aB _)
def zw {x y:Str}(d:decide (V.str x=V.str y)=true):x=y:=by
 have:=aX d;injection this
def u9 {x y:Str}(d: ¬ decide (V.str x=V.str y)=true): ¬ x=y:=fun z=>d (aJ (by rw[z]))
def nK: ∀{l:List (Int×Nat)} {x y:Int×Nat},(l.map (·.2)).Nodup->x∈l->y∈l->x.2=y.2->x=y
 |[],_,_,_,h,_,_=>by cases h
 |z :: l,x,y,nd,hx,hy,e=>by
  rw[cS,dS] at nd;rcases av.mp hx with A6|A6
  ·rcases av.mp hy with Cu|Cu
   ·rw[A6,Cu]
   ·exact absurd (bE.mpr ⟨y,Cu,by rw[← e,A6]⟩) nd.1
  ·rcases av.mp hy with Cu|Cu
   ·exact absurd (bE.mpr ⟨x,A6,by rw[e,Cu]⟩) nd.1
   ·exact nK nd.2 A6 Cu e
inductive va (vs:List V)(H:Hp)(Q:VK)(E':XK):Prop
 |mk (p:Addr)(ps:List Addr)(rows:List Rw)(aK:Str)(Gz:Int)(key:Rw->Int)(h1:vs=[.ref p,.str aK,.int Gz])(h2:H p=some (.lst (ps.map V.ref)))(h3:eM H rows ps)(h4:rows.length < 64)(h5:(∀r:Rw,tF r.vs Gz=some (.int (key r))))(h6: ∀D H',aG H H'->H D=none->H' D=some (.lst ((inTurn rows aK key).map fun(k:Nat)=>V.int (k:Int)))->Q (.ref D) H'):va vs H Q E'
def lZ:aO ["_law_rows","_law_who","_law_spot","_law_keys","_law_k"] ["_law_rows","_law_who","_law_spot"] (ay (top 56)):={}
def vb (T:Txt K mg):eQ P w K mg base "_law_in_turn" 1 ["_law_rows","_law_who","_law_spot"] va:=by
 refine T.uR.fA (k:=0) lZ (fun f cM A outer s H vs Q E hr h=>?_)
 ·obtain⟨p,ps,rows,aK,Gz,key,rfl,hp,hR,hl,hk,k⟩:=h;have nd:=lZ.nd;have hlen:=hR.length;refine⟨_,(ah (sv 3 nd (bP aw))
(ah (fk bN rfl (jq rfl T.nH (aa (pT T.eI (pv 0)) aw)) (gn 4 nd)
(au (bO (PW.pt (pw_and (a0 cW (xl (xl (pv 0) (pv 4)) aj) (pv 1) (a7 _)) (pw_and1 (a0 jd (xl (xl (pv 0) (pv 4)) aj) aj (a7 _)))))
(au (bG (qx (pv 3) (dh (aa (xl (xl (pv 0) (pv 4)) (pv 2)) (aa (pv 4) aw))))))
bf)))
(au (a6 (iS (tn:=["_law_key"]) (cn:=[]) (cj:=[]) rfl yy (tI (fm yD (by rfl) T.uS boot_sorted (aa (pv 3) aw))) (fun _ _ _ _=>(en (i:=0) (show(["_law_key"]:List Str).Nodup by decide +kernel) rfl (Or.inl rfl))) (fun _ _ _ _=>lE) (fun _ _ _ _=>(je (tH (K:=K) rfl) (pv 0) aj (fun _ _=>rfl)))))))),?_⟩
  refine⟨bq _,fun pk nk=>?_⟩;have s1:aG H (upd H pk (.lst [])):=aG.new nk;refine⟨_,rfl,p,_,rfl,.inl (bF.of (s1 _ _ hp)),((ps.map V.ref).length:Int),rfl,by lia,by rw[ae]; lia,?_⟩;rw[eo];refine kJ (lo:=0) (n:=(ps.map V.ref).length) (fun i σ H2=> ∃(xs:List V) (x4:Option V),σ=[some (.ref p),some (.str aK),some (.int Gz),some (.ref pk),x4]/\aG H H2/\H2 pk=some (.lst xs)/\gW H2 ((BJ rows aK key i).map EK) xs)
   ⟨[],none,rfl,s1,ag,.nil⟩ ?_ ?_
  ·rintro i σ H2 hi ⟨xs,x4,rfl,s2,hx,hT⟩;rw[ly];have yC:i < rows.length:=by rw[ae] at hi; lia
   obtain⟨r,ri,MN⟩:=hR.at yC;have ar:tF (ps.map V.ref) (i:Int)=some (.ref r):=cz (by rw[aD,ri]; rfl);have xB:=s2 _ _ hp;have EL:=s2 _ _ MN;have WB:xs.length<=i:=by
    have:=aS hT;rw[ae] at this;have:=zv (rows:=rows) (aK:=aK) (key:=key) (i:=i);lia
   have no: ¬ ((rows.getD i default).aK=aK/\0 < (rows.getD i default).d)-> ∃(xs:List V) (x4:Option V),[some (V.ref p),some (.str aK),some (.int Gz),some (.ref pk),some (.int (i:Int))]=[some (.ref p),some (.str aK),some (.int Gz),some (.ref pk),x4]/\aG H H2/\H2 pk=some (.lst xs)/\gW H2 ((BJ rows aK key (i + 1)).map EK) xs:=fun n=>
    ⟨xs,_,rfl,s2,hx,by rw[OJ n]; exact hT⟩
   generalize OM:rows.getD i default=row at EL no;refine⟨_,rfl,_,rfl,p,_,_,.ref r,rfl,rfl,bF.of xB,ar,r,_,_,.str row.aK,rfl,rfl,bF.of EL,rfl,_,rfl,rfl,_,rfl,cy (fun d1=>?_) (fun d1=>bV (no fun z=>u9 d1 z.1))⟩;refine⟨_,rfl,_,rfl,p,_,_,.ref r,rfl,rfl,bF.of xB,ar,r,_,_,.int row.d,rfl,rfl,bF.of EL,rfl,_,_,rfl,rfl,_,rfl,cy (fun d2=>?_) (fun d2=>no fun z=>d2 (aJ z.2))⟩;have Sa:=zw d1;have WC:0 < row.d:=aX d2;refine⟨_,rfl,.inl ⟨rfl,_,bF.of hx⟩,_,rfl,_,rfl,p,_,_,.ref r,rfl,rfl,bF.of xB,ar,_,rfl,r,_,_,.int (key row),rfl,rfl,bF.of EL,hk row,_,rfl,(by show 2<=sizeLine; decide),fun p8 n8=>?_⟩;have t8:=aG.new (o:= .tup [V.int (key row),.int (i:Int)]) n8;refine⟨pk,xs,_,rfl,rfl,t8 _ _ hx,bc (by lia),xs ++ [.ref p8],_,rfl,(s2.trans t8).cZ nk,ag,?_⟩;rw[LJ (by rw[OM]; exact Sa) (by rw[OM]; exact WC),aM,OM];exact gW.snoc (hT.mono (t8.tk.trans (fY (t8 _ _ hx)))) (dE (t8 _ _ hx) _ _ ag)
  ·rintro σ H2 ⟨xs,x4,rfl,s2,hx,hT⟩;have WB:=aS hT;have Y5:=zv (rows:=rows) (aK:=aK) (key:=key) (i:=(ps.map V.ref).length);have Hb:=OK (rows:=rows) (aK:=aK) (key:=key) (i:=(ps.map V.ref).length);have mD:(ps.map V.ref).length=rows.length:=by rw[ae]; lia
   have hle: ∀x∈BJ rows aK key (ps.map V.ref).length,x.2 < 1000:=fun x hx=>by have:=Hb x hx; lia
   have ju:inTurn rows aK key=(fv (BJ rows aK key (ps.map V.ref).length)).map (·.2):=by rw[mD]; rfl
   have hnd:=OL (rows:=rows) (aK:=aK) (key:=key) (i:=(ps.map V.ref).length);generalize BJ rows aK key (ps.map V.ref).length=ks at hT WB Y5 hle ju hnd;rw[ae] at WB;refine⟨_,rfl,pk,xs,_,uT,rfl,bF.of hx,(by lia),hT,(fun t ht=>?_),(fun t ht u hu=>?_),fun D ys us nD Ou perm le=>?_⟩
   ·obtain⟨x,_,rfl⟩:=bE.mp ht;simp[EK]
   ·obtain⟨x,A6,rfl⟩:=bE.mp ht;obtain⟨y,Cu,rfl⟩:=bE.mp hu;refine uU (hle x A6) (hle y Cu) (fun e=>⟨rfl,?_⟩) rfl;exact nK hnd A6 Cu e
   ·have Vs:=Bi hle hnd (fun x _=>rfl) perm le;subst Vs;have tD:=aG.new (o:= .lst ys) nD;refine⟨D,rfl,⟨_,bF.of ag⟩,?_⟩;have Kg:=Ou.mono tD.tk;generalize Qb:upd H2 D (.lst ys)=H3 at tD Kg;have hD3:H3 D=some (.lst ys):=by rw[← Qb]; exact ag
    have s3:=s2.trans tD;clear Qb Ou perm le hT;have Y6:=aS Kg;refine dX (K:=K) (a:=D) (xs:=ys) (fun D' i σ H6=>H3 D'=none/\ ∃v,σ=[v]/\aG H3 H6/\H6 D'=some (.lst (((fv ks).take i).map fun x=>V.int (x.2:Int)))) (fun D' wG=>⟨wG,none,rfl,aG.new wG,ag⟩) (fun D' i σ H6 _ ⟨_,_,_,t3,_⟩=>bF.of (t3 _ _ hD3)) ?_ ?_
    ·rintro D' i x σ H6 MQ ⟨wG,v,rfl,t3,g9⟩;have hi:i < (fv ks).length:=by
      have:=(ao.mp MQ).1;rw[ae] at Y6;lia
     have g0:((fv ks).map EK)[i]? =some (EK (fv ks)[i]):=by rw[aD,af hi]; rfl
     obtain⟨v',hv,pp,e1,Ke⟩:=bI Kg g0;rw[MQ] at hv;obtain rfl:x=v':=aE hv;subst e1;have mv:=lV hi;have Sb:=t3 _ _ Ke;generalize (fv ks)[i]=z at Sb mv;have Jf:((fv ks).take i).length<=100:=by
      rw[bo];have:=(dk ks).length_eq;lia
     refine⟨_,rfl,pp,_,_,.int (z.2:Int),rfl,rfl,cv.of Sb,rfl,_,g9,bc (by rw[ae]; lia),wG,_,rfl,t3.cZ wG,?_⟩;rw[ag,mv,aM];rfl
    ·rintro D' σ H6 wG ⟨_,v,rfl,t3,g9⟩;refine k D' H6 (s3.trans t3) (s3.free wG) ?_;rw[g9,ju,fh,Y6.symm,ae,a8];rfl
def sG {α β:Type}{F:α->β->Prop}: ∀{l₁:List α} {l₂:List β} (n:Nat),Paired F l₁ l₂->Paired F (l₁.drop n) (l₂.drop n)
 |_,_,0,h=>by rwa [List.drop_zero,List.drop_zero]
 |_,_,_ + 1,.nil=> .nil
 |_,_,n + 1,.cons _ t=>by rw[List.drop_succ_cons,List.drop_succ_cons]; exact sG n t
def GA (xs:List V)(n:Nat)(h:n<=xs.length):qg xs (some (n:Int)) none=xs.drop n:=by
 unfold qg;rw[HT.HJ,HT.yo,Nat.min_eq_left h,List.take_of_length_le];rw[l6];exact aB _
structure zx (H0:Hp)(sd:Addr)(S:Bk)(f:fj)(H2:Hp)(S2:Bk)(m:Nat):Prop where
 fr:Frame f.fp H0 H2
 bk:de H2 sd S2 f
 bl:S2.aC.length=S.aC.length
 cl:S2.credits.length=S.credits.length
 ml:S2.made.length<=S.made.length + m
def zx.put {H0:Hp}{sd:Addr}{S:Bk}{f:fj}{H2 H':Hp}{S2:Bk}{m c b:Nat}{x:Int}(I:zx H0 sd S f H2 S2 m)(fr:Frame f.fp H2 H')(bk:de H' sd (S2.put c b x) f):zx H0 sd S f H' (S2.put c b x) (m + 1):=by
 refine⟨I.fr.tr fr,bk,?_,?_,?_⟩
 ·show(S2.aC.set _ _).length=_;rw[dz]; exact I.bl
 ·show(S2.credits.set _ _).length=_;rw[dz]; exact I.cl
 ·show(S2.made ++ [_]).length<=_;rw[aF];have:=I.ml;simp;lia
def zx.up {H0:Hp}{sd:Addr}{S:Bk}{f:fj}{H2:Hp}{S2:Bk}{m n:Nat}(I:zx H0 sd S f H2 S2 m)(h:m<=n):zx H0 sd S f H2 S2 n:=⟨I.fr,I.bk,I.bl,I.cl,aV I.ml (by lia)⟩
def zx.from {H0 H1:Hp}{sd:Addr}{S:Bk}{f:fj}{H2:Hp}{S2:Bk}{m:Nat}(I:zx H0 sd S f H2 S2 m)(s:aG H2 H1):zx H1 sd S f H1 S2 m:=⟨Frame.refl,I.bk.same s,I.bl,I.cl,I.ml⟩
def zx.back {H0 H1:Hp}{sd:Addr}{S:Bk}{f:fj}{H2 H3:Hp}{S2 S3:Bk}{m n:Nat}(I:zx H0 sd S f H2 S2 m)(s:aG H2 H1)(J:zx H1 sd S f H3 S3 n):zx H0 sd S f H3 S3 n:=⟨(I.fr.cI s).tr J.fr,J.bk,J.bl,J.cl,J.ml⟩
def _root_.L2.de.tL {H:Hp}{sd D:Addr}{S:Bk}{f:fj}(h:de H sd S f)(n:H D=none):D∉f.fp:=fun z=>by
 obtain⟨ms,m1,_⟩:=h.hm;have rows: ∀(rs:List Rw) (ps:List Addr),eM H rs ps->D∈ps->False:=fun rs ps hr hp=>by
  obtain⟨i,hi⟩:=yi hp;have iI:i < rs.length:=by
   rw[hr.length];exact(ao.mp hi).1
  obtain⟨q,e1,e2⟩:=hr.at iI;rw[e1] at hi;cases hi;rw[n] at e2;cases e2
 unfold fj.fp at z;rcases av.mp z with rfl|z
 ·have:=h.hb; rw[n] at this; cases this
 rcases av.mp z with rfl|z
 ·have:=h.hc; rw[n] at this; cases this
 rcases av.mp z with rfl|z
 ·rw[n] at m1; cases m1
 rcases bb.mp z with z|z
 ·exact rows _ _ h.rb z
 ·exact rows _ _ h.rc z
def jF (rows:List Rw)(aK:Str)(key:Rw->Int):(inTurn rows aK key).length<=rows.length:=by
 have e:inTurn rows aK key=(fv (BJ rows aK key rows.length)).map (·.2):=rfl;rw[e,ae,(dk _).length_eq];exact zv
def k8 {α β:Type}(g:β->α->β)(l:List α)(s:β){i:Nat}{x:α}(h:l[i]? =some x):(l.take (i + 1)).foldl g s=g ((l.take i).foldl g s) x:=by
 rw[Fd,h,rj];rfl
def _root_.L2.Frame.free {fp:List Addr}{H H':Hp}{p:Addr}(a:Frame fp H H')(h:p∉fp)(n:H' p=none):H p=none:=by
 cases e:H p with
 |none=>rfl
 |some o=>have:=a p o h e; rw[n] at this; cases this
inductive zy (vs:List V)(H:Hp)(Q:VK)(E':XK):Prop
 |mk (sd:Addr)(S:Bk)(f:fj)(aK:Str)(h1:vs=[.ref sd,.str aK])(h2:de H sd S f)(h3:S.credits.length < 64)(h4:S.aC.length < 64)(h5:S.made.length + 10000 < sizeLine)(h6: ∀D ms H',Frame f.fp H H'->de H' sd (S.ij aK) f->H D=none->H' D=some (.lst ms)->gy H' ((S.ij aK).made.drop S.made.length) ms->Q (.ref D) H'):zy vs H Q E'
def oz:aO ["_law_state","_law_who","_law_many","_law_exact","_law_credit","_law_bill","_law_free","_law_left"] ["_law_state","_law_who"] (ay (top 57)):={}
def zz (T:Txt K mg):eQ P w K mg base "_law_swept" 2 ["_law_state","_law_who"] zy:=by
 have mV:eQ P w K mg base "_law_in_turn" 1 ["_law_rows","_law_who","_law_spot"] va:=vb T;have iZ:eQ P w K mg base "_law_goes" 1 ["_law_state","_law_credit","_law_bill"] zu:=mU T;have pA:eQ P w K mg base "_law_put" 1 ["_law_state","_law_credit","_law_bill","_law_amount"] BI:=u6 T;refine T.yU.fA (k:=1) oz (fun f cM A outer s H vs Q E hr h=>?_)
 ·obtain⟨sd,S,g,aK,rfl,hB,qw,LK,Jg,k⟩:=h;have hu:=j8 hr;have nd:=oz.nd;obtain⟨ms,m1,m2⟩:=hB.hm;have WD:S.made.length=ms.length:=aS m2;refine⟨_,(ah (sv 2 nd (pT T.eI (cF hu (pv 0) aN (fun _ _=>rfl))))
(ah (fk bN rfl (tI (bP (aa mi (aa mi aw)))) (gn 3 nd)
(au (fk bN rfl (tI (fc mV hr (aa (cF hu (pv 0) aN (fun _ _=>rfl)) (aa (pv 1) (aa aj aw))))) (gn 4 nd)
(au (fk bN rfl (tI (fc mV hr (aa (cF hu (pv 0) aN (fun _ _=>rfl)) (aa (pv 1) (aa aj aw))))) (gn 5 nd)
(ah (sv 6 nd (xl (xl (cF hu (pv 0) aN (fun _ _=>rfl)) (pv 4)) aj))
(ah (sv 7 nd (xl (xl (cF hu (pv 0) aN (fun _ _=>rfl)) (pv 5)) aj))
(au (bO (PW.pt (pw_and (a0 jd (pv 6) aj (a7 _)) (pw_and1 (fS (fc iZ hr (aa (pv 0) (aa (pv 4) (aa (pv 5) aw))))))))
(au (bO (PW.pt (pw_or (a0 cW (pv 6) (pv 7) (a7 _)) (pw_or1 (jy (fS (pv 3))))))
(au (bG (fc pA hr (aa (pv 0) (aa (pv 4) (aa (pv 5) (aa (fm (rA rfl) (by rfl) T.Be boot_min (aa (pv 6) (aa (pv 7) aw))) aw)))))))
bf))
bf)))))))))
(au (a6 (qf Uj (cF hu (pv 0) aN (fun _ _=>rfl)) (qe (pv 2)) yp))))),?_⟩
  refine⟨_,rfl,sd,_,rfl,hB.gM,g.pm,_,rfl,.inl (bF.of m1),?_⟩;refine⟨(by show 2<=sizeLine; decide),fun pl nl=>⟨pl,rfl,⟨_,bF.of ag⟩,?_⟩⟩;have s1:aG H (upd H pl (.lst ([true,false].map V.bl))):=aG.new nl;have WE:=hB.tL nl;have gN:upd H pl (.lst ([true,false].map V.bl)) pl=some (.lst ([true,false].map V.bl)):=ag;have MR:=hB.same s1;refine jn (H':=upd H pl (.lst ([true,false].map V.bl))) rfl ?_;generalize upd H pl (.lst ([true,false].map V.bl))=H1 at s1 gN MR;refine gA (K:=K) (a:=pl) (xs:=[true,false].map V.bl) (fun i σ H2=> ∃x3 x4 x5 x6 x7:Option V,σ=[some (.ref sd),some (.str aK),some (.int (ms.length:Int)),x3,x4,x5,x6,x7]/\zx H1 sd S g H2 (([true,false].take i).foldl (bM aK) S) (i * 4096))
   ⟨none,none,none,none,none,rfl,Frame.refl,MR,rfl,rfl,Nat.le_add_right _ _⟩ (fun i σ H2 _ ⟨_,_,_,_,_,_,I⟩=>bF.of (I.fr _ _ WE gN)) ?_ ?_
  ·rintro i x σ H2 hx ⟨x3,x4,x5,x6,x7,rfl,I⟩;rw[aD] at hx;obtain⟨ex,hex,rfl⟩:=bB.mp hx;have hi:i < 2:=(ao.mp hex).1;rw[k8 (bM aK) [true,false] S hex];generalize ([true,false].take i).foldl (bM aK) S=S1 at I ⊢;have c1:=I.cl;have b1:=I.bl;refine⟨_,rfl,sd,_,rfl,I.bk.gC,_,rfl,g.pc,g.cps,S1.credits,aK,1,(·.a),rfl,I.bk.hc,I.bk.rc,by lia,(fun _=>rfl),fun D1 H3 t3 n3 GB=>?_⟩;have D1f:=I.bk.tL n3;have I3:=I.from t3;refine⟨D1,rfl,⟨_,bF.of GB⟩,?_⟩;have hcs:(inTurn S1.credits aK (·.a)).length<=63:=by have:=jF S1.credits aK (·.a); lia
   have Y7: ∀c∈inTurn S1.credits aK (·.a),c < S.credits.length:=fun c hc=>by have:=(cq.mp hc).1; lia
   have Yr:bM aK S1 ex=(inTurn S1.credits aK (·.a)).foldl (bS aK ex) S1:=rfl;rw[Yr];generalize inTurn S1.credits aK (·.a)=cs at GB hcs Y7;refine gA (K:=K) (a:=D1) (xs:=cs.map fun(k:Nat)=>V.int (k:Int)) (fun j σ H4=> ∃x4 x5 x6 x7:Option V,σ=[some (.ref sd),some (.str aK),some (.int (ms.length:Int)),some (.bl ex),x4,x5,x6,x7]/\zx H3 sd S g H4 ((cs.take j).foldl (bS aK ex) S1) (i * 4096 + j * 64))
    ⟨_,_,_,_,rfl,I3.up (by lia)⟩ (fun j σ H4 _ ⟨_,_,_,_,_,J⟩=>bF.of (J.fr _ _ D1f GB)) ?_ ?_
   ·rintro j x σ H4 hx ⟨x4,x5,x6,x7,rfl,J⟩;rw[aD] at hx;obtain⟨c,hc,rfl⟩:=bB.mp hx;have abx:=Y7 c (gh hc);have hj:j < cs.length:=(ao.mp hc).1;rw[k8 (bS aK ex) cs S1 hc];generalize (cs.take j).foldl (bS aK ex) S1=S2 at J ⊢;have b2:=J.bl;refine⟨_,rfl,sd,_,rfl,J.bk.gB,_,rfl,g.pb,g.ip,S2.aC,aK,2,(·.b),rfl,J.bk.hb,J.bk.rb,by lia,(fun _=>rfl),fun D2 H5 t5 n5 GC=>?_⟩;have D2f:=J.bk.tL n5;have J5:=J.from t5;refine⟨D2,rfl,⟨_,bF.of GC⟩,?_⟩;have hbs:(inTurn S2.aC aK (·.b)).length<=63:=by have:=jF S2.aC aK (·.b); lia
    have K4: ∀b∈inTurn S2.aC aK (·.b),b < S.aC.length:=fun b hb=>by have:=(cq.mp hb).1; lia
    have qY:bS aK ex S2 c=(inTurn S2.aC aK (·.b)).foldl (bJ ex c) S2:=rfl;rw[qY];generalize inTurn S2.aC aK (·.b)=bs at GC hbs K4;refine gA (K:=K) (a:=D2) (xs:=bs.map fun(k:Nat)=>V.int (k:Int)) (fun l σ H6=> ∃x5 x6 x7:Option V,σ=[some (.ref sd),some (.str aK),some (.int (ms.length:Int)),some (.bl ex),some (.int (c:Int)),x5,x6,x7]/\zx H5 sd S g H6 ((bs.take l).foldl (bJ ex c) S2) (i * 4096 + j * 64 + l))
     ⟨_,_,_,rfl,J5.up (by lia)⟩ (fun l σ H6 _ ⟨_,_,_,_,L⟩=>bF.of (L.fr _ _ D2f GC)) ?_ ?_
    ·rintro l x σ H6 hx ⟨x5,x6,x7,rfl,L⟩;rw[aD] at hx;obtain⟨b,hb,rfl⟩:=bB.mp hx;have abA:=K4 b (gh hb);have hl:l < bs.length:=(ao.mp hb).1;rw[k8 (bJ ex c) bs S2 hb];generalize (bs.take l).foldl (bJ ex c) S2=S3 at L ⊢;have b3:=L.bl;have c3:=L.cl;have m3:=L.ml;obtain⟨p,_,ap,hp⟩:=L.bk.lc (b:=c) (by lia);obtain⟨q,_,aq,hq⟩:=L.bk.lb (b:=b) (by lia);have no: ¬ (0 < (S3.cr c).d/\S3.dG c b=true/\((S3.cr c).d=(S3.bl b).d∨ex=false))-> ∀H7,aG H6 H7-> ∃x5 x6 x7:Option V,[some (V.ref sd),some (.str aK),some (.int (ms.length:Int)),some (.bl ex),some (.int (c:Int)),some (.int (b:Int)),some (.int (S3.cr c).d),some (.int (S3.bl b).d)]=[some (.ref sd),some (.str aK),some (.int (ms.length:Int)),some (.bl ex),some (.int (c:Int)),x5,x6,x7]/\zx H5 sd S g H7 (bJ ex c S3 b) (i * 4096 + j * 64 + (l + 1)):=fun n H7 t7=>by
      refine⟨_,_,_,rfl,?_⟩;unfold bJ;rw[aL n];exact(L.back t7 (L.from t7)).up (by lia)
     refine⟨_,rfl,sd,_,rfl,L.bk.gC,_,rfl,g.pc,_,_,.ref p,rfl,rfl,bF.of L.bk.hc,ap,p,_,_,.int (S3.cr c).d,rfl,rfl,bF.of hp,rfl,?_⟩;refine⟨_,rfl,sd,_,rfl,L.bk.gB,_,rfl,g.pb,_,_,.ref q,rfl,rfl,bF.of L.bk.hb,aq,q,_,_,.int (S3.bl b).d,rfl,rfl,bF.of hq,rfl,?_⟩;refine⟨_,rfl,_,_,rfl,rfl,_,rfl,cy (fun d1=>?_) (fun d1=>bV (no (fun z=>d1 (aJ z.1)) _ (aG.refl _)))⟩;have Sa:0 < (S3.cr c).d:=aX d1;refine⟨_,rfl,_,rfl,_,rfl,sd,S3,g,c,b,rfl,L.bk,by lia,by lia,fun H7 t7=>⟨_,rfl,cy (fun d2=>?_) (fun d2=>no (fun z=>d2 z.2.1) _ t7)⟩⟩;have L7:=L.bk.same t7;have Sd:((S3.cr c).d=(S3.bl b).d∨ex=false)-> ∀H',Frame g.fp H7 H'->de H' sd (S3.put c b (ff (S3.cr c).d (S3.bl b).d)) g-> ∃x5 x6 x7:Option V,[some (V.ref sd),some (.str aK),some (.int (ms.length:Int)),some (.bl ex),some (.int (c:Int)),some (.int (b:Int)),some (.int (S3.cr c).d),some (.int (S3.bl b).d)]=[some (.ref sd),some (.str aK),some (.int (ms.length:Int)),some (.bl ex),some (.int (c:Int)),x5,x6,x7]/\zx H5 sd S g H' (bJ ex c S3 b) (i * 4096 + j * 64 + (l + 1)):=fun z H' P4 WG=>by
      refine⟨_,_,_,rfl,?_⟩;unfold bJ;rw[aZ ⟨Sa,d2,z⟩];exact(L.put (t7.frame.tr P4) WG).up (by lia)
     have EM:((S3.cr c).d=(S3.bl b).d∨ex=false)->BI [.ref sd,.int (c:Int),.int (b:Int),.int (if(S3.bl b).d < (S3.cr c).d then(S3.bl b).d else(S3.cr c).d)] H7 (fun _ H'=> ∃x5 x6 x7:Option V,[some (V.ref sd),some (.str aK),some (.int (ms.length:Int)),some (.bl ex),some (.int (c:Int)),some (.int (b:Int)),some (.int (S3.cr c).d),some (.int (S3.bl b).d)]=[some (.ref sd),some (.str aK),some (.int (ms.length:Int)),some (.bl ex),some (.int (c:Int)),x5,x6,x7]/\zx H5 sd S g H' (bJ ex c S3 b) (i * 4096 + j * 64 + (l + 1))) (fun _ _ _=>False):=fun z=>
      ⟨sd,S3,g,c,b,_,rfl,L7,by lia,by lia,by lia,fun H' P4 WG=>Sd z H' P4 WG⟩
     refine⟨_,rfl,_,rfl,rfl,_,rfl,cy (fun d3=>fe ?_) (fun d3=>?_)⟩
     ·have d3':(S3.cr c).d=(S3.bl b).d:=by have:=aX d3; injection this
      exact⟨_,rfl,_,rfl,_,rfl,_,rfl,_,rfl,_,_,rfl,EM (.inl d3')⟩
     ·refine⟨_,rfl,_,rfl,cy (fun d4=>?_) (fun d4=>no (fun z=>?_) _ t7)⟩
      ·have d4':ex=false:=by simpa using d4
       exact⟨_,rfl,_,rfl,_,rfl,_,rfl,_,rfl,_,_,rfl,EM (.inr d4')⟩
      ·rcases z.2.2 with z|z
       ·exact d3 (aJ (by rw[z]))
       ·exact d4 (by rw[z]; rfl)
    ·rintro σ H6 ⟨x5,x6,x7,rfl,L⟩;rw[ae,a8] at L;exact⟨_,_,_,_,rfl,(J.back t5 L).up (by lia)⟩
   ·rintro σ H4 ⟨x4,x5,x6,x7,rfl,J⟩;rw[ae,a8] at J;exact⟨_,_,_,_,_,rfl,(I.back t3 J).up (by lia)⟩
  ·rintro σ H2 ⟨x3,x4,x5,x6,x7,rfl,I⟩;have VC:([true,false].take ([true,false].map V.bl).length).foldl (bM aK) S=S.ij aK:=rfl;rw[VC] at I;obtain⟨MS,k1,k2⟩:=I.bk.hm;refine⟨_,rfl,sd,_,rfl,I.bk.gM,_,rfl,_,rfl,g.pm,MS,rfl,bF.of k1,fun p np=>?_⟩;have tp:=aG.new (o:= .lst (qg MS (some (ms.length:Int)) none)) np;have hle:ms.length<=MS.length:=by
    have e0:=aS k2;obtain⟨_,l,e1,_⟩:=qt S aK;rw[e1,aF] at e0;lia
   refine k p (MS.drop ms.length) _ ((s1.frame.tr I.fr).cI tp) (I.bk.same tp) ?_ ?_ ?_
   ·exact s1.free (Frame.free I.fr (I.bk.tL np) np)
   ·rw[ag,GA _ _ hle]
   ·rw[WD];exact sG _ (k2.mono tp.tk)
inductive tM (A:dO)(vs:List V)(H:Hp)(Q:VK)(E':XK):Prop
 |mk (x dx:Addr)(h1:vs=[.ref x])(h2:H x=some (.ins A.work dx []))(h3: ∀f H',Frame [x] H H'->dr A H' x Bk.new f->(∀b∈f.fp,H b=none)->Q .dW H'):tM A vs H Q E'
def Jh (f:eA):ee "made" (.ref f.pm) (ee "frees" (.ref f.pf) (ee "lefts" (.ref f.pl) (ee "all_credits" (.ref f.pc) (ee "bills" (.ref f.pb) []))))=kY f:=by rfl
def BK {H Hk:Hp}{x dx p C:Addr}{fs:List (Str×V)}{f:Str}(F:Frame [x] H Hk)(hx:Hk x=some (.ins C dx fs))(n:Hk p=none):p≠x/\H p=none/\Frame [x] H (upd (upd Hk p (.lst [])) x (.ins C dx (ee f (.ref p) fs)))/\
  upd (upd Hk p (.lst [])) x (.ins C dx (ee f (.ref p) fs)) x=some (.ins C dx (ee f (.ref p) fs))/\upd (upd Hk p (.lst [])) x (.ins C dx (ee f (.ref p) fs)) p=some (.lst [])/\
  (∀q o,q≠x->Hk q=some o->upd (upd Hk p (.lst [])) x (.ins C dx (ee f (.ref p) fs)) q=some o/\q≠p):=by
 have ne:p≠x:=(aI hx n).symm;refine⟨ne,F.free (by simpa using ne) n,(F.tr (aG.new n).frame).tr (Frame.upd (by simp)),ag,by rw[az ne,ag],fun q o hq e=>⟨?_,aI e n⟩⟩;rw[az hq];exact aG.new n _ _ e
def LL:aO ["self"] ["self"] (ay (mem 25 0)):={}
def Ji {A:dO}(G:jl K mg A):sY P w K mg base "Work" A.work 1 ["self"] (tM A):=by
 refine LD (k:=0) G.Lz G.Ly LL (fun f cM A' outer s H vs Q E hr h=>?_)
 ·obtain⟨x,dx,rfl,hx,k⟩:=h;refine⟨_,(ah (lN (pv 0) (bP aw))
(ah (lN (pv 0) (bP aw))
(ah (lN (pv 0) (bP aw))
(ah (lN (pv 0) (bP aw))
(au (lN (pv 0) (bP aw))))))),?_⟩
  have F0:Frame [x] H H:=Frame.refl;refine⟨bq _,fun p1 n1=>⟨_,rfl,x,_,dx,_,rfl,aG.new n1 _ _ hx,G.bw,G.dM,lt1000 BC (by decide),?_⟩⟩;obtain⟨ne1,f1,F1,x1,g1,t1⟩:=BK (f:="bills") F0 hx n1;generalize hH1:upd (upd H p1 (.lst [])) x (.ins A.work dx (ee "bills" (.ref p1) _))=H1 at F1 x1 g1;clear hH1 t1;refine⟨bq _,fun p2 n2=>⟨_,rfl,x,_,dx,_,rfl,aG.new n2 _ _ x1,G.bw,G.cw,lt1000 (pl BC) (by decide),?_⟩⟩;obtain⟨ne2,f2,F2,x2,g2,t2⟩:=BK (f:="all_credits") F1 x1 n2;obtain⟨g1,Se⟩:=t2 p1 _ ne1 g1;generalize TZ:upd (upd H1 p2 (.lst [])) x (.ins A.work dx (ee "all_credits" (.ref p2) _))=H2 at F2 x2 g1 g2;clear TZ t2;refine⟨bq _,fun p3 n3=>⟨_,rfl,x,_,dx,_,rfl,aG.new n3 _ _ x2,G.bw,G.eY,lt1000 (pl (pl BC)) (by decide),?_⟩⟩;obtain⟨ne3,f3,F3,x3,g3,t3⟩:=BK (f:="lefts") F2 x2 n3;obtain⟨g1,Sf⟩:=t3 p1 _ ne1 g1;obtain⟨g2,Sg⟩:=t3 p2 _ ne2 g2;generalize Qb:upd (upd H2 p3 (.lst [])) x (.ins A.work dx (ee "lefts" (.ref p3) _))=H3 at F3 x3 g1 g2 g3;clear Qb t3;refine⟨bq _,fun p4 n4=>⟨_,rfl,x,_,dx,_,rfl,aG.new n4 _ _ x3,G.bw,G.eZ,lt1000 (pl (pl (pl BC))) (by decide),?_⟩⟩;obtain⟨ne4,f4,F4,x4,g4,t4⟩:=BK (f:="frees") F3 x3 n4;obtain⟨g1,Sh⟩:=t4 p1 _ ne1 g1;obtain⟨g2,Sk⟩:=t4 p2 _ ne2 g2;obtain⟨g3,Sl⟩:=t4 p3 _ ne3 g3;generalize hH4:upd (upd H3 p4 (.lst [])) x (.ins A.work dx (ee "frees" (.ref p4) _))=H4 at F4 x4 g1 g2 g3 g4;clear hH4 t4;refine⟨bq _,fun p5 n5=>⟨_,rfl,x,_,dx,_,rfl,aG.new n5 _ _ x4,G.bw,G.jm,lt1000 (pl (pl (pl (pl BC)))) (by decide),?_⟩⟩;obtain⟨ne5,f5,F5,x5,g5,t5⟩:=BK (f:="made") F4 x4 n5;obtain⟨g1,Sm⟩:=t5 p1 _ ne1 g1;obtain⟨g2,Sn⟩:=t5 p2 _ ne2 g2;obtain⟨g3,So⟩:=t5 p3 _ ne3 g3;obtain⟨g4,Sq⟩:=t5 p4 _ ne4 g4;refine k ⟨p1,p2,p3,p4,p5,[],[]⟩ _ F5 ⟨⟨dx,?_⟩,g1,g2,g3,g4,⟨[],g5,.nil⟩,⟨rfl,fun i p e=>by simp at e⟩,⟨rfl,fun i p e=>by simp at e⟩,?_⟩ ?_
  ·rw[x5];exact cQ (fun z=>some (HO.ins A.work dx z)) (Jh ⟨p1,p2,p3,p4,p5,[],[]⟩)
  ·simp[eA.fp,Se,Sf,Sh,Sm,Sg,Sk,Sn,Sl,So,Sq]
  ·intro b hb;simp only[eA.fp,List.mem_cons,List.not_mem_nil,or_false] at hb;rcases hb with rfl|rfl|rfl|rfl|rfl
   ·exact f1
   ·exact f2
   ·exact f3
   ·exact f4
   ·exact f5
def iw (A:dO)(H:Hp)(S:Bk)(bs:List Nat)(qs:List Addr):Prop:=Paired (fun(b:Nat) q=>dY H q A.dF (eX b (S.bl b))) bs qs
def gv (A:dO)(H:Hp)(S:Bk)(cs:List Nat)(qs:List Addr):Prop:=Paired (fun(c:Nat) q=>dY H q A.dP (eN c (S.cr c))) cs qs
def iw.same {A:dO}{H H':Hp}{S:Bk}{bs:List Nat}{qs:List Addr}(h:iw A H S bs qs)(s:aG H H'):iw A H' S bs qs:=Paired.iH h fun _ _ z=>z.same s
def gv.same {A:dO}{H H':Hp}{S:Bk}{bs:List Nat}{qs:List Addr}(h:gv A H S bs qs)(s:aG H H'):gv A H' S bs qs:=Paired.iH h fun _ _ z=>z.same s
inductive Jj (A:dO)(vs:List V)(H:Hp)(Q:VK)(E':XK):Prop
 |mk (p pt:Addr)(S:Bk)(c:Nat)(bs:List Nat)(qs:List Addr)(h1:vs=[.ref p,.ref pt])(h2:dY H p A.dP (eN c (S.cr c)))(h3:H pt=some (.lst (qs.map V.ref)))(h4:iw A H S bs qs)(h5:bs.length<=100)(h6: ∀D H',aG H H'->H D=none->H' D=some (.lst ((bs.map fun b=>ox (S.cr c) (S.bl b) b).map V.bl))->Q (.ref D) H'):Jj A vs H Q E'
def vc:aO ["credit","bills"] ["credit","bills"] (ay (top 27)):={}
def wH (T:Txt K mg){A:dO}(G:jl K mg A):eQ P w K mg base "row_of_fits" 2 ["credit","bills"] (Jj A):=by
 have Dw:eQ P w K mg base "fits" 1 ["credit","bill"] (zf A):=IW T G;refine T.wg.fA (k:=1) vc (fun f cM A' outer s H vs Q E hr h=>?_)
 ·obtain⟨p,pt,S,c,bs,qs,rfl,hp,Cv,hB,hl,k⟩:=h;have hlen:=aS hB;refine⟨_,(au (a6 (iS (tn:=["bill"]) (cn:=["credit"]) (cj:=[0]) rfl (iN (Am:=[(".0",.local),("bill",.local),("fits",.globalImplicit),("credit",.cell)])) (tI (pv 1)) (fun _ _ _ _=>(en (i:=0) (show(["bill","credit"]:List Str).Nodup by decide +kernel) rfl (Or.inl rfl))) (fun _ _ _ _=>lE) (fun _ _ _ _=>(fc Dw hr (aa (pv 1) (aa (pv 0) aw))))))),?_⟩;refine⟨_,rfl,pt,rfl,⟨_,bF.of Cv⟩,?_⟩;refine dX (K:=K) (a:=pt) (xs:=qs.map V.ref) (fun D i σ H6=>H D=none/\ ∃v,σ=[v,some (.ref p)]/\aG H H6/\H6 D=some (.lst (((bs.take i).map fun b=>ox (S.cr c) (S.bl b) b).map V.bl))) (fun D hD=>⟨hD,none,rfl,aG.new hD,ag⟩) (fun D i σ H6 _ ⟨_,_,_,t3,_⟩=>bF.of (t3 _ _ Cv)) ?_ ?_
  ·rintro D i x σ H6 hx ⟨hD,v,rfl,t3,g9⟩;rw[aD] at hx;obtain⟨q,hq,rfl⟩:=bB.mp hx;have hi:i < bs.length:=by have:=(ao.mp hq).1; lia
   obtain⟨q',sf,k9⟩:=bI hB (af hi);rw[hq] at sf;obtain rfl:q=q':=aE sf;have mv:=lV hi;generalize bs[i]=b at k9 mv;refine⟨_,rfl,_,rfl,p,q,c,b,_,_,rfl,hp.same t3,k9.same t3,_,g9,bc (by rw[ae,ae,bo]; lia),hD,_,rfl,t3.cZ hD,?_⟩;rw[ag,mv,aM,aM];rfl
  ·rintro D σ H6 hD ⟨_,v,rfl,t3,g9⟩;refine k D H6 t3 hD ?_;rw[g9,ae,← hlen,a8]
def bu.vs:bu->List V
 | .dF w d u a=>[.str "bill",.str w,.int d,.int u,.int a]
 | .pQ w d a=>[.str "pay",.str w,.int d,.int a]
 | .note b d a=>[.str "note",.int b,.int d,.int a]
 | .set c b a=>[.str "set",.int c,.int b,.int a]
 | .fu w=>[.str "sweep",.str w]
 | .gF n=>[.str "undo",.int n]
 | .ask o w d=>[.str (if o then "owed" else "free"),.str w,.int d]
 | .hZ _ _ _=>[]
def jo {x y:Str}(h:x≠y):V.bl (decide (V.str x=V.str y))=V.bl false:=cQ V.bl (bC fun z=>h (by injection z))
def Ao (x:Str):V.bl (decide (V.str x=V.str x))=V.bl true:=cQ V.bl (aJ rfl)
def Sr {x y:Str}(h:x≠y):V.bl (!decide (V.str x=V.str y))=V.bl true:=by rw[show decide (V.str x=V.str y)=false from bC fun z=>h (by injection z)]; rfl
def Y8 (x:Str):V.bl (!decide (V.str x=V.str x))=V.bl false:=by rw[show decide (V.str x=V.str x)=true from aJ rfl]; rfl
def vd {x:Int}{n:Nat}{ta tc:TE}{σ:L2.St}{H:Hp}{Q:Bool->Hp->Prop}(ha: ∀R:VK,R (.int x) H->ta σ H R)(hc: ∀R:VK,R (.int (n:Int)) H->tc σ H R)(q:Q (decide (pS x n)) H):
  Hw (Hx (JY fun i j=> .bl (decide (i<=j))) (JY fun i j=> .bl (decide (i < j))) (tC (.int 0)) ta tc) σ H Q:=by
 refine ha _ ⟨_,_,rfl,rfl,_,rfl,cy (fun d=>hc _ ⟨_,_,rfl,rfl,_,rfl,?_⟩) (fun d=>⟨_,rfl,?_⟩)⟩
 ·have d':(0:Int)<=x:=aX d;have e:decide (pS x n)=decide (x < (n:Int)):=l7.mpr ⟨fun z=>z.2,fun z=>⟨d',z⟩⟩;rw[e] at q;exact q
 ·have d': ¬ (0:Int)<=x:=fun z=>d (aJ z);have e:decide (pS x n)=false:=bC fun z=>d' z.1;rw[e] at q;exact q
inductive ve (vs:List V)(H:Hp)(Q:VK)(E':XK):Prop
 |mk (sd pd:Addr)(S:Bk)(f:fj)(d:bu)(h1:vs=[.ref sd,.ref pd])(h2:de H sd S f)(h3:H pd=some (.tup (bu.vs d)))(h4:d.tells=true)(h5: ∀H',aG H H'->Q (.str (S.bar d)) H'):ve vs H Q E'
def mW:aO ["_law_state","_law_deed","_law_word","_law_spot"] ["_law_state","_law_deed"] (ay (top 58)):={}
def wI (T:Txt K mg):eQ P w K mg base "_law_barred" 2 ["_law_state","_law_deed"] ve:=by
 have iZ:eQ P w K mg base "_law_goes" 1 ["_law_state","_law_credit","_law_bill"] zu:=mU T;refine T.wu.fA (k:=1) mW (fun f cM A outer s H vs Q E hr h=>?_)
 ·obtain⟨sd,pd,S,g,d,rfl,hB,hd,ht,k⟩:=h;have hu:=j8 hr;have nd:=mW.nd;refine⟨_,(ah (sv 2 nd (xt (pv 1) aj))
(ah (sv 3 nd (fO kK (by rfl) T.xM boot_int (aa (eG cW (pv 2) aN (a7 _)) aw)))
(ah (bO (PW.pt (pw_and (a0 cW (pv 3) aj (a7 _)) (pw_and1 (jy (AI xm jA aj (xt (pv 1) aj) (pT T.eI (cF hu (pv 0) aN (fun _ _=>rfl))))))))
(au (a6 aN))
bf)
(ah (bO (PW.pt (pw_and (a0 nE (pv 2) (bP (aa aN (aa aN aw))) (by rfl)) (pw_and1 (jy (AI xm jA aj (xt (pv 1) (aR dB aj (pv 3))) (pT T.eI (cF hu (pv 0) aN (fun _ _=>rfl))))))))
(au (a6 aN))
bf)
(ah (bO (PW.pt (pw_and (a0 cW (pv 2) aN (a7 _)) (pw_and1 (jy (fS (fc iZ hr (aa (pv 0) (aa (xt (pv 1) aj) (aa (xt (pv 1) aj) aw)))))))))
(au (a6 aN))
bf)
(ah (bO (PW.pt (pw_and (a0 r9 (pv 2) aN (a7 _)) (pw_and1 (a0 jA (xt (pv 1) (ou kr aj)) aj (a7 _)))))
(au (a6 aN))
bf)
(ah (bO (PW.pt (pw_and (a0 cW (pv 2) aN (a7 _)) (pw_and1 (a0 jA (xt (pv 1) aj) (xt (pv 1) aj) (a7 _)))))
(au (a6 aN))
bf)
(ah (bO (a0 cW (pv 2) aN (a7 _))
(au (bO (a0 jd (xt (pv 1) aj) (fm (rA rfl) (by rfl) T.Be boot_min (aa (xl (xl (cF hu (pv 0) aN (fun _ _=>rfl)) (xt (pv 1) aj)) aj) (aa (xl (xl (cF hu (pv 0) aN (fun _ _=>rfl)) (xt (pv 1) aj)) aj) aw))) (a7 _))
(au (a6 aN))
bf))
bf)
(au (a6 aN)))))))))),?_⟩
  have kk: ∀(t:Str) (H':Hp),S.bar d=t->aG H H'->Q (.str t) H':=fun t H' e z=>e▸k H' z;clear k;cases d with
  |gF n=>cases ht
  |ask o w d=>cases ht
  |hZ w d l=>cases ht
  |dF wh dy du am=>
   refine⟨_,rfl,pd,_,_,.str "bill",rfl,rfl,cv.of hd,rfl,_,rfl,rfl,.inr ⟨false,(by rw[jo (show("bill":Str)≠"set" by decide +kernel)]),?_⟩⟩;refine⟨_,rfl,rfl,false,cQ V.bl (by decide +kernel),bV (bV ?_)⟩;refine⟨_,rfl,(by show 2<=sizeLine; decide),fun p9 n9=>⟨p9,_,rfl,.inl (bF.of ag),rfl,rfl,false,cQ V.bl (by decide +kernel),bV (bV ?_)⟩⟩;have s9:=aG.new (o:= .lst [V.str "set",.str "note"]) n9;have BL:=s9 _ _ hd;refine jn (H':=upd H p9 (.lst [V.str "set",.str "note"])) rfl ?_;generalize upd H p9 (.lst [V.str "set",.str "note"])=H9 at s9 BL;refine⟨_,rfl,rfl,false,jo (show("bill":Str)≠"set" by decide +kernel),bV (bV ?_)⟩;refine⟨_,rfl,rfl,true,Sr (show("bill":Str)≠"sweep" by decide +kernel),fe ⟨_,rfl,_,rfl,pd,_,_,.int am,rfl,rfl,cv.of BL,rfl,_,_,rfl,rfl,_,rfl,cy (fun z=>?_) (fun z=>?_)⟩⟩
   ·have z':am < 1:=aX z;exact kk _ _ (aZ z') s9
   have z1: ¬ am < 1:=fun q=>z (aJ q);refine⟨_,rfl,rfl,true,Ao _,fe ⟨_,rfl,pd,_,_,.int du,rfl,rfl,cv.of BL,rfl,_,rfl,pd,_,_,.int dy,rfl,rfl,cv.of BL,rfl,_,_,rfl,rfl,_,rfl,cy (fun z=>?_) (fun z=>?_)⟩⟩
   ·have z':du < dy:=aX z;exact kk _ _ ((aL z1).trans (aZ z')) s9
   have z2: ¬ du < dy:=fun q=>z (aJ q);refine⟨_,rfl,rfl,false,jo (show("bill":Str)≠"set" by decide +kernel),bV ?_⟩;exact kk _ _ ((aL z1).trans (aL z2)) s9
  |pQ wh dy am=>
   refine⟨_,rfl,pd,_,_,.str "pay",rfl,rfl,cv.of hd,rfl,_,rfl,rfl,.inr ⟨false,(by rw[jo (show("pay":Str)≠"set" by decide +kernel)]),?_⟩⟩;refine⟨_,rfl,rfl,false,cQ V.bl (by decide +kernel),bV (bV ?_)⟩;refine⟨_,rfl,(by show 2<=sizeLine; decide),fun p9 n9=>⟨p9,_,rfl,.inl (bF.of ag),rfl,rfl,false,cQ V.bl (by decide +kernel),bV (bV ?_)⟩⟩;have s9:=aG.new (o:= .lst [V.str "set",.str "note"]) n9;have BL:=s9 _ _ hd;refine jn (H':=upd H p9 (.lst [V.str "set",.str "note"])) rfl ?_;generalize upd H p9 (.lst [V.str "set",.str "note"])=H9 at s9 BL;refine⟨_,rfl,rfl,false,jo (show("pay":Str)≠"set" by decide +kernel),bV (bV ?_)⟩;refine⟨_,rfl,rfl,true,Sr (show("pay":Str)≠"sweep" by decide +kernel),fe ⟨_,rfl,_,rfl,pd,_,_,.int am,rfl,rfl,cv.of BL,rfl,_,_,rfl,rfl,_,rfl,cy (fun z=>?_) (fun z=>?_)⟩⟩
   ·have z':am < 1:=aX z;exact kk _ _ (aZ z') s9
   have z1: ¬ am < 1:=fun q=>z (aJ q);refine⟨_,rfl,rfl,false,jo (show("pay":Str)≠"bill" by decide +kernel),bV (bV ?_)⟩;refine⟨_,rfl,rfl,false,jo (show("pay":Str)≠"set" by decide +kernel),bV ?_⟩;exact kk _ _ (aL z1) s9
  |fu wh=>
   refine⟨_,rfl,pd,_,_,.str "sweep",rfl,rfl,cv.of hd,rfl,_,rfl,rfl,.inr ⟨false,(by rw[jo (show("sweep":Str)≠"set" by decide +kernel)]),?_⟩⟩;refine⟨_,rfl,rfl,false,cQ V.bl (by decide +kernel),bV (bV ?_)⟩;refine⟨_,rfl,(by show 2<=sizeLine; decide),fun p9 n9=>⟨p9,_,rfl,.inl (bF.of ag),rfl,rfl,false,cQ V.bl (by decide +kernel),bV (bV ?_)⟩⟩;have s9:=aG.new (o:= .lst [V.str "set",.str "note"]) n9;refine jn (H':=upd H p9 (.lst [V.str "set",.str "note"])) rfl ?_;generalize upd H p9 (.lst [V.str "set",.str "note"])=H9 at s9;refine⟨_,rfl,rfl,false,jo (show("sweep":Str)≠"set" by decide +kernel),bV (bV ?_)⟩;refine⟨_,rfl,rfl,false,Y8 _,bV (bV ?_)⟩;refine⟨_,rfl,rfl,false,jo (show("sweep":Str)≠"bill" by decide +kernel),bV (bV ?_)⟩;refine⟨_,rfl,rfl,false,jo (show("sweep":Str)≠"set" by decide +kernel),bV ?_⟩;exact kk _ _ rfl s9
  |note bi dy am=>
   refine⟨_,rfl,pd,_,_,.str "note",rfl,rfl,cv.of hd,rfl,_,rfl,rfl,.inr ⟨false,(by rw[jo (show("note":Str)≠"set" by decide +kernel)]),?_⟩⟩;refine⟨_,rfl,rfl,false,cQ V.bl (by decide +kernel),bV (bV ?_)⟩;refine⟨_,rfl,(by show 2<=sizeLine; decide),fun p9 n9=>⟨p9,_,rfl,.inl (bF.of ag),rfl,rfl,true,cQ V.bl (by decide +kernel),fe ?_⟩⟩;have s9:=aG.new (o:= .lst [V.str "set",.str "note"]) n9;have BL:=s9 _ _ hd;have B9:=hB.same s9;generalize upd H p9 (.lst [V.str "set",.str "note"])=H9 at s9 BL B9;have hlen:g.ip.length=S.aC.length:=B9.rb.length.symm;refine vd (x:=bi) (n:=S.aC.length) (fun R q=>⟨_,rfl,_,rfl,_,_,rfl,rfl,pd,_,_,.int bi,rfl,rfl,cv.of BL,rfl,q⟩) (fun R q=>⟨_,rfl,sd,_,rfl,B9.gB,g.pb,_,rfl,.inl (bF.of B9.hb),by rw[ae,hlen]; exact q⟩) (cy (fun z=>?_) (fun z=>?_))
   ·have z': ¬ pS bi S.aC.length:=by simpa using z
    exact kk _ _ (aZ z') s9
   have z0: ¬ ¬ pS bi S.aC.length:=by simpa using z
   refine⟨_,rfl,rfl,false,jo (show("note":Str)≠"set" by decide +kernel),bV (bV ?_)⟩;refine⟨_,rfl,rfl,true,Sr (show("note":Str)≠"sweep" by decide +kernel),fe ⟨_,rfl,_,rfl,pd,_,_,.int am,rfl,rfl,cv.of BL,rfl,_,_,rfl,rfl,_,rfl,cy (fun z=>?_) (fun z=>?_)⟩⟩
   ·have z':am < 1:=aX z;exact kk _ _ ((aL z0).trans (aZ z')) s9
   have z1: ¬ am < 1:=fun q=>z (aJ q);refine⟨_,rfl,rfl,false,jo (show("note":Str)≠"bill" by decide +kernel),bV (bV ?_)⟩;refine⟨_,rfl,rfl,false,jo (show("note":Str)≠"set" by decide +kernel),bV ?_⟩;exact kk _ _ ((aL z0).trans (aL z1)) s9
  |set ci bi am=>
   have Y9:g.cps.length=S.credits.length:=hB.rc.length.symm;refine⟨_,rfl,pd,_,_,.str "set",rfl,rfl,cv.of hd,rfl,_,rfl,rfl,.inr ⟨true,(by rw[Ao]),?_⟩⟩;refine⟨_,rfl,rfl,true,cQ V.bl (by decide +kernel),fe ?_⟩;refine vd (x:=ci) (n:=S.credits.length) (fun R q=>⟨_,rfl,pd,_,_,.int ci,rfl,rfl,cv.of hd,rfl,q⟩) (fun R q=>⟨_,rfl,sd,_,rfl,hB.gC,g.pc,_,rfl,.inl (bF.of hB.hc),by rw[ae,Y9]; exact q⟩) (cy (fun z=>?_) (fun z=>?_))
   ·have z': ¬ pS ci S.credits.length:=by simpa using z
    exact kk _ _ (aZ z') (aG.refl _)
   have zc: ¬ ¬ pS ci S.credits.length:=by simpa using z
   refine⟨_,rfl,(by show 2<=sizeLine; decide),fun p9 n9=>⟨p9,_,rfl,.inl (bF.of ag),rfl,rfl,true,cQ V.bl (by decide +kernel),fe ?_⟩⟩;have s9:=aG.new (o:= .lst [V.str "set",.str "note"]) n9;have BL:=s9 _ _ hd;have B9:=hB.same s9;generalize upd H p9 (.lst [V.str "set",.str "note"])=H9 at s9 BL B9;have hlen:g.ip.length=S.aC.length:=B9.rb.length.symm;refine vd (x:=bi) (n:=S.aC.length) (fun R q=>⟨_,rfl,_,rfl,_,_,rfl,rfl,pd,_,_,.int bi,rfl,rfl,cv.of BL,rfl,q⟩) (fun R q=>⟨_,rfl,sd,_,rfl,B9.gB,g.pb,_,rfl,.inl (bF.of B9.hb),by rw[ae,hlen]; exact q⟩) (cy (fun z=>?_) (fun z=>?_))
   ·have z': ¬ pS bi S.aC.length:=by simpa using z
    exact kk _ _ ((aL zc).trans (aZ z')) s9
   have zb: ¬ ¬ pS bi S.aC.length:=by simpa using z
   have ic:=Ff.mp zc;have ib:=Ff.mp zb;obtain⟨c,rfl⟩:=ck ic.1;obtain⟨b,rfl⟩:=ck ib.1;have hc:c < S.credits.length:=by have:=ic.2; lia
   have hb:b < S.aC.length:=by have:=ib.2; lia
   refine⟨_,rfl,rfl,true,Ao _,fe ⟨_,rfl,_,rfl,pd,_,_,.int (c:Int),rfl,rfl,cv.of BL,rfl,_,rfl,pd,_,_,.int (b:Int),rfl,rfl,cv.of BL,rfl,sd,S,g,c,b,rfl,B9,hc,hb,fun H10 Jk=>⟨_,rfl,cy (fun z=>?_) (fun z=>?_)⟩⟩⟩
   ·have z':S.dG c b=false:=by simpa using z
    exact kk _ _ ((if_neg zc).trans ((if_neg zb).trans (if_pos (by simpa using z')))) (s9.trans Jk)
   have zg: ¬ S.dG (c:Int).toNat (b:Int).toNat=false:=by simpa using z
   have LM:=Jk _ _ BL;have Qc:=B9.same Jk;have BN:=s9.trans Jk;refine⟨_,rfl,rfl,true,Sr (show("set":Str)≠"sweep" by decide +kernel),fe ⟨_,rfl,_,rfl,pd,_,_,.int am,rfl,rfl,cv.of LM,rfl,_,_,rfl,rfl,_,rfl,cy (fun z=>?_) (fun z=>?_)⟩⟩
   ·have z':am < 1:=aX z;exact kk _ _ ((aL zc).trans ((aL zb).trans ((aL zg).trans (aZ z')))) BN
   have z1: ¬ am < 1:=fun q=>z (aJ q);refine⟨_,rfl,rfl,false,jo (show("set":Str)≠"bill" by decide +kernel),bV (bV ?_)⟩;obtain⟨p,_,ap,hp⟩:=Qc.lc hc;obtain⟨q,_,aq,hq⟩:=Qc.lb hb;refine⟨_,rfl,rfl,true,Ao _,fe ?_⟩;refine⟨_,rfl,pd,_,_,.int am,rfl,rfl,cv.of LM,rfl,_,rfl,sd,_,rfl,Qc.gC,_,rfl,pd,_,_,.int (c:Int),rfl,rfl,cv.of LM,rfl,g.pc,_,_,.ref p,rfl,rfl,bF.of Qc.hc,ap,p,_,_,.int (S.cr c).d,rfl,rfl,bF.of hp,rfl,?_⟩;refine⟨_,rfl,sd,_,rfl,Qc.gB,_,rfl,pd,_,_,.int (b:Int),rfl,rfl,cv.of LM,rfl,g.pb,_,_,.ref q,rfl,rfl,bF.of Qc.hb,aq,q,_,_,.int (S.bl b).d,rfl,rfl,bF.of hq,rfl,_,_,rfl,_,_,rfl,rfl,_,rfl,cy (fun z=>?_) (fun z=>?_)⟩
   ·have z':ff (S.cr (c:Int).toNat).d (S.bl (b:Int).toNat).d < am:=aX z;exact kk _ _ ((aL zc).trans ((aL zb).trans ((aL zg).trans ((aL z1).trans (aZ z'))))) BN
   ·have z': ¬ ff (S.cr (c:Int).toNat).d (S.bl (b:Int).toNat).d < am:=fun q=>z (aJ q);exact kk _ _ ((aL zc).trans ((aL zb).trans ((aL zg).trans ((aL z1).trans (aL z'))))) BN
def ON (H:Hp)(f f':fj):Prop:= ∀x∈f'.fp,x∈f.fp∨H x=none
def WH (Q:VK)(H:Hp)(sd:Addr)(S:Bk)(f:fj)(d:bu):Prop:=
 ∀v f' H',Frame f.fp H H'->de H' sd (S.enter d) f'->ON H f f'->Rp H' (S.La d).dt v->Q v H'
inductive tN (vs:List V)(H:Hp)(Q:VK)(E':XK):Prop
 |mk (sd pd:Addr)(S:Bk)(f:fj)(d:bu)(h1:vs=[.ref sd,.ref pd])(h2:de H sd S f)(h3:H pd=some (.tup (bu.vs d)))(h4:d.tells=true)(h5:S.credits.length < 64)(h6:S.aC.length < 64)(h7:S.made.length + 10000 < sizeLine)(h8:(S.bar d≠""-> ∀H',aG H H'->Q (.str (S.bar d)) H'))(h9:(S.bar d=""->WH Q H sd S f d)):tN vs H Q E'
def oA:aO ["_law_state","_law_deed","_law_text","_law_who"] ["_law_state","_law_deed"] (ay (top 59)):={}
def qJ (T:Txt K mg):eQ P w K mg base "_law_enter" 3 ["_law_state","_law_deed"] tN:=by
 have wJ:eQ P w K mg base "_law_barred" 2 ["_law_state","_law_deed"] ve:=wI T;have pA:eQ P w K mg base "_law_put" 1 ["_law_state","_law_credit","_law_bill","_law_amount"] BI:=u6 T;have zA:eQ P w K mg base "_law_swept" 2 ["_law_state","_law_who"] zy:=zz T;refine T.yV.fA (k:=2) oA (fun f cM A outer s H vs Q E hr h=>?_)
 ·obtain⟨sd,pd,S,g,d,rfl,hB,hd,ht,qw,LK,Jg,kn,ky⟩:=h;have hu:=j8 hr;have nd:=oA.nd;refine⟨_,(ah (sv 2 nd (fc wJ hr (aa (pv 0) (aa (pv 1) aw))))
(ah (bO (a0 r9 (pv 2) aN (a7 _))
(au (a6 (pv 2)))
bf)
(ah (bO (a0 cW (xt (pv 1) aj) aN (a7 _))
(ah (bG (qx (cF hu (pv 0) aN (fun _ _=>rfl)) (bP (aa (xt (pv 1) aj) (aa (xt (pv 1) aj) (aa (xt (pv 1) aj) (aa (xt (pv 1) aj) (aa (xt (pv 1) aj) aw))))))))
(au (a6 (aR eK (pT T.eI (cF hu (pv 0) aN (fun _ _=>rfl))) aj))))
bf)
(ah (bO (a0 cW (xt (pv 1) aj) aN (a7 _))
(ah (bG (qx (cF hu (pv 0) aN (fun _ _=>rfl)) (bP (aa (xt (pv 1) aj) (aa (xt (pv 1) aj) (aa (xt (pv 1) aj) (aa (ou kr aj) (aa (xt (pv 1) aj) aw))))))))
(au (a6 (aR eK (pT T.eI (cF hu (pv 0) aN (fun _ _=>rfl))) aj))))
bf)
(ah (bO (a0 cW (xt (pv 1) aj) aN (a7 _))
(ah (sv 3 nd (xl (xl (cF hu (pv 0) aN (fun _ _=>rfl)) (xt (pv 1) aj)) aj))
(ah (bG (qx (cF hu (pv 0) aN (fun _ _=>rfl)) (bP (aa (pv 3) (aa (xt (pv 1) aj) (aa (xt (pv 1) aj) (aa (xt (pv 1) aj) (aa (xt (pv 1) aj) aw))))))))
(au (a6 (aR eK (pT T.eI (cF hu (pv 0) aN (fun _ _=>rfl))) aj)))))
bf)
(ah (bO (a0 cW (xt (pv 1) aj) aN (a7 _))
(ah (bG (fc pA hr (aa (pv 0) (aa (xt (pv 1) aj) (aa (xt (pv 1) aj) (aa (xt (pv 1) aj) aw))))))
(au (a6 (xt (pv 1) aj))))
bf)
(au (a6 (fc zA hr (aa (pv 0) (aa (xt (pv 1) aj) aw))))))))))),?_⟩
  refine⟨_,rfl,_,rfl,sd,pd,S,g,d,rfl,hB,hd,ht,fun H1 s1=>?_⟩;by_cases oj:S.bar d=""
  case neg=>exact⟨_,rfl,rfl,true,Sr oj,fe ⟨_,rfl,kn oj H1 s1⟩⟩
  refine⟨_,rfl,rfl,false,(by rw[oj]; exact Y8 _),bV ?_⟩;have B1:=hB.same s1;have lI:=s1 _ _ hd;have Ss: ∀v f' H',Frame g.fp H1 H'->de H' sd (S.enter d) f'->ON H1 g f'->Rp H' (S.La d).dt v->Q v H':=fun v f' H' fr b fi r=>ky oj v f' H' (fr.lO s1) b (fun x hx=>(fi x hx).elim .inl fun z=> .inr (s1.free z)) r;clear ky kn;have lb:=B1.rb.length;have lc:=B1.rc.length;cases d with
  |gF n=>cases ht
  |ask o w d=>cases ht
  |hZ w d l=>cases ht
  |dF wh dy du am=>
   refine⟨_,rfl,pd,_,_,.str "bill",rfl,rfl,cv.of lI,rfl,rfl,true,Ao _,fe ?_⟩;refine⟨_,rfl,sd,_,rfl,B1.gB,.inl ⟨rfl,_,bF.of B1.hb⟩,_,rfl,pd,_,_,.str wh,rfl,rfl,cv.of lI,rfl,_,rfl,pd,_,_,.int dy,rfl,rfl,cv.of lI,rfl,_,rfl,pd,_,_,.int du,rfl,rfl,cv.of lI,rfl,_,rfl,pd,_,_,.int am,rfl,rfl,cv.of lI,rfl,_,rfl,pd,_,_,.int am,rfl,rfl,cv.of lI,rfl,(by show 5<=sizeLine; decide),fun pr nr=>?_⟩;have t1:=aG.new (o:= .lst (Rw.vs ⟨wh,dy,du,am,am⟩)) nr;refine⟨g.pb,_,_,rfl,rfl,t1 _ _ B1.hb,bc (by rw[ae]; lia),?_⟩;have B2:=B1.g8 (r:=⟨wh,dy,du,am,am⟩) nr;have F2:Frame g.fp H1 (upd (upd H1 pr (.lst (Rw.vs ⟨wh,dy,du,am,am⟩))) g.pb (.lst (g.ip.map V.ref ++ [.ref pr]))):=t1.frame.tr (Frame.upd (by simp[fj.fp]));refine jn (H':=upd (upd H1 pr (.lst (Rw.vs ⟨wh,dy,du,am,am⟩))) g.pb (.lst (g.ip.map V.ref ++ [.ref pr]))) rfl ?_;generalize upd (upd H1 pr (.lst (Rw.vs ⟨wh,dy,du,am,am⟩))) g.pb (.lst (g.ip.map V.ref ++ [.ref pr]))=H2 at B2 F2;refine⟨_,rfl,sd,_,rfl,B2.gB,_,_,rfl,.inl (bF.of B2.hb),_,_,rfl,rfl,?_⟩;refine Ss _ (g.g8 pr) H2 F2 B2 (fun x hx=>?_) (d9.mpr ?_)
   ·rcases av.mp ((g.IP pr).mem_iff.mp hx) with rfl|hx
    ·exact .inr nr
    ·exact .inl hx
   ·show V.int _ =V.int (S.aC.length:Int)
    congr 1
    rw[ae];show((g.ip ++ [pr]).length:Int) - 1=_;rw[aF,lb];simp
  |pQ wh dy am=>
   refine⟨_,rfl,pd,_,_,.str "pay",rfl,rfl,cv.of lI,rfl,rfl,false,jo (show("pay":Str)≠"bill" by decide +kernel),bV ?_⟩;refine⟨_,rfl,pd,_,_,.str "pay",rfl,rfl,cv.of lI,rfl,rfl,true,Ao _,fe ?_⟩;refine⟨_,rfl,sd,_,rfl,B1.gC,.inl ⟨rfl,_,bF.of B1.hc⟩,_,rfl,pd,_,_,.str wh,rfl,rfl,cv.of lI,rfl,_,rfl,pd,_,_,.int dy,rfl,rfl,cv.of lI,rfl,_,rfl,pd,_,_,.int am,rfl,rfl,cv.of lI,rfl,_,rfl,_,rfl,pd,_,_,.int am,rfl,rfl,cv.of lI,rfl,(by show 5<=sizeLine; decide),fun pr nr=>?_⟩;have t1:=aG.new (o:= .lst (Rw.vs ⟨wh,dy,am,-1,am⟩)) nr;refine⟨g.pc,_,_,rfl,rfl,t1 _ _ B1.hc,bc (by rw[ae]; lia),?_⟩;have B2:=B1.fF (r:=⟨wh,dy,am,-1,am⟩) nr;have F2:Frame g.fp H1 (upd (upd H1 pr (.lst (Rw.vs ⟨wh,dy,am,-1,am⟩))) g.pc (.lst (g.cps.map V.ref ++ [.ref pr]))):=t1.frame.tr (Frame.upd (by simp[fj.fp]));refine jn (H':=upd (upd H1 pr (.lst (Rw.vs ⟨wh,dy,am,-1,am⟩))) g.pc (.lst (g.cps.map V.ref ++ [.ref pr]))) rfl ?_;generalize upd (upd H1 pr (.lst (Rw.vs ⟨wh,dy,am,-1,am⟩))) g.pc (.lst (g.cps.map V.ref ++ [.ref pr]))=H2 at B2 F2;refine⟨_,rfl,sd,_,rfl,B2.gC,_,_,rfl,.inl (bF.of B2.hc),_,_,rfl,rfl,?_⟩;refine Ss _ (g.fF pr) H2 F2 B2 (fun x hx=>?_) (d9.mpr ?_)
   ·rcases av.mp ((g.EH pr).mem_iff.mp hx) with rfl|hx
    ·exact .inr nr
    ·exact .inl hx
   ·show V.int _ =V.int (S.credits.length:Int)
    congr 1
    rw[ae];show((g.cps ++ [pr]).length:Int) - 1=_;rw[aF,lc];simp
  |note bi dy am=>
   obtain⟨ib,ia⟩:=nF oj;obtain⟨b,rfl⟩:=ck ib.1;have hb:b < S.aC.length:=by have:=ib.2; lia
   obtain⟨q,_,aq,hq⟩:=B1.lb hb;refine⟨_,rfl,pd,_,_,.str "note",rfl,rfl,cv.of lI,rfl,rfl,false,jo (show("note":Str)≠"bill" by decide +kernel),bV ?_⟩;refine⟨_,rfl,pd,_,_,.str "note",rfl,rfl,cv.of lI,rfl,rfl,false,jo (show("note":Str)≠"pay" by decide +kernel),bV ?_⟩;refine⟨_,rfl,pd,_,_,.str "note",rfl,rfl,cv.of lI,rfl,rfl,true,Ao _,fe ?_⟩;refine⟨_,rfl,sd,_,rfl,B1.gB,_,rfl,pd,_,_,.int (b:Int),rfl,rfl,cv.of lI,rfl,g.pb,_,_,.ref q,rfl,rfl,bF.of B1.hb,aq,q,_,_,.str (S.bl b).aK,rfl,rfl,bF.of hq,rfl,?_⟩;refine⟨_,rfl,sd,_,rfl,B1.gC,.inl ⟨rfl,_,bF.of B1.hc⟩,_,rfl,_,rfl,pd,_,_,.int dy,rfl,rfl,cv.of lI,rfl,_,rfl,pd,_,_,.int am,rfl,rfl,cv.of lI,rfl,_,rfl,pd,_,_,.int (b:Int),rfl,rfl,cv.of lI,rfl,_,rfl,pd,_,_,.int am,rfl,rfl,cv.of lI,rfl,(by show 5<=sizeLine; decide),fun pr nr=>?_⟩;have t1:=aG.new (o:= .lst (Rw.vs ⟨(S.bl b).aK,dy,am,b,am⟩)) nr;refine⟨g.pc,_,_,rfl,rfl,t1 _ _ B1.hc,bc (by rw[ae]; lia),?_⟩;have B2:=B1.fF (r:=⟨(S.bl b).aK,dy,am,b,am⟩) nr;have F2:Frame g.fp H1 (upd (upd H1 pr (.lst (Rw.vs ⟨(S.bl b).aK,dy,am,b,am⟩))) g.pc (.lst (g.cps.map V.ref ++ [.ref pr]))):=t1.frame.tr (Frame.upd (by simp[fj.fp]));refine jn (H':=upd (upd H1 pr (.lst (Rw.vs ⟨(S.bl b).aK,dy,am,b,am⟩))) g.pc (.lst (g.cps.map V.ref ++ [.ref pr]))) rfl ?_;generalize upd (upd H1 pr (.lst (Rw.vs ⟨(S.bl b).aK,dy,am,b,am⟩))) g.pc (.lst (g.cps.map V.ref ++ [.ref pr]))=H2 at B2 F2;refine⟨_,rfl,sd,_,rfl,B2.gC,_,_,rfl,.inl (bF.of B2.hc),_,_,rfl,rfl,?_⟩;refine Ss _ (g.fF pr) H2 F2 B2 (fun x hx=>?_) (d9.mpr ?_)
   ·rcases av.mp ((g.EH pr).mem_iff.mp hx) with rfl|hx
    ·exact .inr nr
    ·exact .inl hx
   ·show V.int _ =V.int (S.credits.length:Int)
    congr 1
    rw[ae];show((g.cps ++ [pr]).length:Int) - 1=_;rw[aF,lc];simp
  |set ci bi am=>
   obtain⟨ic,ib,_,_,_,_⟩:=kP oj;obtain⟨c,rfl⟩:=ck ic.1;obtain⟨b,rfl⟩:=ck ib.1;have hc:c < S.credits.length:=by have:=ic.2; lia
   have hb:b < S.aC.length:=by have:=ib.2; lia
   refine⟨_,rfl,pd,_,_,.str "set",rfl,rfl,cv.of lI,rfl,rfl,false,jo (show("set":Str)≠"bill" by decide +kernel),bV ?_⟩;refine⟨_,rfl,pd,_,_,.str "set",rfl,rfl,cv.of lI,rfl,rfl,false,jo (show("set":Str)≠"pay" by decide +kernel),bV ?_⟩;refine⟨_,rfl,pd,_,_,.str "set",rfl,rfl,cv.of lI,rfl,rfl,false,jo (show("set":Str)≠"note" by decide +kernel),bV ?_⟩;refine⟨_,rfl,pd,_,_,.str "set",rfl,rfl,cv.of lI,rfl,rfl,true,Ao _,fe ?_⟩;refine⟨_,rfl,_,rfl,pd,_,_,.int (c:Int),rfl,rfl,cv.of lI,rfl,_,rfl,pd,_,_,.int (b:Int),rfl,rfl,cv.of lI,rfl,_,rfl,pd,_,_,.int am,rfl,rfl,cv.of lI,rfl,sd,S,g,c,b,am,rfl,B1,hc,hb,by lia,fun H2 F2 B2=>?_⟩;have hd2:=B1.tk F2 _ _ lI;refine⟨_,rfl,pd,_,_,.int am,rfl,rfl,cv.of hd2,rfl,?_⟩;exact Ss _ g H2 F2 B2 (fun x hx=> .inl hx) (d9.mpr rfl)
  |fu wh=>
   refine⟨_,rfl,pd,_,_,.str "sweep",rfl,rfl,cv.of lI,rfl,rfl,false,jo (show("sweep":Str)≠"bill" by decide +kernel),bV ?_⟩;refine⟨_,rfl,pd,_,_,.str "sweep",rfl,rfl,cv.of lI,rfl,rfl,false,jo (show("sweep":Str)≠"pay" by decide +kernel),bV ?_⟩;refine⟨_,rfl,pd,_,_,.str "sweep",rfl,rfl,cv.of lI,rfl,rfl,false,jo (show("sweep":Str)≠"note" by decide +kernel),bV ?_⟩;refine⟨_,rfl,pd,_,_,.str "sweep",rfl,rfl,cv.of lI,rfl,rfl,false,jo (show("sweep":Str)≠"set" by decide +kernel),bV ?_⟩;refine⟨_,rfl,_,rfl,pd,_,_,.str wh,rfl,rfl,cv.of lI,rfl,sd,S,g,wh,rfl,B1,qw,LK,Jg,fun D ms H2 F2 B2 nD hD hT=>?_⟩;exact Ss _ g H2 F2 B2 (fun x hx=> .inl hx) (jC.mpr ⟨D,ms,rfl,hD,hT.Um⟩)
def bu.word:bu->Str
 | .dF _ _ _ _=>"bill"
 | .pQ _ _ _=>"pay"
 | .note _ _ _=>"note"
 | .set _ _ _=>"set"
 | .fu _=>"sweep"
 | .gF _=>"undo"
 | .ask o _ _=>if o then "owed" else "free"
 | .hZ _ _ _=>"ages"
def tO {d:bu}(h:d.tells=true∨ ∃m,d= .gF m): ∃r,bu.vs d= .str (bu.word d) :: r:=by
 cases d with
 |hZ w d l=>rcases h with h|⟨m,h⟩ <;> cases h
 |_=>exact⟨_,rfl⟩
def EN {d:bu}(h:d.tells=true):vV (.str (bu.word d)) [.str "set",.str "sweep"]=d.isSet:=by
 cases d with
 |dF _ _ _ _=>show vV (.str "bill") _ =false; decide +kernel
 |pQ _ _ _=>show vV (.str "pay") _ =false; decide +kernel
 |note _ _ _=>show vV (.str "note") _ =false; decide +kernel
 |set _ _ _=>show vV (.str "set") _ =true; decide +kernel
 |fu _=>show vV (.str "sweep") _ =true; decide +kernel
 |gF _=>cases h
 |ask _ _ _=>cases h
 |hZ _ _ _=>cases h
def gw (H:Hp)(ss:List (Int×bu))(vs:List V):Prop:=Paired (fun(st:Int×bu) v=> ∃p pd,v= .ref p/\H p=some (.tup [.int st.1,.ref pd])/\H pd=some (.tup (bu.vs st.2))/\st.2.tells=true) ss vs
def gw.mono {H H':Hp}{ss:List (Int×bu)}{vs:List V}(h:gw H ss vs)(k:cA H H'):gw H' ss vs:=
 Paired.iH h fun _ _ ⟨p,pd,e,q1,q2,t⟩=>⟨p,pd,e,k _ _ q1,k _ _ q2,t⟩
inductive vf (vs:List V)(H:Hp)(Q:VK)(E':XK):Prop
 |mk (ps:Addr)(ss:List (Int×bu))(us:List V)(h1:vs=[.ref ps])(h2:H ps=some (.lst us))(h3:gw H ss us)(h4:ss.length<=59)(h5:(cu ss Bk.new=none-> ∀H',aG H H'->Q .dW H'))(h6:(∀S,cu ss Bk.new=some S-> ∀sd f H',aG H H'->de H' sd S f->(∀b∈f.fp,H b=none)->Q (.ref sd) H')):vf vs H Q E'
def mX:aO ["_law_steps","_law_state","_law_number","_law_deed"] ["_law_steps"] (ay (top 60)):={}
def wK (T:Txt K mg):eQ P w K mg base "_law_worked" 4 ["_law_steps"] vf:=by
 have lP:eQ P w K mg base "_law_begun" 1 [] EJ:=qH T;have lQ:eQ P w K mg base "_law_enter" 3 ["_law_state","_law_deed"] tN:=qJ T;refine T.wx.fA (k:=3) mX (fun f cM A outer s H vs Q E hr h=>?_)
 ·obtain⟨ps,ss,us,rfl,mD,LN,hl,kn,ky⟩:=h;have nd:=mX.nd;have hlen:=aS LN;refine⟨_,(ah (sv 1 nd (HY lP (hr.mono (by decide)) rfl))
(ah (fk bN rfl (tI (pv 0)) (gT (bW (gn 2 nd) (bW (gn 3 nd) gp)))
(au (bO (fS (wb T.dm T.EF boot_str (fc lQ hr (aa (pv 1) (aa (pv 3) aw)))))
(au (a6 CI))
bf)))
(au (a6 (pv 1))))),?_⟩
  refine⟨rfl,fun sd f0 H1 s1 B1 Ls nf=>?_⟩;refine⟨_,rfl,ps,rfl,⟨_,bF.of (s1 _ _ mD)⟩,?_⟩;refine gA (K:=K) (a:=ps) (xs:=us) (fun i σ H2=> ∃(S:Bk) (f:fj) (x2 x3:Option V),σ=[some (.ref ps),some (.ref sd),x2,x3]/\aG H H2/\de H2 sd S f/\(∀b∈f.fp,H b=none)/\WF S i/\cu ss Bk.new=cu (ss.drop i) S)
   ⟨Bk.new,f0,none,none,rfl,s1,B1,nf,WF.new,rfl⟩ (fun i σ H2 _ ⟨_,_,_,_,_,s2,_⟩=>bF.of (s2 _ _ mD)) ?_ ?_
  ·rintro i x σ H2 hx ⟨S,f2,x2,x3,rfl,s2,B2,Ur,wf,hw⟩;have hi:i < ss.length:=by have:=(ao.mp hx).1; lia
   obtain⟨v,hv,p,pd,rfl,hp,Hc,ht⟩:=bI LN (af hi);rw[hx] at hv;obtain rfl:x= .ref p:=aE hv;have hdr:=Ng hi;rw[hdr] at hw;generalize ss[i]=st at hp Hc ht hw;obtain⟨n,d⟩:=st;have xB:=s2 _ _ hp;have OO:=s2 _ _ Hc;refine⟨p,_,rfl,cv.of xB,rfl,_,_,rfl,_,_,rfl,rfl,?_⟩;refine⟨_,rfl,_,rfl,sd,pd,S,f2,d,rfl,B2,OO,ht,by have:=wf.lc; lia,by have:=wf.lb; lia,by have:=wf.lm; rw[eJ]; lia,fun hb H3 s3=>?_,fun hb v f3 H3 F3 B3 fi r=>?_⟩
   ·refine⟨_,_,_,true,rfl,.str _,xF (.str (S.bar d)),_,rfl,fe ?_⟩;refine kn ?_ _ (s2.trans s3);rw[hw];show(if S.bar d="" then _ else none)=none;rw[aL hb]
   ·have hS:T2 (S.La d).dt=false:=by cases d <;> first|rfl|cases ht
    refine⟨_,_,_,false,rfl,r.ty,(xF _).trans (cQ some hS),_,rfl,bV ?_⟩;refine⟨S.enter d,f3,_,_,rfl,F3.same s2 Ur,B3,fun b pP=>?_,wf.enter (by lia) hb,?_⟩
    ·rcases fi b pP with z|z
     ·exact Ur b z
     ·exact s2.free z
    ·rw[hw];show(if S.bar d="" then _ else none)=_;rw[aZ hb]
  ·rintro σ H2 ⟨S,f2,x2,x3,rfl,s2,B2,Ur,wf,hw⟩;rw[← hlen,List.drop_length] at hw;exact⟨_,rfl,ky S hw sd f2 H2 s2 B2 Ur⟩
inductive EO (vs:List V)(H:Hp)(Q:VK)(E':XK):Prop
 |mk (pd:Addr)(wd:Str)(r:List V)(h1:vs=[.ref pd])(h2:H pd=some (.tup (.str wd :: r)))(h3: ∀H',aG H H'->Q (.bl (vV (.str wd) [.str "bill",.str "pay",.str "note",.str "set",.str "sweep"])) H'):EO vs H Q E'
def wL:aO ["_law_deed"] ["_law_deed"] (ay (top 61)):={}
def zB (T:Txt K mg):eQ P w K mg base "_law_tells" 1 ["_law_deed"] EO:=by
 refine T.yW.fA (k:=0) wL (fun f cM A outer s H vs Q E hr h=>?_)
 ·obtain⟨pd,wd,r,rfl,hd,k⟩:=h;refine⟨_,(au (a6 (eG nE (xt (pv 0) aj) (bP (aa aN (aa aN (aa aN (aa aN (aa aN aw)))))) (by rfl)))),?_⟩;refine⟨_,rfl,pd,_,_,.str wd,rfl,rfl,cv.of hd,cz (j:=0) rfl,(by show 5<=sizeLine; decide),fun p9 n9=>⟨p9,_,rfl,.inl (bF.of ag),rfl,rfl,?_⟩⟩;exact k _ (aG.new n9)
def MT (Q:VK)(H:Hp)(ps:Addr)(f:fj)(r:K9×iD):Prop:=
 ∀(t:Addr) (v:V) (vg Cw:Addr) (f':fj) (BO:List V) (H':Hp),H' t=some (.tup [v,.ref vg,.ref Cw])->Rp H' r.1.dt v->H' vg=some (.lst BO)->gw H' r.2.steps BO->de H' Cw r.2.bk f'->Frame f.fp H H'->ON H f f'->vg∉f'.fp->(∀a o,a∉f.fp->H a=some o->vg=a->vg=ps)->Q (.ref t) H'
inductive Jl (vs:List V)(H:Hp)(Q:VK)(E':XK):Prop
 |mk (ps sd pd:Addr)(n:Nat)(T:iD)(us:List V)(f:fj)(d:bu)(h1:vs=[.ref ps,.ref sd,.int n,.ref pd])(h2:H ps=some (.lst us))(h3:gw H T.steps us)(h4:de H sd T.bk f)(h5:ps∉f.fp)(h6:H pd=some (.tup (bu.vs d)))(h7:(d.tells=true∨ ∃m,d= .gF m))(h8:Good T n)(h9:n<=59)(J2:MT Q H ps f (fz T n d)):Jl vs H Q E'
def vh {T:iD}{n:Int}{d:bu}(h:d.tells=true):fz T n d=if T.bk.bar d="" then(T.bk.La d,(⟨T.steps ++ [(n,d)],T.bk.enter d⟩:iD)) else(.txt (T.bk.bar d),T):=by
 cases d <;> first|rfl|cases h
def qK:aO ["_law_steps","_law_state","_law_number","_law_deed","_law_rest","_law_step","_law_later","_law_answer"] ["_law_steps","_law_state","_law_number","_law_deed"] (ay (top 62)):={}
def gg {α:Type}(p:α->Bool){l:List α}{i:Nat}{x:α}(h:l[i]? =some x):(l.take (i + 1)).filter p=(l.take i).filter p ++ (if p x=true then[x] else[]):=by
 rw[Fd,h,fR]
 congr 1
 show[x].filter p=_;by_cases c:p x=true
 ·rw[aZ c,cE c]; rfl
 ·rw[aL c,jW c]; rfl
def BP (T:Txt K mg):eQ P w K mg base "_law_done" 5 ["_law_steps","_law_state","_law_number","_law_deed"] Jl:=by
 have wM:eQ P w K mg base "_law_worked" 4 ["_law_steps"] vf:=wK T;have lQ:eQ P w K mg base "_law_enter" 3 ["_law_state","_law_deed"] tN:=qJ T;refine T.Bd.fA (k:=4) qK (fun f cM A outer s H vs Q E hr h=>?_)
 ·obtain⟨ps,sd,pd,n,T0,us,g,d,rfl,mD,LN,hB,ER,hd,hk,good,hn,k⟩:=h;have nd:=qK.nd;have hlen:=aS LN;have hT:=good.len;obtain⟨rr,Za⟩:=tO hk;have Us:H pd=some (.tup (.str (bu.word d) :: rr)):=Za▸hd;refine⟨_,(ah (bO (a0 cW (xt (pv 3) aj) aN (a7 _))
(ah (sv 4 nd (bP aw))
(ah (fk bN rfl (tI (pv 0)) (gn 5 nd)
(au (bO (PW.pt (pw_or (a0 r9 (xt (pv 5) aj) (xt (pv 3) aj) (a7 _)) (pw_or1 (a0 yu (xt (xt (pv 5) aj) aj) (bP (aa aN (aa aN aw))) (by rfl)))))
(au (bG (qx (pv 4) (pv 5))))
bf)))
(ah (bO (a0 cW (pT T.eI (pv 4)) (pT T.eI (pv 0)) (a7 _))
(au (a6 (dh (aa aN (aa (pv 0) (aa (pv 1) aw))))))
bf)
(ah (sv 6 nd (fc wM hr (aa (pv 4) aw)))
(ah (bO (yk (Hq (pv 6)))
(au (a6 (dh (aa aN (aa (pv 0) (aa (pv 1) aw))))))
bf)
(au (a6 (dh (aa aN (aa (pv 4) (aa (pv 6) aw)))))))))))
bf)
(ah (sv 7 nd (fc lQ hr (aa (pv 1) (aa (pv 3) aw))))
(ah (bO (fS (wb T.dm T.EF boot_str (pv 7)))
(au (a6 (dh (aa (pv 7) (aa (pv 0) (aa (pv 1) aw))))))
bf)
(au (a6 (dh (aa (pv 7) (aa (aR lD (pv 0) (bP (aa (dh (aa (pv 2) (aa (pv 3) aw))) aw))) (aa (pv 1) aw))))))))),?_⟩
  refine⟨_,rfl,pd,_,_,.str (bu.word d),rfl,rfl,cv.of Us,cz (j:=0) rfl,rfl,?_⟩;clear Us Za rr;by_cases ht:d.tells=true
  ·
   have hw:bu.word d≠"undo":=by
    cases d with
    |gF m=>cases ht
    |ask _ _ _=>cases ht
    |hZ _ _ _=>cases ht
    |dF _ _ _ _=>show("bill":Str)≠"undo"; decide +kernel
    |pQ _ _ _=>show("pay":Str)≠"undo"; decide +kernel
    |note _ _ _=>show("note":Str)≠"undo"; decide +kernel
    |set _ _ _=>show("set":Str)≠"undo"; decide +kernel
    |fu _=>show("sweep":Str)≠"undo"; decide +kernel
   refine⟨false,jo hw,bV ?_⟩;have wf:=good.wf (by lia);rw[vh ht] at k;refine⟨_,rfl,_,rfl,sd,pd,T0.bk,g,d,rfl,hB,hd,ht,by have:=wf.lc; lia,by have:=wf.lb; lia,by have:=wf.lm; rw[eJ]; lia,fun hb H3 s3=>?_,fun hb v f3 H3 F3 B3 fi r=>?_⟩
   ·rw[aL hb] at k;refine⟨_,rfl,_,_,_,true,rfl,.str _,xF (.str (T0.bk.bar d)),_,rfl,fe ?_⟩;refine⟨_,rfl,_,rfl,_,rfl,(by show 3<=sizeLine; decide),fun t nt=>?_⟩;have s4:=s3.trans (aG.new (o:= .tup [V.str (T0.bk.bar d),.ref ps,.ref sd]) nt);exact k t _ ps sd g us _ ag (gO.mpr rfl) (s4 _ _ mD) (LN.mono s4.tk) (hB.same s4) s4.frame (fun x hx=> .inl hx) ER (fun _ _ _ _ _=>rfl)
   ·rw[aZ hb] at k;have hS:T2 (T0.bk.La d).dt=false:=by cases d <;> first|rfl|cases ht
    refine⟨_,rfl,_,_,_,false,rfl,r.ty,(xF _).trans (cQ some hS),_,rfl,bV ?_⟩;have Zb:=hB.tk F3;have GD:=F3 _ _ ER mD;have WI:=LN.mono Zb;have MU:=Zb _ _ hd;refine⟨_,rfl,_,rfl,_,rfl,_,rfl,(by show 2<=sizeLine; decide),fun p1 n1=>⟨(by show 1<=sizeLine; decide),fun p2 n2=>?_⟩⟩;have t1:=aG.new (o:= .tup [V.int (n:Int),.ref pd]) n1;have t2:=aG.new (o:= .lst [V.ref p1]) n2;have g1:upd (upd H3 p1 (.tup [V.int (n:Int),.ref pd])) p2 (.lst [V.ref p1]) p1=some (.tup [V.int (n:Int),.ref pd]):=t2 _ _ ag;have g2:upd (upd H3 p1 (.tup [V.int (n:Int),.ref pd])) p2 (.lst [V.ref p1]) p2=some (.lst [V.ref p1]):=ag;have sH:=t1.trans t2;refine⟨ps,p2,_,_,rfl,rfl,sH _ _ GD,g2,?_,fun p4 n4=>?_⟩
    ·refine c8 (bc ?_);show us.length + 1<=1000;lia
    generalize upd (upd H3 p1 (.tup [V.int (n:Int),.ref pd])) p2 (.lst [V.ref p1])=H4 at sH g1 g2 n4;have t4:=aG.new (o:= .lst (us ++ [V.ref p1])) n4;refine⟨_,rfl,(by show 3<=sizeLine; decide),fun t nt=>?_⟩;have t5:=aG.new (o:= .tup [v,V.ref p4,.ref sd]) nt;have Su:=(sH.trans t4).trans t5;have B5:=B3.same Su;refine k t v p4 sd f3 (us ++ [.ref p1]) _ ag (Rp.mono Su _ r) (t5 _ _ ag) ?_ B5 (F3.cI Su) fi (B3.off ?_) (fun a o ha e q=>absurd q.symm (aI (sH _ _ (F3 _ _ ha e)) n4))
    ·exact cB (WI.mono Su.tk) ⟨p1,pd,rfl,(t4.trans t5) _ _ g1,Su _ _ MU,ht⟩
    ·exact sH.free n4
  ·
   obtain⟨m,rfl⟩: ∃m,d= .gF m:=hk.resolve_left ht;refine⟨true,Ao _,fe ?_⟩;refine⟨bq _,fun pr nr=>?_⟩;have s1:aG H (upd H pr (.lst [])):=aG.new nr;refine⟨_,rfl,ps,rfl,⟨_,bF.of (s1 _ _ mD)⟩,?_⟩;refine gA (K:=K) (a:=ps) (xs:=us) (fun i σ H2=> ∃(rs:List V) (x5:Option V),σ=[some (.ref ps),some (.ref sd),some (.int (n:Int)),some (.ref pd),some (.ref pr),x5,none,none]/\aG H H2/\H2 pr=some (.lst rs)/\gw H2 ((T0.steps.take i).filter (cH m)) rs)
    ⟨[],none,rfl,s1,ag,.nil⟩ (fun i σ H2 _ ⟨_,_,_,s2,_⟩=>bF.of (s2 _ _ mD)) ?_ ?_
   ·rintro i x σ H2 hx ⟨rs,x5,rfl,s2,Kh,Ki⟩;have hi:i < T0.steps.length:=by have:=(ao.mp hx).1; lia
    have oB:=af hi;obtain⟨v,hv,p,pe,rfl,hp,Zc,Ut⟩:=bI LN oB;rw[hx] at hv;obtain rfl:x= .ref p:=aE hv;have oC:=gg (cH m) oB;generalize T0.steps[i]=st at hp Zc Ut oC;obtain⟨n0,e⟩:=st;have xB:=s2 _ _ hp;have OP:=s2 _ _ Zc;have hd2:=s2 _ _ hd;have Cq:rs.length<=100:=by
     have:=aS Ki;have:=aY (cH m) (T0.steps.take i);rw[bo] at this;lia
    have yes:cH m (n0,e)=true-> ∀H3,aG H2 H3->(Vq (V.ref pr) [V.ref p] H3 fun l xs y=> ∃(rs:List V) (x5:Option V),[some (V.ref ps),some (.ref sd),some (.int (n:Int)),some (.ref pd),some (.ref pr),some (.ref p),none,none]=[some (.ref ps),some (.ref sd),some (.int (n:Int)),some (.ref pd),some (.ref pr),x5,none,none]/\aG H (upd H3 l (.lst (xs ++ [y])))/\upd H3 l (.lst (xs ++ [y])) pr=some (.lst rs)/\gw (upd H3 l (.lst (xs ++ [y]))) ((T0.steps.take (i + 1)).filter (cH m)) rs):=fun z H3 s3=>by
     refine⟨pr,rs,_,rfl,rfl,s3 _ _ Kh,bc (by lia),rs ++ [.ref p],_,rfl,(s2.trans s3).cZ nr,ag,?_⟩;rw[oC,aZ z];have tk:=s3.tk.trans (fY (o:= .lst (rs ++ [.ref p])) (s3 _ _ Kh));exact cB (Ki.mono tk) ⟨p,pe,rfl,tk _ _ xB,tk _ _ OP,Ut⟩
    refine⟨_,rfl,p,_,_,.int n0,rfl,rfl,cv.of xB,rfl,_,rfl,pd,_,_,.int m,rfl,rfl,cv.of hd2,rfl,rfl,_,rfl,cy (fun z=>fe ?_) (fun z=>?_)⟩
    ·have z':n0≠m:=fun q=>by rw[q] at z; simp at z
     refine⟨_,rfl,.inl ⟨rfl,_,bF.of Kh⟩,_,rfl,yes ?_ H2 (aG.refl _)⟩;show(!(decide (n0=m) && e.isSet))=true;rw[bC z']; rfl
    ·have z':n0=m:=by
      by_cases q:n0=m
      ·exact q
      ·exact absurd (by rw[bC (fun w=>q (by injection w))]; rfl) z
     obtain⟨re,hev⟩:=tO (d:=e) (.inl Ut);rw[hev] at OP;refine⟨_,rfl,p,_,_,.ref pe,rfl,rfl,cv.of xB,rfl,pe,_,_,.str (bu.word e),rfl,rfl,cv.of OP,cz (j:=0) rfl,(by show 2<=sizeLine; decide),fun p9 n9=>⟨p9,_,rfl,.inl (bF.of ag),rfl,rfl,!e.isSet,cQ V.bl (by rw[aZ rfl,EN Ut]),cy (fun q=>?_) (fun q=>?_)⟩⟩
     ·have t9:=aG.new (o:= .lst [V.str "set",.str "sweep"]) n9;refine⟨_,rfl,.inl ⟨rfl,_,bF.of (t9 _ _ Kh)⟩,_,rfl,yes ?_ _ t9⟩;show(!(decide (n0=m) && e.isSet))=true;rw[aJ z',Bool.true_and]; exact q
     ·have t9:=aG.new (o:= .lst [V.str "set",.str "sweep"]) n9;refine⟨rs,_,rfl,s2.trans t9,t9 _ _ Kh,?_⟩;have no: ¬ cH m (n0,e)=true:=by
       show ¬ (!(decide (n0=m) && e.isSet))=true;rw[aJ z',Bool.true_and]; exact q
      rw[oC,aL no,bZ];exact Ki.mono t9.tk
   ·rintro σ H2 ⟨rs,x5,rfl,s2,Kh,Ki⟩;rw[← hlen,a8] at Ki;have Cq:=aS Ki;have Uu:=aY (cH m) T0.steps;have oE:fz T0 n (.gF m)=if(T0.steps.filter (cH m)).length=T0.steps.length then(.txt "no setting",T0) else
      match cu (T0.steps.filter (cH m)) Bk.new with
      |none=>(.txt "needed",T0)
      |some S=>(.txt "undone",⟨T0.steps.filter (cH m),S⟩):=rfl
    have ES:=hB.same s2;refine⟨_,rfl,pr,_,rfl,.inl (bF.of Kh),_,rfl,ps,_,rfl,.inl (bF.of (s2 _ _ mD)),rfl,_,rfl,cy (fun z=>?_) (fun z=>?_)⟩
    ·have z':(T0.steps.filter (cH m)).length=T0.steps.length:=by
      have:=aX z;injection this with this;lia
     rw[oE,aZ z'] at k;refine⟨_,rfl,_,rfl,(by show 3<=sizeLine; decide),fun t nt=>?_⟩;have s4:=s2.trans (aG.new (o:= .tup [V.str "no setting",.ref ps,.ref sd]) nt);exact k t _ ps sd g us _ ag (gO.mpr rfl) (s4 _ _ mD) (LN.mono s4.tk) (hB.same s4) s4.frame (fun x hx=> .inl hx) ER (fun _ _ _ _ _=>rfl)
    have z': ¬ (T0.steps.filter (cH m)).length=T0.steps.length:=fun q=>z (aJ (by congr 1; lia));rw[oE,aL z'] at k;refine⟨_,rfl,pr,T0.steps.filter (cH m),rs,rfl,Kh,Ki,by lia,fun hw H3 s3=>?_,fun S hw Zd f3 H3 s3 B3 nf=>?_⟩
    ·rw[hw] at k;refine⟨_,rfl,true,rfl,fe ⟨_,rfl,_,rfl,(by show 3<=sizeLine; decide),fun t nt=>?_⟩⟩;have s4:=(s2.trans s3).trans (aG.new (o:= .tup [V.str "needed",.ref ps,.ref sd]) nt);exact k t _ ps sd g us _ ag (gO.mpr rfl) (s4 _ _ mD) (LN.mono s4.tk) (hB.same s4) s4.frame (fun x hx=> .inl hx) ER (fun _ _ _ _ _=>rfl)
    ·rw[hw] at k;refine⟨_,rfl,false,rfl,bV ⟨_,rfl,_,rfl,(by show 3<=sizeLine; decide),fun t nt=>?_⟩⟩;have t4:=aG.new (o:= .tup [V.str "undone",.ref pr,.ref Zd]) nt;have s4:=(s2.trans s3).trans t4;refine k t _ pr Zd f3 rs _ ag (gO.mpr rfl) ((s3.trans t4) _ _ Kh) (Ki.mono (s3.trans t4).tk) (B3.same t4) s4.frame (fun x hx=> .inr (s2.free (nf x hx))) (fun q=>?_) (fun a o ha e q=>absurd q.symm (aI e nr));have:=nf pr q;rw[Kh] at this;cases this
end
end eD
namespace L2
open PySem PySem.Spec PyProof.Rows
def zC {X:Cx}{scope:Scope}{x y:Str}{c d:Addr}{j k:Nat}(FJ:closureFor scope X.env=pure [(x,c),(y,d)]:=by rfl)(lX: ∀z∈scope.names,z.2≠ .cell:=by decide +kernel)(mw:scope.kind= .function:=by rfl)(ur: ∀x∈scope.names,x.2= .local->scope.names.lookup x.1=some .local:=by decide +kernel)
  (hx:X.env.cells.lookup x=some c:=by rfl) (hy:X.env.cells.lookup y=some d:=by rfl) (Am:List (Str×NameKind)) (Rg:(relabel scope X.env).names=Am:=by rfl) (Cq: ∀z∈Am,(z.2= .cell∨z.2= .free)->z.1=x∨z.1=y:=by decide +kernel)
  (hN:X.N[j]? =some x:=by rfl) (hN2:X.N[k]? =some y:=by rfl) (hk:X.env.kindOf x=some .cell∨X.env.kindOf x=some .free:=by exact Or.inl rfl) (J0:X.env.kindOf y=some .cell∨X.env.kindOf y=some .free:=by exact Or.inl rfl)
  (MA:(relabel scope X.env).names.lookup x=some .cell∨(relabel scope X.env).names.lookup x=some .free:=by exact Or.inl rfl) (WJ:(relabel scope X.env).names.lookup y=some .cell∨(relabel scope X.env).names.lookup y=some .free:=by exact Or.inl rfl):rD X scope [(x,c),(y,d)] [x,y] [j,k]:=by
 refine⟨FJ,lX,mw,ur,fun z c' h=>?_,fun z h=>?_,.cons ⟨hN,hk,MA⟩ (.cons ⟨hN2,J0,WJ⟩ .nil)⟩
 ·rcases av.mp (b0 h) with e|e
  ·cases e; exact hx
  ·rcases av.mp e with e|e
   ·cases e; exact hy
   ·cases e
 ·have e:z=x∨z=y:=by
   rcases h with h|h
   ·rw[Rg] at h;exact Cq _ (b0 h) (.inl rfl)
   ·rw[Rg] at h;exact Cq _ (b0 h) (.inr rfl)
  by_cases q:z=x
  ·exact⟨c,by rw[q]; simp[List.lookup]⟩
  ·have q2:z=y:=e.resolve_left q;have q3:(z == x)=false:=by simpa using q
   exact⟨d,by rw[List.lookup,q3,q2]; simp[List.lookup]⟩
end L2
namespace eD
open PySem L2 PyProof.Rows Ka
seal L2.oq L2.PS L2.PE L2.PT L2.PW L2.PA L2.PC L2.PG L2.Hr L2.PI L2.KU L2.JZ L2.PO L2.nW L2.Mw L2.gE L2.HL L2.My
section
variable {P:Program}{w:World}{K:Frag}{mg:Str->Option Value}{base:Heap}
inductive pB (A:dO)(vs:List V)(H:Hp)(Q:VK)(E':XK):Prop
 |mk (pw p:Addr)(S:Bk)(f:eA)(t:Nat×Nat×Int)(day:Int)(h1:vs=[.ref pw,.ref p,.int day])(h2:dr A H pw S f)(h3:H p=some (.tup [.int t.1,.int t.2.1,.int t.2.2]))(h4:t.1 < S.credits.length)(h5:t.2.1 < S.aC.length)(h6:Q (.bl (decide (S.fW t<=day))) H):pB A vs H Q E'
def zD:aO ["work","setting","day"] ["work","setting","day"] (ay (top 40)):={}
def BQ (T:Txt K mg){A:dO}(G:jl K mg A):eQ P w K mg base "counts_at" 2 ["work","setting","day"] (pB A):=by
 have wN:eQ P w K mg base "counts_from" 1 ["credit","bill"] (Du A):=wz T G;refine T.A9.fA (k:=1) zD (fun f cM A' outer s H vs Q E hr h=>?_)
 ·obtain⟨pw,p,S,g,t,day,rfl,hW,hp,hc,hb,k⟩:=h;obtain⟨dw,hw⟩:=hW.obj;obtain⟨pc,c1,c2⟩:=hW.rc.get hc;obtain⟨pb,b1,b2⟩:=hW.rb.get hb;refine⟨_,(au (a6 (eG xm (fc wN hr (aa (xl (jJ (pv 0)) (xt (pv 1) aj)) (aa (xl (jJ (pv 0)) (xt (pv 1) aj)) aw))) (pv 2) (a7 _)))),?_⟩;refine⟨_,rfl,pw,_,dw,_,_,rfl,hw,G.bw,G.cw,gS g,_,rfl,p,_,_,.int t.1,rfl,rfl,cv.of hp,rfl,g.pc,_,_,.ref pc,rfl,rfl,bF.of hW.hc,cz (by rw[aD,c1]; rfl),?_⟩;refine⟨_,rfl,pw,_,dw,_,_,rfl,hw,G.bw,G.dM,iY g,_,rfl,p,_,_,.int t.2.1,rfl,rfl,cv.of hp,rfl,g.pb,_,_,.ref pb,rfl,rfl,bF.of hW.hb,cz (by rw[aD,b1]; rfl),?_⟩;exact⟨pc,pb,t.1,t.2.1,S.cr t.1,S.bl t.2.1,rfl,c2,b2,_,rfl,_,_,rfl,rfl,k⟩
inductive pC (A:dO)(vs:List V)(H:Hp)(Q:VK)(E':XK):Prop
 |mk (pw:Addr)(S:Bk)(f:eA)(n:Nat)(day:Int)(h1:vs=[.ref pw,.int day])(h2:dr A H pw S f)(h3:WF S n)(h4:S.made.length<=1000000)(h5: ∀D ms H',aG H H'->H D=none->H' D=some (.lst ms)->gy H' (S.made.filter fun t=>decide (S.fW t<=day)) ms->Q (.ref D) H'):pC A vs H Q E'
def vi:aO ["work","day"] ["work","day"] (ay (top 39)):={}
def wO (T:Txt K mg){A:dO}(G:jl K mg A):eQ P w K mg base "counting_at" 3 ["work","day"] (pC A):=by
 have BR:eQ P w K mg base "counts_at" 2 ["work","setting","day"] (pB A):=BQ T G;refine T.wj.fA (k:=2) vi (fun f cM A' outer s H vs Q E hr h=>?_)
 ·obtain⟨pw,S,g,n,day,rfl,hW,wf,hz,k⟩:=h;obtain⟨dw,hw⟩:=hW.obj;obtain⟨ms,m1,m2⟩:=hW.hm;have hlen:=aS m2;refine⟨_,(au (a6 (iS (tn:=["setting"]) (cn:=["work","day"]) (cj:=[0,1]) rfl (zC (Am:=[(".0",.local),("setting",.local),("counts_at",.globalImplicit),("day",.cell),("work",.cell)])) (tI (jJ (pv 0))) (fun _ _ _ _=>(en (i:=0) (show(["setting","work","day"]:List Str).Nodup by decide +kernel) rfl (Or.inl rfl))) (fun _ _ _ _=>(oZ (fS (fc BR hr (aa (pv 1) (aa (pv 0) (aa (pv 2) aw))))))) (fun _ _ _ _=>(pv 0))))),?_⟩;refine⟨_,rfl,pw,_,dw,_,_,rfl,hw,G.bw,G.jm,yX g,g.pm,rfl,⟨_,bF.of m1⟩,?_⟩;refine dX (K:=K) (a:=g.pm) (xs:=ms) (fun D i σ H6=>H D=none/\ ∃v rs,σ=[v,some (.ref pw),some (.int day)]/\aG H H6/\H6 D=some (.lst rs)/\gy H6 ((S.made.take i).filter fun t=>decide (S.fW t<=day)) rs) (fun D hD=>⟨hD,none,[],rfl,aG.new hD,ag,.nil⟩) (fun D i σ H6 _ ⟨_,_,_,_,t3,_⟩=>bF.of (t3 _ _ m1)) ?_ ?_
  ·rintro D i x σ H6 hx ⟨hD,v,rs,rfl,t3,g9,hT⟩;have hi:i < S.made.length:=by have:=(ao.mp hx).1; lia
   have oB:=af hi;obtain⟨v',hv,p,rfl,hp⟩:=bI m2 oB;rw[hx] at hv;obtain rfl:x= .ref p:=aE hv;have hm:=wf.m _ (bD hi);have oC:=gg (fun t=>decide (S.fW t<=day)) oB;generalize S.made[i]=t at hp hm oC;have Ki:rs.length<=1000000:=by
    have:=aS hT;have:=aY (fun t=>decide (S.fW t<=day)) (S.made.take i);rw[bo] at this;lia
   refine⟨_,rfl,_,rfl,_,rfl,pw,p,S,g,t,day,rfl,hW.same t3,t3 _ _ hp,hm.1,hm.2,_,rfl,cy (fun z=>?_) (fun z=>?_)⟩
   ·rw[aZ z] at oC;refine⟨_,rfl,_,g9,iO Ki,hD,_,rs ++ [.ref p],rfl,t3.cZ hD,ag,?_⟩;rw[oC];have tk:=fY (o:= .lst (rs ++ [.ref p])) g9;exact cB (hT.mono tk) ⟨p,rfl,tk _ _ (t3 _ _ hp)⟩
   ·rw[aL z,bZ] at oC;refine⟨hD,_,rs,rfl,t3,g9,?_⟩;rw[oC];exact hT
  ·rintro D σ H6 hD ⟨_,v,rs,rfl,t3,g9,hT⟩;rw[← hlen,a8] at hT;exact k D rs H6 t3 hD g9 hT
def mY (H:Hp)(l:List (Nat×Int))(vs:List V):Prop:=Paired (fun(t:Nat×Int) v=> ∃p,v= .ref p/\H p=some (.tup [.int t.1,.int t.2])) l vs
def mY.mono {H H':Hp}{l:List (Nat×Int)}{vs:List V}(h:mY H l vs)(k:cA H H'):mY H' l vs:=Paired.iH h fun _ _ ⟨p,e,q⟩=>⟨p,e,k _ _ q⟩
section
variable (S:Bk)(bK:Bool)(aK:Str)(day:Int)
end
section
variable {S:Bk}{bK:Bool}{aK:Str}{day:Int}{i:Nat}
end
def LO (bK:Bool)(t:Nat×Nat×Int):tF [V.int t.1,.int t.2.1,.int t.2.2] (if bK=true then(1:Int) else 0)=some (.int (spotOf bK t:Int)):=by cases bK <;> rfl
def GF {S:Bk}{bK:Bool}{aK:Str}{day:Int}{t:Nat×Int}(h:t∈S.qr bK aK day):t.1 < (S.rows bK).length:=by
 unfold Bk.qr at h;obtain⟨k,hk,rfl⟩:=bE.mp h;exact(j9.mp (fC.mp hk).1).1
def Dx (fW:Int)(cY:List Int):L2.placeOf fW cY < cY.length + 2:=by
 unfold L2.placeOf;split
 ·lia
 ·have:=aY (fun l=>decide (l < fW)) cY;lia
def GG (l:List Int)(i:Nat)(x:Int):(su l i x).length=l.length:=by unfold su; rw[List.length_set]
def LP (n:Nat)(b:Int):(List.replicate n [V.int b]).flatten=(List.replicate n b).map V.int:=by
 induction n with
 |zero=>rfl
 |succ n ih=>rw[c9,iG,ih,c9]; rfl
def zE (H:Hp)(ok:Addr->Prop):K9->V->Prop
 | .int i,v=>v= .int i
 | .txt s,v=>v= .str s
 | .sets l,v=> ∃D ms,v= .ref D/\ok D/\H D=some (.lst ms)/\gy H l ms
 | .pairs l,v=> ∃D ms,v= .ref D/\ok D/\H D=some (.lst ms)/\mY H l ms
 | .ints l,v=> ∃D,v= .ref D/\ok D/\H D=some (.lst (l.map V.int))
def zE.keep {H H':Hp}{ok Ze:Addr->Prop}{a:K9}{v:V}(h:zE H ok a v)(kl: ∀D xs,ok D->H D=some (.lst xs)->Ze D/\H' D=some (.lst xs))(kt:cA H H'):zE H' Ze a v:=by
 cases a with
 |int i=>exact h
 |txt s=>exact h
 |sets l=>
  obtain⟨D,ms,e,o,z,t⟩:=h;obtain⟨o',z'⟩:=kl _ _ o z;exact⟨D,ms,e,o',z',t.mono kt⟩
 |pairs l=>
  obtain⟨D,ms,e,o,z,t⟩:=h;obtain⟨o',z'⟩:=kl _ _ o z;exact⟨D,ms,e,o',z',mY.mono t kt⟩
 |«ints» l=>
  obtain⟨D,e,o,z⟩:=h;obtain⟨o',z'⟩:=kl _ _ o z;exact⟨D,e,o',z'⟩
def eW {X:Cx}{K:Frag}{e:Expr}{f:Str}{pos:Pos}{ta:TE}(h:X.K=K)(he:PE X e ta)(hb:attributeBase e f X.env (eval e X.env)=eval e X.env):PE X (.Attribute e f pos) (NA K ta f):=by subst h; exact HC he hb
def BS (A:dO)(bK:Bool):Addr:=if bK=true then A.dF else A.dP
def zF (bK:Bool)(k:Nat)(r:Rw):List (Str×V):=if bK=true then eX k r else eN k r
def xT (bK:Bool)(k:Nat)(r:Rw):(zF bK k r).lookup ("number":Str)=some (V.int k):=by cases bK <;> rfl
def OQ (bK:Bool)(k:Nat)(r:Rw):(zF bK k r).lookup ("day":Str)=some (V.int r.a):=by cases bK <;> rfl
def GH (bK:Bool)(k:Nat)(r:Rw):(zF bK k r).lookup ("amount":Str)=some (V.int (Ir bK r)):=by cases bK <;> rfl
def zG {A:dO}(G:jl K mg A)(bK:Bool):vT K (BS A bK):=by cases bK; exact G.cV; exact G.dQ
def xU {A:dO}(G:jl K mg A)(bK:Bool):bY K (BS A bK) "number":=by cases bK; exact G.eB; exact G.eE
def OR {A:dO}(G:jl K mg A)(bK:Bool):bY K (BS A bK) "day":=by cases bK; exact G.iP; exact G.mJ
def GI {A:dO}(G:jl K mg A)(bK:Bool):bY K (BS A bK) "amount":=by cases bK; exact G.k6; exact G.mL
def LQ (A:dO)(H:Hp)(S:Bk)(bK:Bool)(ks:List Nat)(qs:List Addr):Prop:=Paired (fun(k:Nat) q=>dY H q (BS A bK) (zF bK k ((S.rows bK).getD k default))) ks qs
def pR (S:Bk)(bK:Bool)(day:Int)(k:Nat):Bool:=decide (((S.rows bK).getD k default).a<=day) && decide (0 < S.rest bK k day)
inductive qL (A:dO)(vs:List V)(H:Hp)(Q:VK)(E':XK):Prop
 |mk (pw pt:Addr)(S:Bk)(f:eA)(n:Nat)(bK:Bool)(day:Int)(ks:List Nat)(qs:List Addr)(h1:vs=[.ref pw,.ref pt,.int (if bK=true then 1 else 0),.int day])(h2:dr A H pw S f)(h3:WF S n)(h4:S.made.length<=1000000)(h5:H pt=some (.lst (qs.map V.ref)))(h6:LQ A H S bK ks qs)(h7:ks.length<=100)(h8: ∀D ms H',aG H H'->H D=none->H' D=some (.lst ms)->mY H' ((ks.filter (pR S bK day)).map fun k=>(k,S.rest bK k day)) ms->Q (.ref D) H'):qL A vs H Q E'
def l0:aO ["work","told","place","day","counting","remaining","item","rest"] ["work","told","place","day"] (ay (top 38)):={}
def mZ (T:Txt K mg){A:dO}(G:jl K mg A):eQ P w K mg base "remaining_at" 4 ["work","told","place","day"] (qL A):=by
 have wQ:eQ P w K mg base "counting_at" 3 ["work","day"] (pC A):=wO T G;refine T.uQ.fA (k:=3) l0 (fun f cM A' outer s H vs Q E hr h=>?_)
 ·obtain⟨pw,pt,S,g,n,bK,day,ks,qs,rfl,hW,wf,hz,Cv,hI,Hb,k⟩:=h;have nd:=l0.nd;have hlen:=aS hI;refine⟨_,(ah (sv 4 nd (fc wQ hr (aa (pv 0) (aa (pv 3) aw))))
(ah (sv 5 nd (bP aw))
(ah (fk bN rfl (tI (pv 1)) (gn 6 nd)
(ah (sv 7 nd (aR eK (jJ (pv 6)) (fm (rG rfl) (by rfl) T.IK boot_sum (aa (iS (tn:=["setting"]) (cn:=["place","item"]) (cj:=[2,6]) rfl (zC (Am:=[(".0",.local),("setting",.local),("item",.cell),("place",.cell)])) (tI (pv 4)) (fun _ _ _ _=>(en (i:=0) (show(["setting","place","item"]:List Str).Nodup by decide +kernel) rfl (Or.inl rfl))) (fun _ _ _ _=>(oZ (a0 cW (je (tH (K:=K) rfl) (pv 0) (pv 1) (fun _ _=>rfl)) (eW (K:=K) rfl (pv 2) rfl) (a7 _)))) (fun _ _ _ _=>(je (tH (K:=K) rfl) (pv 0) aj (fun _ _=>rfl)))) aw))))
(au (bO (PW.pt (pw_and (a0 xm (jJ (pv 6)) (pv 3) (a7 _)) (pw_and1 (a0 jd (pv 7) aj (a7 _)))))
(au (bG (qx (pv 5) (dh (aa (jJ (pv 6)) (aa (pv 7) aw))))))
bf))))
(au (a6 (pv 5)))))),?_⟩
  refine⟨_,rfl,_,rfl,pw,S,g,n,day,rfl,hW,wf,hz,fun pc cs H1 s1 nc hc hT=>?_⟩;refine⟨bq _,fun pr nr=>?_⟩;have nr0:=s1.free nr;have sr:=aG.new (o:= .lst []) nr;refine⟨_,rfl,pt,rfl,⟨_,bF.of ((s1.trans sr) _ _ Cv)⟩,?_⟩;refine gA (K:=K) (a:=pt) (xs:=qs.map V.ref) (fun i σ H2=> ∃(rs:List V) (x6 x7:Option V),σ=[some (.ref pw),some (.ref pt),some (.int (if bK=true then 1 else 0)),some (.int day),some (.ref pc),some (.ref pr),x6,x7]/\aG H1 H2/\H2 pr=some (.lst rs)/\mY H2 (((ks.take i).filter (pR S bK day)).map fun k=>(k,S.rest bK k day)) rs)
   ⟨[],none,none,rfl,sr,ag,.nil⟩ (fun i σ H2 _ ⟨_,_,_,_,s2,_⟩=>bF.of ((s1.trans s2) _ _ Cv)) ?_ ?_
  ·rintro i x σ H2 hx ⟨rs,x6,x7,rfl,s2,EL,hP⟩;rw[aD] at hx;obtain⟨q,hq,rfl⟩:=bB.mp hx;have hi:i < ks.length:=by have:=(ao.mp hq).1; lia
   have oB:=af hi;obtain⟨q',sf,k9⟩:=bI hI oB;rw[hq] at sf;obtain rfl:q=q':=aE sf;have oC:=gg (pR S bK day) oB;generalize ks[i]=kk at k9 oC;have s02:=s1.trans s2;obtain⟨dq,Ap⟩:=k9.same s02;have K6:=s2 _ _ hc;have FN:=hT.mono s2.tk;have qw:=aS FN;have Uu:=aY (fun t=>decide (S.fW t<=day)) S.made;have Cq:rs.length<=100:=by
    have e1:=aS hP;have e2:=aY (pR S bK day) (ks.take i);rw[ae] at e1;rw[bo] at e2;lia
   refine⟨_,rfl,q,_,dq,_,_,rfl,Ap,zG G bK,GI G bK,GH bK _ _,_,rfl,pc,rfl,⟨_,bF.of K6⟩,?_⟩;refine dX (K:=K) (a:=pc) (xs:=cs) (fun D j σ H6=>H2 D=none/\ ∃v,σ=[v,some (.int (if bK=true then 1 else 0)),some (.ref q)]/\aG H2 H6/\H6 D=some (.lst (((((S.made.filter fun t=>decide (S.fW t<=day)).take j).filter fun t=>decide (spotOf bK t=kk)).map (·.2.2)).map V.int))) (fun D hD=>⟨hD,none,rfl,aG.new hD,ag⟩) (fun D j σ H6 _ ⟨_,_,_,t3,_⟩=>bF.of (t3 _ _ K6)) ?_ ?_
   ·rintro D j x σ H6 MQ ⟨hD,v,rfl,t3,g9⟩;have hj:j < (S.made.filter fun t=>decide (S.fW t<=day)).length:=by have:=(ao.mp MQ).1; lia
    have Zf:=af hj;obtain⟨v',hv,p,rfl,hp⟩:=bI FN Zf;rw[MQ] at hv;obtain rfl:x= .ref p:=aE hv;have Jm:=gg (fun t=>decide (spotOf bK t=kk)) Zf;generalize (S.made.filter fun t=>decide (S.fW t<=day))[j]=t at hp Jm;have hsz:((((S.made.filter fun t=>decide (S.fW t<=day)).take j).filter fun t=>decide (spotOf bK t=kk)).map (·.2.2)).length<=1000000:=by
     rw[ae];have e1:=aY (fun t=>decide (spotOf bK t=kk)) ((S.made.filter fun t=>decide (S.fW t<=day)).take j);rw[bo] at e1;lia
    have MV:=t3 _ _ hp;refine⟨_,rfl,_,rfl,p,_,_,_,rfl,rfl,cv.of MV,LO bK t,_,rfl,q,_,dq,_,_,rfl,t3 _ _ Ap,zG G bK,xU G bK,xT bK _ _,rfl,_,rfl,cy (fun z=>?_) (fun z=>?_)⟩
    ·have z':spotOf bK t=kk:=by
      have:=aX z;injection this with this;lia
     rw[aZ (aJ z')] at Jm;refine⟨_,rfl,p,_,_,.int t.2.2,rfl,rfl,cv.of MV,rfl,_,g9,iO (by rw[ae]; exact hsz),hD,_,rfl,t3.cZ hD,?_⟩;rw[ag,Jm,aM,aM];rfl
    ·have z': ¬ spotOf bK t=kk:=fun e=>z (aJ (by rw[e]));rw[aL (by rw[bC z']; exact aW),bZ] at Jm;refine⟨hD,_,rfl,t3,?_⟩;rw[Jm];exact g9
   ·rintro D σ H6 hD ⟨_,v,rfl,t3,g9⟩;rw[← qw,a8,CD] at g9;refine⟨D,_,rfl,bF.of g9,_,_,rfl,rfl,?_⟩;have MK:Ir bK ((S.rows bK).getD kk default) - ((S.made.filter fun t=>decide (spotOf bK t=kk) && decide (S.fW t<=day)).map (·.2.2)).sum=S.rest bK kk day:=rfl;have MW:=t3 _ _ EL;have Qd:=hP.mono t3.tk;have s6:=s2.trans t3;have no:pR S bK day kk=false-> ∃(rs:List V) (x6 x7:Option V),[some (V.ref pw),some (.ref pt),some (.int (if bK=true then 1 else 0)),some (.int day),some (.ref pc),some (.ref pr),some (.ref q),some (.int (S.rest bK kk day))]=[some (.ref pw),some (.ref pt),some (.int (if bK=true then 1 else 0)),some (.int day),some (.ref pc),some (.ref pr),x6,x7]/\aG H1 H6/\H6 pr=some (.lst rs)/\mY H6 (((ks.take (i + 1)).filter (pR S bK day)).map fun k=>(k,S.rest bK k day)) rs:=fun z=>by
     rw[aL (by rw[z]; exact aW),bZ] at oC;exact⟨rs,some (.ref q),some (.int (S.rest bK kk day)),rfl,s6,MW,by rw[oC]; exact Qd⟩
    refine⟨_,rfl,q,_,dq,_,_,rfl,t3 _ _ Ap,zG G bK,OR G bK,OQ bK _ _,_,rfl,_,_,rfl,rfl,_,rfl,cy (fun z1=>?_) (fun z1=>bV (no ?_))⟩
    ·refine⟨_,rfl,_,_,rfl,rfl,_,rfl,cy (fun z2=>?_) (fun z2=>no ?_)⟩
     ·have yes:pR S bK day kk=true:=by
       unfold pR;rw[aJ (aX z1),aJ (show 0 < S.rest bK kk day from aX z2)]; rfl
      rw[aZ yes] at oC;refine⟨_,rfl,.inl ⟨rfl,_,bF.of MW⟩,_,rfl,q,_,dq,_,_,rfl,t3 _ _ Ap,zG G bK,xU G bK,xT bK _ _,_,rfl,(by show 2<=sizeLine; decide),fun p8 n8=>?_⟩;have t8:=aG.new (o:= .tup [V.int (kk:Int),.int (S.rest bK kk day)]) n8;refine⟨pr,rs,_,rfl,rfl,t8 _ _ MW,bc (by lia),rs ++ [.ref p8],some (.ref q),some (.int (S.rest bK kk day)),rfl,(s6.trans t8).cZ nr,ag,?_⟩;rw[oC,aM];have tk:=t8.tk.trans (fY (o:= .lst (rs ++ [.ref p8])) (t8 _ _ MW));have fin:mY (upd (upd H6 p8 (.tup [V.int (kk:Int),.int (S.rest bK kk day)])) pr (.lst (rs ++ [.ref p8]))) ((((ks.take i).filter (pR S bK day)).map fun k=>(k,S.rest bK k day)) ++ [(kk,S.rest bK kk day)]) (rs ++ [.ref p8]):=cB (Qd.mono tk) ⟨p8,rfl,fY (o:= .lst (rs ++ [.ref p8])) (t8 _ _ MW) _ _ ag⟩;exact fin
     ·unfold pR;rw[bC (show ¬ 0 < S.rest bK kk day from fun e=>z2 (aJ e)),Bool.and_false]
    ·unfold pR;rw[bC (fun e=>z1 (aJ e)),M8]
  ·rintro σ H2 ⟨rs,x6,x7,rfl,s2,EL,hP⟩;rw[ae,← hlen,a8] at hP;exact⟨_,rfl,k pr rs H2 (s1.trans s2) nr0 EL hP⟩
structure pU (K:Frag)(mg:Str->Option Value)(x:Str)(st:Stmt)(tb:Addr):Prop where
 ex: ∃(f c:Addr) (oc:Value) (od:Option Addr) (kV doc pm:Value) (an:Option Addr) (ct:Value) (Fy:Array (Option Value)),K.lookup f=some ⟨oc,od,.func (fnOf x x (gr st) (dj st) (ay st) .none kV doc pm an (.ref c) ct),Fy⟩/\codeIn K (.ref c) x=true/\
  keepIn K (.ref f)=true/\mg x=some (.ref f)/\codeHdIn K c tb=true
def pU.fA {x:Str}{st:Stmt}{tb:Addr}{N ps:List Str}{k:Nat}{sp:Sp}(D:pU K mg x st tb)(KB:K.In base)(S:aO N ps (ay st))
  (fL: ∀(f c:Addr) (A:Around) (outer:List Env) (s:Shared) (H:Hp) (vs:List V) (Q:VK) (E:XK),PySem.W.CodeHd base c tb->eL k (A.deeper (envOfC x (ay st) s.heap.objs.size f (.ref c)))->sp vs H Q E->
   ∃t,oq (kz rC P w K mg base N x (ay st) f (.ref c) A outer s H E).CJ (dj st) t/\t {nx:=fun _ H'=>Q .dW H',rt:=Q} (L2.start N vs) H)
  (hb: ∀(kV doc pm:Value) (an:Option Addr) (cM ct:Value) (us:List Value),us.length=ps.length->bindArgs (fnOf x x (gr st) (dj st) (ay st) .none kV doc pm an cM ct) ⟨us,[]⟩=pure (ps.zip us):=by intro _ _ _ _ _ _ us hl; rcases us with _|⟨_,_|⟨_,_|⟨_,_⟩⟩⟩ <;> first|(cases hl; done)|rfl)
  (len: ∀vs H Q E,sp vs H Q E->vs.length=ps.length:=by intro _ _ _ _ h; first|(cases h; subst_vars; rfl)|(repeat (first|(obtain⟨rfl,_⟩:=h; rfl; done)|obtain⟨_,h⟩:=h))):eQ P w K mg base x (k + 1) ps sp:=by
 obtain⟨f,c,oc,od,kV,doc,pm,an,ct,Fy,lk,qY,hk,hm,hh⟩:=D.ex;have F:fV K x x st f _:=oY lk qY hk;refine⟨f,_,HI lk qY S len fun A outer s H vs Q E hr yn=>?_,hm,hk,F.binds hb⟩;obtain⟨t,h,q⟩:=fL f c A outer s H vs Q E (PySem.W.codeHd_of_K KB hh) hr yn;exact⟨t,h.CJ,q⟩
def qM {th:List (Int×Nat)}{i:Nat}(h:i < th.length):(th.map EK).getD i []=EK (th.getD i (0,0)):=getD_map EK th i (0,0) [] h
def vj {th:List (Int×Nat)}{p:List Nat}(h1: ∀x∈th,x.2 < 1000)(nd:(th.map (·.2)).Nodup)(hp:p.Perm (List.range th.length))(le:p.Pairwise (fun i j=>uT ((th.map EK).getD i [])<=uT ((th.map EK).getD j []))):p.map (fun i=>th.getD i (0,0))=fv th:=by
 have hr:(List.range th.length).map (fun i=>th.getD i (0,0))=th:=rH th (0,0);refine mI sW _ _ ((hp.map _).trans ((List.Perm.of_eq hr).trans (dk th).symm)) ?_ (Bh h1 nd);rw[rh];refine le.imp_of_mem fun{a b} ha hb z=>?_;have la:a < th.length:=cK.mp (hp.mem_iff.mp ha);have lb:b < th.length:=cK.mp (hp.mem_iff.mp hb);rw[qM la,qM lb] at z;exact z
def m8 {α β:Type}{F:α->β->Prop}{l₁:List α}{l₂:List β}(h:Paired F l₁ l₂)(d:α)(e:β): ∀p:List Nat,(∀i∈p,i < l₁.length)->Paired F (p.map fun i=>l₁.getD i d) (p.map fun i=>l₂.getD i e)
 |[],_=> .nil
 |i :: p,hi=>by
  have hl:=hi i bh;obtain⟨b,e1,e2⟩:=bI h (af hl);refine .cons ?_ (m8 h d e p fun j hj=>hi j (aQ _ hj));show F (l₁.getD i d) (l₂.getD i e);rw[ai,ai,af hl,e1];exact e2
def bL {H H':Hp}{tb:Addr}{pos:Pos}{qual:Str}(t:Tb H tb pos qual)(s:aG H H'):Tb H' tb pos qual:=by
 obtain⟨ps,h1,h2,h3⟩:=t;refine⟨ps,s _ _ h1,h2,?_⟩;rcases h3 with h3|⟨c',h3,h4⟩
 ·exact .inl h3
 ·exact .inr ⟨c',h3,s _ _ h4⟩
def vk {H:Hp}{tb q C:Addr}{pos:Pos}{qual:Str}{fs:List (Str×V)}(t:Tb H tb pos qual)(h:dY H q C fs):q∉[tb]:=fun z=>by
 obtain⟨ps,h1,_⟩:=t;obtain⟨dx,e⟩:=h;rw[ak.mp z,h1] at e;cases e
def OS:Pos:=⟨69,30,69,66⟩
def eO (rows:List Rw)(aK:Str)(i:Nat):List Nat:=(List.range i).filter fun k=>decide ((rows.getD k default).aK=aK)
inductive tP (A:dO)(tb:Addr)(vs:List V)(H:Hp)(Q:VK)(E':XK):Prop
 |mk (pb:Addr)(ip:List Addr)(S:Bk)(aK:Str)(h1:vs=[.ref pb,.str aK])(h2:H pb=some (.lst (ip.map V.ref)))(h3:fZ H A.dF eX S.aC ip)(h4:S.aC.length < 64)(h5:Tb H tb OS ((("bills_in_order":Str) ++ ".<locals>.") ++ "<lambda>"))(h6: ∀D qs H',Frame [tb] H H'->Tb H' tb OS ((("bills_in_order":Str) ++ ".<locals>.") ++ "<lambda>")->H D=none->H' D=some (.lst (qs.map V.ref))->iw A H' S (inOrder S.aC aK (·.b)) qs->Q (.ref D) H'):tP A tb vs H Q E'
def kj:aO ["bills","who","theirs"] ["bills","who"] (ay (top 17)):={}
def lg (T:Txt K mg){A:dO}{tb:Addr}(G:jl K mg A)(DL:pU K mg "bills_in_order" (top 17) tb)(KB:K.In base)(BM:BMain mg base):eQ P w K mg base "bills_in_order" 2 ["bills","who"] (tP A tb):=by
 refine DL.fA (k:=1) KB kj (fun f c A' outer s H vs Q E CH hr h=>?_)
 ·obtain⟨pb,ip,S,aK,rfl,Sv,hO,hl,WK,k⟩:=h;have nd:=kj.nd;refine⟨_,(ah (iT (i:=2) nd rfl (Or.inl rfl) (tn:=["bill"]) (cn:=["who"]) (cj:=[1]) rfl (iN (Am:=[(".0",.local),("bill",.local),("who",.cell)])) (tI (pv 0)) (fun _ _ _ _=>(en (i:=0) (show(["bill","who"]:List Str).Nodup by decide +kernel) rfl (Or.inl rfl))) (fun _ _ _ _=>(oZ (a0 cW (eW (K:=K) rfl (pv 0) rfl) (pv 1) (a7 _)))) (fun _ _ _ _=>(pv 0)))
(au (a6 (uO (N:=["bill"]) (y:="bill") rfl T.uS BM rfl CH (hr.mono (by decide)) {} (fun _ _ _ _ _=>(dh (aa (eW (K:=K) rfl (pv 0) rfl) (aa (eW (K:=K) rfl (pv 0) rfl) aw)))) (pv 2))))),?_⟩
  refine⟨_,rfl,pb,rfl,⟨_,bF.of Sv⟩,?_⟩;refine dX (K:=K) (a:=pb) (xs:=ip.map V.ref) (fun D i σ H6=>H D=none/\ ∃(v:Option V) (qs:List Addr),σ=[v,some (.str aK)]/\aG H H6/\H6 D=some (.lst (qs.map V.ref))/\iw A H6 S (eO S.aC aK i) qs) (fun D hD=>⟨hD,none,[],rfl,aG.new hD,ag,.nil⟩) (fun D i σ H6 _ ⟨_,_,_,_,t3,_⟩=>bF.of (t3 _ _ Sv)) ?_ ?_
  ·rintro D i x σ H6 hx ⟨hD,v,qs,rfl,t3,g9,hB⟩;rw[aD] at hx;obtain⟨q,hq,rfl⟩:=bB.mp hx;have hi:i < S.aC.length:=by have:=(ao.mp hq).1; have:=hO.1; lia
   obtain⟨dq,Ap⟩:=(hO.2 i q hq).same t3;have hql:qs.length<=100:=by
    have e1:=aS hB;have e2:(eO S.aC aK i).length<=i:=aV (aY _ _) (by rw[df]; exact aB _);lia
   have qN:eO S.aC aK (i + 1)=eO S.aC aK i ++ (if decide ((S.aC.getD i default).aK=aK)=true then[i] else[]):=by
    unfold eO;rw[vP,fR]
    congr 1
    by_cases z:decide ((S.aC.getD i default).aK=aK)=true
    ·rw[aZ z,cE (p:=fun k=>decide ((S.aC.getD k default).aK=aK)) z]; rfl
    ·rw[aL z,jW (p:=fun k=>decide ((S.aC.getD k default).aK=aK)) z]; rfl
   refine⟨_,rfl,q,_,dq,_,_,rfl,Ap,G.dQ,G.kb,Dk _ _,_,rfl,rfl,_,rfl,cy (fun z=>?_) (fun z=>?_)⟩
   ·rw[aZ (aJ (zw z))] at qN;refine⟨_,rfl,_,g9,bc (by rw[ae]; lia),hD,_,qs ++ [q],rfl,t3.cZ hD,by rw[ag,aM]; rfl,?_⟩;rw[qN];have kp: ∀{y C:Addr} {gs:List (Str×V)},dY H6 y C gs->dY (upd H6 D (.lst (qs.map V.ref ++ [V.ref q]))) y C gs:=fun{y C gs} ⟨dy,ey⟩=>⟨dy,by rw[az (lW ey g9 (by intro w; cases w))]; exact ey⟩;exact cB (Paired.iH hB fun _ _ w=>kp w) (kp ⟨dq,Ap⟩)
   ·rw[aL (by rw[bC (u9 z)]; exact aW),bZ] at qN;refine⟨hD,_,qs,rfl,t3,g9,?_⟩;rw[qN];exact hB
  ·rintro D σ H6 hD ⟨_,v,qs,rfl,t3,g9,hB⟩;have LK:(ip.map V.ref).length=S.aC.length:=by rw[ae]; exact hO.1
   rw[LK] at hB;have GJ:=bL WK t3;have hth:gQ S.aC aK (·.b)=(eO S.aC aK S.aC.length).map fun k=>((S.bl k).b,k):=rfl;have Hb: ∀x∈eO S.aC aK S.aC.length,x < S.aC.length:=fun x hx=>cK.mp (fC.mp hx).1;have Ln:(eO S.aC aK S.aC.length).Nodup:=tw.filter _;have WL:(eO S.aC aK S.aC.length).length<=S.aC.length:=aV (aY _ _) (by rw[df]; exact aB _);have ju:inOrder S.aC aK (·.b)=(fv ((eO S.aC aK S.aC.length).map fun k=>((S.bl k).b,k))).map (·.2):=rfl;generalize eO S.aC aK S.aC.length=ks at hB Hb Ln WL ju;have WM:=aS hB;have Jn:((ks.map fun k=>((S.bl k).b,k)):List (Int×Nat)).length=ks.length:=ae _;have qO: ∀x∈(ks.map fun k=>((S.bl k).b,k)),x.2 < 1000:=fun x hx=>by
    obtain⟨k0,P2,rfl⟩:=bE.mp hx;have:=Hb k0 P2;show k0 < 1000;lia
   have hnd:((ks.map fun k=>((S.bl k).b,k)).map (·.2)).Nodup:=by
    rw[fh];have e:((fun x:Int×Nat=>x.2) ∘ fun k=>((S.bl k).b,k))=id:=rfl;rw[e,Kq];exact Ln
   have Dy: ∀i,i < ks.length->(ks.map fun k=>((S.bl k).b,k)).getD i (0,0)=((S.bl (ks.getD i 0)).b,ks.getD i 0):=fun i hi=>getD_map (fun k=>((S.bl k).b,k)) ks i 0 (0,0) hi;generalize WN:(ks.map fun k=>((S.bl k).b,k))=th at Jn qO hnd Dy ju;refine⟨_,rfl,D,qs.map V.ref,th.map EK,uT,rfl,bF.of g9,by rw[ae]; lia,by rw[ae,ae]; lia,GJ,(fun t ht=>?_),(fun t ht u hu=>?_),fun i hi H2 fr R hR=>?_,fun D2 p H2 hp le fr FN Hd GC=>?_⟩
   ·obtain⟨x,_,rfl⟩:=bE.mp ht;simp[EK]
   ·obtain⟨x,A6,rfl⟩:=bE.mp ht;obtain⟨y,Cu,rfl⟩:=bE.mp hu;exact uU (qO x A6) (qO y Cu) (fun e=>⟨rfl,nK hnd A6 Cu e⟩) rfl
   ·rw[ae] at hi;have yC:i < ks.length:=by lia
    obtain⟨q,e1,e2⟩:=bI hB (af yC);have WO:(qs.map V.ref).getD i .dW= .ref q:=by rw[ai,aD,e1]; rfl
    have WQ:ks.getD i 0=ks[i]:=by rw[ai,af yC]; rfl
    obtain⟨dq,Ap⟩:=e2.frame fr (vk GJ e2);rw[qM (by lia),Dy i yC,WQ] at hR;rw[WO];exact⟨_,rfl,q,_,dq,_,_,rfl,Ap,G.dQ,G.mK,IQ _ _,_,rfl,q,_,dq,_,_,rfl,Ap,G.dQ,G.eE,kX _ _,(by show 2<=sizeLine; decide),fun p np=>hR p np⟩
   ·rw[ae] at hp;have gN: ∀i∈p,i < ks.length:=fun i hi=>by have:=cK.mp (hp.mem_iff.mp hi); lia
    have OT:=vj qO hnd (by rw[Jn,WM]; exact hp) le;have ES:iw A H2 S ks qs:=Paired.iH hB fun _ _ w=>w.frame fr (vk GJ w);refine k D2 (p.map fun i=>qs.getD i tb) H2 ((t3.frame).tr fr) FN (t3.free Hd) ?_ ?_
    ·rw[GC,fh]
     congr 2
     apply ez;intro i hi;exact getD_map V.ref qs i tb .dW (by have:=gN i hi; lia)
    ·rw[ju,← OT,fh];have e:p.map ((fun x:Int×Nat=>x.2) ∘ fun i=>th.getD i (0,0))=p.map fun i=>ks.getD i 0:=ez fun i hi=>by
      show(th.getD i (0,0)).2=_;rw[Dy i (gN i hi)]
     rw[e];exact m8 ES 0 tb p gN
def OU:Pos:=⟨72,30,72,72⟩
inductive tQ (A:dO)(tb:Addr)(vs:List V)(H:Hp)(Q:VK)(E':XK):Prop
 |mk (pb:Addr)(ip:List Addr)(S:Bk)(aK:Str)(h1:vs=[.ref pb,.str aK])(h2:H pb=some (.lst (ip.map V.ref)))(h3:fZ H A.dP eN S.credits ip)(h4:S.credits.length < 64)(h5:Tb H tb OU ((("credits_in_order":Str) ++ ".<locals>.") ++ "<lambda>"))(h6: ∀D qs H',Frame [tb] H H'->Tb H' tb OU ((("credits_in_order":Str) ++ ".<locals>.") ++ "<lambda>")->H D=none->H' D=some (.lst (qs.map V.ref))->gv A H' S (inOrder S.credits aK (·.a)) qs->Q (.ref D) H'):tQ A tb vs H Q E'
def jh:aO ["all_credits","who","theirs"] ["all_credits","who"] (ay (top 18)):={}
def jN (T:Txt K mg){A:dO}{tb:Addr}(G:jl K mg A)(DL:pU K mg "credits_in_order" (top 18) tb)(KB:K.In base)(BM:BMain mg base):eQ P w K mg base "credits_in_order" 2 ["all_credits","who"] (tQ A tb):=by
 refine DL.fA (k:=1) KB jh (fun f c A' outer s H vs Q E CH hr h=>?_)
 ·obtain⟨pb,ip,S,aK,rfl,Sv,hO,hl,WK,k⟩:=h;have nd:=jh.nd;refine⟨_,(ah (iT (i:=2) nd rfl (Or.inl rfl) (tn:=["credit"]) (cn:=["who"]) (cj:=[1]) rfl (iN (Am:=[(".0",.local),("credit",.local),("who",.cell)])) (tI (pv 0)) (fun _ _ _ _=>(en (i:=0) (show(["credit","who"]:List Str).Nodup by decide +kernel) rfl (Or.inl rfl))) (fun _ _ _ _=>(oZ (a0 cW (eW (K:=K) rfl (pv 0) rfl) (pv 1) (a7 _)))) (fun _ _ _ _=>(pv 0)))
(au (a6 (uO (N:=["credit"]) (y:="credit") rfl T.uS BM rfl CH (hr.mono (by decide)) {} (fun _ _ _ _ _=>(dh (aa (eW (K:=K) rfl (pv 0) rfl) (aa (eW (K:=K) rfl (pv 0) rfl) aw)))) (pv 2))))),?_⟩
  refine⟨_,rfl,pb,rfl,⟨_,bF.of Sv⟩,?_⟩;refine dX (K:=K) (a:=pb) (xs:=ip.map V.ref) (fun D i σ H6=>H D=none/\ ∃(v:Option V) (qs:List Addr),σ=[v,some (.str aK)]/\aG H H6/\H6 D=some (.lst (qs.map V.ref))/\gv A H6 S (eO S.credits aK i) qs) (fun D hD=>⟨hD,none,[],rfl,aG.new hD,ag,.nil⟩) (fun D i σ H6 _ ⟨_,_,_,_,t3,_⟩=>bF.of (t3 _ _ Sv)) ?_ ?_
  ·rintro D i x σ H6 hx ⟨hD,v,qs,rfl,t3,g9,hB⟩;rw[aD] at hx;obtain⟨q,hq,rfl⟩:=bB.mp hx;have hi:i < S.credits.length:=by have:=(ao.mp hq).1; have:=hO.1; lia
   obtain⟨dq,Ap⟩:=(hO.2 i q hq).same t3;have hql:qs.length<=100:=by
    have e1:=aS hB;have e2:(eO S.credits aK i).length<=i:=aV (aY _ _) (by rw[df]; exact aB _);lia
   have qN:eO S.credits aK (i + 1)=eO S.credits aK i ++ (if decide ((S.credits.getD i default).aK=aK)=true then[i] else[]):=by
    unfold eO;rw[vP,fR]
    congr 1
    by_cases z:decide ((S.credits.getD i default).aK=aK)=true
    ·rw[aZ z,cE (p:=fun k=>decide ((S.credits.getD k default).aK=aK)) z]; rfl
    ·rw[aL z,jW (p:=fun k=>decide ((S.credits.getD k default).aK=aK)) z]; rfl
   refine⟨_,rfl,q,_,dq,_,_,rfl,Ap,G.cV,G.kC,IS _ _,_,rfl,rfl,_,rfl,cy (fun z=>?_) (fun z=>?_)⟩
   ·rw[aZ (aJ (zw z))] at qN;refine⟨_,rfl,_,g9,bc (by rw[ae]; lia),hD,_,qs ++ [q],rfl,t3.cZ hD,by rw[ag,aM]; rfl,?_⟩;rw[qN];have kp: ∀{y C:Addr} {gs:List (Str×V)},dY H6 y C gs->dY (upd H6 D (.lst (qs.map V.ref ++ [V.ref q]))) y C gs:=fun{y C gs} ⟨dy,ey⟩=>⟨dy,by rw[az (lW ey g9 (by intro w; cases w))]; exact ey⟩;exact cB (Paired.iH hB fun _ _ w=>kp w) (kp ⟨dq,Ap⟩)
   ·rw[aL (by rw[bC (u9 z)]; exact aW),bZ] at qN;refine⟨hD,_,qs,rfl,t3,g9,?_⟩;rw[qN];exact hB
  ·rintro D σ H6 hD ⟨_,v,qs,rfl,t3,g9,hB⟩;have LK:(ip.map V.ref).length=S.credits.length:=by rw[ae]; exact hO.1
   rw[LK] at hB;have GJ:=bL WK t3;have hth:gQ S.credits aK (·.a)=(eO S.credits aK S.credits.length).map fun k=>((S.cr k).a,k):=rfl;have Hb: ∀x∈eO S.credits aK S.credits.length,x < S.credits.length:=fun x hx=>cK.mp (fC.mp hx).1;have Ln:(eO S.credits aK S.credits.length).Nodup:=tw.filter _;have WL:(eO S.credits aK S.credits.length).length<=S.credits.length:=aV (aY _ _) (by rw[df]; exact aB _);have ju:inOrder S.credits aK (·.a)=(fv ((eO S.credits aK S.credits.length).map fun k=>((S.cr k).a,k))).map (·.2):=rfl;generalize eO S.credits aK S.credits.length=ks at hB Hb Ln WL ju;have WM:=aS hB;have Jn:((ks.map fun k=>((S.cr k).a,k)):List (Int×Nat)).length=ks.length:=ae _;have qO: ∀x∈(ks.map fun k=>((S.cr k).a,k)),x.2 < 1000:=fun x hx=>by
    obtain⟨k0,P2,rfl⟩:=bE.mp hx;have:=Hb k0 P2;show k0 < 1000;lia
   have hnd:((ks.map fun k=>((S.cr k).a,k)).map (·.2)).Nodup:=by
    rw[fh];have e:((fun x:Int×Nat=>x.2) ∘ fun k=>((S.cr k).a,k))=id:=rfl;rw[e,Kq];exact Ln
   have Dy: ∀i,i < ks.length->(ks.map fun k=>((S.cr k).a,k)).getD i (0,0)=((S.cr (ks.getD i 0)).a,ks.getD i 0):=fun i hi=>getD_map (fun k=>((S.cr k).a,k)) ks i 0 (0,0) hi;generalize WN:(ks.map fun k=>((S.cr k).a,k))=th at Jn qO hnd Dy ju;refine⟨_,rfl,D,qs.map V.ref,th.map EK,uT,rfl,bF.of g9,by rw[ae]; lia,by rw[ae,ae]; lia,GJ,(fun t ht=>?_),(fun t ht u hu=>?_),fun i hi H2 fr R hR=>?_,fun D2 p H2 hp le fr FN Hd GC=>?_⟩
   ·obtain⟨x,_,rfl⟩:=bE.mp ht;simp[EK]
   ·obtain⟨x,A6,rfl⟩:=bE.mp ht;obtain⟨y,Cu,rfl⟩:=bE.mp hu;exact uU (qO x A6) (qO y Cu) (fun e=>⟨rfl,nK hnd A6 Cu e⟩) rfl
   ·rw[ae] at hi;have yC:i < ks.length:=by lia
    obtain⟨q,e1,e2⟩:=bI hB (af yC);have WO:(qs.map V.ref).getD i .dW= .ref q:=by rw[ai,aD,e1]; rfl
    have WQ:ks.getD i 0=ks[i]:=by rw[ai,af yC]; rfl
    obtain⟨dq,Ap⟩:=e2.frame fr (vk GJ e2);rw[qM (by lia),Dy i yC,WQ] at hR;rw[WO];exact⟨_,rfl,q,_,dq,_,_,rfl,Ap,G.cV,G.iP,IT _ _,_,rfl,q,_,dq,_,_,rfl,Ap,G.cV,G.eB,nI _ _,(by show 2<=sizeLine; decide),fun p np=>hR p np⟩
   ·rw[ae] at hp;have gN: ∀i∈p,i < ks.length:=fun i hi=>by have:=cK.mp (hp.mem_iff.mp hi); lia
    have OT:=vj qO hnd (by rw[Jn,WM]; exact hp) le;have ES:gv A H2 S ks qs:=Paired.iH hB fun _ _ w=>w.frame fr (vk GJ w);refine k D2 (p.map fun i=>qs.getD i tb) H2 ((t3.frame).tr fr) FN (t3.free Hd) ?_ ?_
    ·rw[GC,fh]
     congr 2
     apply ez;intro i hi;exact getD_map V.ref qs i tb .dW (by have:=gN i hi; lia)
    ·rw[ju,← OT,fh];have e:p.map ((fun x:Int×Nat=>x.2) ∘ fun i=>th.getD i (0,0))=p.map fun i=>ks.getD i 0:=ez fun i hi=>by
      show(th.getD i (0,0)).2=_;rw[Dy i (gN i hi)]
     rw[e];exact m8 ES 0 tb p gN
def vm {A:dO}{H H':Hp}{pw tb:Addr}{S:Bk}{f:eA}(h:dr A H pw S f)(ht: ∃ps,H tb=some (.mh ps))(fr:Frame [tb] H H'):dr A H' pw S f:=by
 obtain⟨ps,ht⟩:=ht;have kl: ∀{a:Addr} {xs:List V},H a=some (.lst xs)->H' a=some (.lst xs):=fun{a xs} e=>fr _ _ (fun z=>by rw[ak.mp z,ht] at e; cases e) e;have ki: ∀{a C dx:Addr} {gs:List (Str×V)},H a=some (.ins C dx gs)->H' a=some (.ins C dx gs):=fun{a C dx gs} e=>fr _ _ (fun z=>by rw[ak.mp z,ht] at e; cases e) e;have kt:cA H H':=fun a xs e=>fr _ _ (fun z=>by rw[ak.mp z,ht] at e; cases e) e;obtain⟨dw,hw⟩:=h.obj;obtain⟨ms,m1,m2⟩:=h.hm;exact⟨⟨dw,ki hw⟩,kl h.hb,kl h.hc,kl h.hl,kl h.hf,⟨ms,kl m1,m2.mono kt⟩,h.rb.keep fun _ _ _ e=>ki e,h.rc.keep fun _ _ _ e=>ki e,h.nd⟩
def lh (H:Hp)(tb:Addr):Prop:=Tb H tb OS ((("bills_in_order":Str) ++ ".<locals>.") ++ "<lambda>")
def lR (H:Hp)(tb:Addr):Prop:=Tb H tb OU ((("credits_in_order":Str) ++ ".<locals>.") ++ "<lambda>")
inductive zH (A:dO)(tb:Addr)(vs:List V)(H:Hp)(Q:VK)(E':XK):Prop
 |mk (pw:Addr)(S:Bk)(f:eA)(n:Nat)(aK:Str)(day:Int)(h1:vs=[.ref pw,.str aK,.int day])(h2:dr A H pw S f)(h3:WF S n)(h4:n<=60)(h5:lh H tb)(h6: ∀D ms H',Frame [tb] H H'->lh H' tb->H D=none->H' D=some (.lst ms)->mY H' (S.qr true aK day) ms->Q (.ref D) H'):zH A tb vs H Q E'
inductive Dz (A:dO)(tb:Addr)(vs:List V)(H:Hp)(Q:VK)(E':XK):Prop
 |mk (pw:Addr)(S:Bk)(f:eA)(n:Nat)(aK:Str)(day:Int)(h1:vs=[.ref pw,.str aK,.int day])(h2:dr A H pw S f)(h3:WF S n)(h4:n<=60)(h5:lR H tb)(h6: ∀D ms H',Frame [tb] H H'->lR H' tb->H D=none->H' D=some (.lst ms)->mY H' (S.qr false aK day) ms->Q (.ref D) H'):Dz A tb vs H Q E'
def DA:aO ["work","who","day"] ["work","who","day"] (ay (top 36)):={}
def xV (T:Txt K mg){A:dO}{tb:Addr}(G:jl K mg A)(DL:pU K mg "bills_in_order" (top 17) tb)(KB:K.In base)(BM:BMain mg base):eQ P w K mg base "owed_at" 5 ["work","who","day"] (zH A tb):=by
 have iM:eQ P w K mg base "bills_in_order" 2 ["bills","who"] (tP A tb):=lg T G DL KB BM;have jO:eQ P w K mg base "remaining_at" 4 ["work","told","place","day"] (qL A):=mZ T G;refine T.Gg.fA (k:=4) DA (fun f cM A' outer s H vs Q E hr h=>?_)
 ·obtain⟨pw,S,g,n,aK,day,rfl,hW,wf,hn,hT,k⟩:=h;obtain⟨dw,hw⟩:=hW.obj;refine⟨_,(au (a6 (fc jO hr (aa (pv 0) (aa (fc iM hr (aa (jJ (pv 0)) (aa (pv 1) aw))) (aa aj (aa (pv 2) aw))))))),?_⟩;refine⟨_,rfl,_,rfl,pw,_,dw,_,_,rfl,hw,G.bw,G.dM,iY g,_,rfl,g.pb,g.ip,S,aK,rfl,hW.hb,hW.rb,(by have:=wf.lb; lia),hT,fun D qs H1 fr He nD hD hB=>?_⟩;have Cy:=vm hW (let⟨ps,e,_⟩:=hT; ⟨ps,e⟩) fr;have LR:(inOrder S.aC aK (·.b)).length<=100:=by
   have e:(inOrder S.aC aK (·.b)).length=((List.range S.aC.length).filter fun k=>decide ((S.aC.getD k default).aK=aK)).length:=by
    unfold inOrder gQ;rw[ae,(dk _).length_eq,ae]
   have:=aY (fun k=>decide ((S.aC.getD k default).aK=aK)) (List.range S.aC.length);rw[df] at this;have:=wf.lb;lia
  refine⟨_,rfl,pw,D,S,g,n,true,day,inOrder S.aC aK (·.b),qs,rfl,Cy,wf,(by have:=wf.lm; lia),hD,hB,LR,fun D2 ms H2 s2 Hd GC hP=>?_⟩;exact k D2 ms H2 (fr.cI s2) (bL He s2) (fr.free (fun z=>by
   obtain⟨ps,e,_⟩:=He;rw[ak.mp z,e] at Hd;cases Hd) Hd) GC hP
def DD:aO ["work","who","day"] ["work","who","day"] (ay (top 37)):={}
def GK (T:Txt K mg){A:dO}{tb:Addr}(G:jl K mg A)(DL:pU K mg "credits_in_order" (top 18) tb)(KB:K.In base)(BM:BMain mg base):eQ P w K mg base "free_at" 5 ["work","who","day"] (Dz A tb):=by
 have gU:eQ P w K mg base "credits_in_order" 2 ["all_credits","who"] (tQ A tb):=jN T G DL KB BM;have jO:eQ P w K mg base "remaining_at" 4 ["work","told","place","day"] (qL A):=mZ T G;refine T.Gh.fA (k:=4) DD (fun f cM A' outer s H vs Q E hr h=>?_)
 ·obtain⟨pw,S,g,n,aK,day,rfl,hW,wf,hn,hT,k⟩:=h;obtain⟨dw,hw⟩:=hW.obj;refine⟨_,(au (a6 (fc jO hr (aa (pv 0) (aa (fc gU hr (aa (jJ (pv 0)) (aa (pv 1) aw))) (aa aj (aa (pv 2) aw))))))),?_⟩;refine⟨_,rfl,_,rfl,pw,_,dw,_,_,rfl,hw,G.bw,G.cw,gS g,_,rfl,g.pc,g.cps,S,aK,rfl,hW.hc,hW.rc,(by have:=wf.lc; lia),hT,fun D qs H1 fr He nD hD hB=>?_⟩;have Cy:=vm hW (let⟨ps,e,_⟩:=hT; ⟨ps,e⟩) fr;have LR:(inOrder S.credits aK (·.a)).length<=100:=by
   have e:(inOrder S.credits aK (·.a)).length=((List.range S.credits.length).filter fun k=>decide ((S.credits.getD k default).aK=aK)).length:=by
    unfold inOrder gQ;rw[ae,(dk _).length_eq,ae]
   have:=aY (fun k=>decide ((S.credits.getD k default).aK=aK)) (List.range S.credits.length);rw[df] at this;have:=wf.lc;lia
  refine⟨_,rfl,pw,D,S,g,n,false,day,inOrder S.credits aK (·.a),qs,rfl,Cy,wf,(by have:=wf.lm; lia),hD,hB,LR,fun D2 ms H2 s2 Hd GC hP=>?_⟩;exact k D2 ms H2 (fr.cI s2) (bL He s2) (fr.free (fun z=>by
   obtain⟨ps,e,_⟩:=He;rw[ak.mp z,e] at Hd;cases Hd) Hd) GC hP
inductive zI (vs:List V)(H:Hp)(Q:VK)(E':XK):Prop
 |mk (fW:Int)(pl:Addr)(cY:List Int)(h1:vs=[.int fW,.ref pl])(h2:H pl=some (.tup (cY.map V.int)))(h3:cY.length<=11)(h4: ∀H',aG H H'->Q (.int (L2.placeOf fW cY:Int)) H'):zI vs H Q E'
def BU:aO ["late","limits"] ["late","limits"] (ay (top 1)):={}
def DE (T:Txt K mg):eQ P w K mg base "place_of" 1 ["late","limits"] zI:=by
 refine T.De.fA (k:=0) BU (fun f cM A' outer s H vs Q E hr h=>?_)
 ·obtain⟨fW,pl,cY,rfl,gN,Jf,k⟩:=h;refine⟨_,(ah (bO (a0 xm (pv 0) aj (a7 _))
(au (a6 aj))
bf)
(au (a6 (aR dB aj (pT T.eI (iS (tn:=["limit"]) (cn:=["late"]) (cj:=[0]) rfl (iN (Am:=[(".0",.local),("limit",.local),("late",.cell)])) (Nw (pv 1)) (fun _ _ _ _=>(en (i:=0) (show(["limit","late"]:List Str).Nodup by decide +kernel) rfl (Or.inl rfl))) (fun _ _ _ _=>(oZ (a0 jA (pv 0) (pv 1) (a7 _)))) (fun _ _ _ _=>(pv 0)))))))),?_⟩
  refine⟨_,rfl,_,_,rfl,rfl,_,rfl,cy (fun z=>?_) (fun z=>?_)⟩
  ·have z':fW<=0:=aX z;have e:L2.placeOf fW cY=0:=aZ z';have q:=k H (aG.refl _);rw[e] at q;exact q
  have z': ¬ fW<=0:=fun q=>z (aJ q);have e:L2.placeOf fW cY=1 + (cY.filter fun l=>decide (l < fW)).length:=aL z';refine⟨_,rfl,pl,rfl,⟨_,cv.of gN⟩,?_⟩;refine HX (K:=K) (a:=pl) (xs:=cY.map V.int) (fun D' j σ H6=>H D'=none/\ ∃v,σ=[v,some (.int fW)]/\aG H H6/\H6 D'=some (.lst (((cY.take j).filter fun l=>decide (l < fW)).map V.int))) (fun D' wG=>⟨wG,none,rfl,aG.new wG,ag⟩) (fun D' j σ H6 _ ⟨_,_,_,t3,_⟩=>cv.of (t3 _ _ gN)) ?_ ?_
  ·rintro D' j x σ H6 MQ ⟨wG,v,rfl,t3,g9⟩;rw[aD] at MQ;obtain⟨y,hy,rfl⟩:=bB.mp MQ;have oC:=gg (fun l=>decide (l < fW)) hy;have hlen:((cY.take j).filter fun l=>decide (l < fW)).length<=100:=by
    have:=aY (fun l=>decide (l < fW)) (cY.take j);rw[bo] at this;lia
   refine⟨_,rfl,_,rfl,_,_,rfl,rfl,_,rfl,cy (fun q=>?_) (fun q=>?_)⟩
   ·rw[aZ q] at oC;refine⟨_,rfl,_,g9,bc (by rw[ae]; lia),wG,_,rfl,t3.cZ wG,?_⟩;rw[ag,oC,aM];rfl
   ·rw[aL q,bZ] at oC;refine⟨wG,_,rfl,t3,?_⟩;rw[oC];exact g9
  ·rintro D' σ H6 wG ⟨_,v,rfl,t3,g9⟩;refine⟨D',_,rfl,.inl (bF.of g9),_,_,rfl,rfl,?_⟩;have q:=k H6 t3;rw[e] at q;have e2:(1:Int) + ((((cY.take (cY.map V.int).length).filter fun l=>decide (l < fW)).map V.int).length:Int)=((1 + (cY.filter fun l=>decide (l < fW)).length:Nat):Int):=by
    rw[ae,ae,a8];simp
   rw[← e2] at q;exact q
inductive DF (A:dO)(tb:Addr)(vs:List V)(H:Hp)(Q:VK)(E':XK):Prop
 |mk (pw pl:Addr)(S:Bk)(f:eA)(n:Nat)(aK:Str)(day:Int)(cY:List Int)(h1:vs=[.ref pw,.str aK,.int day,.ref pl])(h2:dr A H pw S f)(h3:WF S n)(h4:n<=60)(h5:lh H tb)(h6:H pl=some (.tup (cY.map V.int)))(h7:cY.length<=11)(h8: ∀D H',Frame [tb] H H'->lh H' tb->H D=none->H' D=some (.lst ((S.N5 aK day cY).map V.int))->Q (.ref D) H'):DF A tb vs H Q E'
def vn:aO ["work","who","day","limits","sums","number","left","place"] ["work","who","day","limits"] (ay (top 41)):={}
def GL (T:Txt K mg){A:dO}{tb:Addr}(G:jl K mg A)(DL:pU K mg "bills_in_order" (top 17) tb)(KB:K.In base)(BM:BMain mg base):eQ P w K mg base "ages_at" 6 ["work","who","day","limits"] (DF A tb):=by
 have rP:eQ P w K mg base "owed_at" 5 ["work","who","day"] (zH A tb):=xV T G DL KB BM;have DG:eQ P w K mg base "place_of" 1 ["late","limits"] zI:=DE T;refine T.Gi.fA (k:=5) vn (fun f cM A' outer s H vs Q E hr h=>?_)
 ·obtain⟨pw,pl,S,g,n,aK,day,cY,rfl,hW,wf,hn,hT,gN,Jf,k⟩:=h;have nd:=vn.nd;refine⟨_,(ah (sv 4 nd (aR CY (bP (aa aj aw)) (aR dB (pT T.eI (pv 3)) aj)))
(ah (fk bN rfl (tI (fc rP hr (aa (pv 0) (aa (pv 1) (aa (pv 2) aw))))) (gT (bW (gn 5 nd) (bW (gn 6 nd) gp)))
(ah (sv 7 nd (fc DG hr (aa (aR eK (pv 2) (jJ (xl (jJ (pv 0)) (pv 5)))) (aa (pv 3) aw))))
(au (kq (aR dB (xl (pv 4) (pv 7)) (pv 6)) (mq (pv 4) (pv 7) set_list)))))
(au (a6 (pv 4))))),?_⟩
  refine⟨(by show 1<=sizeLine; decide),fun p9 n9=>?_⟩;have t9:=aG.new (o:= .lst [V.int 0]) n9;have Sw:(cY.map V.int).length=cY.length:=ae _;refine⟨_,rfl,pl,_,rfl,.inr (cv.of (t9 _ _ gN)),_,_,rfl,rfl,p9,_,_,rfl,rfl,ag,by lia,by lia,?_,fun ps ET=>?_⟩
  ·show 1 * _<=sizeLine;rw[Sw,eJ];lia
  have e2:(((cY.map V.int).length:Int) + 2).toNat=cY.length + 2:=by rw[Sw]; lia
  rw[e2,LP];have BN:=aG.new (o:= .lst ((List.replicate (cY.length + 2) (0:Int)).map V.int)) ET;have Jk:=t9.trans BN;have mD:upd (upd H p9 (.lst [V.int 0])) ps (.lst ((List.replicate (cY.length + 2) (0:Int)).map V.int)) ps=some (.lst ((List.replicate (cY.length + 2) (0:Int)).map V.int)):=ag;have OV:H ps=none:=t9.free ET;generalize upd (upd H p9 (.lst [V.int 0])) ps (.lst ((List.replicate (cY.length + 2) (0:Int)).map V.int))=H1 at Jk mD;have He:=bL hT Jk;refine⟨_,rfl,_,rfl,_,rfl,pw,S,g,n,aK,day,rfl,hW.same Jk,wf,hn,He,fun D ms H2 fr FN nD hD hP=>?_⟩;refine⟨D,rfl,⟨_,bF.of hD⟩,?_⟩;have mh: ∃q,H1 tb=some (.mh q):=let⟨q,e,_⟩:=He; ⟨q,e⟩
  have off: ∀{a:Addr} {o:HO},H1 a=some o->(∀q,o≠ .mh q)->H2 a=some o:=fun{a o} e hq=>fr _ _ (fun z=>by
   obtain⟨q,eq⟩:=mh;rw[ak.mp z,eq] at e;exact hq q (aE e).symm) e
  have zJ:=vm (hW.same Jk) mh fr;have OW:=off mD (fun _ z=>by cases z);have OX:=off (Jk _ _ gN) (fun _ z=>by cases z);have fr0:Frame [tb] H H2:=fr.lO Jk;have Jo: ∀t∈S.qr true aK day,t.1 < S.aC.length:=fun t ht=>GF (bK:=true) ht;have hag:S.N5 aK day cY=(S.qr true aK day).foldl (fun l t=>su l (L2.placeOf (day - (S.bl t.1).b) cY) t.2) (List.replicate (cY.length + 2) 0):=rfl;rw[hag] at k;generalize S.qr true aK day=ts at hP Jo k;have hDp:D≠ps:=fun e=>by rw[e,mD] at nD; cases nD
  refine gA (K:=K) (a:=D) (xs:=ms) (fun i σ H3=> ∃(l:List Int) (x5 x6 x7:Option V),σ=[some (.ref pw),some (.str aK),some (.int day),some (.ref pl),some (.ref ps),x5,x6,x7]/\Frame [ps] H2 H3/\H3 ps=some (.lst (l.map V.int))/\l.length=cY.length + 2/\l=(ts.take i).foldl (fun l t=>su l (L2.placeOf (day - (S.bl t.1).b) cY) t.2) (List.replicate (cY.length + 2) 0))
   ⟨_,none,none,none,rfl,Frame.refl,OW,List.length_replicate,rfl⟩ (fun i σ H3 _ ⟨_,_,_,_,_,f3,_⟩=>bF.of (f3 _ _ (by simpa using hDp) hD)) ?_ ?_
  ·rintro i x σ H3 hx ⟨l,x5,x6,x7,rfl,f3,PZ,Hf,he⟩;have Uv: ∀{a:Addr} {o:HO},H2 a=some o->(∀q,o≠ .lst q)->H3 a=some o:=fun{a o} e hq=>f3 _ _ (fun z=>by
    rw[ak.mp z,OW] at e;exact hq _ (aE e).symm) e
   have hi:i < ts.length:=by have:=(ao.mp hx).1; have:=aS hP; lia
   have oB:=af hi;obtain⟨v,hv,p,rfl,hp⟩:=bI hP oB;rw[hx] at hv;obtain rfl:x= .ref p:=aE hv;have hm:=Jo _ (bD hi);rw[k8 (fun l t=>su l (L2.placeOf (day - (S.bl t.1).b) cY) t.2) ts _ oB,← he];generalize ts[i]=t at hp hm;obtain⟨dw,hw⟩:=zJ.obj;obtain⟨q,q1,dq,q2⟩:=zJ.rb.get hm;have WR:g.pb∉[ps]:=fun z=>by
    have e:=hW.hb;rw[ak.mp z,OV] at e;cases e
   have Qe:=Uv hp (fun _ z=>by cases z);have hw3:=Uv hw (fun _ z=>by cases z);have hq3:=Uv q2 (fun _ z=>by cases z);have WS:=Uv OX (fun _ z=>by cases z);refine⟨p,_,rfl,cv.of Qe,rfl,_,_,rfl,_,_,rfl,rfl,?_⟩;refine⟨_,rfl,_,rfl,pw,_,dw,_,_,rfl,hw3,G.bw,G.dM,iY g,_,rfl,g.pb,_,_,.ref q,rfl,rfl,bF.of (f3 _ _ WR zJ.hb),cz (by rw[aD,q1]; rfl),q,_,dq,_,_,rfl,hq3,G.dQ,G.mK,IQ _ _,_,_,rfl,rfl,_,rfl,_,pl,cY,rfl,WS,Jf,fun H4 s4=>?_⟩;have hpo:=Dx (day - (S.bl t.1).b) cY;have Zg:=s4 _ _ PZ;refine⟨_,rfl,_,rfl,ps,_,_,.int (l.getD (L2.placeOf (day - (S.bl t.1).b) cY) 0),rfl,rfl,bF.of Zg,mO (by show L2.placeOf (day - (S.bl t.1).b) cY < _; lia),_,rfl,_,_,rfl,rfl,?_⟩;refine⟨_,rfl,_,rfl,ps,_,_,L2.placeOf (day - (S.bl t.1).b) cY,rfl,rfl,Zg,nJ (by rw[ae]; show L2.placeOf (day - (S.bl t.1).b) cY < _; lia),?_⟩;refine⟨su l (L2.placeOf (day - (S.bl t.1).b) cY) t.2,_,_,_,rfl,(f3.cI s4).tr (Frame.upd (by simp)),?_,?_,rfl⟩
   ·rw[ag];unfold su;rw[vO]
   ·rw[GG]; exact Hf
  ·rintro σ H3 ⟨l,x5,x6,x7,rfl,f3,PZ,Hf,he⟩;rw[← aS hP,a8] at he;rw[he] at PZ;refine⟨_,rfl,k ps H3 (fun b o hb e=>f3 b o (fun z=>by rw[ak.mp z,OV] at e; cases e) (fr0 b o hb e)) ?_ OV PZ⟩;obtain⟨q,e1,Q9,e3⟩:=FN;have kx: ∀{a:Addr} {o:HO},H2 a=some o->(∀q,o≠ .lst q)->H3 a=some o:=fun{a o} e hq=>f3 _ _ (fun z=>by
    rw[ak.mp z,OW] at e;exact hq _ (aE e).symm) e
   refine⟨q,kx e1 (fun _ z=>by cases z),Q9,?_⟩;rcases e3 with e3|⟨c',e3,e4⟩
   ·exact .inl e3
   ·exact .inr ⟨c',e3,kx e4 (fun _ z=>by cases z)⟩
def eF (pk pw:Addr):List (Str×V):=[("kept",.ref pk),("work",.ref pw)]
def tR (pk pw:Addr):(eF pk pw).lookup ("kept":Str)=some (V.ref pk):=by rfl
def qP (pk pw:Addr):(eF pk pw).lookup ("work":Str)=some (V.ref pw):=by rfl
def Jp (pk pw:Addr):ee "work" (.ref pw) (ee "kept" (.ref pk) [])=eF pk pw:=by rfl
inductive zK (A:dO)(vs:List V)(H:Hp)(Q:VK)(E':XK):Prop
 |mk (x dx:Addr)(h1:vs=[.ref x])(h2:H x=some (.ins A.book dx []))(h3: ∀pk pw f H',Frame [x] H H'->H' x=some (.ins A.book dx (eF pk pw))->H' pk=some (.dK [])->dr A H' pw Bk.new f->H pk=none->H pw=none->(∀b∈f.fp,H b=none)->pk∉f.fp->Q .dW H'):zK A vs H Q E'
def LS:aO ["self"] ["self"] (ay (mem 29 0)):={}
def OY {A:dO}(G:jl K mg A):sY P w K mg base "Book" A.book 3 ["self"] (zK A):=by
 have DH:sY P w K mg base "Work" A.work 1 ["self"] (tM A):=Ji G;refine LD (k:=2) G.LB G.LA LS (fun f cM A' outer s H vs Q E hr h=>?_)
 ·obtain⟨x,dx,rfl,hx,k⟩:=h;refine⟨_,(ah (lN (pv 0) AU) (au (lN (pv 0) (IU DH (hr.mono (by decide)) rfl)))),?_⟩;intro pk nk;have ne1:pk≠x:=(aI hx nk).symm;refine⟨_,rfl,x,_,dx,_,rfl,aG.new nk _ _ hx,G.eh,G.gu,lt1000 BC (by decide),?_⟩;have F1:Frame [x] H (upd (upd H pk (.dK [])) x (.ins A.book dx (ee "kept" (.ref pk) []))):=(aG.new nk).frame.tr (Frame.upd (by simp));have g1:upd (upd H pk (.dK [])) x (.ins A.book dx (ee "kept" (.ref pk) [])) x=some (.ins A.book dx (ee "kept" (.ref pk) [])):=ag;have k1:upd (upd H pk (.dK [])) x (.ins A.book dx (ee "kept" (.ref pk) [])) pk=some (.dK []):=by rw[az ne1,ag]
  generalize upd (upd H pk (.dK [])) x (.ins A.book dx (ee "kept" (.ref pk) []))=H1 at F1 g1 k1 ⊢;intro xw WT LU OZ ne;have s2:=k7 (C:=A.work) (fs:=[]) LU OZ ne;refine⟨xw,WT,rfl,ag,fun g H3 KD W3 nf=>⟨rfl,?_⟩⟩;have WU:x≠xw:=aI g1 LU;have nek:pk≠xw:=aI k1 LU;have g3:=KD _ _ (by simpa using WU) (s2 _ _ g1);have k3:=KD _ _ (by simpa using nek) (s2 _ _ k1);refine⟨_,rfl,x,_,dx,_,rfl,g3,G.eh,G.fH,lt1000 (pl BC) (by decide),?_⟩;rw[Jp];have fw: ∀b∈g.fp,H1 b=none:=fun b hb=>s2.free (nf b hb);have off: ∀b,H1 b=none->b≠x->H b=none:=fun b e n=>F1.free (by simpa using n) e;have xf:x∉g.fp:=fun z=>by have:=fw x z; rw[g1] at this; cases this
  have Sx:dr A (upd H3 x (.ins A.book dx (eF pk xw))) xw Bk.new g:=by
   obtain⟨dw,hw⟩:=W3.obj;obtain⟨ms,m1,m2⟩:=W3.hm;have nx: ∀p∈g.fp,p≠x:=fun p hp z=>xf (z▸hp);refine⟨⟨dw,by rw[az WU.symm]; exact hw⟩,by rw[az (nx _ (by simp[eA.fp]))]; exact W3.hb,by rw[az (nx _ (by simp[eA.fp]))]; exact W3.hc,by rw[az (nx _ (by simp[eA.fp]))]; exact W3.hl,by rw[az (nx _ (by simp[eA.fp]))]; exact W3.hf,⟨ms,by rw[az (nx _ (by simp[eA.fp]))]; exact m1,?_⟩,?_,?_,W3.nd⟩
   ·cases m2;exact .nil
   ·exact⟨W3.rb.1,fun i p e=>by have:=(ao.mp e).1; have h0:=W3.rb.1; rw[h0] at this; exact absurd this (fE _)⟩
   ·exact⟨W3.rc.1,fun i p e=>by have:=(ao.mp e).1; have h0:=W3.rc.1; rw[h0] at this; exact absurd this (fE _)⟩
  refine k pk xw g _ ?_ ag (by rw[az ne1]; exact k3) Sx nk (off xw LU WU.symm) (fun b hb=>off b (fw b hb) (fun z=>xf (z▸hb))) (fun z=>by have:=fw pk z; rw[k1] at this; cases this);intro b o hb e;have bx:b≠x:=by simpa using hb
  rw[az bx];have e1:=F1 b o hb e;exact KD b o (by simpa using aI e1 LU) (s2 b o e1)
def zL (r:List Bool):Dt:= .lst (r.map Dt.bl)
def Jq (t:Nat×Nat×Int):Dt:= .tup [.int t.1,.int t.2.1,.int t.2.2]
def gY (fs ls:List Int)(al:List (List Bool)): ∀i,(bR fs ls al i).2.length<=i
 |0=>aB _
 |i + 1=>by
  have:=gY fs ls al i;unfold bR;split
  ·lia
  ·rw[aF]; show _ + 1<=_; lia
def WV:Option Nat->V
 |none=> .dW
 |some j=> .int j
def pE (a9:List (Key×V))(j:Nat):Bool:=(fU a9 (Sum.inl (j:Int):Key)).isSome
inductive zM (K:Frag)(vs:List V)(H:Hp)(Q:VK)(E':XK):Prop
 |mk (f:Int)(pl:Addr)(ls:List Int)(pr:Addr)(row:List Bool)(pt:Addr)(a9:List (Key×V))(h1:vs=[.int f,.ref pl,.ref pr,.ref pt])(h2:bF K H pl (ls.map V.int))(h3:bF K H pr (row.map V.bl))(h4:row.length=ls.length)(h5:H pt=some (.dK a9))(h6: ∀H',aG H H'->Q (WV (gR f ls row (pE a9))) H'):zM K vs H Q E'
def m9 (H:Hp)(ms:List (Nat×Nat×Int))(vs:List V):Prop:=Paired (fun(t:Nat×Nat×Int) v=> ∃p,v= .ref p/\H p=some (.tup [.int t.1,.int t.2.1,.int t.2.2])) ms vs
def m9.mono {H H':Hp}{ms:List (Nat×Nat×Int)}{vs:List V}(h:m9 H ms vs)(k: ∀b xs,H b=some (.tup xs)->H' b=some (.tup xs)):m9 H' ms vs:=
 Paired.iH h fun _ _ ⟨p,e,q⟩=>⟨p,e,k _ _ q⟩
def m9.rp {H:Hp}: ∀{ms:List (Nat×Nat×Int)} {vs:List V},m9 H ms vs->iy H (ms.map Jq) vs
 |_,_,.nil=>dJ.mpr rfl
 |_,_,.cons ⟨p,e,q⟩ t=>bQ.mpr ⟨_,_,rfl,e▸fM q (bQ.mpr ⟨_,_,rfl,d9.mpr rfl,bQ.mpr ⟨_,_,rfl,d9.mpr rfl,bQ.mpr ⟨_,_,rfl,d9.mpr rfl,dJ.mpr rfl⟩⟩⟩),m9.rp t⟩
def LV {H:Hp}{p:Addr}{o:HO}{a9:List (Key×V)}(h:H p=some (.dK a9)): ∀b xs,H b=some (.tup xs)->upd H p o b=some (.tup xs):=fun b xs e=>by
 rw[az (lW e h (by intro z; cases z))]; exact e
def ng:aO ["free","lefts","fitting","taken","bill","left"] ["free","lefts","fitting","taken"] (ay (top 21)):={}
def wR (T:Txt K mg):eQ P w K mg base "first_alike" 1 ["free","lefts","fitting","taken"] (zM K):=by
 refine T.we.fA (k:=0) ng (fun f cM A outer s H vs Q E hr h=>?_)
 ·obtain⟨fr,pl,ls,pr,row,pt,a9,rfl,hL,hR,Cq,hT,k⟩:=h;have hu:=j8 hr;have nd:=ng.nd;refine⟨_,(ah (fk bN rfl (qk rfl T.iX (aa (pv 1) aw)) (gT (bW (gn 4 nd) (bW (gn 5 nd) gp)))
(au (bO (PW.pt (pw_and (fS (xl (pv 2) (pv 4))) (pw_and (a0 cW (pv 5) (pv 0) (a7 _)) (pw_and1 (yk (FF hu (pv 4) (pv 3)))))))
(au (a6 (pv 4)))
bf)))
(au (a6 CI))),?_⟩
  refine⟨_,rfl,pl,rfl,⟨_,hL⟩,?_⟩;refine mB (K:=K) (a:=pl) (xs:=ls.map V.int) (fun i σ H2=> ∃x4 x5,σ=[some (.int fr),some (.ref pl),some (.ref pr),some (.ref pt),x4,x5]/\aG H H2/\ ∀j,j < i->(row.getD j false && decide (ls.getD j 0=fr) && !pE a9 j)=false)
   ⟨none,none,rfl,aG.refl _,fun j hj=>absurd hj (fE _)⟩ (fun i σ H2 _ ⟨_,_,_,s2,_⟩=>s2.seq hL) ?_ ?_
  ·rintro i x p σ H2 hx hp ⟨x4,x5,rfl,s2,Sy⟩;have hi:i < ls.length:=by have:=(ao.mp hx).1; rwa [ae] at this
   rw[aD,af hi] at hx;obtain rfl:V.int ls[i]=x:=aE hx;have s3:aG H2 (upd H2 p (.tup [.int i,.int ls[i]])):=aG.new hp;refine⟨p,_,rfl,cv.of ag,rfl,_,_,rfl,_,_,rfl,rfl,?_⟩;have s4:=s2.trans s3;generalize upd H2 p (.tup [.int i,.int ls[i]])=H3 at s4 ⊢;have Sz:i < row.length:=by lia
   have O0:ls.getD i 0=ls[i]:=by rw[ai,af hi]; rfl
   have SA:row.getD i false=row[i]:=by rw[ai,af Sz]; rfl
   have next:(row.getD i false && decide (ls.getD i 0=fr) && !pE a9 i)=false-> ∀j,j < i + 1->(row.getD j false && decide (ls.getD j 0=fr) && !pE a9 j)=false:=fun e j hj=>by
    rcases Nat.lt_succ_iff_lt_or_eq.mp hj with h|h
    ·exact Sy j h
    ·rw[h]; exact e
   refine⟨_,rfl,_,rfl,pr,_,_,.bl row[i],rfl,rfl,s4.seq hR,cz (by rw[aD,af Sz]; rfl),_,rfl,?_⟩;refine cy (fun c1=>?_) (fun c1=>bV ?_)
   ·refine⟨_,rfl,_,rfl,rfl,_,rfl,cy (fun c2=>?_) (fun c2=>bV ?_)⟩
    ·have SD:ls[i]=fr:=by have:=aX c2; injection this
     refine⟨_,rfl,_,rfl,pt,_,rfl,l9.k (k:=Sum.inl (i:Int)) (s4 _ _ hT),_,rfl,cy (fun c3=>?_) (fun c3=>?_)⟩
     ·
      refine⟨_,rfl,?_⟩;have e:gR fr ls row (pE a9)=some i:=by
       unfold gR;refine List.find?_range_eq_some.mpr ⟨?_,cK.mpr hi,fun j hj=>?_⟩
       ·rw[SA,O0,c1,SD];simpa[pE] using c3
       ·rw[Sy j hj]; rfl
      have q:=k H3 s4;rw[e] at q;exact q
     ·refine⟨_,_,rfl,s4,next ?_⟩;have c3':pE a9 i=true:=by
       unfold pE;cases h:(fU a9 (Sum.inl (i:Int):Key)).isSome with
       |true=>rfl
       |false=>rw[h] at c3; exact absurd rfl c3
      rw[c3']; simp
    ·have SD: ¬ ls[i]=fr:=fun z=>c2 (aJ (by rw[z]));refine⟨_,_,rfl,s4,next ?_⟩;rw[O0,decide_eq_false SD]; simp
   ·refine⟨_,_,rfl,s4,next ?_⟩;rw[SA,Bool.eq_false_iff.mpr c1]; rfl
  ·rintro σ H2 ⟨x4,x5,rfl,s2,Sy⟩;rw[ae] at Sy;have e:gR fr ls row (pE a9)=none:=by
    unfold gR;refine List.find?_eq_none.mpr fun j hj=>?_;rw[Sy j (cK.mp hj)];exact aW
   have q:=k H2 s2;rw[e] at q;exact q
inductive vo (K:Frag)(vs:List V)(H:Hp)(Q:VK)(E':XK):Prop
 |mk (pf pl pa:Addr)(fs ls:List Int)(al:List (List Bool))(h1:vs=[.ref pf,.ref pl,.ref pa])(h2:bF K H pf (fs.map V.int))(h3:bF K H pl (ls.map V.int))(h4:Rp H (.lst (al.map zL)) (.ref pa))(h5:fs.length<=1000)(h6:al.length=fs.length)(h7:(∀r∈al,r.length=ls.length))(h8: ∀v H',aG H H'->Rp H' (.lst ((bR fs ls al fs.length).2.map Jq)) v->Q v H'):vo K vs H Q E'
def BV:aO ["frees","lefts","allowed","taken","made","credit","free","bill"] ["frees","lefts","allowed"] (ay (top 20)):={}
def LW (T:Txt K mg):eQ P w K mg base "alike" 2 ["frees","lefts","allowed"] (vo K):=by
 have wU:eQ P w K mg base "first_alike" 1 ["free","lefts","fitting","taken"] (zM K):=wR T;refine T.Lo.fA (k:=1) BV (fun f cM A outer s H vs Q E hr h=>?_)
 ·obtain⟨pf,pl,pa,fs,ls,al,rfl,hF,hL,hA,hf1,VM,Jr,k⟩:=h;have hu:=j8 hr;have nd:=BV.nd;obtain⟨pa',refs,e0,WW,LX⟩:=jC.mp hA;cases e0;refine⟨_,(ah (sv 3 nd AU)
(ah (sv 4 nd (bP aw))
(ah (fk bN rfl (qk rfl T.iX (aa (pv 0) aw)) (gT (bW (gn 5 nd) (bW (gn 6 nd) gp)))
(ah (sv 7 nd (fc wU hr (aa (pv 6) (aa (pv 1) (aa (xl (pv 2) (pv 5)) (aa (pv 3) aw))))))
(au (bO (yk (Ky (pv 7)))
(ah (Ek hu (pv 3) (pv 7) mi rfl)
(au (bG (qx (pv 4) (dh (aa (pv 5) (aa (pv 7) (aa (pv 6) aw))))))))
bf))))
(au (a6 (pv 4)))))),?_⟩
  intro pt nt;refine⟨bq _,fun pm nm=>?_⟩;have s1:aG H (upd H pt (.dK [])):=aG.new nt;have s2:aG H (upd (upd H pt (.dK [])) pm (.lst [])):=s1.trans (aG.new nm);have SE:H pm=none:=s1.free nm;have MX:pt≠pm:=aI ag nm;refine⟨_,rfl,pf,rfl,⟨_,s2.seq hF⟩,?_⟩;refine mB (K:=K) (a:=pf) (xs:=fs.map V.int) (fun i σ H2=> ∃x5 x6 x7 a9 ms,σ=[some (.ref pf),some (.ref pl),some (.ref pa),some (.ref pt),some (.ref pm),x5,x6,x7]/\aG H H2/\H2 pt=some (.dK a9)/\(∀j:Nat,pE a9 j=(bR fs ls al i).1 j)/\a9.length<=i/\H2 pm=some (.lst ms)/\m9 H2 (bR fs ls al i).2 ms)
   ⟨none,none,none,[],[],rfl,s2,by rw[az MX]; exact ag,fun j=>rfl,aB _,ag,.nil⟩ (fun i σ H2 _ ⟨_,_,_,_,_,_,s3,_⟩=>s3.seq hF) ?_ ?_
  ·rintro i x p σ H2 hx hp ⟨x5,x6,x7,a9,ms,rfl,s3,hT,mv,Hb,hM,Aq⟩;have hi:i < fs.length:=by have:=(ao.mp hx).1; rwa [ae] at this
   rw[aD,af hi] at hx;obtain rfl:V.int fs[i]=x:=aE hx;have s4:aG H2 (upd H2 p (.tup [.int i,.int fs[i]])):=aG.new hp;refine⟨p,_,rfl,cv.of ag,rfl,_,_,rfl,_,_,rfl,rfl,?_⟩;have s5:=s3.trans s4;have MY:=s4 _ _ hT;have qQ:=s4 _ _ hM;have DI:=Aq.mono (fP s4);generalize upd H2 p (.tup [.int i,.int fs[i]])=H3 at s5 MY qQ DI ⊢;clear s4 hp;have SG:i < al.length:=by lia
   have g0:(al.map zL)[i]? =some (zL al[i]):=by rw[aD,af SG]; rfl
   obtain⟨rv,Uw,Ux⟩:=LX.get g0;obtain⟨pr,WX,e1,MN,EL⟩:=jC.mp Ux;subst e1;have hrx:WX=al[i].map V.bl:=by
    clear MN Uw Ux;generalize al[i]=r at EL
    induction r generalizing WX with
    |nil=>exact dJ.mp EL
    |cons b r ih=>
     obtain⟨v,rest,e,h1,h2⟩:=bQ.mp EL;rw[e,qm.mp h1,ih rest h2]; rfl
   subst hrx;have WY:fs.getD i 0=fs[i]:=by rw[ai,af hi]; rfl
   have WZ:al.getD i []=al[i]:=by rw[ai,af SG]; rfl
   refine⟨_,rfl,_,rfl,_,rfl,_,rfl,pa,_,_,.ref pr,rfl,rfl,bF.of (s5 _ _ WW),cz Uw,_,rfl,fs[i],pl,ls,pr,al[i],pt,a9,rfl,s5.seq hL,bF.of (s5 _ _ MN),Jr _ (bD _),MY,fun H4 s6=>?_⟩;have etk:pE a9=(bR fs ls al i).1:=funext mv;have qZ:bR fs ls al (i + 1)=match gR fs[i] ls al[i] (pE a9) with
     |none=>bR fs ls al i
     |some j=>(fun x=>x == j || (bR fs ls al i).1 x,(bR fs ls al i).2 ++ [(i,j,fs[i])]):=by
    rw[etk,← WY,← WZ]; rfl
   cases hb:gR fs[i] ls al[i] (pE a9) with
   |none=>
    rw[hb] at qZ;refine⟨_,rfl,_,rfl,bV ?_⟩;refine⟨_,_,_,a9,ms,rfl,s5.trans s6,s6 _ _ MY,?_,by lia,s6 _ _ qQ,?_⟩
    ·intro j; rw[qZ]; exact mv j
    ·rw[qZ]; exact DI.mono (fP s6)
   |some j=>
    rw[hb] at qZ;refine⟨_,rfl,_,rfl,fe ?_⟩;have Qf:=s6 _ _ MY;have vp:=s6 _ _ qQ;refine⟨_,rfl,_,rfl,pt,_,rfl,FC.k (k:=Sum.inl (j:Int)) Qf (bc (by lia)),?_⟩;have Js:upd H4 pt (.dK (putK a9 (Sum.inl (j:Int):Key) (.bl true))) pm=some (.lst ms):=by rw[az MX.symm]; exact vp
    have Jg:=(DI.length);have Qg:=gY fs ls al i;have s7:aG H (upd H4 pt (.dK (putK a9 (Sum.inl (j:Int):Key) (.bl true)))):=(s5.trans s6).cZ nt;have vq:m9 (upd H4 pt (.dK (putK a9 (Sum.inl (j:Int):Key) (.bl true)))) (bR fs ls al i).2 ms:=(DI.mono (fP s6)).mono (LV Qf);have GJ:upd H4 pt (.dK (putK a9 (Sum.inl (j:Int):Key) (.bl true))) pt=some (.dK (putK a9 (Sum.inl (j:Int):Key) (.bl true))):=ag;generalize upd H4 pt (.dK (putK a9 (Sum.inl (j:Int):Key) (.bl true)))=H5 at Js s7 vq GJ ⊢;refine⟨_,rfl,.inl ⟨rfl,_,bF.of Js⟩,_,rfl,_,rfl,_,rfl,(by show 3<=sizeLine; decide),fun p8 n8=>?_⟩;have s8:aG H5 (upd H5 p8 (.tup [.int i,.int j,.int fs[i]])):=aG.new n8;refine⟨pm,ms,_,rfl,rfl,s8 _ _ Js,bc (by lia),?_⟩;refine⟨_,_,_,putK a9 (Sum.inl (j:Int):Key) (.bl true),ms ++ [.ref p8],rfl,(s7.trans s8).cZ SE,?_,fun x=>?_,?_,ag,?_⟩
    ·rw[az MX]; exact s8 _ _ GJ
    ·rw[qZ];unfold pE;rw[HR];by_cases hx:x=j
     ·subst hx; simp
     ·have: ¬ (Sum.inl (x:Int):Key)=Sum.inl (j:Int):=fun z=>hx (by injection z with z; lia);rw[aL this];have h2:=mv x;unfold pE at h2;rw[h2];simp[hx]
    ·have:=j7 a9 (Sum.inl (j:Int):Key) (.bl true);lia
    ·rw[qZ];exact cB ((vq.mono (fP s8)).mono (dE (s8 _ _ Js))) ⟨p8,rfl,dE (s8 _ _ Js) _ _ ag⟩
  ·rintro σ H2 ⟨x5,x6,x7,a9,ms,rfl,s3,hT,mv,Hb,hM,Aq⟩;rw[ae] at Aq;refine⟨_,rfl,?_⟩;exact k _ _ s3 (lF hM Aq.rp)
def cG (fs ls:List Int)(al:List (List Bool))(i:Nat):List (Nat×Int):=(bz (fs.getD i 0) (cg fs ls al i).1 (al.getD i []) (cg fs ls al i).1.length).2
def BW (fs ls:List Int)(al:List (List Bool))(i:Nat):(cg fs ls al (i + 1)).1=dC (cg fs ls al i).1 (cG fs ls al i):=rfl
def sI (fs ls:List Int)(al:List (List Bool))(i:Nat):(cg fs ls al (i + 1)).2=(cg fs ls al i).2 ++ (cG fs ls al i).map fun x=>(i,x.1,x.2):=rfl
def O1 (H:Hp)(ps:List (Nat×Int))(vs:List V):Prop:=Paired (fun(t:Nat×Int) v=> ∃p,v= .ref p/\H p=some (.tup [.int t.1,.int t.2])) ps vs
def O1.mono {H H':Hp}{ps:List (Nat×Int)}{vs:List V}(h:O1 H ps vs)(k: ∀b xs,H b=some (.tup xs)->H' b=some (.tup xs)):O1 H' ps vs:=
 Paired.iH h fun _ _ ⟨p,e,q⟩=>⟨p,e,k _ _ q⟩
def fX (f:Int)(l:List Int)(row:List Bool): ∀j,(bz f l row j).2.length<=j
 |0=>aB _
 |j + 1=>by
  have:=fX f l row j;rw[bz];split
  ·rw[aF]; show _ + 1<=_; lia
  ·lia
inductive zN (K:Frag)(vs:List V)(H:Hp)(Q:VK)(E':XK):Prop
 |mk (f:Int)(pl:Addr)(ls:List Int)(pr:Addr)(row:List Bool)(h1:vs=[.int f,.ref pl,.ref pr])(h2:bF K H pl (ls.map V.int))(h3:bF K H pr (row.map V.bl))(h4:row.length=ls.length)(h5:ls.length<=100)(h6: ∀(q:Addr) (ms:List V) (H':Hp),aG H H'->H q=none->H' q=some (.lst ms)->O1 H' (bz f ls row ls.length).2 ms->Q (.ref q) H'):zN K vs H Q E'
def sJ:aO ["free","lefts","fitting","still_free","parts","bill","left","amount"] ["free","lefts","fitting"] (ay (top 23)):={}
def DJ (T:Txt K mg):eQ P w K mg base "parts_of" 1 ["free","lefts","fitting"] (zN K):=by
 refine T.Dh.fA (k:=0) sJ (fun f cM A outer s H vs Q E hr h=>?_)
 ·obtain⟨fr,pl,ls,pr,row,rfl,hL,hR,Cq,R6,k⟩:=h;have hu:=j8 hr;have nd:=sJ.nd;refine⟨_,(ah (sv 3 nd (pv 0))
(ah (sv 4 nd (bP aw))
(ah (fk bN rfl (qk rfl T.iX (aa (pv 1) aw)) (gT (bW (gn 5 nd) (bW (gn 6 nd) gp)))
(ah (sv 7 nd (fm (rA rfl) (by rfl) T.Be boot_min (aa (pv 3) (aa (pv 6) aw))))
(au (bO (PW.pt (pw_and (fS (xl (pv 2) (pv 5))) (pw_and1 (a0 jd (pv 7) aj (a7 _)))))
(ah (bG (qx (pv 4) (dh (aa (pv 5) (aa (pv 7) aw)))))
(au (sv 3 nd (aR eK (pv 3) (pv 7)))))
bf))))
(au (a6 (pv 4)))))),?_⟩
  refine⟨_,rfl,?_⟩;refine⟨bq _,fun q nq=>?_⟩;have s1:aG H (upd H q (.lst [])):=aG.new nq;refine⟨_,rfl,pl,rfl,⟨_,s1.seq hL⟩,?_⟩;refine mB (K:=K) (a:=pl) (xs:=ls.map V.int) (fun i σ H2=> ∃(x5 x6 x7:Option V) (ms:List V),σ=[some (.int fr),some (.ref pl),some (.ref pr),some (.int (bz fr ls row i).1),some (.ref q),x5,x6,x7]/\aG H H2/\H2 q=some (.lst ms)/\O1 H2 (bz fr ls row i).2 ms)
   ⟨none,none,none,[],rfl,s1,ag,.nil⟩ (fun i σ H2 _ ⟨_,_,_,_,_,s2,_⟩=>s2.seq hL) ?_ ?_
  ·rintro i x p σ H2 hx hp ⟨x5,x6,x7,ms,rfl,s2,hM,hP⟩;have hi:i < ls.length:=by have:=(ao.mp hx).1; rwa [ae] at this
   rw[aD,af hi] at hx;obtain rfl:V.int ls[i]=x:=aE hx;have s3:aG H2 (upd H2 p (.tup [.int i,.int ls[i]])):=aG.new hp;refine⟨p,_,rfl,cv.of ag,rfl,_,_,rfl,_,_,rfl,rfl,?_⟩;have s4:=s2.trans s3;have Qh:=s3 _ _ hM;have W0:=hP.mono (fP s3);generalize upd H2 p (.tup [.int i,.int ls[i]])=H3 at s4 Qh W0 ⊢;have Sz:i < row.length:=by lia
   have O0:ls.getD i 0=ls[i]:=getD_at hi;have SA:row.getD i false=row[i]:=getD_at Sz;have hlen:ms.length<=i:=by have:=hP.length; have:=fX fr ls row i; lia
   refine⟨_,rfl,_,rfl,_,_,rfl,?_⟩;have em:(if ls[i] < (bz fr ls row i).1 then ls[i] else(bz fr ls row i).1)=ff (bz fr ls row i).1 (ls.getD i 0):=by rw[O0]; rfl
   rw[em];have qZ:bz fr ls row (i + 1)=if row.getD i false=true/\0 < ff (bz fr ls row i).1 (ls.getD i 0) then((bz fr ls row i).1 - ff (bz fr ls row i).1 (ls.getD i 0),(bz fr ls row i).2 ++ [(i,ff (bz fr ls row i).1 (ls.getD i 0))]) else bz fr ls row i:=by rw[bz]
   generalize ff (bz fr ls row i).1 (ls.getD i 0)=am at qZ ⊢;have no: ¬ (row.getD i false=true/\0 < am)-> ∃(x5 x6 x7:Option V) (ms:List V),[some (.int fr),some (.ref pl),some (.ref pr),some (.int (bz fr ls row i).1),some (.ref q),some (V.int i),some (V.int ls[i]),some (V.int am)]=[some (.int fr),some (.ref pl),some (.ref pr),some (.int (bz fr ls row (i + 1)).1),some (.ref q),x5,x6,x7]/\aG H H3/\H3 q=some (.lst ms)/\O1 H3 (bz fr ls row (i + 1)).2 ms:=fun c=>by
    rw[qZ,aL c];exact⟨_,_,_,ms,rfl,s4,Qh,W0⟩
   refine⟨_,rfl,_,rfl,pr,_,_,.bl row[i],rfl,rfl,s4.seq hR,cz (by rw[aD,af Sz]; rfl),_,rfl,?_⟩;refine cy (fun c1=>?_) (fun c1=>bV ?_)
   ·refine⟨_,rfl,_,_,rfl,rfl,_,rfl,cy (fun c2=>?_) (fun c2=>?_)⟩
    ·have SD:0 < am:=aX c2;rw[aZ ⟨by rw[SA]; exact c1,SD⟩] at qZ;refine⟨_,rfl,.inl ⟨rfl,_,bF.of Qh⟩,_,rfl,_,rfl,(by show 2<=sizeLine; decide),fun p8 n8=>?_⟩;have s8:aG H3 (upd H3 p8 (.tup [.int i,.int am])):=aG.new n8;refine⟨q,ms,_,rfl,rfl,s8 _ _ Qh,bc (by lia),?_⟩;refine⟨_,rfl,_,rfl,_,_,rfl,rfl,?_⟩;refine⟨_,_,_,ms ++ [.ref p8],by rw[qZ]; rfl,(s4.trans s8).cZ nq,ag,?_⟩;rw[qZ];exact cB ((W0.mono (fP s8)).mono (dE (s8 _ _ Qh))) ⟨p8,rfl,dE (s8 _ _ Qh) _ _ ag⟩
    ·exact no fun z=>c2 (aJ z.2)
   ·exact no fun z=>c1 (by rw[← SA]; exact z.1)
  ·rintro σ H2 ⟨x5,x6,x7,ms,rfl,s2,hM,hP⟩;rw[ae] at hP;refine⟨_,rfl,?_⟩;exact k _ _ _ s2 nq hM hP
def pF (f:Int)(l:List Int)(row:List Bool): ∀j,∀x∈(bz f l row j).2,x.1 < j
 |0,x,hx=>by cases hx
 |j + 1,x,hx=>by
  rw[bz] at hx;split at hx
  ·rcases bb.mp hx with hx|hx
   ·have:=pF f l row j x hx; lia
   ·rw[ak] at hx; subst hx; exact eT _
  ·have:=pF f l row j x hx; lia
def BX (fs ls:List Int)(al:List (List Bool)): ∀i,(cg fs ls al i).2.length<=i * ls.length
 |0=>by show 0<=_; lia
 |i + 1=>by
  have:=BX fs ls al i;have h2:=fX (fs.getD i 0) (cg fs ls al i).1 (al.getD i []) (cg fs ls al i).1.length;rw[sI,aF,ae,vL];unfold cG;rw[jt] at h2 ⊢;lia
inductive vt (K:Frag)(vs:List V)(H:Hp)(Q:VK)(E':XK):Prop
 |mk (pf pl pa:Addr)(fs ls:List Int)(al:List (List Bool))(h1:vs=[.ref pf,.ref pl,.ref pa])(h2:bF K H pf (fs.map V.int))(h3:bF K H pl (ls.map V.int))(h4:Rp H (.lst (al.map zL)) (.ref pa))(h5:fs.length<=63)(h6:ls.length<=63)(h7:al.length=fs.length)(h8:(∀r∈al,r.length=ls.length))(h9: ∀(pm:Addr) (ms:List V) (H':Hp),aG H H'->H' pm=some (.lst ms)->m9 H' (cg fs ls al fs.length).2 ms->Q (.ref pm) H'):vt K vs H Q E'
def EU {H:Hp}: ∀(r:List Bool) {xs:List V},iy H (r.map Dt.bl) xs->xs=r.map V.bl
 |[],_,h=>dJ.mp h
 |b :: r,_,h=>by
  obtain⟨v,rest,e,h1,h2⟩:=bQ.mp h;rw[e,qm.mp h1,EU r h2]; rfl
def O2 {H:Hp}{al:List (List Bool)}{refs:List V}(h:iy H (al.map zL) refs){i:Nat}(hi:i < al.length): ∃pr,refs[i]? =some (.ref pr)/\H pr=some (.lst (al[i].map V.bl)):=by
 have g0:(al.map zL)[i]? =some (zL al[i]):=by rw[aD,af hi]; rfl
 obtain⟨rv,Uw,Ux⟩:=h.get g0;obtain⟨pr,WX,e1,MN,EL⟩:=jC.mp Ux;rw[EU _ EL] at MN;exact⟨pr,by rw[Uw,e1],MN⟩
def oF:aO ["frees","lefts","allowed","still_left","made","credit","free","parts","bill","amount"] ["frees","lefts","allowed"] (ay (top 22)):={}
def zO (T:Txt K mg):eQ P w K mg base "shared_out" 2 ["frees","lefts","allowed"] (vt K):=by
 have DK:eQ P w K mg base "parts_of" 1 ["free","lefts","fitting"] (zN K):=DJ T;refine T.yM.fA (k:=1) oF (fun f cM A outer s H vs Q E hr h=>?_)
 ·obtain⟨pf,pl,pa,fs,ls,al,rfl,hF,hL,hA,hf1,R6,VM,Jr,k⟩:=h;have hu:=j8 hr;have nd:=oF.nd;obtain⟨pa',refs,e0,WW,LX⟩:=jC.mp hA;cases e0;refine⟨_,(ah (sv 3 nd (fO lC (by rfl) T.rL boot_list (aa (pv 1) aw)))
(ah (sv 4 nd (bP aw))
(ah (fk bN rfl (qk rfl T.iX (aa (pv 0) aw)) (gT (bW (gn 5 nd) (bW (gn 6 nd) gp)))
(ah (sv 7 nd (fc DK hr (aa (pv 6) (aa (pv 3) (aa (xl (pv 2) (pv 5)) aw)))))
(au (fk bN rfl (tI (pv 7)) (gT (bW (gn 8 nd) (bW (gn 9 nd) gp)))
(ah (kq (aR eK (xl (pv 3) (pv 8)) (pv 9)) (mq (pv 3) (pv 8) set_list))
(au (bG (qx (pv 4) (dh (aa (pv 5) (aa (pv 8) (aa (pv 9) aw))))))))))))
(au (a6 (pv 4)))))),?_⟩
  refine⟨_,rfl,pl,_,rfl,.inl hL,fun q nq=>?_⟩;refine⟨bq _,fun pm nm=>?_⟩;have s1:aG H (upd H q (.lst (ls.map V.int))):=aG.new nq;have s2:aG H (upd (upd H q (.lst (ls.map V.int))) pm (.lst [])):=s1.trans (aG.new nm);have SE:H pm=none:=s1.free nm;have W6:q≠pm:=aI ag nm;refine⟨_,rfl,pf,rfl,⟨_,s2.seq hF⟩,?_⟩;refine mB (K:=K) (a:=pf) (xs:=fs.map V.int) (fun i σ H2=> ∃(x5 x6 x7 x8 x9:Option V) (ms:List V),σ=[some (.ref pf),some (.ref pl),some (.ref pa),some (.ref q),some (.ref pm),x5,x6,x7,x8,x9]/\aG H H2/\H2 q=some (.lst ((cg fs ls al i).1.map V.int))/\H2 pm=some (.lst ms)/\m9 H2 (cg fs ls al i).2 ms)
   ⟨none,none,none,none,none,[],rfl,s2,by rw[az W6]; exact ag,ag,.nil⟩ (fun i σ H2 _ ⟨_,_,_,_,_,_,_,s3,_⟩=>s3.seq hF) ?_ ?_
  ·rintro i x p σ H2 hx hp ⟨x5,x6,x7,x8,x9,ms,rfl,s3,hQ,hM,Aq⟩;have hi:i < fs.length:=by have:=(ao.mp hx).1; rwa [ae] at this
   rw[aD,af hi] at hx;obtain rfl:V.int fs[i]=x:=aE hx;have s4:aG H2 (upd H2 p (.tup [.int i,.int fs[i]])):=aG.new hp;refine⟨p,_,rfl,cv.of ag,rfl,_,_,rfl,_,_,rfl,rfl,?_⟩;have s5:=s3.trans s4;have Uy:=s4 _ _ hQ;have qQ:=s4 _ _ hM;have DI:=Aq.mono (fP s4);generalize upd H2 p (.tup [.int i,.int fs[i]])=H3 at s5 Uy qQ DI ⊢;clear s4 hp;have SG:i < al.length:=by lia
   obtain⟨pr,W7,W8⟩:=O2 LX SG;have WY:fs.getD i 0=fs[i]:=getD_at hi;have WZ:al.getD i []=al[i]:=getD_at SG;have Jf:=jt fs ls al i;have O3:cG fs ls al i=(bz fs[i] (cg fs ls al i).1 al[i] (cg fs ls al i).1.length).2:=by unfold cG; rw[WY,WZ]
   have Zh:(cG fs ls al i).length<=ls.length:=by rw[O3,Jf]; exact fX _ _ _ _
   have W9: ∀x∈cG fs ls al i,x.1 < ls.length:=by rw[O3,Jf]; exact pF _ _ _ _
   have Qg:=BX fs ls al i;have abX:(cg fs ls al i).2.length<=3969:=aV Qg (pX (show i<=63 by lia) R6);refine⟨_,rfl,_,rfl,_,rfl,_,rfl,pa,_,_,.ref pr,rfl,rfl,bF.of (s5 _ _ WW),cz W7,fs[i],q,(cg fs ls al i).1,pr,al[i],rfl,bF.of Uy,bF.of (s5 _ _ W8),by rw[Jf]; exact Jr _ (bD _),by rw[Jf]; lia,fun r SH H4 s6 SI Wv hP=>?_⟩;rw[← O3] at hP;have hQ5:=s6 _ _ Uy;have vp:=s6 _ _ qQ;have Xa:=DI.mono (fP s6);have hrq:r≠q:=(aI Uy SI).symm;have Rj:r≠pm:=(aI qQ SI).symm;have s7:=s5.trans s6;have OX:SH.length=(cG fs ls al i).length:=hP.length.symm;refine⟨_,rfl,r,rfl,⟨_,bF.of Wv⟩,?_⟩;refine gA (K:=K) (a:=r) (xs:=SH) (fun m σ H5=> ∃(x8 x9:Option V) (ms:List V),σ=[some (.ref pf),some (.ref pl),some (.ref pa),some (.ref q),some (.ref pm),some (.int i),some (.int fs[i]),some (.ref r),x8,x9]/\aG H H5/\H5 q=some (.lst ((dC (cg fs ls al i).1 ((cG fs ls al i).take m)).map V.int))/\H5 pm=some (.lst ms)/\m9 H5 ((cg fs ls al i).2 ++ ((cG fs ls al i).take m).map fun x=>(i,x.1,x.2)) ms/\H5 r=some (.lst SH)/\O1 H5 (cG fs ls al i) SH)
    ⟨_,_,ms,rfl,s7,hQ5,vp,by simpa using Xa,Wv,hP⟩ (fun m σ H5 _ ⟨_,_,_,_,_,_,_,_,h,_⟩=>bF.of h) ?_ ?_
   ·rintro m x σ H5 hx ⟨y8,y9,SJ,rfl,t5,O4,Js,vq,MW,Qd⟩;have hm:m < (cG fs ls al i).length:=by have:=(ao.mp hx).1; lia
    have g0:(cG fs ls al i)[m]? =some (cG fs ls al i)[m]:=af hm;obtain⟨v,hv,pp,e1,Ke⟩:=bI Qd g0;rw[hx] at hv;obtain rfl:x=v:=aE hv;subst e1;have hb:(cG fs ls al i)[m].1 < ls.length:=W9 _ (bD _);have mv:=lV hm;have T6:(dC (cg fs ls al i).1 ((cG fs ls al i).take m)).length=ls.length:=by rw[o8,Jf]
    generalize (cG fs ls al i)[m]=pt at Ke hb mv g0;obtain⟨b,am⟩:=pt;dsimp only at Ke hb;refine⟨pp,_,rfl,cv.of Ke,rfl,_,_,rfl,_,_,rfl,rfl,?_⟩;refine⟨_,rfl,_,rfl,q,_,_,_,rfl,rfl,bF.of O4,mO (by rw[T6]; exact hb),_,rfl,_,_,rfl,rfl,_,rfl,_,rfl,q,_,_,b,rfl,rfl,O4,nJ (by rw[ae,T6]; exact hb),?_⟩;rw[← vO];have hap:dC (cg fs ls al i).1 ((cG fs ls al i).take (m + 1))=(dC (cg fs ls al i).1 ((cG fs ls al i).take m)).set b ((dC (cg fs ls al i).1 ((cG fs ls al i).take m)).getD b 0 - am):=by rw[mv,sq]
    rw[← hap];have t6:aG H (upd H5 q (.lst ((dC (cg fs ls al i).1 ((cG fs ls al i).take (m + 1))).map V.int))):=t5.cZ nq;have GN:upd H5 q (.lst ((dC (cg fs ls al i).1 ((cG fs ls al i).take (m + 1))).map V.int)) pm=some (.lst SJ):=by rw[az W6.symm]; exact Js
    have Zi:upd H5 q (.lst ((dC (cg fs ls al i).1 ((cG fs ls al i).take (m + 1))).map V.int)) q=some (.lst ((dC (cg fs ls al i).1 ((cG fs ls al i).take (m + 1))).map V.int)):=ag;have Zj:upd H5 q (.lst ((dC (cg fs ls al i).1 ((cG fs ls al i).take (m + 1))).map V.int)) r=some (.lst SH):=by rw[az hrq]; exact MW
    have GO:=vq.mono (dE (o:= .lst ((dC (cg fs ls al i).1 ((cG fs ls al i).take (m + 1))).map V.int)) O4);have Zk:=Qd.mono (dE (o:= .lst ((dC (cg fs ls al i).1 ((cG fs ls al i).take (m + 1))).map V.int)) O4);generalize upd H5 q (.lst ((dC (cg fs ls al i).1 ((cG fs ls al i).take (m + 1))).map V.int))=H6 at t6 GN Zi Zj GO Zk ⊢;have Jg:=GO.length;rw[aF,ae,bo] at Jg;refine⟨_,rfl,.inl ⟨rfl,_,bF.of GN⟩,_,rfl,_,rfl,_,rfl,(by show 3<=sizeLine; decide),fun p8 n8=>?_⟩;have s8:aG H6 (upd H6 p8 (.tup [.int i,.int b,.int am])):=aG.new n8;refine⟨pm,SJ,_,rfl,rfl,s8 _ _ GN,iO (by lia),?_⟩;refine⟨_,_,SJ ++ [.ref p8],rfl,(t6.trans s8).cZ SE,?_,ag,?_,?_,?_⟩
    ·rw[az W6]; exact s8 _ _ Zi
    ·rw[mv,aM,← gi];exact cB ((GO.mono (fP s8)).mono (dE (s8 _ _ GN))) ⟨p8,rfl,dE (s8 _ _ GN) _ _ ag⟩
    ·rw[az Rj]; exact s8 _ _ Zj
    ·exact(Zk.mono (fP s8)).mono (dE (s8 _ _ GN))
   ·rintro σ H5 ⟨y8,y9,SJ,rfl,t5,O4,Js,vq,MW,Qd⟩;rw[OX,a8] at O4 vq;exact⟨_,_,_,_,_,SJ,rfl,t5,by rw[BW]; exact O4,Js,by rw[sI]; exact vq⟩
  ·rintro σ H2 ⟨x5,x6,x7,x8,x9,ms,rfl,s3,hQ,hM,Aq⟩;rw[ae] at Aq;refine⟨_,rfl,?_⟩;exact k _ _ _ s3 hM Aq
def LY {X:Cx}{K:Frag}{es:List Expr}{k:Nat}{pos:Pos}{t:Kz}{n:Nat}(hK:X.K=K)(hc:X.calm=true)(h:Hr X es t)(hn:(assignEach es X.env).length=n)(qZ:(assignEach es X.env).findIdx? (·.1)=none):PG X (.Tuple es k pos) (Nt K n t):=by
 subst hK;exact Hs hc h hn qZ
def fN {H H':Hp}{tb:Addr}{fp:List Addr}{pos:Pos}{qual:Str}(t:Tb H tb pos qual)(fr:Frame fp H H')(ht:tb∉fp)(hf: ∀a∈fp,∀φ,H a≠some (.ext φ)):Tb H' tb pos qual:=by
 obtain⟨ps,h1,h2,h3⟩:=t;refine⟨ps,fr _ _ ht h1,h2,?_⟩;rcases h3 with h3|⟨c',h3,h4⟩
 ·exact .inl h3
 ·exact .inr ⟨c',h3,fr _ _ (fun z=>hf _ z _ h4) h4⟩
def cJ {H:Hp}{tb:Addr}{pos:Pos}{qual:Str}(t:Tb H tb pos qual): ∃ps,H tb=some (.mh ps):=let⟨ps,e,_⟩:=t; ⟨ps,e⟩
def dv {fp Rt:List Addr}{H H':Hp}(f:Frame fp H H')(h: ∀x∈fp,x∈Rt):Frame Rt H H':=fun b o hb e=>f b o (fun z=>hb (h b z)) e
def tS {H:Hp}{p C D:Addr}{fs:List (Str×V)}{ys:List V}{o:HO}(h:dY H p C fs)(e:H D=some (.lst ys)):dY (upd H D o) p C fs:=let⟨dx,z⟩:=h; ⟨dx,by rw[az (lW z e (by intro q; cases q))]; exact z⟩
def gv.upd {A:dO}{H:Hp}{S:Bk}{cs:List Nat}{qs:List Addr}{D:Addr}{ys:List V}{o:HO}(h:gv A H S cs qs)(e:H D=some (.lst ys)):gv A (L2.upd H D o) S cs qs:=Paired.iH h fun _ _ z=>tS z e
def iw.upd {A:dO}{H:Hp}{S:Bk}{cs:List Nat}{qs:List Addr}{D:Addr}{ys:List V}{o:HO}(h:iw A H S cs qs)(e:H D=some (.lst ys)):iw A (L2.upd H D o) S cs qs:=Paired.iH h fun _ _ z=>tS z e
def gv.tb {A:dO}{H H':Hp}{S:Bk}{cs:List Nat}{qs:List Addr}{tb:Addr}{pos:Pos}{qual:Str}(h:gv A H S cs qs)(t:Tb H tb pos qual)(fr:Frame [tb] H H'):gv A H' S cs qs:=Paired.iH h fun _ _ z=>z.frame fr (vk t z)
def nL {rows:List Rw}{c:Nat}(h:c < rows.length):(rows.map fun r=>V.int r.d)[c]? =some (.int (rows.getD c default).d):=by
 rw[aD,af h,ai,af h]; rfl
def nM (rows:List Rw)(aK:Str)(key:Rw->Int):(inOrder rows aK key).length<=rows.length:=by
 have e:(inOrder rows aK key).length=((List.range rows.length).filter fun k=>decide ((rows.getD k default).aK=aK)).length:=by
  unfold inOrder gQ;rw[ae,(dk _).length_eq,ae]
 have:=aY (fun k=>decide ((rows.getD k default).aK=aK)) (List.range rows.length);rw[df] at this;lia
def l4 (rows:List Rw)(k:Nat):Bool:=decide (0 < (rows.getD k default).d)
abbrev Jt:=List Int->List Int->List (List Bool)->List (Nat×Nat×Int)
def pG:Jt:=fun fs ls al=>(bR fs ls al fs.length).2
def BY:Jt:=fun fs ls al=>(cg fs ls al fs.length).2
structure Ju (way:Jt):Prop where
 lt: ∀fs ls al,∀t∈way fs ls al,t.1 < fs.length/\t.2.1 < ls.length
 len: ∀fs ls al,fs.length<=63->ls.length<=63->(way fs ls al).length<=4000
def O5 (way:Jt)(sp:Sp):Prop:= ∀(pf pl pa:Addr) (fs ls:List Int) (al:List (List Bool)) (H:Hp) (Q:VK),H pf=some (.lst (fs.map V.int))->H pl=some (.lst (ls.map V.int))->Rp H (.lst (al.map zL)) (.ref pa)->fs.length<=63->ls.length<=63->al.length=fs.length->(∀r∈al,r.length=ls.length)->
 (∀(pm:Addr) (ms:List V) (H':Hp),aG H H'->H' pm=some (.lst ms)->gy H' (way fs ls al) ms->Q (.ref pm) H')->sp [.ref pf,.ref pl,.ref pa] H Q E0
def iQ (H:Hp)(D:Addr)(al:List (List Bool))(rs:List V):Prop:=Paired (fun(r:List Bool) v=> ∃p,v= .ref p/\p≠D/\H p=some (.lst (r.map V.bl))) al rs
def iQ.upd {H:Hp}{D:Addr}{al:List (List Bool)}{rs:List V}{o:HO}(h:iQ H D al rs):iQ (L2.upd H D o) D al rs:=Paired.iH h fun _ _ ⟨p,e,n,z⟩=>⟨p,e,n,by rw[az n]; exact z⟩
def iQ.same {H H':Hp}{D:Addr}{al:List (List Bool)}{rs:List V}(h:iQ H D al rs)(s:aG H H'):iQ H' D al rs:=Paired.iH h fun _ _ ⟨p,e,n,z⟩=>⟨p,e,n,s _ _ z⟩
def xW {H:Hp}: ∀r:List Bool,iy H (r.map Dt.bl) (r.map V.bl)
 |[]=>dJ.mpr rfl
 |b :: r=>bQ.mpr ⟨_,_,rfl,qm.mpr rfl,xW r⟩
def iQ.rp {H:Hp}{D:Addr}: ∀{al:List (List Bool)} {rs:List V},iQ H D al rs->iy H (al.map zL) rs
 |_,_,.nil=>dJ.mpr rfl
 |_,_,.cons ⟨p,e,_,z⟩ t=>bQ.mpr ⟨_,_,rfl,e▸lF z (xW _),iQ.rp t⟩
def GQ {S:Bk}{l:List (Nat×Nat×Int)}{i:Nat}{t:Nat×Nat×Int}(h:l[i]? =some t):jY S (l.take (i + 1))=(jY S (l.take i)).put t.1 t.2.1 t.2.2:=k8 (fun(S:Bk) (t:Nat×Nat×Int)=>S.put t.1 t.2.1 t.2.2) l S h
def EV (S:Bk): ∀l,(jY S l).aC.length=S.aC.length/\(jY S l).credits.length=S.credits.length
 |[]=>⟨rfl,rfl⟩
 |t :: l=>by
  obtain⟨a,b⟩:=EV (S.put t.1 t.2.1 t.2.2) l;exact⟨a.trans dz,b.trans dz⟩
inductive zP (P:Program)(w:World)(K:Frag)(mg:Str->Option Value)(base:Heap)(A:dO)(tB tC:Addr)(vs:List V)(H:Hp)(Q:VK)(E':XK):Prop
 |mk (pw fa:Addr)(S:Bk)(f:eA)(n:Nat)(aK:Str)(way:Jt)(sp:Sp)(h1:vs=[.ref pw,.str aK,.ref fa])(h2:dr A H pw S f)(h3:WF S n)(h4:n<=62)(h5:lh H tB)(h6:lR H tC)(h7:Ju way)(h8:Wm P w K mg base 2 fa sp)(h9:O5 way sp)(J2: ∀gs ts fs ls al,uB S aK gs ts fs ls al-> ∀D ms H',Frame (tB :: tC :: f.fp) H H'->lh H' tB->lR H' tC->dr A H' pw (jY S ((way fs ls al).map (lJ gs ts))) f->H D=none->H' D=some (.lst ms)->gy H' ((way fs ls al).map (lJ gs ts)) ms->Q (.ref D) H'):zP P w K mg base A tB tC vs H Q E'
def km:aO ["self","who","way","givers","takers","frees","lefts","found","numbered","credit_number","bill_number","amount"] ["self","who","way"] (ay (mem 25 7)):={}
def BZ (T:Txt K mg){A:dO}{tB tC:Addr}(G:jl K mg A)(DB:pU K mg "bills_in_order" (top 17) tB)(DC:pU K mg "credits_in_order" (top 18) tC)(iU:tB≠tC)(KB:K.In base)(BM:BMain mg base):gJ rC P w K mg base A.work "one_round" 3 ["self","who","way"] (zP P w K mg base A tB tC):=by
 have iM:eQ P w K mg base "bills_in_order" 2 ["bills","who"] (tP A tB):=lg T G DB KB BM;have gU:eQ P w K mg base "credits_in_order" 2 ["all_credits","who"] (tQ A tC):=jN T G DC KB BM;have wV:eQ P w K mg base "row_of_fits" 2 ["credit","bills"] (Jj A):=wH T G;have Je:gJ rC P w K mg base A.work "put" 1 ["self","credit_number","bill_number","amount"] (zl A):=MO G;refine LC (k:=2) G.qC G.bw km (fun f cM A' outer s H vs Q E hr h=>?_)
 ·obtain⟨pw,fa,S,g,n,aK,way,sp,rfl,hW,wf,hn,jT,jx,SK,Zl,Zm,k⟩:=h;have nd:=km.nd;have Y9:S.credits.length<=62:=by have:=wf.lc; lia
  have hlb:S.aC.length<=62:=by have:=wf.lb; lia
  refine⟨_,(ah (sv 3 nd (iS (tn:=["credit"]) (cn:=["self"]) (cj:=[0]) rfl (iN (Am:=[(".0",.local),("credit",.local),("self",.cell)])) (tI (fc gU hr (aa (jJ (pv 0)) (aa (pv 1) aw)))) (fun _ _ _ _=>(en (i:=0) (show(["credit","self"]:List Str).Nodup by decide +kernel) rfl (Or.inl rfl))) (fun _ _ _ _=>(oZ (a0 jd (je (iV (K:=K) rfl) (eW (K:=K) rfl (pv 1) rfl) (eW (K:=K) rfl (pv 0) rfl) (fun _ _=>rfl)) aj (a7 _)))) (fun _ _ _ _=>(pv 0))))
(ah (sv 4 nd (iS (tn:=["bill"]) (cn:=["self"]) (cj:=[0]) rfl (iN (Am:=[(".0",.local),("bill",.local),("self",.cell)])) (tI (fc iM hr (aa (jJ (pv 0)) (aa (pv 1) aw)))) (fun _ _ _ _=>(en (i:=0) (show(["bill","self"]:List Str).Nodup by decide +kernel) rfl (Or.inl rfl))) (fun _ _ _ _=>(oZ (a0 jd (je (iV (K:=K) rfl) (eW (K:=K) rfl (pv 1) rfl) (eW (K:=K) rfl (pv 0) rfl) (fun _ _=>rfl)) aj (a7 _)))) (fun _ _ _ _=>(pv 0))))
(ah (iT (i:=5) nd rfl (Or.inl rfl) (tn:=["credit"]) (cn:=["self"]) (cj:=[0]) rfl (iN (Am:=[(".0",.local),("credit",.local),("self",.cell)])) (tI (pv 3)) (fun _ _ _ _=>(en (i:=0) (show(["credit","self"]:List Str).Nodup by decide +kernel) rfl (Or.inl rfl))) (fun _ _ _ _=>lE) (fun _ _ _ _=>(je (iV (K:=K) rfl) (eW (K:=K) rfl (pv 1) rfl) (eW (K:=K) rfl (pv 0) rfl) (fun _ _=>rfl))))
(ah (iT (i:=6) nd rfl (Or.inl rfl) (tn:=["bill"]) (cn:=["self"]) (cj:=[0]) rfl (iN (Am:=[(".0",.local),("bill",.local),("self",.cell)])) (tI (pv 4)) (fun _ _ _ _=>(en (i:=0) (show(["bill","self"]:List Str).Nodup by decide +kernel) rfl (Or.inl rfl))) (fun _ _ _ _=>lE) (fun _ _ _ _=>(je (iV (K:=K) rfl) (eW (K:=K) rfl (pv 1) rfl) (eW (K:=K) rfl (pv 0) rfl) (fun _ _=>rfl))))
(ah (sv 7 nd (OA (i:=2) (k:=2) (hr.mono (by decide)) rfl (Or.inl rfl) (aa (pv 5) (aa (pv 6) (aa (iS (tn:=["credit"]) (cn:=["takers"]) (cj:=[4]) rfl (iN (Am:=[(".0",.local),("credit",.local),("row_of_fits",.globalImplicit),("takers",.cell)])) (tI (pv 3)) (fun _ _ _ _=>(en (i:=0) (show(["credit","takers"]:List Str).Nodup by decide +kernel) rfl (Or.inl rfl))) (fun _ _ _ _=>lE) (fun _ _ _ _=>(fc wV hr (aa (pv 0) (aa (pv 1) aw))))) aw)))))
(ah (iT (i:=8) nd rfl (Or.inl rfl) (tn:=["giver","taker","amount"]) (cn:=["takers","givers"]) (cj:=[4,3]) rfl (zC (Am:=[(".0",.local),("giver",.local),("taker",.local),("amount",.local),("givers",.cell),("takers",.cell)])) (tI (pv 7)) (fun _ _ _ _=>(LY (K:=K) (n:=3) rfl rfl (bW (en (i:=0) (show(["giver","taker","amount","takers","givers"]:List Str).Nodup by decide +kernel) rfl (Or.inl rfl) (Or.inr rfl)) (bW (en (i:=1) (show(["giver","taker","amount","takers","givers"]:List Str).Nodup by decide +kernel) rfl (Or.inl rfl) (Or.inr rfl)) (bW (en (i:=2) (show(["giver","taker","amount","takers","givers"]:List Str).Nodup by decide +kernel) rfl (Or.inl rfl) (Or.inr rfl)) gp))) rfl rfl)) (fun _ _ _ _=>lE) (fun _ _ _ _=>(dh (aa (eW (K:=K) rfl (je (iV (K:=K) rfl) (pv 4) (pv 0) (fun _ _=>rfl)) rfl) (aa (eW (K:=K) rfl (je (iV (K:=K) rfl) (pv 3) (pv 1) (fun _ _=>rfl)) rfl) (aa (pv 2) aw))))))
(ah (fk bN rfl (tI (pv 8)) (gT (bW (gn 9 nd) (bW (gn 10 nd) (bW (gn 11 nd) gp))))
(au (bG (mN Je (hr.mono (by decide)) mz (pv 0) (aa (pv 9) (aa (pv 10) (aa (pv 11) aw)))))))
(au (a6 (pv 8)))))))))),?_⟩
  obtain⟨dw,hw⟩:=hW.obj;refine⟨_,rfl,pw,_,dw,_,_,rfl,hw,G.bw,G.cw,gS g,_,rfl,g.pc,g.cps,S,aK,rfl,hW.hc,hW.rc,(by lia),jx,fun D1 Xb H1 Jv jP SM GB Iv=>?_⟩;have Cy:=vm hW (cJ jx) Jv;have Jw: ∀a∈[tC],∀φ,H a≠some (.ext φ):=fun a ha φ e=>by
   obtain⟨ps,z⟩:=cJ jx;rw[ak.mp ha,z] at e;cases e
  have jc:lh H1 tB:=fN jT Jv (by simpa using iU) Jw;have F1:Frame (tB :: tC :: g.fp) H H1:=dv Jv (by intro x hx; rw[List.mem_singleton.mp hx]; simp);clear Jw;refine⟨D1,rfl,⟨_,bF.of GB⟩,?_⟩;have LR:=nM S.credits aK (·.a);have O6: ∀c∈inOrder S.credits aK (·.a),c < S.credits.length:=fun c hc=>(j9.mp hc).1;have K7:=gX S.credits aK (·.a);generalize inOrder S.credits aK (·.a)=ord at Iv LR O6 K7;have O7:=aS Iv;refine dX (K:=K) (a:=D1) (xs:=Xb.map V.ref) (fun D i σ H6=>H1 D=none/\ ∃(v:Option V) (rs:List Addr),σ=[v,some (.ref pw)]/\aG H1 H6/\H6 D=some (.lst (rs.map V.ref))/\gv A H6 S ((ord.take i).filter (l4 S.credits)) rs) (fun D hD=>⟨hD,none,[],rfl,aG.new hD,ag,.nil⟩) (fun D i σ H6 _ ⟨_,_,_,_,t3,_⟩=>bF.of (t3 _ _ GB)) ?_ ?_
  ·rintro D i x σ H6 hx ⟨hD,v,rs,rfl,t3,g9,O8⟩;rw[aD] at hx;obtain⟨q,hq,rfl⟩:=bB.mp hx;have hi:i < ord.length:=by have:=(ao.mp hq).1; lia
   have oB:=af hi;obtain⟨q',sf,k9⟩:=bI Iv oB;rw[hq] at sf;obtain rfl:q=q':=aE sf;have oC:=gg (l4 S.credits) oB;have qw:=O6 _ (bD hi);generalize ord[i]=c at k9 oC qw;obtain⟨dq,LZ⟩:=k9.same t3;have Jx:=Cy.same t3;obtain⟨O9,Pa⟩:=Jx.obj;have Cq:rs.length<=1000:=by
    have e1:=aS O8;have e2:=aY (l4 S.credits) (ord.take i);rw[bo] at e2;lia
   refine⟨_,rfl,pw,_,O9,_,_,rfl,Pa,G.bw,G.eZ,k4 g,_,rfl,q,_,dq,_,_,rfl,LZ,G.cV,G.eB,nI _ _,g.pf,_,_,.int (S.cr c).d,rfl,rfl,bF.of Jx.hf,cz (nL qw),_,_,rfl,rfl,_,rfl,cy (fun z=>?_) (fun z=>?_)⟩
   ·have z':l4 S.credits c=true:=z;rw[aZ z'] at oC;refine⟨_,rfl,_,g9,bc (by rw[ae]; exact Cq),hD,_,rs ++ [q],rfl,t3.cZ hD,(by rw[ag,aM]; rfl),?_⟩;rw[oC];exact cB (O8.upd g9) (tS ⟨dq,LZ⟩ g9)
   ·have z': ¬ l4 S.credits c=true:=z;rw[aL z',bZ] at oC;refine⟨hD,_,rs,rfl,t3,g9,?_⟩;rw[oC];exact O8
  rintro pg σ H2 npg ⟨_,v,rs,rfl,s2,Uz,L0⟩;rw[ae,← O7,a8] at L0;have Zn:ord.filter (l4 S.credits)=inTurn S.credits aK (·.a):=K7.symm;rw[Zn] at L0;clear K7 Zn O6 LR Iv O7 GB;have O0:(inTurn S.credits aK (·.a)).length<=62:=by
   rw[gX];have e1:=aY (fun k=>decide (0 < (S.credits.getD k default).d)) (inOrder S.credits aK (·.a));have e2:=nM S.credits aK (·.a);lia
  have UA: ∀c∈inTurn S.credits aK (·.a),c < S.credits.length:=fun c hc=>(cq.mp hc).1;have zJ:=Cy.same s2;have i0:lh H2 tB:=bL jc s2;have jZ:lR H2 tC:=bL jP s2;have F2:=F1.cI s2;clear Jv Cy jc jP s2 F1;obtain⟨Xc,MP⟩:=zJ.obj;refine⟨_,rfl,pw,_,Xc,_,_,rfl,MP,G.bw,G.dM,iY g,_,rfl,g.pb,g.ip,S,aK,rfl,zJ.hb,zJ.rb,(by lia),i0,fun D1 Xb H1 Jv jc SM GB Iv=>?_⟩;have Cy:=vm zJ (cJ i0) Jv;have Jw: ∀a∈[tB],∀φ,H2 a≠some (.ext φ):=fun a ha φ e=>by
   obtain⟨ps,z⟩:=cJ i0;rw[ak.mp ha,z] at e;cases e
  have jP:lR H1 tC:=fN jZ Jv (by simpa using iU.symm) Jw;have F1:Frame (tB :: tC :: g.fp) H H1:=F2.tr (dv Jv (by intro x hx; rw[List.mem_singleton.mp hx]; simp));have Zo:=L0.tb i0 Jv;have SN:H1 pg=some (.lst (rs.map V.ref)):=Jv _ _ (fun z=>by
   obtain⟨ps,e⟩:=cJ i0;rw[ak.mp z,e] at Uz;cases Uz) Uz
  clear Jw;refine⟨D1,rfl,⟨_,bF.of GB⟩,?_⟩;have LR:=nM S.aC aK (·.b);have O6: ∀c∈inOrder S.aC aK (·.b),c < S.aC.length:=fun c hc=>(j9.mp hc).1;have K7:=gX S.aC aK (·.b);generalize inOrder S.aC aK (·.b)=ord at Iv LR O6 K7;have O7:=aS Iv;refine dX (K:=K) (a:=D1) (xs:=Xb.map V.ref) (fun D i σ H6=>H1 D=none/\ ∃(v:Option V) (us:List Addr),σ=[v,some (.ref pw)]/\aG H1 H6/\H6 D=some (.lst (us.map V.ref))/\iw A H6 S ((ord.take i).filter (l4 S.aC)) us) (fun D hD=>⟨hD,none,[],rfl,aG.new hD,ag,.nil⟩) (fun D i σ H6 _ ⟨_,_,_,_,t3,_⟩=>bF.of (t3 _ _ GB)) ?_ ?_
  ·rintro D i x σ H6 hx ⟨hD,v,us,rfl,t3,g9,O8⟩;rw[aD] at hx;obtain⟨q,hq,rfl⟩:=bB.mp hx;have hi:i < ord.length:=by have:=(ao.mp hq).1; lia
   have oB:=af hi;obtain⟨q',sf,k9⟩:=bI Iv oB;rw[hq] at sf;obtain rfl:q=q':=aE sf;have oC:=gg (l4 S.aC) oB;have qw:=O6 _ (bD hi);generalize ord[i]=c at k9 oC qw;obtain⟨dq,LZ⟩:=k9.same t3;have Jx:=Cy.same t3;obtain⟨O9,Pa⟩:=Jx.obj;have Cq:us.length<=1000:=by
    have e1:=aS O8;have e2:=aY (l4 S.aC) (ord.take i);rw[bo] at e2;lia
   refine⟨_,rfl,pw,_,O9,_,_,rfl,Pa,G.bw,G.eY,kZ g,_,rfl,q,_,dq,_,_,rfl,LZ,G.dQ,G.eE,kX _ _,g.pl,_,_,.int (S.bl c).d,rfl,rfl,bF.of Jx.hl,cz (nL qw),_,_,rfl,rfl,_,rfl,cy (fun z=>?_) (fun z=>?_)⟩
   ·have z':l4 S.aC c=true:=z;rw[aZ z'] at oC;refine⟨_,rfl,_,g9,bc (by rw[ae]; exact Cq),hD,_,us ++ [q],rfl,t3.cZ hD,(by rw[ag,aM]; rfl),?_⟩;rw[oC];exact cB (O8.upd g9) (tS ⟨dq,LZ⟩ g9)
   ·have z': ¬ l4 S.aC c=true:=z;rw[aL z',bZ] at oC;refine⟨hD,_,us,rfl,t3,g9,?_⟩;rw[oC];exact O8
  rintro pt σ H3 Zp ⟨_,v',us,rfl,s3,Cv,Kg⟩;rw[ae,← O7,a8] at Kg;have Zq:ord.filter (l4 S.aC)=inTurn S.aC aK (·.b):=K7.symm;rw[Zq] at Kg;clear K7 Zq O6 LR Iv O7 GB;have htl:(inTurn S.aC aK (·.b)).length<=62:=by
   rw[gX];have e1:=aY (fun k=>decide (0 < (S.aC.getD k default).d)) (inOrder S.aC aK (·.b));have e2:=nM S.aC aK (·.b);lia
  have MX: ∀c∈inTurn S.aC aK (·.b),c < S.aC.length:=fun c hc=>(cq.mp hc).1;have zo:=Cy.same s3;have qR:lh H3 tB:=bL jc s3;have qS:lR H3 tC:=bL jP s3;have F3:=F1.cI s3;have SO:=Zo.same s3;have L1:=s3 _ _ SN;clear Jv Cy jc jP s3 F1 Zo SN F2 zJ i0 jZ L0 Uz MP;generalize hgs:inTurn S.credits aK (·.a)=gs at SO O0 UA;generalize hts:inTurn S.aC aK (·.b)=ts at Kg htl MX;have Zr:=aS SO;have htq:=aS Kg;have hR:uB S aK gs ts (gs.map fun g=>(S.cr g).d) (ts.map fun t=>(S.bl t).d) (gs.map fun g=>ts.map fun t=>S.dG g t):=⟨hgs.symm,hts.symm,rfl,rfl,rfl⟩;refine⟨_,rfl,pg,rfl,⟨_,bF.of L1⟩,?_⟩;refine dX (K:=K) (a:=pg) (xs:=rs.map V.ref) (fun D i σ H6=>H3 D=none/\ ∃(v:Option V),σ=[v,some (.ref pw)]/\aG H3 H6/\H6 D=some (.lst (((gs.take i).map fun g=>(S.cr g).d).map V.int))) (fun D hD=>⟨hD,none,rfl,aG.new hD,ag⟩) (fun D i σ H6 _ ⟨_,_,_,t3,_⟩=>bF.of (t3 _ _ L1)) ?_ ?_
  ·rintro D i x σ H6 hx ⟨hD,v,rfl,t3,g9⟩;rw[aD] at hx;obtain⟨q,hq,rfl⟩:=bB.mp hx;have hi:i < gs.length:=by have:=(ao.mp hq).1; lia
   obtain⟨q',sf,k9⟩:=bI SO (af hi);rw[hq] at sf;obtain rfl:q=q':=aE sf;have mv:=lV hi;have qw:=UA _ (bD hi);generalize gs[i]=c at k9 mv qw;obtain⟨dq,LZ⟩:=k9.same t3;have Jx:=zo.same t3;obtain⟨O9,Pa⟩:=Jx.obj;refine⟨_,rfl,pw,_,O9,_,_,rfl,Pa,G.bw,G.eZ,k4 g,_,rfl,q,_,dq,_,_,rfl,LZ,G.cV,G.eB,nI _ _,g.pf,_,_,.int (S.cr c).d,rfl,rfl,bF.of Jx.hf,cz (nL qw),_,g9,bc (by rw[ae,ae,bo]; lia),hD,_,rfl,t3.cZ hD,?_⟩;rw[ag,mv,aM,aM];rfl
  rintro pf σ H4 Kj ⟨_,v4,rfl,s4,ER⟩;rw[ae,← Zr,a8] at ER;have Zs:=SO.same s4;have MY:=Kg.same s4;have Sx:=zo.same s4;have pH:lh H4 tB:=bL qR s4;have pI:lR H4 tC:=bL qS s4;have F4:=F3.cI s4;have SQ:=s4 _ _ L1;have vv:=s4 _ _ Cv;clear s4 F3 qR qS zo Kg SO L1 Cv;refine⟨_,rfl,pt,rfl,⟨_,bF.of vv⟩,?_⟩;refine dX (K:=K) (a:=pt) (xs:=us.map V.ref) (fun D i σ H6=>H4 D=none/\ ∃(v:Option V),σ=[v,some (.ref pw)]/\aG H4 H6/\H6 D=some (.lst (((ts.take i).map fun g=>(S.bl g).d).map V.int))) (fun D hD=>⟨hD,none,rfl,aG.new hD,ag⟩) (fun D i σ H6 _ ⟨_,_,_,t3,_⟩=>bF.of (t3 _ _ vv)) ?_ ?_
  ·rintro D i x σ H6 hx ⟨hD,v,rfl,t3,g9⟩;rw[aD] at hx;obtain⟨q,hq,rfl⟩:=bB.mp hx;have hi:i < ts.length:=by have:=(ao.mp hq).1; lia
   obtain⟨q',sf,k9⟩:=bI MY (af hi);rw[hq] at sf;obtain rfl:q=q':=aE sf;have mv:=lV hi;have qw:=MX _ (bD hi);generalize ts[i]=c at k9 mv qw;obtain⟨dq,LZ⟩:=k9.same t3;have Jx:=Sx.same t3;obtain⟨O9,Pa⟩:=Jx.obj;refine⟨_,rfl,pw,_,O9,_,_,rfl,Pa,G.bw,G.eY,kZ g,_,rfl,q,_,dq,_,_,rfl,LZ,G.dQ,G.eE,kX _ _,g.pl,_,_,.int (S.bl c).d,rfl,rfl,bF.of Jx.hl,cz (nL qw),_,g9,bc (by rw[ae,ae,bo]; lia),hD,_,rfl,t3.cZ hD,?_⟩;rw[ag,mv,aM,aM];rfl
  rintro pl σ H5 SR ⟨_,v5,rfl,s5,gN⟩;rw[ae,← htq,a8] at gN;have Xd:=Zs.same s5;have Qf:=MY.same s5;have Zt:=Sx.same s5;have DM:lh H5 tB:=bL pH s5;have DN:lR H5 tC:=bL pI s5;have F5:=F4.cI s5;have L3:=s5 _ _ SQ;have Pb:=s5 _ _ vv;have SS:=s5 _ _ ER;clear s5 F4 pH pI Sx MY Zs SQ vv ER;refine⟨fa,sp,rfl,Zl,_,rfl,_,rfl,_,rfl,pg,rfl,⟨_,bF.of L3⟩,?_⟩;refine dX (K:=K) (a:=pg) (xs:=rs.map V.ref) (fun D i σ H6=>H5 D=none/\ ∃(v:Option V) (ws:List V),σ=[v,some (.ref pt)]/\aG H5 H6/\H6 D=some (.lst ws)/\iQ H6 D ((gs.take i).map fun g=>ts.map fun t=>S.dG g t) ws) (fun D hD=>⟨hD,none,[],rfl,aG.new hD,ag,.nil⟩) (fun D i σ H6 _ ⟨_,_,_,_,t3,_⟩=>bF.of (t3 _ _ L3)) ?_ ?_
  ·rintro D i x σ H6 hx ⟨hD,v,ws,rfl,t3,g9,Qi⟩;rw[aD] at hx;obtain⟨q,hq,rfl⟩:=bB.mp hx;have hi:i < gs.length:=by have:=(ao.mp hq).1; lia
   obtain⟨q',sf,k9⟩:=bI Xd (af hi);rw[hq] at sf;obtain rfl:q=q':=aE sf;have mv:=lV hi;have qw:=UA _ (bD hi);generalize gs[i]=c at k9 mv qw;have El:=aS Qi;rw[ae,bo] at El;refine⟨_,rfl,_,rfl,q,pt,S,c,ts,us,rfl,k9.same t3,t3 _ _ Pb,Qf.same t3,(by lia),fun p H7 t7 np hp=>?_⟩;have Xe:(ts.map fun b=>ox (S.cr c) (S.bl b) b)=ts.map fun t=>S.dG c t:=ez fun b hb=>xS wf qw (MX b hb);rw[Xe] at hp;have Qj:=t7 _ _ g9;have Zu:p≠D:=(aI g9 np).symm;refine⟨_,Qj,bc (by lia),hD,_,ws ++ [.ref p],rfl,(t3.trans t7).cZ hD,ag,?_⟩;rw[mv,aM];exact cB ((Qi.same t7).upd) ⟨p,rfl,Zu,by rw[az Zu]; exact hp⟩
  rintro pa σ H6 npa ⟨_,v6,ws,rfl,s6,L4,Qi⟩;rw[ae,← Zr,a8] at Qi;refine Zm pf pl pa _ _ _ H6 _ (s6 _ _ SS) (s6 _ _ gN) (lF L4 Qi.rp) (by rw[ae]; lia) (by rw[ae]; lia) (by rw[ae,ae]) (fun r hr=>by
   obtain⟨x,_,rfl⟩:=bE.mp hr;rw[ae,ae]) fun pm ms H7 s7 Xf Aq=>?_
  have iI:=SK.lt (gs.map fun g=>(S.cr g).d) (ts.map fun t=>(S.bl t).d) (gs.map fun g=>ts.map fun t=>S.dG g t);have hlen:=SK.len (gs.map fun g=>(S.cr g).d) (ts.map fun t=>(S.bl t).d) (gs.map fun g=>ts.map fun t=>S.dG g t) (by rw[ae]; lia) (by rw[ae]; lia);rw[ae,ae] at iI;have kk:=k _ _ _ _ _ hR;generalize way (gs.map fun g=>(S.cr g).d) (ts.map fun t=>(S.bl t).d) (gs.map fun g=>ts.map fun t=>S.dG g t)=fd at iI hlen Aq kk;have wW:=s6.trans s7;have Zv:=Xd.same wW;have Zw:=Qf.same wW;have UB:=Zt.same wW;have Pc:lh H7 tB:=bL DM wW;have Pd:lR H7 tC:=bL DN wW;have F7:=F5.cI wW;have SU:=wW _ _ L3;have SV:=wW _ _ Pb;clear wW s6 s7 F5 DM DN Zt Qf Xd L3 Pb SS gN Qi L4 k Zm Zl;have Uu:=aS Aq;refine⟨_,rfl,pm,rfl,⟨_,bF.of Xf⟩,?_⟩;refine dX (K:=K) (a:=pm) (xs:=ms) (fun D i σ H6=>H7 D=none/\ ∃(v1 v2 v3:Option V) (ws:List V),σ=[v1,v2,v3,some (.ref pt),some (.ref pg)]/\aG H7 H6/\H6 D=some (.lst ws)/\gy H6 ((fd.take i).map (lJ gs ts)) ws) (fun D hD=>⟨hD,none,none,none,[],rfl,aG.new hD,ag,.nil⟩) (fun D i σ H6 _ ⟨_,_,_,_,_,_,t3,_⟩=>bF.of (t3 _ _ Xf)) ?_ ?_
  ·rintro D i x σ H6 hx ⟨hD,v1,v2,v3,ws,rfl,t3,g9,GJ⟩;have hi:i < fd.length:=by have:=(ao.mp hx).1; lia
   obtain⟨v',hv,p,rfl,hp⟩:=bI Aq (af hi);rw[hx] at hv;obtain rfl:x= .ref p:=aE hv;have mv:=lV hi;obtain⟨l1,l2⟩:=iI _ (bD hi);generalize fd[i]=t at hp mv l1 l2;have El:=aS GJ;rw[ae,bo] at El;have g1:gs[t.1]? =some (gs.getD t.1 0):=by rw[ai,af l1]; rfl
   have g2:ts[t.2.1]? =some (ts.getD t.2.1 0):=by rw[ai,af l2]; rfl
   obtain⟨q1,O7,i1⟩:=bI Zv g1;obtain⟨q2,Ap,i2⟩:=bI Zw g2;obtain⟨d1,e1⟩:=i1.same t3;obtain⟨d2,e2⟩:=i2.same t3;refine⟨p,_,rfl,cv.of (t3 _ _ hp),rfl,_,_,rfl,_,_,rfl,_,_,rfl,rfl,?_⟩;refine⟨_,rfl,_,rfl,pg,_,_,.ref q1,rfl,rfl,bF.of (t3 _ _ SU),cz (by rw[aD,O7]; rfl),q1,_,d1,_,_,rfl,e1,G.cV,G.eB,nI _ _,?_⟩;refine⟨_,rfl,_,rfl,pt,_,_,.ref q2,rfl,rfl,bF.of (t3 _ _ SV),cz (by rw[aD,Ap]; rfl),q2,_,d2,_,_,rfl,e2,G.dQ,G.eE,kX _ _,_,rfl,(by show 3<=sizeLine; decide),fun p8 n8=>?_⟩;have s8:=aG.new (o:= .tup [.int (gs.getD t.1 0:Nat),.int (ts.getD t.2.1 0:Nat),.int t.2.2]) n8;have UC:=s8 _ _ g9;refine⟨_,UC,iO (by lia),hD,_,_,_,ws ++ [.ref p8],rfl,(t3.trans s8).cZ hD,ag,?_⟩;rw[mv,aM];have tk:=fY (o:= .lst (ws ++ [.ref p8])) UC;exact cB ((GJ.mono s8.tk).mono tk) ⟨p8,rfl,tk _ _ ag⟩
  rintro pn σ H8 SW ⟨_,w1,w2,w3,ws,rfl,s8,OG,SX⟩;rw[← Uu,a8] at SX;have Qk:=UB.same s8;have SY:lh H8 tB:=bL Pc s8;have S4:lR H8 tC:=bL Pd s8;have F8:=F7.cI s8;have Xg:H pn=none:=by
   cases e:H pn with
   |none=>rfl
   |some o=>
    exfalso;by_cases ju:pn∈tB :: tC :: g.fp
    ·rcases av.mp ju with z|ju
     ·obtain⟨ps,q⟩:=cJ Pc;rw[← z,SW] at q;cases q
     ·rcases av.mp ju with z|ju
      ·obtain⟨ps,q⟩:=cJ Pd;rw[← z,SW] at q;cases q
      ·exact UB.new SW ju
    ·have q:=F7 _ _ ju e;rw[SW] at q;cases q
  have S5:pn∉g.fp:=UB.new SW;have Jo: ∀t∈fd.map (lJ gs ts),t.1 < S.credits.length/\t.2.1 < S.aC.length:=fun t ht=>by
   obtain⟨u,hu,rfl⟩:=bE.mp ht;obtain⟨l1,l2⟩:=iI u hu;exact⟨UA _ (jE l1),MX _ (jE l2)⟩
  have Jf:(fd.map (lJ gs ts)).length<=4000:=by rw[ae]; exact hlen
  generalize fd.map (lJ gs ts)=L at SX kk Jo Jf;have El:=aS SX;clear iI hlen Aq Xf SU SV Zv Zw UB Pc Pd F7 s8;refine⟨_,rfl,pn,rfl,⟨_,bF.of OG⟩,?_⟩;refine gA (K:=K) (a:=pn) (xs:=ws) (fun i σ H2=> ∃(x9 B0 GR:Option V),σ=[some (.ref pw),some (.str aK),some (.ref fa),some (.ref pg),some (.ref pt),some (.ref pf),some (.ref pl),some (.ref pm),some (.ref pn),x9,B0,GR]/\Frame g.fp H8 H2/\dr A H2 pw (jY S (L.take i)) g)
   ⟨none,none,none,rfl,Frame.refl,Qk⟩ (fun i σ H2 _ ⟨_,_,_,_,f2,_⟩=>bF.of (f2 _ _ S5 OG)) ?_ ?_
  ·rintro i x σ H2 hx ⟨x9,B0,GR,rfl,f2,zJ⟩;have hi:i < L.length:=by have:=(ao.mp hx).1; lia
   have oB:=af hi;obtain⟨v',hv,p,rfl,hp⟩:=bI SX oB;rw[hx] at hv;obtain rfl:x= .ref p:=aE hv;have Cv:=GQ (S:=S) oB;obtain⟨m1,m2⟩:=Jo _ (bD hi);generalize L[i]=t at hp Cv m1 m2;obtain⟨b1,b2⟩:=EV S (L.take i);have Jg:(jY S (L.take i)).made.length < sizeLine:=by
    rw[js,aF,bo];have:=wf.lm;exact iO (by lia)
   obtain⟨Xc,MP⟩:=zJ.obj;refine⟨p,_,rfl,cv.of (Qk.tk f2 _ _ hp),rfl,_,_,rfl,_,_,rfl,_,_,rfl,rfl,?_⟩;refine⟨_,rfl,pw,Xc,_,rfl,MP,Jc g,_,rfl,_,rfl,_,rfl,pw,_,g,t.1,t.2.1,t.2.2,rfl,zJ,(by rw[b2]; exact m1),(by rw[b1]; exact m2),Jg,fun H3 f3 W3=>?_⟩;refine⟨_,_,_,rfl,f2.tr f3,?_⟩;rw[Cv];exact W3
  ·rintro σ H2 ⟨x9,B0,GR,rfl,f2,zJ⟩;rw[← El,a8] at zJ;have ext2: ∀a∈g.fp,∀φ,H8 a≠some (.ext φ):=fun a ha φ e=>by
    obtain⟨xs,z⟩:=Qk.lists a ha;rw[z] at e;cases e
   have GS:tB∉g.fp:=Qk.off fun xs e=>by
    obtain⟨ps,z⟩:=cJ SY;rw[z] at e;cases e
   have GU:tC∉g.fp:=Qk.off fun xs e=>by
    obtain⟨ps,z⟩:=cJ S4;rw[z] at e;cases e
   exact⟨_,rfl,kk pn ws H2 (F8.tr (dv f2 fun x hx=>by simp[hx])) (fN SY f2 GS ext2) (fN S4 f2 GU ext2) zJ Xg (f2 _ _ S5 OG) (SX.mono (Qk.tk f2))⟩
def qT (g:eA):(kY g).lookup ("one_round":Str)=none:=by rfl
def oG {α β:Type}{F:α->β->Prop}: ∀{l₁:List α} {r₁:List β} {l₂:List α} {r₂:List β},Paired F l₁ r₁->Paired F l₂ r₂->Paired F (l₁ ++ l₂) (r₁ ++ r₂)
 |_,_,_,_,.nil,h=>h
 |_,_,_,_,.cons a t,h=> .cons a (oG t h)
def DO:Ju pG:=⟨fun fs ls al t h=>lK fs ls al _ t h,fun fs ls al h1 _=>by
 have:=L2.gY fs ls al fs.length;show(bR fs ls al fs.length).2.length<=4000;lia⟩
def Jy:Ju BY:=⟨fun fs ls al t h=>uG fs ls al _ t h,fun fs ls al h1 h2=>by
 have:=o9 fs ls al fs.length;have h3:fs.length * ls.length<=63 * 63:=pX h1 h2;show(cg fs ls al fs.length).2.length<=4000;lia⟩
def sM {H:Hp}: ∀{ms:List (Nat×Nat×Int)} {xs:List V},iy H (ms.map Jq) xs->gy H ms xs
 |[],_,h=>by
  rw[dJ.mp h];exact .nil
 |t :: ms,_,h=>by
  obtain⟨v,r,rfl,h1,h2⟩:=bQ.mp h;obtain⟨a,ys,rfl,h3,h4⟩:=jB.mp h1;obtain⟨u1,r1,rfl,e1,h5⟩:=bQ.mp h4;obtain⟨u2,r2,rfl,e2,h6⟩:=bQ.mp h5;obtain⟨u3,r3,rfl,e3,h7⟩:=bQ.mp h6;obtain rfl:=dJ.mp h7;obtain rfl:=d9.mp e1;obtain rfl:=d9.mp e2;obtain rfl:=d9.mp e3;exact .cons ⟨a,rfl,h3⟩ (sM h2)
def Jz:O5 pG (vo K):=fun pf pl pa fs ls al H Q h1 h2 h3 h4 h5 h6 h7 k=>
 ⟨pf,pl,pa,fs,ls,al,rfl,bF.of h1,bF.of h2,h3,by lia,h6,h7,fun v H' s r=>by
  obtain⟨a,xs,rfl,e,r'⟩:=jC.mp r;exact k a xs H' s e (sM r')⟩
def Pe:O5 BY (vt K):=fun pf pl pa fs ls al H Q h1 h2 h3 h4 h5 h6 h7 k=>
 ⟨pf,pl,pa,fs,ls,al,rfl,bF.of h1,bF.of h2,h3,h4,h5,h6,h7,fun pm ms H' s e r=>k pm ms H' s e r⟩
inductive zQ (A:dO)(tB tC:Addr)(vs:List V)(H:Hp)(Q:VK)(E':XK):Prop
 |mk (pw:Addr)(S:Bk)(f:eA)(n:Nat)(aK:Str)(h1:vs=[.ref pw,.str aK])(h2:dr A H pw S f)(h3:WF S n)(h4:n<=60)(h5:lh H tB)(h6:lR H tC)(h7: ∀D ms H',Frame (tB :: tC :: f.fp) H H'->lh H' tB->lR H' tC->dr A H' pw (S.ij aK) f->H D=none->H' D=some (.lst ms)->gy H' ((S.ij aK).made.drop S.made.length) ms->Q (.ref D) H'):zQ A tB tC vs H Q E'
def oH:aO ["self","who","first","second"] ["self","who"] (ay (mem 25 6)):={}
def L5 (T:Txt K mg){A:dO}{tB tC:Addr}(G:jl K mg A)(DB:pU K mg "bills_in_order" (top 17) tB)(DC:pU K mg "credits_in_order" (top 18) tC)(iU:tB≠tC)(KB:K.In base)(BM:BMain mg base):gJ rC P w K mg base A.work "sweep" 4 ["self","who"] (zQ A tB tC):=by
 have sN:gJ rC P w K mg base A.work "one_round" 3 ["self","who","way"] (zP P w K mg base A tB tC):=BZ T G DB DC iU KB BM;obtain⟨f1,m1,V1⟩:=eQ.YX (LW (P:=P) (w:=w) (base:=base) T);obtain⟨f2,m2,V2⟩:=eQ.YX (zO (P:=P) (w:=w) (base:=base) T);refine LC (k:=3) G.wy G.bw oH (fun f cM A' outer s H vs Q E hr h=>?_)
 ·obtain⟨pw,S,g,n,aK,rfl,hW,wf,hn,jT,jx,k⟩:=h;have nd:=oH.nd;refine⟨_,(ah (sv 2 nd (mN sN (hr.mono (by decide)) mz (pv 0) (aa (pv 1) (aa (D4 (v:= .ref f1) rfl m1 rfl) aw))))
(ah (sv 3 nd (mN sN (hr.mono (by decide)) mz (pv 0) (aa (pv 1) (aa (D4 (v:= .ref f2) rfl m2 rfl) aw))))
(au (a6 (aR lD (pv 2) (pv 3)))))),?_⟩
  obtain⟨dw,hw⟩:=hW.obj;refine⟨_,rfl,pw,dw,_,rfl,hw,qT g,_,rfl,pw,f1,S,g,n,aK,pG,_,rfl,hW,wf,(by lia),jT,jx,DO,V1,Jz,fun gs ts fs ls al R D1 Xh H1 F1 jc jP Cy SM GB He=>?_⟩;obtain⟨er,lr⟩:=Il R;have Xe:fs.length=gs.length:=by rw[R.ef,ae]
  have eS:jY S ((pG fs ls al).map (lJ gs ts))=bM aK S true:=by rw[er]; unfold pG; rw[Xe]
  have em:(bM aK S true).made=S.made ++ (pG fs ls al).map (lJ gs ts):=by rw[← eS]; exact js _ _
  obtain⟨_,l1,e1,b1,n1⟩:=uH S aK true;have el1:l1=(pG fs ls al).map (lJ gs ts):=List.append_cancel_left (e1.symm.trans em);rw[eS] at Cy;rw[← el1] at He;have hcb:S.credits.length * S.aC.length<=60 * 60:=pX (by have:=wf.lc; lia) (by have:=wf.lb; lia);have wf1:WF (bM aK S true) (n + 1):=by
   refine wf.later lr (fun t ht=>?_) (cD _) ?_
   ·rw[e1] at ht;rcases bb.mp ht with ht|ht
    ·exact wf.m t ht
    ·exact b1 t ht
   ·rw[e1,aF];have:=wf.lm;have:=wf.lc;lia
  obtain⟨dw1,R5⟩:=Cy.obj;refine⟨_,rfl,pw,dw1,_,rfl,R5,qT g,_,rfl,pw,f2,_,g,n + 1,aK,BY,_,rfl,Cy,wf1,(by lia),jc,jP,Jy,V2,Pe,fun S6 UD S7 UE UG R2 D2 MS H2 F2 i0 jZ zJ Hd GC FN=>?_⟩;obtain⟨er2,lr2⟩:=Iq R2;have Xi:S7.length=S6.length:=by rw[R2.ef,ae]
  have Zx:jY (bM aK S true) ((BY S7 UE UG).map (lJ S6 UD))=S.ij aK:=by
   show _ =bM aK (bM aK S true) false;rw[er2]; unfold BY; rw[Xi]
  have Zy:(S.ij aK).made=(bM aK S true).made ++ (BY S7 UE UG).map (lJ S6 UD):=by rw[← Zx]; exact js _ _
  rw[Zx] at zJ;have Jg:(S.ij aK).made.length<=8000 * 60 + 8000:=by
   obtain⟨_,l3,e3,_,n3⟩:=qt S aK;rw[e3,aF];have:=wf.lm;have:=wf.lc;lia
  have Xj:D1∉tB :: tC :: g.fp:=fun z=>by
   rcases av.mp z with z|z
   ·obtain⟨ps,e⟩:=cJ jT;rw[← z,SM] at e;cases e
   ·rcases av.mp z with z|z
    ·obtain⟨ps,e⟩:=cJ jx;rw[← z,SM] at e;cases e
    ·exact hW.new SM z
  have Xk:=F2 _ _ Xj GB;have kt:cA H1 H2:=fun b xs e=>F2 b _ (fun z=>by
   rcases av.mp z with z|z
   ·obtain⟨ps,e'⟩:=cJ jc;rw[z,e'] at e;cases e
   ·rcases av.mp z with z|z
    ·obtain⟨ps,e'⟩:=cJ jP;rw[z,e'] at e;cases e
    ·obtain⟨ys,e'⟩:=Cy.lists b z;rw[e'] at e;cases e) e
  have t1:=aS He;have t2:=aS FN;have hlen:(S.ij aK).made.length=S.made.length + l1.length + ((BY S7 UE UG).map (lJ S6 UD)).length:=by
   rw[Zy,e1,aF,aF]
  refine⟨_,rfl,_,rfl,D1,D2,Xh,MS,rfl,rfl,Xk,GC,?_,fun p np=>?_⟩
  ·have:Xh.length + MS.length<=1000000:=by lia
   exact c8 (iO this)
  ·have s3:=aG.new (o:= .lst (Xh ++ MS)) np;have F:=F1.tr F2;have np0:H p=none:=by
    cases e:H p with
    |none=>rfl
    |some o=>
     exfalso;by_cases ju:p∈tB :: tC :: g.fp
     ·rcases av.mp ju with z|ju
      ·obtain⟨ps,q⟩:=cJ i0;rw[← z,np] at q;cases q
      ·rcases av.mp ju with z|ju
       ·obtain⟨ps,q⟩:=cJ jZ;rw[← z,np] at q;cases q
       ·exact zJ.new np ju
     ·have q:=F _ _ ju e;rw[np] at q;cases q
   refine k p _ _ (F.cI s3) (bL i0 s3) (bL jZ s3) (zJ.same s3) np0 ag ?_;have ed:(S.ij aK).made.drop S.made.length=l1 ++ (BY S7 UE UG).map (lJ S6 UD):=by
    rw[Zy,e1,gi,List.drop_left]
   rw[ed];exact oG ((He.mono kt).mono s3.tk) (FN.mono s3.tk)
def zR (g:eA):(kY g).lookup ("tell_bill":Str)=none:=by rfl
def tj (g:eA):(kY g).lookup ("tell_payment":Str)=none:=by rfl
def zS (g:eA):(kY g).lookup ("tell_note":Str)=none:=by rfl
def vw (g:eA):(kY g).lookup ("set_by_hand":Str)=none:=by rfl
def JA (g:eA):(kY g).lookup ("sweep":Str)=none:=by rfl
inductive tT (A:dO)(K:Frag)(tB tC:Addr)(vs:List V)(H:Hp)(Q:VK)(E:XK):Prop
 |mk (pw pd:Addr)(S:Bk)(f:eA)(n:Nat)(d:bu)(h1:vs=[.ref pw,.ref pd])(h2:dr A H pw S f)(h3:WF S n)(h4:n<=60)(h5:lh H tB)(h6:lR H tC)(h7:H pd=some (.tup (bu.vs d)))(h8:d.tells=true)(h9:(S.bar d=""-> ∀v f' H',f'.fp=f.fp->Frame (tB :: tC :: f.fp) H H'->lh H' tB->lR H' tC->dr A H' pw (S.enter d) f'->zE H' (fun D=>H D=none) (S.La d) v->Q v H'))(J2:(S.bar d≠""->LI A K E (S.bar d) H)):tT A K tB tC vs H Q E
def EW:aO ["work","deed","kind"] ["work","deed"] (ay (top 30)):={}
def JB (T:Txt K mg){A:dO}{tB tC:Addr}(G:jl K mg A)(DB:pU K mg "bills_in_order" (top 17) tB)(DC:pU K mg "credits_in_order" (top 18) tC)(iU:tB≠tC)(KB:K.In base)(BM:BMain mg base):uW P w K mg base "done" 7 ["work","deed"] (tT A K tB tC):=by
 have B4:gJ (ma P w mg) P w K mg base A.work "tell_bill" 5 ["self","who","day","due","amount"] (zp A K):=BF T G;have vx:gJ (ma P w mg) P w K mg base A.work "tell_payment" 6 ["self","who","day","amount"] (zr A K):=u5 T G;have B6:gJ (ma P w mg) P w K mg base A.work "tell_note" 6 ["self","bill_number","day","amount"] (zt A K):=BG T G;have wX:gJ (ma P w mg) P w K mg base A.work "set_by_hand" 5 ["self","credit_number","bill_number","amount"] (Jd A K):=wD T G;have L6:gJ rC P w K mg base A.work "sweep" 4 ["self","who"] (zQ A tB tC):=L5 T G DB DC iU KB BM;refine OE (k:=6) T.Ow EW (fun f cM A' outer s H vs Q E hr lY h=>?_)
 ·obtain⟨pw,pd,S,g,n,d,rfl,hW,wf,hn,jT,jx,hd,ht,k1,k2⟩:=h;have nd:=EW.nd;obtain⟨dw,hw⟩:=hW.obj;refine⟨_,(ah (sv 2 nd (xt (pv 1) aj))
(ah (bO (a0 cW (pv 2) aN (a7 _))
(au (a6 (mN B4 (hr.mono (by decide)) lY.pass (pv 0) (aa (xt (pv 1) aj) (aa (xt (pv 1) aj) (aa (xt (pv 1) aj) (aa (xt (pv 1) aj) aw)))))))
bf)
(ah (bO (a0 cW (pv 2) aN (a7 _))
(au (a6 (mN vx (hr.mono (by decide)) lY.pass (pv 0) (aa (xt (pv 1) aj) (aa (xt (pv 1) aj) (aa (xt (pv 1) aj) aw))))))
bf)
(ah (bO (a0 cW (pv 2) aN (a7 _))
(au (a6 (mN B6 (hr.mono (by decide)) lY.pass (pv 0) (aa (xt (pv 1) aj) (aa (xt (pv 1) aj) (aa (xt (pv 1) aj) aw))))))
bf)
(ah (bO (a0 cW (pv 2) aN (a7 _))
(au (a6 (mN wX (hr.mono (by decide)) lY.pass (pv 0) (aa (xt (pv 1) aj) (aa (xt (pv 1) aj) (aa (xt (pv 1) aj) aw))))))
bf)
(au (a6 (mN L6 (hr.mono (by decide)) mz (pv 0) (aa (xt (pv 1) aj) aw))))))))),?_⟩
  have ext: ∀a∈g.fp,∀φ,H a≠some (.ext φ):=fun a ha φ e=>by
   obtain⟨xs,z⟩:=hW.lists a ha;rw[z] at e;cases e
  have GS:tB∉g.fp:=hW.off fun xs e=>by
   obtain⟨ps,z⟩:=cJ jT;rw[z] at e;cases e
  have GU:tC∉g.fp:=hW.off fun xs e=>by
   obtain⟨ps,z⟩:=cJ jx;rw[z] at e;cases e
  cases d with
  |gF n=>cases ht
  |ask o w d=>cases ht
  |hZ w d l=>cases ht
  |dF wh dy du am=>
   refine⟨_,rfl,pd,_,_,.str "bill",rfl,rfl,cv.of hd,rfl,?_⟩;refine⟨_,rfl,rfl,true,Ao _,fe ⟨_,rfl,pw,dw,_,rfl,hw,zR g,_,rfl,pd,_,_,.str wh,rfl,rfl,cv.of hd,rfl,_,rfl,pd,_,_,.int dy,rfl,rfl,cv.of hd,rfl,_,rfl,pd,_,_,.int du,rfl,rfl,cv.of hd,rfl,_,rfl,pd,_,_,.int am,rfl,rfl,cv.of hd,rfl,pw,S,g,wh,dy,du,am,rfl,hW,(by have:=wf.lb; lia),fun hb f1 H1 e1 F1 W1=>?_,k2⟩⟩;exact k1 hb _ f1 H1 e1 (dv F1 fun x hx=>by simp[hx]) (fN jT F1 GS ext) (fN jx F1 GU ext) W1 rfl
  |pQ wh dy am=>
   refine⟨_,rfl,pd,_,_,.str "pay",rfl,rfl,cv.of hd,rfl,?_⟩;refine⟨_,rfl,rfl,false,jo (show("pay":Str)≠"bill" by decide +kernel),bV ?_⟩;refine⟨_,rfl,rfl,true,Ao _,fe ⟨_,rfl,pw,dw,_,rfl,hw,tj g,_,rfl,pd,_,_,.str wh,rfl,rfl,cv.of hd,rfl,_,rfl,pd,_,_,.int dy,rfl,rfl,cv.of hd,rfl,_,rfl,pd,_,_,.int am,rfl,rfl,cv.of hd,rfl,pw,S,g,wh,dy,am,rfl,hW,(by have:=wf.lc; lia),fun hb f1 H1 e1 F1 W1=>?_,k2⟩⟩;exact k1 hb _ f1 H1 e1 (dv F1 fun x hx=>by simp[hx]) (fN jT F1 GS ext) (fN jx F1 GU ext) W1 rfl
  |note b dy am=>
   refine⟨_,rfl,pd,_,_,.str "note",rfl,rfl,cv.of hd,rfl,?_⟩;refine⟨_,rfl,rfl,false,jo (show("note":Str)≠"bill" by decide +kernel),bV ?_⟩;refine⟨_,rfl,rfl,false,jo (show("note":Str)≠"pay" by decide +kernel),bV ?_⟩;refine⟨_,rfl,rfl,true,Ao _,fe ⟨_,rfl,pw,dw,_,rfl,hw,zS g,_,rfl,pd,_,_,.int b,rfl,rfl,cv.of hd,rfl,_,rfl,pd,_,_,.int dy,rfl,rfl,cv.of hd,rfl,_,rfl,pd,_,_,.int am,rfl,rfl,cv.of hd,rfl,pw,S,g,b,dy,am,rfl,hW,(by have:=wf.lc; lia),fun hb f1 H1 e1 F1 W1=>?_,k2⟩⟩;exact k1 hb _ f1 H1 e1 (dv F1 fun x hx=>by simp[hx]) (fN jT F1 GS ext) (fN jx F1 GU ext) W1 rfl
  |set c b am=>
   refine⟨_,rfl,pd,_,_,.str "set",rfl,rfl,cv.of hd,rfl,?_⟩;refine⟨_,rfl,rfl,false,jo (show("set":Str)≠"bill" by decide +kernel),bV ?_⟩;refine⟨_,rfl,rfl,false,jo (show("set":Str)≠"pay" by decide +kernel),bV ?_⟩;refine⟨_,rfl,rfl,false,jo (show("set":Str)≠"note" by decide +kernel),bV ?_⟩;refine⟨_,rfl,rfl,true,Ao _,fe ⟨_,rfl,pw,dw,_,rfl,hw,vw g,_,rfl,pd,_,_,.int c,rfl,rfl,cv.of hd,rfl,_,rfl,pd,_,_,.int b,rfl,rfl,cv.of hd,rfl,_,rfl,pd,_,_,.int am,rfl,rfl,cv.of hd,rfl,pw,S,g,n,c,b,am,rfl,hW,wf,(iO (by have:=wf.lm; lia)),fun hb f1 H1 e1 F1 W1=>?_,k2⟩⟩;exact k1 hb _ f1 H1 e1 (dv F1 fun x hx=>by simp[hx]) (fN jT F1 GS ext) (fN jx F1 GU ext) W1 rfl
  |fu wh=>
   refine⟨_,rfl,pd,_,_,.str "sweep",rfl,rfl,cv.of hd,rfl,?_⟩;refine⟨_,rfl,rfl,false,jo (show("sweep":Str)≠"bill" by decide +kernel),bV ?_⟩;refine⟨_,rfl,rfl,false,jo (show("sweep":Str)≠"pay" by decide +kernel),bV ?_⟩;refine⟨_,rfl,rfl,false,jo (show("sweep":Str)≠"note" by decide +kernel),bV ?_⟩;refine⟨_,rfl,rfl,false,jo (show("sweep":Str)≠"set" by decide +kernel),bV ?_⟩;refine⟨_,rfl,pw,dw,_,rfl,hw,JA g,_,rfl,pd,_,_,.str wh,rfl,rfl,cv.of hd,rfl,pw,S,g,n,wh,rfl,hW,wf,(by lia),jT,jx,fun D ms H1 F1 jc jP W1 nD hD hT=>?_⟩;exact k1 rfl _ g H1 rfl F1 jc jP W1 ⟨D,ms,rfl,nD,hD,hT⟩
def JC {α:Type}(x:α)(xs:List α):tF (x :: xs) 0=some x:=cz (xs:=x :: xs) (j:=0) rfl
def kF (H:Hp)(ss:List (Int×bu))(a9:List (Key×V)):Prop:=Paired (fun(st:Int×bu) (kv:Key×V)=>kv.1=Sum.inl st.1/\ ∃pd,kv.2= .ref pd/\H pd=some (.tup (bu.vs st.2))/\st.2.tells=true) ss a9
def kF.mono {H H':Hp}{ss:List (Int×bu)}{a9:List (Key×V)}(h:kF H ss a9)(k:cA H H'):kF H' ss a9:=Paired.iH h fun _ _ ⟨e,p,e2,z,t⟩=>⟨e,p,e2,k _ _ z,t⟩
structure fB (A:dO)(H:Hp)(pb pk pw:Addr)(T:iD)(f:eA):Prop where
 obj:dY H pb A.book (eF pk pw)
 kept: ∃a9,H pk=some (.dK a9)/\kF H T.steps a9
 wk:dr A H pw T.bk f
def fB.same {A:dO}{H H':Hp}{pb pk pw:Addr}{T:iD}{f:eA}(h:fB A H pb pk pw T f)(s:aG H H'):fB A H' pb pk pw T f:=by
 obtain⟨a9,k1,k2⟩:=h.kept;exact⟨h.obj.same s,⟨a9,s _ _ k1,k2.mono s.tk⟩,h.wk.same s⟩
def EY {A:dO}{H H':Hp}{pw:Addr}{S:Bk}{f:eA}(h:dr A H pw S f)(kl: ∀a xs,H a=some (.lst xs)->H' a=some (.lst xs))(ki: ∀a C dx fs,fs.length=5->H a=some (.ins C dx fs)->H' a=some (.ins C dx fs))(kt:cA H H'):dr A H' pw S f:=by
 obtain⟨dw,hw⟩:=h.obj;obtain⟨ms,m1,m2⟩:=h.hm;exact⟨⟨dw,ki _ _ _ _ rfl hw⟩,kl _ _ h.hb,kl _ _ h.hc,kl _ _ h.hl,kl _ _ h.hf,⟨ms,kl _ _ m1,m2.mono kt⟩,⟨h.rb.1,fun i p e=>let⟨dx,z⟩:=h.rb.2 i p e; ⟨dx,ki _ _ _ _ rfl z⟩⟩,⟨h.rc.1,fun i p e=>let⟨dx,z⟩:=h.rc.2 i p e; ⟨dx,ki _ _ _ _ rfl z⟩⟩,h.nd⟩
def JD (o:HO):Prop:=(∀xs,o≠ .lst xs)/\(∀xs,o≠ .tup xs)/\ ∀C dx fs,fs.length=5->o≠ .ins C dx fs
def vy {A:dO}{H:Hp}{pw p:Addr}{S:Bk}{f:eA}{o u:HO}(h:dr A H pw S f)(e:H p=some o)(n:JD o):dr A (upd H p u) pw S f:=
 EY h (fun a xs z=>by rw[az (fun q=>by rw[q,e] at z; exact n.1 xs (aE z))]; exact z) (fun a C dx fs hl z=>by rw[az (fun q=>by rw[q,e] at z; exact n.2.2 C dx fs hl (aE z))]; exact z)
  (fun a xs z=>by rw[az (fun q=>by rw[q,e] at z; exact n.2.1 xs (aE z))]; exact z)
def tU (a9:List (Key×V)):JD (.dK a9):=⟨fun _ z=>(by cases z),fun _ z=>(by cases z),fun _ _ _ _ z=>(by cases z)⟩
def JE (φ:Heap->Prop):JD (.ext φ):=⟨fun _ z=>(by cases z),fun _ z=>(by cases z),fun _ _ _ _ z=>(by cases z)⟩
def xX (C dx pk pw:Addr):JD (.ins C dx (eF pk pw)):=⟨fun _ z=>(by cases z),fun _ z=>(by cases z),fun _ _ fs hl z=>(by injection z with _ _ z; rw[← z] at hl; cases hl)⟩
def zT {H:Hp}{p:Addr}{o u:HO}(e:H p=some o)(n:JD o):cA H (upd H p u):=fun a xs z=>by rw[az (fun q=>by rw[q,e] at z; exact n.2.1 xs (aE z))]; exact z
def rQ {H:Hp}{m:Int}: ∀{ss:List (Int×bu)} {a9:List (Key×V)},kF H ss a9->fU a9 (Sum.inl m:Key)=none-> ∀st∈ss,st.1≠m
 |_,_,.nil,_,_,h=>by cases h
 |_,_,.cons (a:=a) (b:=kv) ⟨e,_⟩ t,hv,st,h=>by
  by_cases q:kv.1=(Sum.inl m:Key)
  ·rw[fq q] at hv;cases hv
  ·rw[eV q] at hv;rcases av.mp h with rfl|h
   ·intro z;rw[e,z] at q;exact q rfl
   ·exact rQ t hv st h
def xY {H:Hp}{m:Int}{v:V}: ∀{ss:List (Int×bu)} {a9:List (Key×V)},kF H ss a9->fU a9 (Sum.inl m:Key)=some v-> ∃st∈ss,st.1=m/\ ∃pd,v= .ref pd/\H pd=some (.tup (bu.vs st.2))/\st.2.tells=true
 |_,_,.nil,hv=>by cases hv
 |_,_,.cons (a:=a) (b:=kv) ⟨e,pd,e2,z,tl⟩ t,hv=>by
  by_cases q:kv.1=(Sum.inl m:Key)
  ·rw[fq q] at hv;rw[e] at q;refine⟨a,bh,by injection q,pd,?_,z,tl⟩;rw[← aE hv,e2]
  ·rw[eV q] at hv;obtain⟨st,h1,h2⟩:=xY t hv;exact⟨st,aQ _ h1,h2⟩
def B7 {H:Hp}{m:Int}: ∀{ss:List (Int×bu)} {a9:List (Key×V)},kF H ss a9->(∀st∈ss,st.1≠m)->fU a9 (Sum.inl m:Key)=none
 |_,_,.nil,_=>rfl
 |_,_,.cons (a:=a) (b:=kv) ⟨e,_⟩ t,h=>by
  rw[eV (fun q=>by
   rw[e] at q;exact h a bh (by injection q))]
  exact B7 t fun st hs=>h st (aQ _ hs)
def xZ {H:Hp}{m:Int}: ∀{ss:List (Int×bu)} {a9:List (Key×V)},kF H ss a9->kF H (ss.filter fun st=>decide (st.1≠m)) (kM a9 (Sum.inl m:Key))
 |_,_,.nil=> .nil
 |_,_,.cons (a:=a) (b:=kv) ⟨e,r⟩ t=>by
  have ih:=xZ (m:=m) t;unfold kM at ih ⊢;by_cases q:a.1=m
  ·have q':kv.1=(Sum.inl m:Key):=by rw[e,q]
   rw[List.filter_cons_of_neg (by simp[q]),List.filter_cons_of_neg (by simp[q'])];exact ih
  ·have q': ¬ kv.1=(Sum.inl m:Key):=by rw[e]; intro z; exact q (by injection z)
   rw[List.filter_cons_of_pos (by simp[q]),List.filter_cons_of_pos (by simp[q'])];exact .cons ⟨e,r⟩ ih
def vz: ∀{ss:List (Int×bu)},ss.Pairwise (fun a b=>a.1 < b.1)-> ∀{x y:Int×bu},x∈ss->y∈ss->x.1=y.1->x=y
 |[],_,_,_,h,_,_=>by cases h
 |a :: ss,hp,x,y,hx,hy,e=>by
  rw[eP] at hp;rcases av.mp hx with hx|hx
  ·rcases av.mp hy with hy|hy
   ·rw[hx,hy]
   ·have:=hp.1 y hy;rw[hx] at e;lia
  ·rcases av.mp hy with hy|hy
   ·have:=hp.1 x hx;rw[hy] at e;lia
   ·exact vz hp.2 hx hy e
def GV (ss:List (Int×bu))(m:Int):Bool:=ss.any fun st=>decide (st.1=m) && st.2.isSet
def pJ (ss:List (Int×bu))(m:Int):(ss.filter (cH m)).length=ss.length↔GV ss m=false:=by
 rw[List.length_filter_eq_length_iff];unfold GV;rw[q0];constructor
 ·intro h st hs;have:=h st hs;unfold cH at this;cases h2:decide (st.1=m) && st.2.isSet
  ·simp
  ·rw[h2] at this;cases this
 ·intro h st hs;have:=h st hs;unfold cH;cases h2:decide (st.1=m) && st.2.isSet
  ·rfl
  ·exact absurd h2 this
def JF {ss:List (Int×bu)}{m:Int}{st:Int×bu}(hp:ss.Pairwise (fun a b=>a.1 < b.1))(hs:st∈ss)(e:st.1=m):GV ss m=st.2.isSet:=by
 unfold GV;cases h:st.2.isSet with
 |true=>exact List.any_eq_true.mpr ⟨st,hs,by simp[e,h]⟩
 |false=>
  rw[q0];intro x hx z;have z':x.1=m/\x.2.isSet=true:=by simpa using z
  have q:=vz hp hx hs (z'.1.trans e.symm);rw[q,h] at z';cases z'.2
def B8 {ss:List (Int×bu)}{m:Int}(h: ∀st∈ss,st.1≠m):GV ss m=false:=by
 unfold GV;rw[q0];intro x hx z;have z':x.1=m/\x.2.isSet=true:=by simpa using z
 exact h x hx z'.1
def JG {ss:List (Int×bu)}{m:Int}(hp:ss.Pairwise (fun a b=>a.1 < b.1))(h:GV ss m=true):ss.filter (cH m)=ss.filter fun st=>decide (st.1≠m):=by
 apply Fe;intro st hs;unfold cH;by_cases e:st.1=m
 ·rw[← JF hp hs e,h];simp[e]
 ·simp[e]
def Ca (pk pw:Addr):(eF pk pw).lookup ("in_force":Str)=none:=by rfl
def L8 (pk pw:Addr):(eF pk pw).lookup ("undo":Str)=none:=by rfl
def S8 (pk pw:Addr):(eF pk pw).lookup ("do":Str)=none:=by rfl
inductive rR (A:dO)(vs:List V)(H:Hp)(Q:VK)(E':XK):Prop
 |mk (pb pk pw:Addr)(T:iD)(f:eA)(n:Nat)(m:Int)(h1:vs=[.ref pb,.int m])(h2:fB A H pb pk pw T f)(h3:Good T n)(h4: ∀H',aG H H'->Q (.bl (GV T.steps m)) H'):rR A vs H Q E'
def rT:aO ["self","number"] ["self","number"] (ay (mem 29 3)):={}
def DP {A:dO}(G:jl K mg A):gJ rC P w K mg base A.book "in_force" 1 ["self","number"] (rR A):=by
 refine LC (k:=0) G.rM G.eh rT (fun f cM A' outer s H vs Q E hr h=>?_)
 ·obtain⟨pb,pk,pw,T,g,n,m,rfl,hB,hG,k⟩:=h;have hu:=j8 hr;obtain⟨db,hb⟩:=hB.obj;obtain⟨a9,hk,hK⟩:=hB.kept;refine⟨_,(au (a6 (oU (Np (NO hu (pv 1) (jJ (pv 0)))) (mj (eG nE (xt (cF hu (jJ (pv 0)) (pv 1) (fun _ _=>rfl)) aj) (dh (aa aN (aa aN aw))) (by rfl)))))),?_⟩;refine⟨_,rfl,_,rfl,pb,_,db,_,_,rfl,hb,G.eh,G.gu,tR _ _,pk,_,rfl,l9.k (k:=(Sum.inl m:Key)) hk,_,rfl,?_⟩;cases hv:fU a9 (Sum.inl m:Key) with
  |none=>
   refine bV ?_;have q:=k H (aG.refl _);rw[B8 (rQ hK hv)] at q;exact q
  |some v=>
   refine fe ?_;obtain⟨st,hs,e,pd,rfl,Hc,ht⟩:=xY hK hv;obtain⟨r,er⟩:=tO (.inl ht);rw[er] at Hc;refine⟨_,rfl,pb,_,db,_,_,rfl,hb,G.eh,G.gu,tR _ _,_,rfl,pk,.ref pd,rfl,(by have z:=l9.k (k:=(Sum.inl m:Key)) hk; rw[hv] at z; exact z),pd,_,_,.str (bu.word st.2),rfl,rfl,cv.of Hc,JC _ _,(by show 2<=sizeLine; decide),fun p np=>?_⟩;have s1:=aG.new (o:= .tup [.str "set",.str "sweep"]) np;refine⟨p,_,rfl,.inr (cv.of ag),rfl,rfl,?_⟩;have q:=k _ s1;rw[JF hG.inc hs e,← EN ht] at q;exact q
inductive Pf (A:dO)(K:Frag)(tB tC:Addr)(vs:List V)(H:Hp)(Q:VK)(E:XK):Prop
 |mk (pb pd pk pw:Addr)(T:iD)(f:eA)(n:Nat)(d:bu)(h1:vs=[.ref pb,.int n,.ref pd])(h2:fB A H pb pk pw T f)(h3:Good T n)(h4:n<=59)(h5:lh H tB)(h6:lR H tC)(h7:H pd=some (.tup (bu.vs d)))(h8:d.tells=true)(h9:(T.bk.bar d=""-> ∀v f' H',f'.fp=f.fp->Frame (tB :: tC :: pk :: f.fp) H H'->lh H' tB->lR H' tC->fB A H' pb pk pw ⟨T.steps ++ [((n:Int),d)],T.bk.enter d⟩ f'->zE H' (fun D=>H D=none) (T.bk.La d) v->Q v H'))(J2:(T.bk.bar d≠""->LI A K E (T.bk.bar d) H)):Pf A K tB tC vs H Q E
def vA:aO ["self","number","deed","answer"] ["self","number","deed"] (ay (mem 29 1)):={}
def Xl (T:Txt K mg){A:dO}{tB tC:Addr}(G:jl K mg A)(DB:pU K mg "bills_in_order" (top 17) tB)(DC:pU K mg "credits_in_order" (top 18) tC)(iU:tB≠tC)(KB:K.In base)(BM:BMain mg base):gJ (ma P w mg) P w K mg base A.book "do" 8 ["self","number","deed"] (Pf A K tB tC):=by
 have DQ:uW P w K mg base "done" 7 ["work","deed"] (tT A K tB tC):=JB T G DB DC iU KB BM;refine qE (k:=7) G.Dp G.eh vA (fun f cM A' outer s H vs Q E hr lY h=>?_)
 ·obtain⟨pb,pd,pk,pw,T,g,n,d,rfl,hB,hG,hn,jT,jx,hd,ht,k1,k2⟩:=h;have hu:=j8 hr;have nd:=vA.nd;obtain⟨db,hb⟩:=hB.obj;obtain⟨a9,hk,hK⟩:=hB.kept;have hW:=hB.wk;refine⟨_,(ah (sv 3 nd (rN DQ (hr.mono (by decide)) rfl lY.pass (aa (jJ (pv 0)) (aa (pv 2) aw))))
(ah (Ek hu (jJ (pv 0)) (pv 1) (pv 2) rfl)
(au (a6 (pv 3))))),?_⟩
  refine⟨_,rfl,pb,_,db,_,_,rfl,hb,G.eh,G.fH,qP _ _,_,rfl,pw,pd,T.bk,g,n,d,rfl,hW,hG.wf (by lia),(by lia),jT,jx,hd,ht,fun oj v f1 H1 e1 F1 jc jP W1 hA=>?_,k2⟩;have GW: ∀a o,H a=some o->(∀xs,o≠ .lst xs)->(∀ps,o≠ .mh ps)->a∉tB :: tC :: g.fp:=fun a o e n1 n2 z=>by
   rcases av.mp z with z|z
   ·obtain⟨ps,q⟩:=cJ jT;rw[z,q] at e;exact n2 ps (aE e).symm
   ·rcases av.mp z with z|z
    ·obtain⟨ps,q⟩:=cJ jx;rw[z,q] at e;exact n2 ps (aE e).symm
    ·obtain⟨xs,q⟩:=hW.lists a z;rw[q] at e;exact n1 xs (aE e).symm
  have kt:cA H H1:=fun a xs e=>F1 _ _ (GW _ _ e (fun _ z=>by cases z) (fun _ z=>by cases z)) e;have S9:=F1 _ _ (GW _ _ hb (fun _ z=>by cases z) (fun _ z=>by cases z)) hb;have GX:=F1 _ _ (GW _ _ hk (fun _ z=>by cases z) (fun _ z=>by cases z)) hk;have Zz:=hK.mono kt;have lI:=kt _ _ hd;have Hb:=aS hK;have hlen:=hG.len;refine⟨_,rfl,_,rfl,pb,_,db,_,_,rfl,S9,G.eh,G.gu,tR _ _,_,rfl,pk,_,rfl,FC.k (k:=(Sum.inl (n:Int):Key)) GX (bc (by lia)),?_⟩;rw[HS _ (B7 Zz fun st hs=>by have:=(hG.lt st hs).2; lia)];have s2: ∀a o,a≠pk->H1 a=some o->upd H1 pk (.dK (a9 ++ [(Sum.inl (n:Int),V.ref pd)])) a=some o:=fun a o hn e=>by rw[az hn]; exact e
  have nbk:pb≠pk:=lW S9 GX (by intro z; cases z);have Xm:=zT (u:= .dK (a9 ++ [(Sum.inl (n:Int),V.ref pd)])) GX (tU a9);refine⟨_,rfl,k1 oj v f1 _ e1 ((dv F1 fun x hx=>?_).tr (Frame.upd (by simp))) (fN jc (Frame.upd (fp:=[pk]) (by simp)) (fun z=>?_) (fun a ha φ e=>?_)) (fN jP (Frame.upd (fp:=[pk]) (by simp)) (fun z=>?_) (fun a ha φ e=>?_)) ⟨⟨db,s2 _ _ nbk S9⟩,⟨_,ag,?_⟩,vy W1 GX (tU a9)⟩ ?_⟩
  ·rcases av.mp hx with hx|hx
   ·simp[hx]
   ·rcases av.mp hx with hx|hx
    ·simp[hx]
    ·simp[hx]
  ·obtain⟨ps,q⟩:=cJ jc;rw[ak.mp z,GX] at q;cases q
  ·rw[ak.mp ha,GX] at e;cases e
  ·obtain⟨ps,q⟩:=cJ jP;rw[ak.mp z,GX] at q;cases q
  ·rw[ak.mp ha,GX] at e;cases e
  ·exact cB (Zz.mono Xm) ⟨rfl,pd,rfl,Xm _ _ lI,ht⟩
  ·exact hA.keep (fun D xs o e=>⟨o,s2 _ _ (lW e GX (by intro z; cases z)) e⟩) Xm
def Cb: ∀{ss:List (Int×bu)} {B S:Bk} {i:Nat} {k:Int} {d:bu},cu (ss.take i) B=some S->ss[i]? =some (k,d)->S.bar d≠""->il ss B=S.bar d/\cu ss B=none
 |[],_,_,_,_,_,_,h,_=>by simp at h
 |(k0,d0) :: ss,B,S,0,k,d,hw,h,hb=>by
  cases hw;have e:(k0,d0)=(k,d):=by simpa using h
  cases e;unfold il cu;rw[aL hb,aL hb];exact⟨rfl,rfl⟩
 |(k0,d0) :: ss,B,S,i + 1,k,d,hw,h,hb=>by
  rw[List.take_succ_cons] at hw;unfold cu at hw;split at hw
  ·rename_i q;have ih:=Cb hw (by simpa using h) hb;unfold il cu;rw[aZ q,aZ q];exact ih
  ·cases hw
def Cc {ss:List (Int×bu)}{B S:Bk}{i:Nat}{k:Int}{d:bu}(hw:cu (ss.take i) B=some S)(h:ss[i]? =some (k,d))(hb:S.bar d=""):cu (ss.take (i + 1)) B=some (S.enter d):=by
 obtain⟨hi,e⟩:=ao.mp h;rw[lV hi,kA,hw,e];show(if S.bar d="" then some (S.enter d) else none)=_;rw[aZ hb]
def Xn (A:dO)(K:Frag)(tB tC:Addr)(fp:List Addr)(E:XK)(t:Str)(H:Hp):Prop:= ∀C dx H',gI K C A.refusal->Frame fp H H'->lh H' tB->lR H' tC->H dx=none->H' dx=some (.xd [("text",.str t)])->E (.ref C) (some dx) H'
inductive zU (A:dO)(K:Frag)(tB tC:Addr)(vs:List V)(H:Hp)(Q:VK)(E:XK):Prop
 |mk (pk:Addr)(ss:List (Int×bu))(a9:List (Key×V))(h1:vs=[.ref pk])(h2:H pk=some (.dK a9))(h3:kF H ss a9)(h4:ss.length<=59)(h5:(il ss Bk.new=""∨il ss Bk.new="too much"))(h6:lh H tB)(h7:lR H tC)(h8:(∀S,cu ss Bk.new=some S-> ∀pw f H',Frame [tB,tC] H H'->lh H' tB->lR H' tC->dr A H' pw S f->H pw=none->(∀b∈f.fp,H b=none)->Q (.ref pw) H'))(h9:(cu ss Bk.new=none->Xn A K tB tC [tB,tC,pk] E "needed" H)):zU A K tB tC vs H Q E
def oJ:aO ["kept","work","deed"] ["kept"] (ay (top 31)):={}
def MZ {H:Hp}{tb d:Addr}{pos:Pos}{qual:Str}{φ:Heap->Prop}{u:HO}(t:Tb H tb pos qual)(e:H d=some (.ext φ))(n: ∀q:Str,φ≠fun h=>h.CodeRec (.ref d) q):Tb (upd H d u) tb pos qual:=by
 obtain⟨ps,h1,h2,h3⟩:=t;refine⟨ps,by rw[az (lW h1 e (by intro z; cases z))]; exact h1,h2,?_⟩;rcases h3 with h3|⟨c',h3,h4⟩
 ·exact .inl h3
 ·refine .inr ⟨c',h3,?_⟩;by_cases z:c'=d
  ·subst z;rw[e] at h4;have h5:=aE h4;injection h5 with h5;exact absurd h5 (n qual)
  ·rw[az z];exact h4
def zV (T:Txt K mg){A:dO}{tB tC:Addr}(G:jl K mg A)(DB:pU K mg "bills_in_order" (top 17) tB)(DC:pU K mg "credits_in_order" (top 18) tC)(iU:tB≠tC)(hnd:A.iL≠A.tooMuch)(KB:K.In base)(BM:BMain mg base):uW P w K mg base "done_again" 8 ["kept"] (zU A K tB tC):=by
 have DQ:uW P w K mg base "done" 7 ["work","deed"] (tT A K tB tC):=JB T G DB DC iU KB BM;have DH:sY P w K mg base "Work" A.work 1 ["self"] (tM A):=Ji G;refine OE (k:=7) T.yN oJ (fun f cM A' outer s H vs Q E hr lY h=>?_)
 ·obtain⟨pk,ss,a9,rfl,hk,hK,hl,hfb,jT,jx,k1,k2⟩:=h;have nd:=oJ.nd;refine⟨_,(ah (sv 1 nd (IU DH (hr.mono (by decide)) rfl))
(ah (Lp lY.own rfl (pv 0) (gn 2 nd)
(au (A7 lY rfl rfl G.uV G.pz (show mg "Needed"≠some (.ref A.tooMuch) from fun z=>hnd (by rw[G.xP] at z; injection z with z; injection z)) (Gx T G) (hr.h.mono (by decide)) rfl (fun xe pn E hx=>au (bG (rN DQ (hr.mono (by decide)) rfl hx (aa (pv 1) (aa (pv 2) aw))))))))
(au (a6 (pv 1))))),?_⟩
  intro xw WT LU OZ ne;have s1:=k7 (C:=A.work) (fs:=[]) LU OZ ne;refine⟨xw,WT,rfl,ag,fun g H1 F1 W1 nf=>⟨rfl,?_⟩⟩;have fg: ∀b∈g.fp,H b=none:=fun b hb=>s1.free (nf b hb);have S1:aG H H1:=fun b o e=>F1 b o (by simpa using aI e LU) (s1 b o e);clear F1 nf s1;refine⟨_,rfl,?_⟩;have GX:=S1 _ _ hk;have hlen:=aS hK;refine IL (td:=fun _ _ _=>True) GX fun φ hφ=>⟨fun i σ H2=> ∃(S:Bk) (f:eA) (x2:Option V),σ=[some (.ref pk),some (.ref xw),x2]/\cu (ss.take i) Bk.new=some S/\dr A H2 xw S f/\(∀b∈f.fp,H b=none)/\Frame [tB,tC,pk] H H2/\H2 pk=some (.ext φ)/\lh H2 tB/\lR H2 tC,?_,?_,?_,?_⟩
  ·have ext: ∀a∈[pk],∀φ,H1 a≠some (.ext φ):=fun a ha φ e=>by
    rw[ak.mp ha,GX] at e;cases e
   have nB:tB∉[pk]:=fun z=>by
    obtain⟨ps,q⟩:=cJ jT;rw[ak.mp z,hk] at q;cases q
   have nC:tC∉[pk]:=fun z=>by
    obtain⟨ps,q⟩:=cJ jx;rw[ak.mp z,hk] at q;cases q
   exact⟨Bk.new,g,none,rfl,rfl,vy W1 GX (tU a9),fg,(S1.frame (fp:=[tB,tC,pk])).tr (Frame.upd (by simp)),ag,fN (bL jT S1) (Frame.upd (fp:=[pk]) (by simp)) nB ext,fN (bL jx S1) (Frame.upd (fp:=[pk]) (by simp)) nC ext⟩
  ·rintro i σ H2 ⟨S,f,x2,_,_,_,_,_,e,_⟩;exact e
  ·rintro i x σ H2 hx ⟨S,f,x2,rfl,hw,hW,hf,F2,e2,i0,jZ⟩;rw[aD] at hx;obtain⟨kv,Uk,rfl⟩:=bB.mp hx;have hi:i < ss.length:=by have:=(ao.mp Uk).1; lia
   have oB:=af hi;obtain⟨kv',Ta,ek,pd,epd,Hc,ht⟩:=bI hK oB;rw[Uk] at Ta;obtain rfl:kv=kv':=aE Ta;generalize ss[i]=st at oB ek Hc ht;obtain⟨sn,d⟩:=st;rw[epd];have OO:H2 pd=some (.tup (bu.vs d)):=F2 _ _ (fun z=>by
    simp only[List.mem_cons,List.not_mem_nil,or_false] at z;rcases z with z|z|z
    ·obtain⟨ps,q⟩:=cJ jT;rw[← z,Hc] at q;cases q
    ·obtain⟨ps,q⟩:=cJ jx;rw[← z,Hc] at q;cases q
    ·rw[z,hk] at Hc;cases Hc) Hc
   have wf:WF S (0 + (ss.take i).length):=rK _ WF.new hw (by rw[bo]; lia);refine⟨_,rfl,_,rfl,xw,pd,S,f,_,d,rfl,hW,wf,(by rw[bo]; lia),i0,jZ,OO,ht,fun hb v f' H3 e3 F3 qR qS W3 _=>?_,fun hb=>?_⟩
   ·refine⟨S.enter d,f',_,rfl,Cc hw oB hb,W3,(by rw[e3]; exact hf),F2.trans F3 (fun x hx=>?_),F3 _ _ (fun z=>?_) e2,qR,qS⟩
    ·rcases av.mp hx with hx|hx
     ·exact .inl (by simp[hx])
     ·rcases av.mp hx with hx|hx
      ·exact .inl (by simp[hx])
      ·exact .inr (hf x hx)
    ·rcases av.mp z with z|z
     ·obtain⟨ps,q⟩:=cJ i0;rw[← z,e2] at q;cases q
     ·rcases av.mp z with z|z
      ·obtain⟨ps,q⟩:=cJ jZ;rw[← z,e2] at q;cases q
      ·have:=hf _ z;rw[hk] at this;cases this
   ·obtain⟨ef,ew⟩:=Cb hw oB hb;have et:S.bar d="too much":=(hfb.resolve_left (by rw[ef]; exact hb)).symm.trans ef |>.symm;intro C hC hCt dx H3 s3 nd3 MU;have TQ:C=A.tooMuch:=hCt et;refine⟨by rw[TQ],fun Xo n2=>?_⟩;have s4:=aG.new (o:= .xd [("text",.str "needed")]) n2;have JH:=s3.trans s4;refine k2 ew A.iL Xo _ G.xQ (F2.cI JH) (bL i0 JH) (bL jZ JH) ?_ ag;have Tc:=s3.free n2;cases e:H Xo with
    |none=>rfl
    |some o=>
     exfalso;by_cases ju:Xo∈[tB,tC,pk]
     ·simp only[List.mem_cons,List.not_mem_nil,or_false] at ju;rcases ju with z|z|z
      ·obtain⟨ps,q⟩:=cJ i0;rw[← z,Tc] at q;cases q
      ·obtain⟨ps,q⟩:=cJ jZ;rw[← z,Tc] at q;cases q
      ·rw[z,e2] at Tc;cases Tc
     ·have q:=F2 _ _ ju e;rw[Tc] at q;cases q
  ·rintro σ H2 ⟨S,f,x2,rfl,hw,hW,hf,F2,e2,i0,jZ⟩;rw[← hlen,a8] at hw;refine⟨_,rfl,k1 S hw xw f _ (fun b o hb e=>?_) (MZ i0 e2 hφ.2) (MZ jZ e2 hφ.2) (vy hW e2 (JE φ)) LU hf⟩;by_cases z:b=pk
   ·subst z;rw[hk] at e;rw[ag];exact e
   ·rw[az z];exact F2 _ _ (by simp only[List.mem_cons,List.not_mem_nil,or_false,not_or] at hb ⊢; exact⟨hb.1,hb.2,z⟩) e
def Pg (pk pw pV:Addr):ee "work" (.ref pV) (eF pk pw)=eF pk pV:=by rfl
def Ph (pk tV pw:Addr):ee "kept" (.ref tV) (eF pk pw)=eF tV pw:=by rfl
inductive DR (A:dO)(K:Frag)(tB tC:Addr)(vs:List V)(H:Hp)(Q:VK)(E:XK):Prop
 |mk (pb pk pw:Addr)(T:iD)(f:eA)(n:Nat)(m:Int)(h1:vs=[.ref pb,.int m])(h2:fB A H pb pk pw T f)(h3:Good T n)(h4:n<=59)(h5:lh H tB)(h6:lR H tC)(h7:(GV T.steps m=true-> ∀S,cu (T.steps.filter (cH m)) Bk.new=some S-> ∀tV pV f' H',Frame [tB,tC,pb] H H'->lh H' tB->lR H' tC->fB A H' pb tV pV ⟨T.steps.filter (cH m),S⟩ f'->H tV=none->(∀b∈f'.fp,H b=none)->Q (.str "undone") H'))(h8:(GV T.steps m=true->cu (T.steps.filter (cH m)) Bk.new=none->Xn A K tB tC [tB,tC] E "needed" H))(h9:(GV T.steps m=false->Xn A K tB tC [tB,tC] E "no setting" H)):DR A K tB tC vs H Q E
def qU:aO ["self","number","kept"] ["self","number"] (ay (mem 29 2)):={}
def Pj (T:Txt K mg){A:dO}{tB tC:Addr}(G:jl K mg A)(DB:pU K mg "bills_in_order" (top 17) tB)(DC:pU K mg "credits_in_order" (top 18) tC)(iU:tB≠tC)(hnd:A.iL≠A.tooMuch)(KB:K.In base)(BM:BMain mg base):gJ (ma P w mg) P w K mg base A.book "undo" 9 ["self","number"] (DR A K tB tC):=by
 have zW:uW P w K mg base "done_again" 8 ["kept"] (zU A K tB tC):=zV T G DB DC iU hnd KB BM;have DS:gJ rC P w K mg base A.book "in_force" 1 ["self","number"] (rR A):=DP G;refine qE (k:=8) G.y4 G.eh qU (fun f cM A' outer s H vs Q E hr lY h=>?_)
 ·obtain⟨pb,pk,pw,TT,g,n,m,rfl,hB,hG,hn,jT,jx,k1,k2,k3⟩:=h;have hu:=j8 hr;have nd:=qU.nd;obtain⟨db,hb⟩:=hB.obj;refine⟨_,(ah (bO (jy (fS (mN DS (hr.mono (by decide)) mz (pv 0) (aa (pv 1) aw))))
(au (jH lY (ze T G) (hr.h.mono (by decide)) rfl rfl))
bf)
(ah (sv 2 nd (fO Bg (by rfl) T.Oy (by rfl) (aa (jJ (pv 0)) aw)))
(ah (bG (HV (pv 2) (pv 1) ⟨rfl,rfl,rfl,rfl⟩))
(ah (lN (pv 0) (rN zW (hr.mono (by decide)) rfl lY.pass (aa (pv 2) aw)))
(ah (lN (pv 0) (pv 2))
(au (a6 aN))))))),?_⟩
  refine⟨_,rfl,pb,db,_,rfl,hb,Ca _ _,_,rfl,pb,pk,pw,TT,g,n,m,rfl,hB,hG,fun H1 s1=>⟨_,rfl,?_⟩⟩;refine cy (fun z=>?_) (fun z=>?_)
  ·have z':GV TT.steps m=false:=by simpa using z
   intro dx nn;have s2:=s1.trans (aG.new (o:= .xd [("text",.str "no setting")]) nn);exact k3 z' A.jw dx _ G.qz s2.frame (bL jT s2) (bL jx s2) (s1.free nn) ag
  have z':GV TT.steps m=true:=by simpa using z
  have MR:=hB.same s1;obtain⟨a9,hk,hK⟩:=MR.kept;have S9:=s1 _ _ hb;refine⟨_,rfl,pb,_,db,_,_,rfl,S9,G.eh,G.gu,tR _ _,pk,a9,rfl,hk,fun p2 ZA=>?_⟩;have s2:=aG.new (o:= .dK a9) ZA;have xB:upd H1 p2 (.dK a9) p2=some (.dK a9):=ag;have n2:H p2=none:=s1.free ZA;have S2:=s1.trans s2;have ZC:=hK.mono s2.tk;generalize upd H1 p2 (.dK a9)=H2 at xB S2 ZC;clear s2;cases hv:fU a9 (Sum.inl m:Key) with
  |none=>
   have:=B8 (rQ hK hv);rw[z'] at this;cases this
  |some v=>
  refine⟨_,rfl,p2,rfl,.inl ⟨a9,.inl xB⟩,_,rfl,a9,(Sum.inl m:Key),v,xB,rfl,hv,?_⟩;have UH:=(xZ (m:=m) ZC).mono (zT (u:= .dK (kM a9 (Sum.inl m:Key))) xB (tU a9));rw[← JG hG.inc z'] at UH;have S3:aG H (upd H2 p2 (.dK (kM a9 (Sum.inl m:Key)))):=S2.cZ n2;have Qe:upd H2 p2 (.dK (kM a9 (Sum.inl m:Key))) p2=some (.dK (kM a9 (Sum.inl m:Key))):=ag;generalize upd H2 p2 (.dK (kM a9 (Sum.inl m:Key)))=H3 at UH S3 Qe;have Uu:=aY (cH m) TT.steps;have O0:=hG.len;have Td:(cu TT.steps Bk.new).isSome=true:=by rw[hG.w]; rfl
  refine⟨_,rfl,p2,_,_,rfl,Qe,UH,(by lia),N6 m TT.steps (mG.refl Bk.new) Td,bL jT S3,bL jx S3,fun S hS pV f' H4 F4 pH pI W4 npw nf4=>?_,fun hS=>?_⟩
  case refine_2=>
   intro C dx H4 hC F4 pH pI nd4 hd4;refine k2 z' hS C dx H4 hC ((S3.frame (fp:=[tB,tC])).trans F4 (fun x hx=>?_)) pH pI (S3.free nd4) hd4;simp only[List.mem_cons,List.not_mem_nil,or_false] at hx;rcases hx with hx|hx|hx
   ·exact .inl (by simp[hx])
   ·exact .inl (by simp[hx])
   ·exact .inr (by rw[hx]; exact n2)
  have off: ∀a o,H3 a=some o->(∀ps,o≠ .mh ps)->a∉[tB,tC]:=fun a o e n1 z=>by
   simp only[List.mem_cons,List.not_mem_nil,or_false] at z;rcases z with z|z
   ·obtain⟨ps,q⟩:=cJ (bL jT S3);rw[z,q] at e;exact n1 ps (aE e).symm
   ·obtain⟨ps,q⟩:=cJ (bL jx S3);rw[z,q] at e;exact n1 ps (aE e).symm
  have zX:=F4 _ _ (off _ _ (S3 _ _ hb) (fun _ z=>by cases z)) (S3 _ _ hb);have UI:=F4 _ _ (off _ _ Qe (fun _ z=>by cases z)) Qe;have hK4:=UH.mono (fun a xs e=>F4 _ _ (off _ _ e (fun _ z=>by cases z)) e);have F4':Frame [tB,tC,pb] H H4:=dv ((S3.frame (fp:=[tB,tC])).tr F4) (by simp);refine⟨_,rfl,pb,_,db,_,rfl,zX,G.eh,G.fH,(by show 2 < 1000; decide),?_⟩;rw[Pg];have e5:upd H4 pb (.ins A.book db (eF pk pV)) pb=some (.ins A.book db (eF pk pV)):=ag;have Te:=xX A.book db pk pw;have W5:=vy (u:= .ins A.book db (eF pk pV)) W4 zX Te;have ZD:p2≠pb:=(aI hb n2).symm;have Ql:upd H4 pb (.ins A.book db (eF pk pV)) p2=some (.dK (kM a9 (Sum.inl m:Key))):=by rw[az ZD]; exact UI
  have ZE:=hK4.mono (zT (u:= .ins A.book db (eF pk pV)) zX Te);have Tf: ∀a∈[pb],∀φ,H4 a≠some (.ext φ):=fun a ha φ e=>by
   rw[ak.mp ha,zX] at e;cases e
  have nB:tB∉[pb]:=fun z=>by
   obtain⟨ps,q⟩:=cJ pH;rw[ak.mp z,zX] at q;cases q
  have nC:tC∉[pb]:=fun z=>by
   obtain⟨ps,q⟩:=cJ pI;rw[ak.mp z,zX] at q;cases q
  have DM:lh (upd H4 pb (.ins A.book db (eF pk pV))) tB:=fN pH (Frame.upd (fp:=[pb]) (by simp)) nB Tf;have DN:lR (upd H4 pb (.ins A.book db (eF pk pV))) tC:=fN pI (Frame.upd (fp:=[pb]) (by simp)) nC Tf;have F5:Frame [tB,tC,pb] H (upd H4 pb (.ins A.book db (eF pk pV))):=F4'.tr (Frame.upd (by simp));generalize upd H4 pb (.ins A.book db (eF pk pV))=H5 at e5 W5 Ql ZE DM DN F5;refine⟨_,rfl,_,rfl,pb,_,db,_,rfl,e5,G.eh,G.gu,(by show 2 < 1000; decide),?_⟩;rw[Ph];have M0:=xX A.book db pk pV;have Tg: ∀a∈[pb],∀φ,H5 a≠some (.ext φ):=fun a ha φ e=>by
   rw[ak.mp ha,e5] at e;cases e
  refine k1 z' S hS p2 pV f' _ (F5.tr (Frame.upd (by simp))) (fN DM (Frame.upd (fp:=[pb]) (by simp)) nB Tg) (fN DN (Frame.upd (fp:=[pb]) (by simp)) nC Tg) ⟨⟨db,ag⟩,⟨_,by rw[az ZD]; exact Ql,ZE.mono (zT e5 M0)⟩,vy W5 e5 M0⟩ n2 (fun b hb=>S3.free (nf4 b hb))
def Dt.v:Dt->V
 | .int i=> .int i
 | .str s=> .str s
 | .bl b=> .bl b
 |_=> .dW
def Dt.flat:Dt->Bool
 | .int _=>true
 | .str _=>true
 | .bl _=>true
 |_=>false
def vB {H:Hp}: ∀{ds:List Dt} {xs:List V},ds.all Dt.flat=true->iy H ds xs->xs=ds.map Dt.v
 |[],_,_,h=>dJ.mp h
 |d :: ds,_,hf,h=>by
  obtain⟨v,r,rfl,h1,h2⟩:=bQ.mp h;rw[List.all_cons,Hj] at hf;rw[vB hf.2 h2];cases d with
  |int i=>rw[d9.mp h1]; rfl
  |str s=>rw[gO.mp h1]; rfl
  |bl b=>rw[qm.mp h1]; rfl
  |dW=>cases hf.1
  |lst _=>cases hf.1
  |tup _=>cases hf.1
def rV (H:Hp)(pd:Addr):bu->Prop
 | .hZ w dy l=> ∃pl,H pd=some (.tup [.str "ages",.str w,.int dy,.ref pl])/\H pl=some (.tup (l.map V.int))
 |d=>H pd=some (.tup (bu.vs d))
def EZ {H:Hp}{d:bu}{v:V}(h:Rp H d.dt v): ∃pd,v= .ref pd/\rV H pd d:=by
 cases d with
 |hZ w dy l=>
  obtain⟨a,xs,rfl,h1,h2⟩:=jB.mp h;obtain⟨v1,r1,rfl,e1,h2⟩:=bQ.mp h2;obtain⟨v2,r2,rfl,e2,h2⟩:=bQ.mp h2;obtain⟨v3,r3,rfl,e3,h2⟩:=bQ.mp h2;obtain⟨v4,r4,rfl,e4,h2⟩:=bQ.mp h2;obtain rfl:=dJ.mp h2;obtain rfl:=gO.mp e1;obtain rfl:=gO.mp e2;obtain rfl:=d9.mp e3;obtain⟨pl,ys,rfl,h4,h5⟩:=jB.mp e4;have e5:=vB (by rw[List.all_map]; exact List.all_eq_true.mpr fun _ _=>rfl) h5;rw[e5,fh] at h4;exact⟨a,rfl,pl,h1,h4⟩
 |_=>
  obtain⟨a,xs,rfl,h1,h2⟩:=jB.mp h;have e5:=vB (by rfl) h2;rw[e5] at h1;exact⟨a,rfl,h1⟩
def rV.mono {H H':Hp}{pd:Addr}{d:bu}(h:rV H pd d)(k:cA H H'):rV H' pd d:=by
 cases d with
 |hZ w dy l=>
  obtain⟨pl,h1,h2⟩:=h;exact⟨pl,k _ _ h1,k _ _ h2⟩
 |_=>exact k _ _ h
def lj {A:dO}{H H':Hp}{pb pk pw:Addr}{T:iD}{f:eA}(h:fB A H pb pk pw T f)(k: ∀a o,H a=some o->(∀ps,o≠ .mh ps)->H' a=some o):fB A H' pb pk pw T f:=by
 obtain⟨db,hb⟩:=h.obj;obtain⟨a9,k1,k2⟩:=h.kept;have kt:cA H H':=fun a xs e=>k _ _ e (fun _ z=>by cases z);exact⟨⟨db,k _ _ hb (fun _ z=>by cases z)⟩,⟨a9,k _ _ k1 (fun _ z=>by cases z),k2.mono kt⟩,EY h.wk (fun a xs e=>k _ _ e (fun _ z=>by cases z)) (fun a C dx fs _ e=>k _ _ e (fun _ z=>by cases z)) kt⟩
def qV {H H':Hp}{fp:List Addr}{a:Addr}{o:HO}(F:Frame fp H H')(ht: ∀t∈fp,∃ps,H t=some (.mh ps))(e:H a=some o)(n: ∀ps,o≠ .mh ps):H' a=some o:=F _ _ (fun z=>by
 obtain⟨ps,q⟩:=ht a z;rw[q] at e;exact n ps (aE e).symm) e
def L9 {d:bu}(h:d.tells=true):bu.word d≠"owed"/\bu.word d≠"free"/\bu.word d≠"ages"/\bu.word d≠"undo":=by
 cases d with
 |dF _ _ _ _=>show("bill":Str)≠"owed"/\("bill":Str)≠"free"/\("bill":Str)≠"ages"/\("bill":Str)≠"undo"; decide +kernel
 |pQ _ _ _=>show("pay":Str)≠"owed"/\("pay":Str)≠"free"/\("pay":Str)≠"ages"/\("pay":Str)≠"undo"; decide +kernel
 |note _ _ _=>show("note":Str)≠"owed"/\("note":Str)≠"free"/\("note":Str)≠"ages"/\("note":Str)≠"undo"; decide +kernel
 |set _ _ _=>show("set":Str)≠"owed"/\("set":Str)≠"free"/\("set":Str)≠"ages"/\("set":Str)≠"undo"; decide +kernel
 |fu _=>show("sweep":Str)≠"owed"/\("sweep":Str)≠"free"/\("sweep":Str)≠"ages"/\("sweep":Str)≠"undo"; decide +kernel
 |gF _=>cases h
 |ask _ _ _=>cases h
 |hZ _ _ _=>cases h
inductive vC (A:dO)(tB tC:Addr)(vs:List V)(H:Hp)(Q:VK)(E':XK):Prop
 |mk (pb pd pk pw:Addr)(T:iD)(f:eA)(n:Nat)(d:bu)(h1:vs=[.ref pb,.int n,.ref pd])(h2:fB A H pb pk pw T f)(h3:Good T n)(h4:n<=59)(h5:lh H tB)(h6:lR H tC)(h7:rV H pd d)(h8:d.ok)(h9: ∀v tV pV f' H',Frame (tB :: tC :: pb :: pk :: f.fp) H H'->lh H' tB->lR H' tC->fB A H' pb tV pV (fz T n d).2 f'->(∀x∈tV :: f'.fp,x∈pk :: f.fp∨H x=none)->zE H' (fun D=>H D=none/\D∉tV :: f'.fp) (fz T n d).1 v->Q v H'):vC A tB tC vs H Q E'
def qW:aO ["book","number","deed","kind","refusal"] ["book","number","deed"] (ay (top 35)):={}
def Cd (T:Txt K mg){A:dO}{tB tC:Addr}(G:jl K mg A)(DB:pU K mg "bills_in_order" (top 17) tB)(DC:pU K mg "credits_in_order" (top 18) tC)(iU:tB≠tC)(hnd:A.iL≠A.tooMuch)(KB:K.In base)(BM:BMain mg base):eQ P w K mg base "answer_of" 10 ["book","number","deed"] (vC A tB tC):=by
 have Pk:gJ (ma P w mg) P w K mg base A.book "undo" 9 ["self","number"] (DR A K tB tC):=Pj T G DB DC iU hnd KB BM;have Xp:gJ (ma P w mg) P w K mg base A.book "do" 8 ["self","number","deed"] (Pf A K tB tC):=Xl T G DB DC iU KB BM;have rP:eQ P w K mg base "owed_at" 5 ["work","who","day"] (zH A tB):=xV T G DB KB BM;have GY:eQ P w K mg base "free_at" 5 ["work","who","day"] (Dz A tC):=GK T G DC KB BM;have GZ:eQ P w K mg base "ages_at" 6 ["work","who","day","limits"] (DF A tB):=GL T G DB KB BM;refine T.A8.fA (k:=9) qW (fun f cM A' outer s H vs Q E hr h=>?_)
 ·obtain⟨pb,pd,pk,pw,TT,g,n,d,rfl,hB,hG,hn,jT,jx,hd,cm,k⟩:=h;have nd:=qW.nd;refine⟨_,(ah (sv 3 nd (xt (pv 2) aj))
(ah (bO (a0 cW (pv 3) aN (a7 _))
(au (a6 (fc rP hr (aa (jJ (pv 0)) (aa (xt (pv 2) aj) (aa (xt (pv 2) aj) aw))))))
bf)
(ah (bO (a0 cW (pv 3) aN (a7 _))
(au (a6 (fc GY hr (aa (jJ (pv 0)) (aa (xt (pv 2) aj) (aa (xt (pv 2) aj) aw))))))
bf)
(ah (bO (a0 cW (pv 3) aN (a7 _))
(au (a6 (fc GZ hr (aa (jJ (pv 0)) (aa (xt (pv 2) aj) (aa (xt (pv 2) aj) (aa (xt (pv 2) aj) aw)))))))
bf)
(au (F9 (i:=4) rfl rfl rfl nd rfl rfl rfl G.fG G.Dl (fun xe pn E hx=>(ah (bO (a0 cW (pv 3) aN (a7 _))
(au (a6 (mN Pk (hr.mono (by decide)) hx (pv 0) (aa (je (tH (K:=K) rfl) (pv 2) aj (fun _ _=>rfl)) aw))))
bf)
(au (a6 (mN Xp (hr.mono (by decide)) hx (pv 0) (aa (pv 1) (aa (pv 2) aw))))))))))))),?_⟩
  obtain⟨db,hb⟩:=hB.obj;have hW:=hB.wk;have JI: ∀t∈[tB,tC],∃ps,H t=some (.mh ps):=fun t z=>by
   simp only[List.mem_cons,List.not_mem_nil,or_false] at z;rcases z with rfl|rfl
   ·exact cJ jT
   ·exact cJ jx
  have big: ∀x∈[tB,tC],x∈tB :: tC :: pb :: pk :: g.fp:=fun x z=>by
   simp only[List.mem_cons,List.not_mem_nil,or_false] at z;rcases z with rfl|rfl <;> simp
  have Th: ∀a∈[tB],∀φ,H a≠some (.ext φ):=fun a ha φ e=>by
   obtain⟨ps,q⟩:=cJ jT;rw[ak.mp ha,q] at e;cases e
  have Xq: ∀a∈[tC],∀φ,H a≠some (.ext φ):=fun a ha φ e=>by
   obtain⟨ps,q⟩:=cJ jx;rw[ak.mp ha,q] at e;cases e
  obtain⟨a9,hk,hK⟩:=hB.kept;have MJ: ∀D,H D=none->D∉pk :: g.fp:=fun D e z=>by
   rcases av.mp z with z|z
   ·rw[z,hk] at e;cases e
   ·exact hW.new e z
  have wf:=hG.wf (by lia:n<=60);by_cases ht:d.tells=true
  ·have Fo:H pd=some (.tup (bu.vs d)):=by cases d <;> first|exact hd|cases ht
   obtain⟨r,er⟩:=tO (.inl ht);have Us:H pd=some (.tup (.str (bu.word d) :: r)):=by rw[← er]; exact Fo
   obtain⟨w1,w2,w3,w4⟩:=L9 ht;rw[vh ht] at k;refine⟨_,rfl,pd,_,_,.str (bu.word d),rfl,rfl,cv.of Us,JC _ _,?_⟩;refine⟨_,rfl,rfl,false,jo w1,bV ?_⟩;refine⟨_,rfl,rfl,false,jo w2,bV ?_⟩;refine⟨_,rfl,rfl,false,jo w3,bV ?_⟩;refine⟨_,rfl,rfl,false,jo w4,bV ⟨_,rfl,pb,db,_,rfl,hb,S8 _ _,_,rfl,_,rfl,pb,pd,pk,pw,TT,g,n,d,rfl,hB,hG,hn,jT,jx,Fo,ht,fun oj v f1 H1 e1 F1 jc jP MR hA=>?_,fun oj=>?_⟩⟩
   ·rw[aZ oj] at k;refine k v pk pw f1 H1 (dv F1 fun x z=>?_) jc jP MR (by rw[e1]; exact fun x hx=> .inl hx) (hA.keep (fun D xs o e=>⟨⟨o,by rw[e1]; exact MJ D o⟩,e⟩) fun _ _ e=>e);rcases av.mp z with z|z
    ·simp[z]
    ·rcases av.mp z with z|z
     ·simp[z]
     ·rcases av.mp z with z|z
      ·simp[z]
      ·simp[z]
   ·rw[aL oj] at k;intro C hC _ dx H1 s1 IV Ct;exact⟨C,dx,_,rfl,rfl,hC,Ct,k _ pk pw g H1 s1.frame (bL jT s1) (bL jx s1) (hB.same s1) (fun x hx=> .inl hx) rfl⟩
  cases d with
  |dF _ _ _ _=>exact absurd rfl ht
  |pQ _ _ _=>exact absurd rfl ht
  |note _ _ _=>exact absurd rfl ht
  |set _ _ _=>exact absurd rfl ht
  |fu _=>exact absurd rfl ht
  |ask o wh dy=>
   have hd:H pd=some (.tup (bu.vs (.ask o wh dy))):=hd;cases o with
   |true=>
    refine⟨_,rfl,pd,_,_,.str "owed",rfl,rfl,cv.of hd,rfl,?_⟩;refine⟨_,rfl,rfl,true,Ao _,fe ⟨_,rfl,pb,_,db,_,_,rfl,hb,G.eh,G.fH,qP _ _,_,rfl,pd,_,_,.str wh,rfl,rfl,cv.of hd,rfl,_,rfl,pd,_,_,.int dy,rfl,rfl,cv.of hd,rfl,pw,TT.bk,g,n,wh,dy,rfl,hW,wf,(by lia),jT,fun D ms H1 F1 jc nD hD hP=>?_⟩⟩;have F2:Frame [tB,tC] H H1:=dv F1 (by simp);exact k _ pk pw g H1 (dv F2 big) jc (fN jx F1 (by simpa using iU.symm) Th) (lj hB fun a o e z=>qV F2 JI e z) (fun x hx=> .inl hx) ⟨D,ms,rfl,⟨nD,MJ D nD⟩,hD,hP⟩
   |false=>
    refine⟨_,rfl,pd,_,_,.str "free",rfl,rfl,cv.of hd,rfl,?_⟩;refine⟨_,rfl,rfl,false,jo (show("free":Str)≠"owed" by decide +kernel),bV ?_⟩;refine⟨_,rfl,rfl,true,Ao _,fe ⟨_,rfl,pb,_,db,_,_,rfl,hb,G.eh,G.fH,qP _ _,_,rfl,pd,_,_,.str wh,rfl,rfl,cv.of hd,rfl,_,rfl,pd,_,_,.int dy,rfl,rfl,cv.of hd,rfl,pw,TT.bk,g,n,wh,dy,rfl,hW,wf,(by lia),jx,fun D ms H1 F1 jP nD hD hP=>?_⟩⟩;have F2:Frame [tB,tC] H H1:=dv F1 (by simp);exact k _ pk pw g H1 (dv F2 big) (fN jT F1 (by simpa using iU) Xq) jP (lj hB fun a o e z=>qV F2 JI e z) (fun x hx=> .inl hx) ⟨D,ms,rfl,⟨nD,MJ D nD⟩,hD,hP⟩
  |hZ wh dy cY=>
   obtain⟨pl,hd,gN⟩:=hd;refine⟨_,rfl,pd,_,_,.str "ages",rfl,rfl,cv.of hd,rfl,?_⟩;refine⟨_,rfl,rfl,false,jo (show("ages":Str)≠"owed" by decide +kernel),bV ?_⟩;refine⟨_,rfl,rfl,false,jo (show("ages":Str)≠"free" by decide +kernel),bV ?_⟩;refine⟨_,rfl,rfl,true,Ao _,fe ⟨_,rfl,pb,_,db,_,_,rfl,hb,G.eh,G.fH,qP _ _,_,rfl,pd,_,_,.str wh,rfl,rfl,cv.of hd,rfl,_,rfl,pd,_,_,.int dy,rfl,rfl,cv.of hd,rfl,_,rfl,pd,_,_,.ref pl,rfl,rfl,cv.of hd,rfl,pw,pl,TT.bk,g,n,wh,dy,cY,rfl,hW,wf,(by lia),jT,gN,cm.1,fun D H1 F1 jc nD hD=>?_⟩⟩;have F2:Frame [tB,tC] H H1:=dv F1 (by simp);exact k _ pk pw g H1 (dv F2 big) jc (fN jx F1 (by simpa using iU.symm) Th) (lj hB fun a o e z=>qV F2 JI e z) (fun x hx=> .inl hx) ⟨D,rfl,⟨nD,MJ D nD⟩,hD⟩
  |gF m=>
   have hd:H pd=some (.tup (bu.vs (.gF m))):=hd;refine⟨_,rfl,pd,_,_,.str "undo",rfl,rfl,cv.of hd,rfl,?_⟩;refine⟨_,rfl,rfl,false,jo (show("undo":Str)≠"owed" by decide +kernel),bV ?_⟩;refine⟨_,rfl,rfl,false,jo (show("undo":Str)≠"free" by decide +kernel),bV ?_⟩;refine⟨_,rfl,rfl,false,jo (show("undo":Str)≠"ages" by decide +kernel),bV ?_⟩;have Xr:fz TT n (.gF m)=if(TT.steps.filter (cH m)).length=TT.steps.length then(K9.txt "no setting",TT) else
     match cu (TT.steps.filter (cH m)) Bk.new with
     |none=>(.txt "needed",TT)
     |some S=>(.txt "undone",⟨TT.steps.filter (cH m),S⟩):=rfl
   refine⟨_,rfl,rfl,true,Ao _,fe ⟨_,rfl,pb,db,_,rfl,hb,L8 _ _,_,rfl,pd,_,_,.int m,rfl,rfl,cv.of hd,rfl,pb,pk,pw,TT,g,n,m,rfl,hB,hG,hn,jT,jx,fun hF S hS tV pV f' H1 F1 jc jP MR nk nf=>?_,fun hF hS=>?_,fun hF=>?_⟩⟩
   ·have Uq: ¬ (TT.steps.filter (cH m)).length=TT.steps.length:=fun z=>by
     rw[(pJ _ _).mp z] at hF;cases hF
    rw[Xr,aL Uq,hS] at k;refine k _ tV pV f' H1 (dv F1 (fun x z=>?_)) jc jP MR (fun x hx=> .inr ?_) rfl
    ·simp only[List.mem_cons,List.not_mem_nil,or_false] at z;rcases z with rfl|rfl|rfl <;> simp
    ·rcases av.mp hx with hx|hx
     ·rw[hx]; exact nk
     ·exact nf x hx
   ·have Uq: ¬ (TT.steps.filter (cH m)).length=TT.steps.length:=fun z=>by
     rw[(pJ _ _).mp z] at hF;cases hF
    rw[Xr,aL Uq,hS] at k;intro C dx H1 hC F1 jc jP IV Ct;exact⟨C,dx,_,rfl,rfl,hC,Ct,k _ pk pw g H1 (dv F1 big) jc jP (lj hB fun a o e z=>qV F1 JI e z) (fun x hx=> .inl hx) rfl⟩
   ·rw[Xr,aZ ((pJ _ _).mpr hF)] at k;intro C dx H1 hC F1 jc jP IV Ct;exact⟨C,dx,_,rfl,rfl,hC,Ct,k _ pk pw g H1 (dv F1 big) jc jP (lj hB fun a o e z=>qV F1 JI e z) (fun x hx=> .inl hx) rfl⟩
def ya (d:bu): ∀(l:List bu) (T:iD) (n:Nat),gG (l ++ [d]) T n=((gG l T n).1 ++ [(fz (gG l T n).2 ((n + l.length:Nat):Int) d).1],(fz (gG l T n).2 ((n + l.length:Nat):Int) d).2)
 |[],T,n=>rfl
 |e :: l,T,n=>by
  show((fz T n e).1 :: (gG (l ++ [d]) (fz T n e).2 (n + 1)).1,(gG (l ++ [d]) (fz T n e).2 (n + 1)).2)=_;rw[ya d l,show n + 1 + l.length=n + (e :: l).length by rw[bU]; lia];rfl
def yb {ds:List bu}{i:Nat}(hi:i < ds.length):gG (ds.take (i + 1)) iD.new 0=((gG (ds.take i) iD.new 0).1 ++ [(fz (gG (ds.take i) iD.new 0).2 (i:Int) ds[i]).1],(fz (gG (ds.take i) iD.new 0).2 (i:Int) ds[i]).2):=by
 rw[lV hi,ya,bo,Nat.zero_add,Nat.min_eq_left (c8 hi)]
def G0 {A:dO}{H:Hp}{pb pk pw pt:Addr}{T:iD}{f:eA}{ws:List V}{o:HO}(h:fB A H pb pk pw T f)(e:H pt=some (.lst ws))(n:pt∉f.fp):fB A (upd H pt o) pb pk pw T f:=by
 obtain⟨db,hb⟩:=h.obj;obtain⟨a9,k1,k2⟩:=h.kept;have kt:cA H (upd H pt o):=fY e;have ki: ∀{a C dx:Addr} {gs:List (Str×V)},H a=some (.ins C dx gs)->upd H pt o a=some (.ins C dx gs):=fun{a C dx gs} z=>by rw[az (lW z e (by intro q; cases q))]; exact z
 have kl: ∀p∈f.fp,∀xs,H p=some (.lst xs)->upd H pt o p=some (.lst xs):=fun p hp xs z=>by rw[az (fun(q:p=pt)=>n (q▸hp))]; exact z
 obtain⟨dw,hw⟩:=h.wk.obj;obtain⟨ms,m1,m2⟩:=h.wk.hm;have hW:=h.wk;exact⟨⟨db,ki hb⟩,⟨a9,by rw[az (lW k1 e (by intro q; cases q))]; exact k1,k2.mono kt⟩,
  ⟨⟨dw,ki hw⟩,kl _ (by simp[eA.fp]) _ hW.hb,kl _ (by simp[eA.fp]) _ hW.hc,kl _ (by simp[eA.fp]) _ hW.hl,kl _ (by simp[eA.fp]) _ hW.hf,⟨ms,kl _ (by simp[eA.fp]) _ m1,m2.mono kt⟩,hW.rb.keep fun _ _ _ z=>ki z,hW.rc.keep fun _ _ _ z=>ki z,hW.nd⟩⟩
def E1 {A:dO}{H:Hp}{pb pk pw tB tC a:Addr}{T:iD}{f:eA}(h:fB A H pb pk pw T f)(jT:lh H tB)(jx:lR H tC)(z:a∈tB :: tC :: pb :: pk :: f.fp):(∃ps,H a=some (.mh ps))∨(∃C dx fs,H a=some (.ins C dx fs))∨(∃a9,H a=some (.dK a9))∨(∃xs,H a=some (.lst xs))/\a∈f.fp:=by
 rcases av.mp z with rfl|z
 ·exact .inl (cJ jT)
 rcases av.mp z with rfl|z
 ·exact .inl (cJ jx)
 rcases av.mp z with rfl|z
 ·obtain⟨db,hb⟩:=h.obj;exact .inr (.inl ⟨_,_,_,hb⟩)
 rcases av.mp z with rfl|z
 ·obtain⟨a9,k1,_⟩:=h.kept;exact .inr (.inr (.inl ⟨_,k1⟩))
 ·exact .inr (.inr (.inr ⟨h.wk.lists a z,z⟩))
def JJ {A:dO}{H H':Hp}{pb pk pw tB tC:Addr}{T:iD}{f:eA}(h:fB A H pb pk pw T f)(jT:lh H tB)(jx:lR H tC)(F:Frame (tB :: tC :: pb :: pk :: f.fp) H H'):cA H H':=fun a xs e=>F _ _ (fun z=>by
 rcases E1 h jT jx z with⟨_,q⟩|⟨_,_,_,q⟩|⟨_,q⟩|⟨⟨_,q⟩,_⟩ <;> (rw[e] at q; cases q)) e
def DT {A:dO}{H H':Hp}{pb pk pw tB tC a:Addr}{T:iD}{f:eA}{xs:List V}(h:fB A H pb pk pw T f)(jT:lh H tB)(jx:lR H tC)(F:Frame (tB :: tC :: pb :: pk :: f.fp) H H')(e:H a=some (.lst xs))(n:a∉pk :: f.fp):H' a=some (.lst xs):=F _ _ (fun z=>by
 rcases E1 h jT jx z with⟨_,q⟩|⟨_,_,_,q⟩|⟨_,q⟩|⟨_,q⟩
 ·rw[e] at q; cases q
 ·rw[e] at q; cases q
 ·rw[e] at q; cases q
 ·exact n (aQ _ q)) e
inductive zY (A:dO)(tB tC:Addr)(vs:List V)(H:Hp)(Q:VK)(E':XK):Prop
 |mk (pb pk pw ps:Addr)(f:eA)(ds:List bu)(ms:List V)(h1:vs=[.ref pb,.ref ps])(h2:fB A H pb pk pw iD.new f)(h3:H ps=some (.lst ms))(h4:ps∉f.fp)(h5:gH H ds ms)(h6:ds.length<=60)(h7:(∀d∈ds,d.ok))(h8:lh H tB)(h9:lR H tC)(J2: ∀pt ws tV pV f' H',Frame (tB :: tC :: pb :: pk :: f.fp) H H'->lh H' tB->lR H' tC->H pt=none->H' pt=some (.lst ws)->Paired (zE H' (fun D=>D≠pt/\(D∈pk :: f.fp∨H D=none))) (gG ds iD.new 0).1 ws->fB A H' pb tV pV (gG ds iD.new 0).2 f'->Q (.ref pt) H'):zY A tB tC vs H Q E'
def oK:aO ["book","deeds","told","number","deed"] ["book","deeds"] (ay (top 34)):={}
def gH.get {H:Hp}{i:Nat}: ∀{ds:List bu} {ms:List V},gH H ds ms-> ∀{d:bu},ds[i]? =some d-> ∃v,ms[i]? =some v/\Rp H d.dt v:=fun{ds ms} h {d} e=>iy.get h (by rw[aD,e]; rfl)
def zZ (T:Txt K mg){A:dO}{tB tC:Addr}(G:jl K mg A)(DB:pU K mg "bills_in_order" (top 17) tB)(DC:pU K mg "credits_in_order" (top 18) tC)(iU:tB≠tC)(hnd:A.iL≠A.tooMuch)(KB:K.In base)(BM:BMain mg base):eQ P w K mg base "answers_in" 11 ["book","deeds"] (zY A tB tC):=by
 have Ce:eQ P w K mg base "answer_of" 10 ["book","number","deed"] (vC A tB tC):=Cd T G DB DC iU hnd KB BM;refine T.yO.fA (k:=10) oK (fun f cM A' outer s H vs Q E hr h=>?_)
 ·obtain⟨pb,pk,pw,ps,g,ds,ms,rfl,hB,mD,ET,JK,hl,cm,jT,jx,k⟩:=h;have nd:=oK.nd;refine⟨_,(ah (sv 2 nd (bP aw))
(ah (fk bN rfl (qk rfl T.iX (aa (pv 1) aw)) (gT (bW (gn 3 nd) (bW (gn 4 nd) gp)))
(au (bG (qx (pv 2) (fc Ce hr (aa (pv 0) (aa (pv 3) (aa (pv 4) aw))))))))
(au (a6 (pv 2))))),?_⟩
  refine⟨bq _,fun pt nt=>?_⟩;have s1:=aG.new (o:= .lst []) nt;have hlen:=gH.length JK;obtain⟨a9,hk,_⟩:=hB.kept;have ZF:ps∉pk :: g.fp:=fun z=>by
   rcases av.mp z with z|z
   ·rw[z,hk] at mD;cases mD
   ·exact ET z
  have ntk:pt∉pk :: g.fp:=fun z=>by
   rcases av.mp z with z|z
   ·rw[z,hk] at nt;cases nt
   ·exact hB.wk.new nt z
  refine⟨_,rfl,ps,rfl,⟨_,bF.of (s1 _ _ mD)⟩,?_⟩;refine mB (K:=K) (a:=ps) (xs:=ms) (fun i σ H2=> ∃(x3 x4:Option V) (tV pV:Addr) (f':eA) (ws:List V),σ=[some (.ref pb),some (.ref ps),some (.ref pt),x3,x4]/\Frame (tB :: tC :: pb :: pk :: g.fp) H H2/\H2 pt=some (.lst ws)/\fB A H2 pb tV pV (gG (ds.take i) iD.new 0).2 f'/\Good (gG (ds.take i) iD.new 0).2 i/\(∀x∈tV :: f'.fp,(x∈pk :: g.fp∨H x=none)/\x≠pt)/\lh H2 tB/\lR H2 tC/\Paired (zE H2 (fun D=>D≠pt/\D∉tV :: f'.fp/\(D∈pk :: g.fp∨H D=none))) (gG (ds.take i) iD.new 0).1 ws)
   ⟨none,none,pk,pw,g,[],rfl,s1.frame,ag,hB.same s1,Good.new,fun x hx=>⟨.inl hx,fun z=>ntk (z▸hx)⟩,bL jT s1,bL jx s1,.nil⟩ (fun i σ H2 _ ⟨_,_,_,_,_,_,_,f2,_⟩=>bF.of (DT hB jT jx f2 mD ZF)) ?_ ?_
  ·rintro i x p σ H2 hx hp ⟨x3,x4,tV,pV,f',ws,rfl,F2,Cv,ES,L0,UJ,i0,jZ,LX⟩;have hi:i < ds.length:=by have:=(ao.mp hx).1; lia
   have oB:=af hi;obtain⟨v',hv,Wj⟩:=gH.get JK oB;rw[hx] at hv;obtain rfl:x=v':=aE hv;obtain⟨pd,rfl,hd⟩:=EZ Wj;have hd2:=hd.mono (JJ hB jT jx F2);have Ma:=cm _ (bD hi);have UK:=yb hi;have oE:Good (fz (gG (ds.take i) iD.new 0).2 (i:Int) ds[i]).2 (i + 1):=L0.step ds[i];rw[UK];generalize ds[i]=d at hd2 Ma oE;have Cq:(gG (ds.take i) iD.new 0).1.length<=100:=by rw[sx,bo]; lia
   generalize gG (ds.take i) iD.new 0=R at ES L0 LX oE Cq;have s3:=aG.new (o:= .tup [.int i,.ref pd]) hp;refine⟨p,_,rfl,cv.of ag,rfl,_,_,rfl,_,_,rfl,rfl,?_⟩;have F3:=F2.cI s3;have JL:=s3 _ _ Cv;have JM:=ES.same s3;have qR:lh _ tB:=bL i0 s3;have qS:lR _ tC:=bL jZ s3;have MU:=hd2.mono s3.tk;have Xs:Paired (zE (upd H2 p (.tup [.int i,.ref pd])) (fun D=>D≠pt/\D∉tV :: f'.fp/\(D∈pk :: g.fp∨H D=none))) R.1 ws:=Paired.iH LX fun _ _ z=>z.keep (fun D xs o e=>⟨o,s3 _ _ e⟩) s3.tk;generalize upd H2 p (.tup [.int i,.ref pd])=H3 at F3 JL JM qR qS MU Xs;have El:=aS Xs;refine⟨_,rfl,.inl ⟨rfl,_,bF.of JL⟩,_,rfl,_,rfl,_,rfl,pb,pd,tV,pV,R.2,f',i,d,rfl,JM,L0,(by lia),qR,qS,MU,Ma,fun v ZG pw2 f2 H4 F4 pH pI hB4 ju hA4=>?_⟩;have Xt:pt∉tV :: f'.fp:=fun z=>(UJ pt z).2 rfl;have vv:=DT JM qR qS F4 JL Xt;have kt4:=JJ JM qR qS F4;refine⟨pt,ws,v,rfl,rfl,vv,bc (by lia),?_⟩;have frees: ∀x,H3 x=none->x∈pk :: g.fp∨H x=none:=fun x h1=>by
    by_cases q:x∈pk :: g.fp
    ·exact .inl q
    ·right;cases e:H x with
     |none=>rfl
     |some o=>
      exfalso;by_cases q2:x∈tB :: tC :: pb :: pk :: g.fp
      ·rcases av.mp q2 with q2|q2
       ·obtain⟨_,z⟩:=cJ qR;rw[← q2,h1] at z;cases z
       rcases av.mp q2 with q2|q2
       ·obtain⟨_,z⟩:=cJ qS;rw[← q2,h1] at z;cases z
       rcases av.mp q2 with q2|q2
       ·obtain⟨_,z⟩:=JM.obj;rw[← q2,h1] at z;cases z
       exact q q2
      ·have z:=F3 _ _ q2 e;rw[h1] at z;cases z
   have Ti: ∀x∈ZG :: f2.fp,(x∈pk :: g.fp∨H x=none)/\x≠pt:=fun x hx=>by
    rcases ju x hx with h1|h1
    ·exact UJ x h1
    ·exact⟨frees x h1,fun z=>by rw[z,JL] at h1; cases h1⟩
   have Xu:pt∉f2.fp:=fun z=>(Ti pt (aQ _ z)).2 rfl;have Tj: ∀a∈[pt],∀φ,H4 a≠some (.ext φ):=fun a ha φ e=>by
    rw[ak.mp ha,vv] at e;cases e
   have nB:tB∉[pt]:=fun z=>by
    obtain⟨_,q⟩:=cJ pH;rw[ak.mp z,vv] at q;cases q
   have nC:tC∉[pt]:=fun z=>by
    obtain⟨_,q⟩:=cJ pI;rw[ak.mp z,vv] at q;cases q
   have F34:Frame (tB :: tC :: pb :: pk :: g.fp) H (upd H4 pt (.lst (ws ++ [v]))):=(F3.trans F4 fun x hx=>by
    rcases av.mp hx with hx|hx
    ·exact .inl (by simp[hx])
    rcases av.mp hx with hx|hx
    ·exact .inl (by simp[hx])
    rcases av.mp hx with hx|hx
    ·exact .inl (by simp[hx])
    rcases(UJ x hx).1 with h1|h1
    ·exact .inl (by simp[List.mem_cons.mp h1])
    ·exact .inr h1).trans (Frame.upd (fp:=[pt]) (by simp)) (fun x hx=> .inr (by rw[List.mem_singleton.mp hx]; exact nt))
   refine⟨_,_,ZG,pw2,f2,ws ++ [v],rfl,F34,ag,G0 hB4 vv Xu,oE,Ti,fN pH (Frame.upd (fp:=[pt]) (by simp)) nB Tj,fN pI (Frame.upd (fp:=[pt]) (by simp)) nC Tj,?_⟩;have ZH:=fY (o:= .lst (ws ++ [v])) vv;refine cB (Paired.iH Xs fun _ _ z=>z.keep (fun D xs o e=>?_) (kt4.trans ZH)) (hA4.keep (fun D xs o e=>?_) ZH)
   ·have e4:=DT JM qR qS F4 e o.2.1;refine⟨⟨o.1,fun q=>?_,o.2.2⟩,by rw[az o.1]; exact e4⟩;rcases ju D q with h1|h1
    ·exact o.2.1 h1
    ·rw[e] at h1;cases h1
   ·have nD:D≠pt:=fun z=>by
     have:=o.1;rw[z,JL] at this;cases this
    exact⟨⟨nD,o.2,frees D o.1⟩,by rw[az nD]; exact e⟩
  ·rintro σ H2 ⟨x3,x4,tV,pV,f',ws,rfl,F2,Cv,ES,L0,UJ,i0,jZ,LX⟩;rw[← hlen,a8] at LX ES;refine⟨_,rfl,k pt ws tV pV f' H2 F2 i0 jZ nt Cv (Paired.iH LX fun _ _ z=>z.keep (fun D xs o e=>⟨⟨o.1,o.2.2⟩,e⟩) fun _ _ e=>e) ES⟩
inductive JN (K:Frag)(vs:List V)(H:Hp)(Q:VK)(E':XK):Prop
 |mk (a:Addr)(xs:List V)(m b:Int)(h1:vs=[.ref a,.int m,.int b])(h2:bF K H a xs)(h3:xs.length<=63)(h4:Q (.int m) H):JN K vs H Q E'
inductive z5 (vs:List V)(H:Hp)(Q:VK)(E':XK):Prop
 |mk (d v:_)(h1:vs=[v])(h2:Rp H d v)(h3:Q (.bl (isW d)) H):z5 vs H Q E'
def z6:aO ["_law_script","_law_most","_law_bound"] ["_law_script","_law_most","_law_bound"] (ay (top 43)):={}
def Cf (T:Txt K mg):eQ P w K mg base "_law_room" 1 ["_law_script","_law_most","_law_bound"] (JN K):=by
 refine T.Ba.fA (k:=0) z6 (fun f cM A outer s H vs Q E hr h=>?_)
 ·obtain⟨a,xs,m,b,rfl,hS,hz,k⟩:=h;refine⟨_,(ah (bO (a0 jd (pT T.eI (pv 0)) aj (a7 _))
   (au (a6 (pv 2)))
   bf)
   (au (a6 (pv 1)))),?_⟩
  refine⟨_,rfl,a,xs,rfl,.inl hS,_,_,rfl,rfl,_,rfl,?_⟩;refine cy (fun c=>?_) (fun c=>?_)
  ·have c':(63:Int) < (xs.length:Int):=aX c;lia
  ·exact⟨_,rfl,k⟩
def wY:aO ["_law_found"] ["_law_found"] (ay (top 45)):={}
def z7 (T:Txt K mg):eQ P w K mg base "_law_whole" 1 ["_law_found"] z5:=by
 refine T.yP.fA (k:=0) wY (fun f cM A outer s H vs Q E hr h=>?_)
 ·obtain⟨d,v,rfl,r,k⟩:=h;refine⟨_,(au (a6 (oU (wb T.dm T.xM boot_int (pv 0)) (mj (Nq (wb T.dm T.Ox boot_bool (pv 0))))))),?_⟩;refine⟨_,rfl,v,_,_,Yw d,rfl,r.ty,Ri d,_,rfl,?_⟩;cases d with
  |int i=>exact fe ⟨_,rfl,v,_,_,false,rfl,r.ty,MD (.int i),_,rfl,k⟩
  |bl i=>exact fe ⟨_,rfl,v,_,_,true,rfl,r.ty,MD (.bl i),_,rfl,k⟩
  |dW=>exact bV k
  |str x=>exact bV k
  |tup ds=>exact bV k
  |lst ds=>exact bV k
inductive E2 (vs:List V)(H:Hp)(Q:VK)(E':XK):Prop
 |mk (d v1 v2:_)(h1:vs=[v1,v2])(h2:Rp H d v1)(h3:Rp H d v2)(h4:d.size<=100000)(h5:d.plain=true)(h6: ∀H',aG H H'->Q (.bl true) H'):E2 vs H Q E'
def oM:aO ["_law_found","_law_due","_law_todo","_law_pair","_law_k"] ["_law_found","_law_due"] (ay (top 46)):={}
def z8 (T:Txt K mg):eQ P w K mg base "_law_alike" 2 ["_law_found","_law_due"] E2:=by
 have z9:eQ P w K mg base "_law_whole" 1 ["_law_found"] z5:=z7 T;refine T.yQ.fA (k:=1) oM (fun f cM A outer s H vs Q E hr h=>?_)
 ·obtain⟨d,v1,v2,rfl,r1,r2,hsz,gN,k⟩:=h;have hu:=j8 hr;have nd:=oM.nd;refine⟨_,(ah (sv 2 nd (bP (aa (dh (aa (pv 0) (aa (pv 1) aw))) aw)))
(ah (Ht bN (a0 (HZ hu) (pv 2) (bP aw) (a7 _))
(ah (sv 3 nd (NJ PySem.F.plainAttrs_list PySem.F.slot_list_pop PySem.F.type_list_pop NM (pv 2)))
(au (bO (fS (fm C4 (by rfl) T.dm boot_isinstance (aa (xt (pv 3) aj) (aa (dh (aa (yj (v:= .ty "list") (by rfl) T.rL boot_list rfl) (aa (yj (v:= .ty "tuple") (by rfl) T.tJ boot_tuple rfl) aw))) aw))))
(ah (bO (a0 r9 (wb T.dm T.rL boot_list (xt (pv 3) aj)) (wb T.dm T.rL boot_list (xt (pv 3) aj)) (a7 _))
(au (a6 mi))
bf)
(ah (bO (a0 r9 (wb T.dm T.tJ boot_tuple (xt (pv 3) aj)) (wb T.dm T.tJ boot_tuple (xt (pv 3) aj)) (a7 _))
(au (a6 mi))
bf)
(ah (bO (a0 r9 (pT T.eI (xt (pv 3) aj)) (pT T.eI (xt (pv 3) aj)) (a7 _))
(au (a6 mi))
bf)
(au (fk bN rfl (jq rfl T.nH (aa (pT T.eI (xt (pv 3) aj)) aw)) (gn 4 nd)
(au (bG (qx (pv 2) (dh (aa (je MC (xt (pv 3) aj) (pv 4) (fun _ _=>rfl)) (aa (je MC (xt (pv 3) aj) (pv 4) (fun _ _=>rfl)) aw)))))))))))
(au (bO (fS (wb T.dm T.EF boot_str (xt (pv 3) aj)))
(au (bO (PW.pt (pw_or (jy (fS (wb T.dm T.EF boot_str (xt (pv 3) aj)))) (pw_or1 (a0 r9 (xt (pv 3) aj) (xt (pv 3) aj) (a7 _)))))
(au (a6 mi))
bf))
(au (bO (PW.pt (pw_or (jy (fS (fc z9 hr (aa (xt (pv 3) aj) aw)))) (pw_or1 (a0 r9 (xt (pv 3) aj) (xt (pv 3) aj) (a7 _)))))
(au (a6 mi))
bf))))))))
(au (a6 mi)))),?_⟩
  refine⟨_,rfl,_,rfl,(by show 2<=sizeLine; decide),fun t0 nt0=>⟨(by show 1<=sizeLine; decide),fun l nl=>?_⟩⟩;have sA:aG H (upd H t0 (.tup [v1,v2])):=aG.new nt0;have ZI:H l=none:=sA.free nl;refine⟨fun m σ H2=> ∃td ds x3 x4,σ=[some v1,some v2,some (.ref l),x3,x4]/\aG H H2/\H2 l=some (.lst td)/\Paired (lG H H2) ds td/\Dt.fb ds=m/\m<=100000/\ ∀d∈ds,d.plain=true,
   ⟨d.size,[.ref t0],[d],none,none,rfl,sA.trans (aG.new nl),ag,.cons ⟨t0,v1,v2,rfl,Ic nl _ _ ag,r1,r2⟩ .nil,by simp[Dt.fb],hsz,by simpa using gN⟩,?_⟩
  rintro m σ H2 ⟨td,ds,x3,x4,rfl,s1,hl,hp,hm,Wz,Tn⟩;refine⟨_,rfl,bq _,fun p3 n3=>?_⟩;have s2:aG H2 (upd H2 p3 (.lst [])):=aG.new n3;refine⟨l,p3,td,rfl,rfl,bF.of (s2 _ _ hl),bF.of ag,_,rfl,?_⟩;generalize Qb:upd H2 p3 (.lst [])=H3 at s2 ⊢;have Hf:=s2 _ _ hl;cases htd:td with
  |nil=>exact bV (k _ (s1.trans s2))
  |cons z zs=>
  refine fe ⟨fun σ' H'=> ∃m',m' < m/\ ∃td ds x3 x4,σ'=[some v1,some v2,some (.ref l),x3,x4]/\aG H H'/\H' l=some (.lst td)/\Paired (lG H H') ds td/\Dt.fb ds=m'/\m'<=100000/\ ∀d∈ds,d.plain=true,fun _ _ h=>h,?_⟩;have iU:td.length - 1 < td.length:=by rw[htd]; simp
  obtain⟨y,hy⟩: ∃y,td[td.length - 1]? =some y:=⟨_,af iU⟩;obtain⟨Mb,c,Xv,⟨t,u1,u2,ey,ht,q1,q2⟩,R8⟩:=sj hp hy;subst ey;have RS:c.plain=true:=Tn c (by rw[Xv]; simp);have Ud: ∀d∈Mb,d.plain=true:=fun d hd=>Tn d (by rw[Xv]; simp[hd]);have hmm:Dt.fb Mb + c.size=m:=by
   have:=hm;rw[Xv,Dt.hX] at this;simpa[Dt.fb] using this
  refine⟨_,rfl,.inl ⟨rfl,_,bF.of Hf⟩,l,td,.ref t,rfl,rfl,Hf,hy,?_⟩;have ZJ:=s2 _ _ ht;have s4:aG H (upd H3 l (.lst td.dropLast)):=(s1.trans s2).cZ ZI;have Xw:upd H3 l (.lst td.dropLast) t=some (.tup [u1,u2]):=dE Hf _ _ ZJ;have UI:Paired (lG H (upd H3 l (.lst td.dropLast))) Mb td.dropLast:=Paired.iH R8 fun d v h=>h.mono fun b xs e=>dE Hf _ _ (s2 _ _ e);have To:upd H3 l (.lst td.dropLast) l=some (.lst td.dropLast):=ag;generalize upd H3 l (.lst td.dropLast)=H4 at s4 Xw UI To ⊢;clear Qb Hf ZJ s2 n3 hp hl ht;refine⟨_,rfl,t,_,_,u2,rfl,rfl,cv.of Xw,rfl,(by show 2<=sizeLine; decide),fun p5 n5=>?_⟩;have s5:aG H4 (upd H4 p5 (.tup [.ty "list",.ty "tuple"])):=aG.new n5;have q25:=Rp.mono (s4.trans s5) c q2;have q15:=Rp.mono (s4.trans s5) c q1;refine⟨u2,p5,["list","tuple"],_,isLT c,rfl,ag,q25.ty,NZ c,_,rfl,?_⟩;have Cz:=s5 _ _ Xw;have Xx:=s5 _ _ To;have Ql:Paired (lG H (upd H4 p5 (.tup [.ty "list",.ty "tuple"]))) Mb td.dropLast:=Paired.iH UI fun d v h=>h.mono fun b xs e=>s5 _ _ e;have s6:=s4.trans s5;generalize upd H4 p5 (.tup [.ty "list",.ty "tuple"])=H5 at s5 q25 q15 Cz Xx Ql s6 ⊢;clear s5 n5;refine cy (fun Tp=>?_) (fun Tp=>?_)
  ·
   obtain⟨a1,Xy,e1,S1,R1⟩:=En q1 Tp;obtain⟨a2,Pl,e2,S2,R2⟩:=En q2 Tp;refine⟨_,rfl,t,_,_,u1,rfl,rfl,cv.of Cz,rfl,u1,_,_,VH c,rfl,q15.ty,Ia c,_,rfl,t,_,_,u2,rfl,rfl,cv.of Cz,rfl,u2,_,_,VH c,rfl,q25.ty,Ia c,rfl,_,rfl,AW rfl ?_⟩;refine⟨_,rfl,t,_,_,u1,rfl,rfl,cv.of Cz,rfl,u1,_,_,VI c,rfl,q15.ty,Ib c,_,rfl,t,_,_,u2,rfl,rfl,cv.of Cz,rfl,u2,_,_,VI c,rfl,q25.ty,Ib c,rfl,_,rfl,AW rfl ?_⟩;have hlen:Xy.length=Pl.length:=by rw[← R1.length,← R2.length]
   refine⟨_,rfl,t,_,_,u1,rfl,rfl,cv.of Cz,rfl,a1,Xy,by rw[e1],S1 K H5 s6,_,rfl,t,_,_,u2,rfl,rfl,cv.of Cz,rfl,a2,Pl,by rw[e2],S2 K H5 s6,rfl,_,rfl,AW (by rw[hlen]) ?_⟩;have MA:Pl.length=(kids c).length:=R2.length.symm;have Y5:=FO Tp;have Hb:=Dt.ql (kids c);refine⟨_,rfl,t,_,_,u2,rfl,rfl,cv.of Cz,rfl,a2,Pl,by rw[e2],S2 K H5 s6,(Pl.length:Int),rfl,by lia,by lia,?_⟩;rw[eo];refine kJ (lo:=0) (n:=Pl.length) (fun i σ H6=> ∃M3 x4,σ=[some v1,some v2,some (.ref l),some (.ref t),x4]/\aG H H6/\H6 l=some (.lst M3)/\H6 t=some (.tup [u1,u2])/\Paired (lG H H6) (Mb ++ (kids c).take i) M3)
    ⟨td.dropLast,x4,rfl,s6,Xx,Cz,by simpa using Ql⟩ ?_ ?_
   ·rintro i σ H6 hi ⟨M3,x4',rfl,s7,g9,UL,MV⟩;have VL:i < (kids c).length:=by lia
    have g0:(kids c)[i]? =some (kids c)[i]:=af VL;obtain⟨w1,g1,z1⟩:=R1.get g0;obtain⟨w2,g2,z2⟩:=R2.get g0;have Qg:M3.length < sizeLine:=by
     have h1:=MV.length;have h2:=Dt.ql (Mb ++ (kids c).take i);have h3:=vX (kids c) i;rw[Dt.hX] at h2;exact iO (by lia)
    refine⟨_,rfl,.inl ⟨rfl,_,bF.of g9⟩,?_⟩;refine⟨_,rfl,t,_,_,u1,rfl,rfl,cv.of UL,rfl,_,rfl,a1,Xy,_,w1,e1,rfl,S1 K H6 s7,by rw[ly]; exact cz g1,_,rfl,t,_,_,u2,rfl,rfl,cv.of UL,rfl,_,rfl,a2,Pl,_,w2,e2,rfl,S2 K H6 s7,by rw[ly]; exact cz g2,(by show 2<=sizeLine; decide),fun p7 n7=>?_⟩;have s8:aG H6 (upd H6 p7 (.tup [w1,w2])):=aG.new n7;have Qj:=s8 _ _ g9;refine⟨l,M3,.ref p7,rfl,rfl,Qj,Qg,?_⟩;refine⟨M3 ++ [.ref p7],_,rfl,(s7.trans s8).cZ ZI,ag,dE Qj _ _ (s8 _ _ UL),?_⟩;rw[sV g0,← gi];exact cB (Paired.iH MV fun d v h=>h.mono fun b xs e=>dE Qj _ _ (s8 _ _ e)) ⟨p7,w1,w2,rfl,dE Qj _ _ ag,z1,z2⟩
   ·rintro σ H6 ⟨M3,x4',rfl,s7,g9,UL,MV⟩;rw[MA,a8] at MV;refine⟨Dt.fb (Mb ++ kids c),?_,M3,_,_,_,rfl,s7,g9,MV,rfl,?_,?_⟩
    ·rw[Dt.hX]; lia
    ·rw[Dt.hX]; lia
    ·intro d hd;rcases bb.mp hd with hd|hd
     ·exact Ud d hd
     ·exact C5 RS d hd
  ·
   have fin:(fun σ' H'=> ∃m',m' < m/\ ∃td ds x3 x4,σ'=[some v1,some v2,some (.ref l),x3,x4]/\aG H H'/\H' l=some (.lst td)/\Paired (lG H H') ds td/\Dt.fb ds=m'/\m'<=100000/\ ∀d∈ds,d.plain=true) [some v1,some v2,some (.ref l),some (.ref t),x4] H5:=by
    have:=c.size_pos;exact⟨Dt.fb Mb,by lia,_,Mb,_,_,rfl,s6,Xx,Ql,rfl,by lia,Ud⟩
   refine⟨_,rfl,t,_,_,u2,rfl,rfl,cv.of Cz,rfl,u2,_,_,T2 c,rfl,q25.ty,xF c,_,rfl,?_⟩;refine cy (fun hS=>?_) (fun hS=>?_)
   ·have ec: ∃x,c= .str x:=by cases c <;> first|exact⟨_,rfl⟩|cases hS
    obtain⟨x,rfl⟩:=ec;obtain rfl:=gO.mp q1;obtain rfl:=gO.mp q2;refine⟨_,rfl,t,_,_,_,rfl,rfl,cv.of Cz,rfl,_,_,_,true,rfl,l8.str x,xF (.str x),_,rfl,bV ?_⟩;refine⟨_,rfl,t,_,_,_,rfl,rfl,cv.of Cz,rfl,_,rfl,t,_,_,_,rfl,rfl,cv.of Cz,rfl,rfl,_,rfl,AW rfl ?_⟩;exact fin
   ·have ec: ∃x,c= .int x:=by cases c <;> first|exact⟨_,rfl⟩|exact absurd rfl hS|exact absurd rfl Tp|cases RS
    obtain⟨x,rfl⟩:=ec;obtain rfl:=d9.mp q1;obtain rfl:=d9.mp q2;refine⟨_,rfl,t,_,_,_,rfl,rfl,cv.of Cz,rfl,.int x,_,rfl,d9.mpr rfl,_,rfl,bV ?_⟩;refine⟨_,rfl,t,_,_,_,rfl,rfl,cv.of Cz,rfl,_,rfl,t,_,_,_,rfl,rfl,cv.of Cz,rfl,rfl,_,rfl,AW rfl ?_⟩;exact fin
inductive vD (K:Frag)(vs:List V)(H:Hp)(Q:VK)(E':XK):Prop
 |mk (po:Addr)(os:List Str)(aK:Str)(cell i:Int)(h1:vs=[.ref po,.str aK,.int cell,.int i])(h2:bF K H po (os.map V.str))(h3:os.length<=1000)(h4: ∀(n:Int) (H':Hp),aG H H'->Q (.int n) H'):vD K vs H Q E'
def ni:aO ["_law_owners","_law_who","_law_cell","_law_k","_law_rest","_law_number","_law_spot","_law_one"] ["_law_owners","_law_who","_law_cell","_law_k"] (ay (top 49)):={}
def wZ (T:Txt K mg):eQ P w K mg base "_law_chosen" 1 ["_law_owners","_law_who","_law_cell","_law_k"] (vD K):=by
 refine T.wq.fA (k:=0) ni (fun f cM A outer s H vs Q E hr h=>?_)
 ·obtain⟨po,os,aK,cell,i,rfl,hS,ho,k⟩:=h;have nd:=ni.nd;refine⟨_,(ah (sv 4 nd (aR jj (pv 2) aj))
(ah (sv 5 nd (aR cf (aR dB (aR jj (pv 4) aj) (pv 3)) (aR dB (pT T.eI (pv 0)) aj)))
(ah (fk bN rfl (jq rfl T.nH (aa (pT T.eI (pv 0)) aw)) (gn 6 nd)
(ah (sv 7 nd (aR cf (aR dB (pv 5) (pv 6)) (pT T.eI (pv 0))))
(au (bO (PW.pt (pw_and (a0 cW (xl (pv 0) (pv 7)) (pv 1) (a7 _)) (pw_and1 (a0 jd (aR cf (pv 2) aj) aj (a7 _)))))
(au (a6 (pv 7)))
bf))))
(ah (bO (a0 cW (aR cf (pv 2) aj) aj (a7 _))
(au (sv 5 nd (xl (bP (aa (ou kr aj) (aa (aR ja aj aj) (aa (aR eK (ou kr aj) (aR cf (pv 4) (aR ja aj aj))) aw)))) (aR cf (pv 4) aj))))
bf)
(au (a6 (pv 5))))))),?_⟩
  refine⟨_,rfl,_,_,rfl,rfl,⟨by decide,by decide⟩,?_⟩;refine⟨_,rfl,_,_,rfl,rfl,⟨by decide,by decide⟩,_,rfl,_,_,rfl,rfl,_,rfl,po,_,rfl,.inl hS,_,_,rfl,rfl,_,_,rfl,rfl,(by show(0:Int) < ((os.map V.str).length:Int) + 1; lia),?_⟩;generalize Xz:(cell / 16 / 2 + i) % (((os.map V.str).length:Int) + 1)=num;show _;refine⟨_,rfl,po,_,rfl,.inl hS,((os.map V.str).length:Int),rfl,by lia,by rw[ae]; lia,?_⟩;rw[eo];refine kJ (lo:=0) (n:=(os.map V.str).length) (fun j σ H2=> ∃x6 x7,σ=[some (.ref po),some (.str aK),some (.int cell),some (.int i),some (.int (cell / 16)),some (.int num),x6,x7]/\H2=H)
   ⟨none,none,by rw[← Xz]; rfl,rfl⟩ ?_ ?_
  ·rintro j σ H2 hj ⟨x6,x7,rfl,rfl⟩;have hm:0 < ((os.map V.str).length:Int):=by lia
   obtain⟨y,_,hy⟩:=ke (g:=V.str) (xs:=os) (m:=((os.map V.str).length:Int)) (x:=num + (0 + (j:Int))) (by rw[ae]) hm;refine⟨_,rfl,_,rfl,_,_,rfl,rfl,_,rfl,po,_,rfl,.inl hS,_,_,rfl,rfl,hm,?_⟩;refine⟨_,rfl,_,rfl,po,_,_,.str y,rfl,rfl,hS,hy,_,rfl,rfl,_,rfl,cy (fun c=>?_) (fun c=>bV ⟨_,_,rfl,rfl⟩)⟩;refine⟨_,rfl,_,_,rfl,rfl,(by show(0:Int) < 5; decide),_,_,rfl,rfl,_,rfl,cy (fun c=>?_) (fun c=>⟨_,_,rfl,rfl⟩)⟩;exact⟨_,rfl,k _ _ (aG.refl _)⟩
  ·rintro σ H2 ⟨x6,x7,rfl,rfl⟩;refine⟨_,rfl,_,_,rfl,rfl,(by show(0:Int) < 47; decide),rfl,_,rfl,cy (fun c=>?_) (fun c=>⟨_,rfl,k _ _ (aG.refl _)⟩)⟩;refine⟨_,rfl,_,_,rfl,rfl,⟨by decide,by decide,by decide⟩,_,rfl,_,rfl,_,_,rfl,rfl,⟨by decide,by decide,by decide⟩,_,_,rfl,rfl,(by show(0:Int) < _; decide +kernel),_,_,rfl,rfl,(by show 3<=sizeLine; decide),fun p4 n4=>?_⟩;obtain⟨y,_,hy⟩:=Y4 (-1) (10 ^ (9:Int).toNat) (-2 - cell / 16 % 10 ^ (60:Int).toNat) (cell / 16);refine⟨_,rfl,_,_,rfl,rfl,(by show(0:Int) < 3; decide),p4,_,_,.int y,rfl,rfl,bF.of ag,hy,?_⟩;exact⟨_,rfl,k _ _ (aG.new n4)⟩
inductive Aa (vs:List V)(H:Hp)(Q:VK)(E':XK):Prop
 |mk (c:Int)(h1:vs=[.int c])(h2: ∀r:Int,(r=0∨r=1)->Q (.int r) H):Aa vs H Q E'
def w6:aO ["_law_cell"] ["_law_cell"] (ay (top 50)):={}
def Ab (T:Txt K mg):eQ P w K mg base "_law_hasty" 1 ["_law_cell"] Aa:=by
 refine T.yR.fA (k:=0) w6 (fun f cM A outer s H vs Q E hr h=>?_)
 ·obtain⟨c,rfl,k⟩:=h;refine⟨_,(au (a6 (fO kK (by rfl) T.xM boot_int (aa (QC (eG cW (aR cf (pv 0) aj) aj (a7 _)) (mj (oU (eG cW (aR cf (pv 0) aj) aj (a7 _)) (mj (eG cW (aR cf (aR jj (pv 0) aj) aj) aj (a7 _)))))) aw)))),?_⟩;have fin: ∀b:Bool,Q (.int (if b then 1 else 0)) H:=fun b=>k _ (by cases b <;> simp);refine⟨_,rfl,_,_,rfl,rfl,(by show(0:Int) < 29; decide),rfl,_,rfl,cy (fun c=> .inr ⟨_,rfl,fin _⟩) (fun c=>?_)⟩;refine⟨_,rfl,_,_,rfl,rfl,(by show(0:Int) < 41; decide),rfl,_,rfl,cy (fun c=>?_) (fun c=> .inr ⟨_,rfl,fin _⟩)⟩;exact⟨_,rfl,_,_,rfl,rfl,⟨by decide,by decide⟩,_,_,rfl,rfl,(by show(0:Int) < 2; decide),rfl,.inr ⟨_,rfl,fin _⟩⟩
inductive Ac (K:Frag)(vs:List V)(H:Hp)(Q:VK)(E':XK):Prop
 |mk (a:Addr)(cs:List Int)(i:Nat)(h1:vs=[.ref a,.int i])(h2:bF K H a (cs.map V.int))(h3:i < cs.length)(h4: ∀n:Int,Q (.int n) H):Ac K vs H Q E'
def nj:aO ["_law_cells","_law_k","_law_days"] ["_law_cells","_law_k"] (ay (top 51)):={}
def w9 (T:Txt K mg):eQ P w K mg base "_law_due_in" 2 ["_law_cells","_law_k"] (Ac K):=by
 have Ad:eQ P w K mg base "_law_hasty" 1 ["_law_cell"] Aa:=Ab T;refine T.wt.fA (k:=1) nj (fun f cM A outer s H vs Q E hr h=>?_)
 ·obtain⟨a,cs,i,rfl,hS,hi,k⟩:=h;have nd:=nj.nd;refine⟨_,(ah (sv 2 nd (aR cf (aR dB (xl (pv 0) (aR cf (aR dB (pv 1) aj) (pT T.eI (pv 0)))) (pv 1)) aj))
(jk (bO (a0 cW (aR cf (xl (pv 0) (pv 1)) aj) aj (a7 _))
(au (sv 2 nd (aR cf (xl (pv 0) (aR cf (aR dB (pv 1) aj) (pT T.eI (pv 0)))) (aR ja aj aj))))
bf)
(au (a6 (aR eK (pv 2) (aR lA (aR dB (pv 2) aj) (fc Ad hr (aa (xl (pv 0) (pv 1)) aw)))))))),?_⟩
  have hm:0 < ((cs.map V.int).length:Int):=by rw[ae]; lia
  obtain⟨y,_,hy⟩:=ke (g:=V.int) (xs:=cs) (m:=((cs.map V.int).length:Int)) (x:=(i:Int) + 1) (by rw[ae]) hm;refine⟨_,rfl,_,rfl,_,_,rfl,rfl,_,rfl,a,_,rfl,.inl hS,_,_,rfl,rfl,hm,a,_,_,.int y,rfl,rfl,hS,hy,_,rfl,_,_,rfl,rfl,_,_,rfl,rfl,(by show(0:Int) < 9; decide),?_⟩;refine⟨fun σ' H'=>H'=H/\ ∃d:Int,σ'=[some (.ref a),some (.int i),some (.int d)],?_,?_⟩
  ·refine⟨_,rfl,_,rfl,a,_,_,_,rfl,rfl,hS,mO hi,_,_,rfl,rfl,(by show(0:Int) < 13; decide),rfl,_,rfl,cy (fun c=>?_) (fun c=>⟨rfl,_,rfl⟩)⟩;refine⟨_,rfl,_,rfl,_,_,rfl,rfl,_,rfl,a,_,rfl,.inl hS,_,_,rfl,rfl,hm,a,_,_,.int y,rfl,rfl,hS,hy,_,_,rfl,rfl,⟨by decide,by decide,by decide⟩,_,_,rfl,rfl,(by show(0:Int) < _; decide +kernel),?_⟩;exact⟨rfl,_,rfl⟩
  rintro σ' H' ⟨rfl,d,rfl⟩;refine⟨_,rfl,_,rfl,_,_,rfl,rfl,_,rfl,_,rfl,a,_,_,_,rfl,rfl,hS,mO hi,_,rfl,fun r XA=>?_⟩;exact⟨_,_,rfl,rfl,.inr (by rcases XA with rfl|rfl <;> exact⟨by decide,by decide⟩),_,_,rfl,rfl,k _⟩
def tq (H:Hp)(a pm lp:Addr)(i:Nat)(σ:L2.St)(H2:Hp):Prop:=
 ∃(pb ph:Addr) (bs hs:List Str) (sp:List Int) (ds:List bu) (ms:List V) (x5 x6 x7 x8 x9 B0 GR JO Mc Kk JP JQ:Option V),σ=[some (.ref a),some (.ref pm),some (.ref pb),some (.ref ph),some (.ref lp),x5,x6,x7,x8,x9,B0,GR,JO,Mc,Kk,JP,JQ]/\aG H H2/\
  H2 pm=some (.lst ms)/\gH H2 ds ms/\ds.length=i/\(∀d∈ds,d.ok)/\H2 pb=some (.lst (bs.map V.str))/\bs.length<=i/\H2 ph=some (.lst (hs.map V.str))/\hs.length<=i/\H2 lp=some (.lst (sp.map V.int))/\sp.length<=i/\pb≠pm/\pb≠lp/\ph≠pm/\ph≠lp
def tq.mk' {H:Hp}{a pm lp pb ph:Addr}{i:Nat}{H4 H6:Hp}{bs hs:List Str}{sp:List Int}{ds:List bu}{d:bu}{ms:List V}{p8:Addr}{x5 x6 x7 x8 x9 B0 GR JO Mc Kk JP JQ:Option V}
  (hR:gH H4 ds ms) (hl:ds.length=i) (cm: ∀d∈ds,d.ok) (kp:cA H4 H6) (s6:aG H H6) (hM:H6 pm=some (.lst (ms ++ [.ref p8]))) (hd:Rp H6 d.dt (.ref p8)) (hdo:d.ok)
  (hb:H6 pb=some (.lst (bs.map V.str))) (LK:bs.length<=i + 1) (hh:H6 ph=some (.lst (hs.map V.str))) (ZK:hs.length<=i + 1) (K2:H6 lp=some (.lst (sp.map V.int))) (Qg:sp.length<=i + 1)
  (n1:pb≠pm) (n2:pb≠lp) (n3:ph≠pm) (n4:ph≠lp):
  tq H a pm lp (i + 1) [some (.ref a),some (.ref pm),some (.ref pb),some (.ref ph),some (.ref lp),x5,x6,x7,x8,x9,B0,GR,JO,Mc,Kk,JP,JQ] H6:=by
 refine⟨pb,ph,bs,hs,sp,ds ++ [d],ms ++ [.ref p8],x5,x6,x7,x8,x9,B0,GR,JO,Mc,Kk,JP,JQ,rfl,s6,hM,(hR.mono kp).snoc hd,by rw[aF,hl]; rfl,fun d' Fo=>?_,hb,LK,hh,ZK,K2,Qg,n1,n2,n3,n4⟩;rcases bb.mp Fo with h|h
 ·exact cm d' h
 ·rw[ak.mp h]; exact hdo
def cY (r:Int)(j:Nat):List Int:=(List.range j).map fun(t:Nat)=>1 + r % 9 + (0 + (t:Int)) * (2 + r % 30)
def Cg (r:Int)(j:Nat):(cY r j).length=j:=by unfold cY; rw[List.length_map,List.length_range]
def Md {w:Str}{d:Int}(r:Int)(j:Nat)(hj:j<=11):(bu.hZ w d (cY r j)).ok:=by
 have h9:=jX r (show(9:Int)≠0 by decide);have ZL:=jX r (show(30:Int)≠0 by decide);refine⟨by rw[Cg]; exact hj,?_,fun x hx=>?_⟩
 ·unfold cY;rw[rh];refine List.pairwise_lt_range.imp fun{a b} G9=>?_;have:(0 + (a:Int)) * (2 + r % 30) < (0 + (b:Int)) * (2 + r % 30):=Int.mul_lt_mul_of_pos_right (by lia) (by lia);lia
 ·unfold cY at hx;obtain⟨t,_,rfl⟩:=bE.mp hx;have:0<=(0 + (t:Int)) * (2 + r % 30):=Int.mul_nonneg (by lia) (by lia);lia
def Tq (x y:Int)(b:Bool):True/\tF [V.int x,V.int y] (if b=true then 1 else 0)=some (V.int (if b=true then y else x)):=⟨trivial,by cases b <;> rfl⟩
def M4 {H H4:Hp}{pm p8 lp pb ph:Addr}{ms xs b' h' s':List V}(nm:H pm=none)(s4:aG H H4)(qQ:H4 pm=some (.lst ms))(n8:H4 p8=none)(n1:pb≠pm)(n3:ph≠pm)(E3:lp≠pm)
  (zX:H4 pb=some (.lst b')) (Hg:H4 ph=some (.lst h')) (nu:H4 lp=some (.lst s')):
  cA H4 (upd (upd H4 p8 (.tup xs)) pm (.lst (ms ++ [.ref p8])))/\aG H (upd (upd H4 p8 (.tup xs)) pm (.lst (ms ++ [.ref p8])))/\upd (upd H4 p8 (.tup xs)) pm (.lst (ms ++ [.ref p8])) pm=some (.lst (ms ++ [.ref p8]))/\
  upd (upd H4 p8 (.tup xs)) pm (.lst (ms ++ [.ref p8])) p8=some (.tup xs)/\upd (upd H4 p8 (.tup xs)) pm (.lst (ms ++ [.ref p8])) pb=some (.lst b')/\upd (upd H4 p8 (.tup xs)) pm (.lst (ms ++ [.ref p8])) ph=some (.lst h')/\
  upd (upd H4 p8 (.tup xs)) pm (.lst (ms ++ [.ref p8])) lp=some (.lst s'):=by
 have s8:=aG.new (o:= .tup xs) n8;refine⟨s8.tk.trans (fY (s8 _ _ qQ)),(s4.trans s8).cZ nm,ag,dE (s8 _ _ qQ) _ _ ag,?_,?_,?_⟩
 ·rw[az n1]; exact s8 _ _ zX
 ·rw[az n3]; exact s8 _ _ Hg
 ·rw[az E3]; exact s8 _ _ nu
def Tr {H H4:Hp}{pm lp pb ph:Addr}{ms b' h':List V}{sp:List Int}{x:Int}(UM:H lp=none)(s4:aG H H4)(qQ:H4 pm=some (.lst ms))(n2:pb≠lp)(n4:ph≠lp)(E3:lp≠pm)
  (zX:H4 pb=some (.lst b')) (Hg:H4 ph=some (.lst h')) (nu:H4 lp=some (.lst (sp.map V.int))):
  cA H4 (upd H4 lp (.lst (sp.map V.int ++ [.int x])))/\aG H (upd H4 lp (.lst (sp.map V.int ++ [.int x])))/\upd H4 lp (.lst (sp.map V.int ++ [.int x])) pm=some (.lst ms)/\upd H4 lp (.lst (sp.map V.int ++ [.int x])) pb=some (.lst b')/\
  upd H4 lp (.lst (sp.map V.int ++ [.int x])) ph=some (.lst h')/\upd H4 lp (.lst (sp.map V.int ++ [.int x])) lp=some (.lst ((sp ++ [x]).map V.int)):=by
 refine⟨fY nu,s4.cZ UM,?_,?_,?_,?_⟩
 ·rw[az E3.symm]; exact qQ
 ·rw[az n2]; exact zX
 ·rw[az n4]; exact Hg
 ·rw[ag,aM]; rfl
def gK {H:Hp}{d:Dt}{v:V}{ds:List Dt}{vs:List V}(h:Rp H d v)(r:iy H ds vs):iy H (d :: ds) (v :: vs):=bQ.mpr ⟨_,_,rfl,h,r⟩
def rI {H:Hp}(i:Int):Rp H (.int i) (.int i):=d9.mpr rfl
def rS {H:Hp}(x:Str):Rp H (.str x) (.str x):=gO.mpr rfl
def r0 {H:Hp}:iy H [] []:=dJ.mpr rfl
def E4 {H9:Hp}{p9 pb:Addr}{bs:List Str}{aK:Str}{b:Bool}{Q:VK}(h9:H9 p9=some (.lst [V.str aK]))(hb:H9 pb=some (.lst (bs.map V.str)))(hl:bs.length<=100)
  (q: ∀(JR:Addr) (Ts:Hp) (n:Nat),n<=1->aG H9 Ts->H9 JR=none->Ts JR=some (.lst ((bs ++ List.replicate n aK).map V.str))->Q (.ref JR) Ts):
  QW (.ref p9) (.int (if b=true then 1 else 0)) H9 (fun v H=>QU (.ref pb) v H Q):=by
 have hk:(if b=true then(1:Int) else 0).toNat<=1:=by split <;> decide
 refine⟨p9,_,_,rfl,rfl,h9,(by split <;> decide),(by split <;> decide),(by show 1 * _<=sizeLine; split <;> decide),fun Qm XB=>?_⟩;generalize (if b=true then(1:Int) else 0).toNat=n at hk ⊢;rw[Lb];have BN:=aG.new (o:= .lst ((List.replicate n aK).map V.str)) XB;refine⟨pb,Qm,_,_,rfl,rfl,BN _ _ hb,ag,?_,fun JR Hh=>?_⟩
 ·refine c8 (bc ?_);rw[ae,ae,iA];lia
 ·rw[← aM];exact q JR _ n hk (BN.trans (aG.new Hh)) (BN.free Hh) ag
inductive E5 (K:Frag)(vs:List V)(H:Hp)(Q:VK)(E':XK):Prop
 |mk (a:Addr)(cs:List Int)(h1:vs=[.ref a])(h2:bF K H a (cs.map V.int))(h3:cs.length<=100)(h4: ∀(pd:Addr) (ds:List bu) (ms:List V) (H':Hp),aG H H'->H' pd=some (.lst ms)->gH H' ds ms->ds.length=cs.length->(∀d∈ds,d.ok)->Q (.ref pd) H'):E5 K vs H Q E'
def oN:aO ["_law_cells","_law_made","_law_bills","_law_held","_law_spots","_law_k","_law_rest","_law_pick","_law_who","_law_day","_law_amount","_law_bill","_law_due","_law_part","_law_credit","_law_menu","_law_limits"] ["_law_cells"] (ay (top 52)):={}
def Ae (T:Txt K mg):eQ P w K mg base "_law_deeds" 3 ["_law_cells"] (E5 K):=by
 have xa:eQ P w K mg base "_law_penned" 2 ["_law_cells","_law_k"] (uZ K):=wB T;have oO:eQ P w K mg base "_law_chosen" 1 ["_law_owners","_law_who","_law_cell","_law_k"] (vD K):=wZ T;have xc:eQ P w K mg base "_law_due_in" 2 ["_law_cells","_law_k"] (Ac K):=w9 T;refine T.yS.fA (k:=2) oN (fun f cM A outer s H vs Q E hr h=>?_)
 ·obtain⟨a,cs,rfl,hS,hc,k⟩:=h;have nd:=oN.nd;refine⟨_,(ah (sv 1 nd (bP aw))
(ah (sv 2 nd (bP aw))
(ah (sv 3 nd (bP aw))
(ah (sv 4 nd (bP aw))
(ah (fk bN rfl (jq rfl T.nH (aa (pT T.eI (pv 0)) aw)) (gn 5 nd)
(ah (sv 6 nd (aR cf (aR jj (xl (pv 0) (pv 5)) aj) (aR ja aj aj)))
(ah (sv 7 nd (aR cf (aR dB (xl (pv 0) (pv 5)) (aR lA aj (pv 5))) aj))
(ah (kq (fc xa hr (aa (pv 0) (aa (pv 5) aw))) (gT (bW (gn 8 nd) (bW (gn 9 nd) (bW (gn 10 nd) gp)))))
(ah (sv 11 nd (fc oO hr (aa (pv 2) (aa (pv 8) (aa (xl (pv 0) (pv 5)) (aa (pv 5) aw))))))
(au (bO (a0 jA (pv 7) aj (a7 _))
(ah (sv 12 nd (aR dB (pv 9) (fc xc hr (aa (pv 0) (aa (pv 5) aw)))))
(ah (bG (qx (pv 1) (dh (aa aN (aa (pv 8) (aa (pv 9) (aa (pv 12) (aa (pv 10) aw))))))))
(au (sv 2 nd (aR lD (pv 2) (aR CY (bP (aa (pv 8) aw)) (fO kK (by rfl) T.xM boot_int (aa (oU (eG jd (pv 10) aj (a7 _)) (mj (eG AH (pv 12) (pv 9) (a7 _)))) aw))))))))
(au (bO (a0 jA (pv 7) aj (a7 _))
(ah (bG (qx (pv 1) (dh (aa aN (aa (pv 8) (aa (pv 9) (aa (pv 10) aw)))))))
(au (sv 3 nd (aR lD (pv 3) (aR CY (bP (aa (pv 8) aw)) (fO kK (by rfl) T.xM boot_int (aa (eG jd (pv 10) aj (a7 _)) aw)))))))
(au (bO (a0 cW (pv 7) aj (a7 _))
(ah (bG (qx (pv 1) (dh (aa aN (aa (pv 11) (aa (pv 9) (aa (pv 10) aw)))))))
(au (bO (PW.pt (pw_and (a0 xm aj (pv 11) (a7 _)) (pw_and (a0 jA (pv 11) (pT T.eI (pv 2)) (a7 _)) (pw_and1 (a0 jd (pv 10) aj (a7 _))))))
(au (sv 3 nd (aR lD (pv 3) (bP (aa (xl (pv 2) (pv 11)) aw)))))
bf)))
(au (bO (a0 jA (pv 7) aj (a7 _))
(ah (bG (qx (pv 4) (pv 5)))
(jk (sv 13 nd (xl (bP (aa (pv 10) (aa (aR dB aj (aR cf (pv 6) aj)) aw))) (fO kK (by rfl) T.xM boot_int (aa (oU (eG jd (pv 10) aj (a7 _)) (mj (eG jd (aR cf (pv 6) aj) aj (a7 _)))) aw))))
(ah (sv 14 nd (fc oO hr (aa (pv 3) (aa (pv 8) (aa (xl (pv 0) (pv 5)) (aa (aR dB (pv 5) aj) aw))))))
(jk (bO (a0 cW (aR cf (xl (pv 0) (pv 5)) aj) aj (a7 _))
(au (sv 14 nd (aR cf (aR jj (pv 6) aj) (aR dB (pT T.eI (pv 3)) aj))))
bf)
(au (bG (qx (pv 1) (dh (aa aN (aa (pv 14) (aa (pv 11) (aa (pv 13) aw))))))))))))
(au (bO (a0 jA (pv 7) aj (a7 _))
(ah (bG (qx (pv 4) (pv 5)))
(au (bG (qx (pv 1) (dh (aa aN (aa (pv 8) aw)))))))
(au (bO (a0 cW (pv 7) aj (a7 _))
(ah (sv 15 nd (aR lD (pv 4) (bP (aa (pv 5) (aa (ou kr aj) (aa (aR ja aj aj) (aa aj (aa (aR eK (pv 5) aj) (aa (aR cf (aR jj (pv 6) aj) (aR dB (pv 5) aj)) (aa (aR eK (ou kr aj) (pv 6)) aw))))))))))
(au (bG (qx (pv 1) (dh (aa aN (aa (xl (pv 15) (aR cf (pv 6) (pT T.eI (pv 15)))) aw)))))))
(au (bO (a0 cW (pv 7) aj (a7 _))
(au (bG (qx (pv 1) (dh (aa (xl (bP (aa aN (aa aN aw))) (aR cf (pv 6) aj)) (aa (pv 8) (aa (pv 9) aw)))))))
(ah (iT (i:=16) nd rfl (Or.inl rfl) (tn:=["_law_j"]) (cn:=["_law_rest"]) (cj:=[6]) rfl (iN (Am:=[(".0",.local),("_law_j",.local),("_law_rest",.cell)])) (jq rfl T.nH (aa (aR cf (pv 6) aj) aw)) (fun _ _ _ _=>(en (i:=0) (show(["_law_j","_law_rest"]:List Str).Nodup by decide +kernel) rfl (Or.inl rfl))) (fun _ _ _ _=>lE) (fun _ _ _ _=>(aR dB (aR dB aj (aR cf (pv 1) aj)) (aR lA (pv 0) (aR dB aj (aR cf (pv 1) aj))))))
(au (bG (qx (pv 1) (dh (aa aN (aa (pv 8) (aa (pv 9) (aa (fO vW (by rfl) T.tJ boot_tuple (aa (pv 16) aw)) aw))))))))))))))))))))))))))))
(au (a6 (pv 1)))))))),?_⟩
  refine⟨bq _,fun pm nm=>⟨bq _,fun pb nb=>⟨bq _,fun ph nh=>⟨bq _,fun lp Qn=>?_⟩⟩⟩⟩;have s1:aG H (upd H pm (.lst [])):=aG.new nm;have t2:=aG.new (o:= .lst []) nb;have t3:=aG.new (o:= .lst []) nh;have t4:=aG.new (o:= .lst []) Qn;have s4:=((s1.trans t2).trans t3).trans t4;have UM:H lp=none:=((s1.trans t2).trans t3).free Qn;have g1:=((t2.trans t3).trans t4) _ _ (ag (H:=H) (a:=pm) (o:= .lst []));have g2:=(t3.trans t4) _ _ (ag (H:=upd H pm (.lst [])) (a:=pb) (o:= .lst []));have g3:=t4 _ _ (ag (H:=upd (upd H pm (.lst [])) pb (.lst [])) (a:=ph) (o:= .lst []));have g4:=ag (H:=upd (upd (upd H pm (.lst [])) pb (.lst [])) ph (.lst [])) (a:=lp) (o:= .lst []);have ZM:pb≠pm:=(aI ag nb).symm;have ZN:ph≠pm:=(aI (t2 _ _ ag) nh).symm;have E3:lp≠pm:=(aI ((t2.trans t3) _ _ ag) Qn).symm;have ZO:pb≠lp:=aI (t3 _ _ ag) Qn;have ZP:ph≠lp:=aI ag Qn;generalize upd (upd (upd (upd H pm (.lst [])) pb (.lst [])) ph (.lst [])) lp (.lst [])=H4 at s4 g1 g2 g3 g4 ⊢;refine⟨_,rfl,a,_,rfl,.inl (s4.seq hS),((cs.map V.int).length:Int),rfl,by lia,by rw[ae]; lia,?_⟩;rw[eo];refine kJ (lo:=0) (n:=(cs.map V.int).length) (tq H a pm lp)
   ⟨pb,ph,[],[],[],[],[],none,none,none,none,none,none,none,none,none,none,none,none,rfl,s4,g1,r0,rfl,(fun _ h=>by cases h),g2,aB _,g3,aB _,g4,aB _,ZM,ZO,ZN,ZP⟩ ?_ ?_
  ·clear t2 t3 t4 s1 g1 g2 g3 g4 s4 H4 ZM ZO ZN ZP nb nh Qn pb ph;rintro i σ H2 hi ⟨pb,ph,bs,hs,sp,ds,ms,x5,x6,x7,x8,x9,B0,GR,JO,Mc,Kk,JP,JQ,rfl,s2,hM,hR,E6,cm,hb,LK,hh,ZK,yn,acx,n1,n2,n3,n4⟩;have XC:i < cs.length:=by rwa [ae] at hi
   have Qo:tF (cs.map V.int) (0 + (i:Int))=some (.int (cs.getD i 0)):=by rw[ly]; exact mO XC
   have Oq:=s2.seq hS;generalize lX:cs.getD i 0=cell at Qo;refine⟨_,rfl,_,rfl,a,_,_,.int cell,rfl,rfl,Oq,Qo,_,_,rfl,rfl,⟨by decide,by decide⟩,_,_,rfl,rfl,⟨by decide,by decide,by decide⟩,_,_,rfl,rfl,(by show(0:Int) < _; decide +kernel),?_⟩;refine⟨_,rfl,_,rfl,a,_,_,.int cell,rfl,rfl,Oq,Qo,_,rfl,_,_,rfl,rfl,.inl ⟨by decide,by decide⟩,_,_,rfl,rfl,_,_,rfl,rfl,(by show(0:Int) < 16; decide),?_⟩;refine⟨_,rfl,_,rfl,a,cs,i,(by rw[ly]; rfl),Oq,XC,fun p aK day dD H3 s3 hp oh=>?_⟩;refine⟨p,_,rfl,cv.of hp,rfl,_,_,rfl,_,_,rfl,_,_,rfl,rfl,?_⟩;refine⟨_,rfl,_,rfl,_,rfl,_,rfl,a,_,_,.int cell,rfl,rfl,s3.seq Oq,Qo,_,rfl,pb,bs,aK,cell,_,rfl,bF.of (s3 _ _ hb),by lia,fun bl H4 ZQ=>?_⟩;have JH:=s3.trans ZQ;have s4:=s2.trans JH;have qQ:=JH _ _ hM;have Me:=hR.mono JH.tk;have zX:=JH _ _ hb;have Hg:=JH _ _ hh;have nu:=JH _ _ yn;have hS4:=s4.seq hS;have XD:=hS;have Jg:ms.length<=100:=by have:=hR.length; lia
   clear JH s3 ZQ hp hM hR hb hh yn s2 Oq H2 H3;refine⟨_,rfl,_,_,rfl,rfl,_,rfl,cy (fun c1=>?_) (fun c1=>?_)⟩
   ·
    refine⟨_,rfl,_,rfl,_,rfl,a,cs,i,(by rw[ly]; rfl),hS4,XC,fun n=>⟨_,_,rfl,rfl,?_⟩⟩;refine⟨_,rfl,.inl ⟨rfl,_,bF.of qQ⟩,_,rfl,_,rfl,_,rfl,_,rfl,(by show 5<=sizeLine; decide),fun p8 n8=>?_⟩;refine⟨pm,ms,_,rfl,rfl,aG.new n8 _ _ qQ,bc (by lia),?_⟩;obtain⟨k5,s5,vp,h8,Ar,CA,lS⟩:=M4 (xs:=[V.str "bill",.str aK,.int day,.int (day + n),.int dD]) nm s4 qQ n8 n1 n3 E3 zX Hg nu;refine⟨_,rfl,_,rfl,(by show 1<=sizeLine; decide),fun p9 n9=>?_⟩;have t9:=aG.new (o:= .lst [V.str aK]) n9;refine⟨_,rfl,_,_,rfl,rfl,_,rfl,cy (fun c=>⟨_,rfl,_,rfl,_,_,rfl,rfl,.inr ⟨_,rfl,?_⟩⟩) (fun c=> .inr ⟨_,rfl,?_⟩)⟩
    all_goals
     refine E4 ag (t9 _ _ Ar) (by lia) fun JR Ts n hn XE Hh XF=>?_;have sH:=t9.trans XE;exact tq.mk' (d:= .dF aK day _ dD) (pb:=JR) Me E6 cm (k5.trans sH.tk) (s5.trans sH) (sH _ _ vp) (fM (sH _ _ h8) (gK (rS _) (gK (rS _) (gK (rI _) (gK (rI _) (gK (rI _) r0)))))) oh XF (by rw[aF,iA]; lia) (sH _ _ CA) (by lia) (sH _ _ lS) (by lia) (aI (t9 _ _ vp) Hh).symm (aI (t9 _ _ lS) Hh).symm n3 n4
   refine⟨_,rfl,_,_,rfl,rfl,_,rfl,cy (fun c2=>?_) (fun c2=>?_)⟩
   ·
    refine⟨_,rfl,.inl ⟨rfl,_,bF.of qQ⟩,_,rfl,_,rfl,_,rfl,(by show 4<=sizeLine; decide),fun p8 n8=>?_⟩;refine⟨pm,ms,_,rfl,rfl,aG.new n8 _ _ qQ,bc (by lia),?_⟩;obtain⟨k5,s5,vp,h8,Ar,CA,lS⟩:=M4 (xs:=[V.str "pay",.str aK,.int day,.int dD]) nm s4 qQ n8 n1 n3 E3 zX Hg nu;refine⟨_,rfl,_,rfl,(by show 1<=sizeLine; decide),fun p9 n9=>?_⟩;have t9:=aG.new (o:= .lst [V.str aK]) n9;refine⟨_,rfl,_,_,rfl,rfl,.inr ⟨_,rfl,?_⟩⟩;refine E4 ag (t9 _ _ CA) (by lia) fun JR Ts n hn XE Hh XF=>?_;have sH:=t9.trans XE;exact tq.mk' (d:= .pQ aK day dD) (ph:=JR) Me E6 cm (k5.trans sH.tk) (s5.trans sH) (sH _ _ vp) (fM (sH _ _ h8) (gK (rS _) (gK (rS _) (gK (rI _) (gK (rI _) r0))))) oh (sH _ _ Ar) (by lia) XF (by rw[aF,iA]; lia) (sH _ _ lS) (by lia) n1 n2 (aI (t9 _ _ vp) Hh).symm (aI (t9 _ _ lS) Hh).symm
   refine⟨_,rfl,rfl,_,rfl,cy (fun c3=>?_) (fun c3=>?_)⟩
   ·
    refine⟨_,rfl,.inl ⟨rfl,_,bF.of qQ⟩,_,rfl,_,rfl,_,rfl,(by show 4<=sizeLine; decide),fun p8 n8=>?_⟩;refine⟨pm,ms,_,rfl,rfl,aG.new n8 _ _ qQ,bc (by lia),?_⟩;obtain⟨k5,s5,vp,h8,Ar,CA,lS⟩:=M4 (xs:=[V.str "note",.int bl,.int day,.int dD]) nm s4 qQ n8 n1 n3 E3 zX Hg nu;have no:=fun(JO Mc Kk JP JQ x5 x6 x7 x8 x9 B0 GR:Option V)=>tq.mk' (a:=a) (x5:=x5) (x6:=x6) (x7:=x7) (x8:=x8) (x9:=x9) (B0:=B0) (GR:=GR) (JO:=JO) (Mc:=Mc) (Kk:=Kk) (JP:=JP) (JQ:=JQ) (d:= .note bl day dD) Me E6 cm k5 s5 vp (fM h8 (gK (rS _) (gK (rI _) (gK (rI _) (gK (rI _) r0))))) oh Ar (by lia) CA (by lia) lS (by lia) n1 n2 n3 n4;refine⟨_,rfl,_,_,rfl,rfl,_,rfl,cy (fun d1=>?_) (fun d1=>bV (no ..))⟩;refine⟨_,rfl,_,rfl,pb,_,rfl,.inl (bF.of Ar),_,_,rfl,rfl,_,rfl,cy (fun d2=>?_) (fun d2=>bV (no ..))⟩;refine⟨_,rfl,_,_,rfl,rfl,_,rfl,cy (fun d3=>?_) (fun d3=>no ..)⟩;have Sa:0<=bl:=aX d1;have WC:bl < ((bs.map V.str).length:Int):=aX d2;obtain⟨bn,rfl⟩:=ck Sa;have hbn:bn < bs.length:=by rw[ae] at WC; lia
    refine⟨_,rfl,_,rfl,_,rfl,pb,_,_,.str bs[bn],rfl,rfl,bF.of Ar,cz (by rw[aD,af hbn]; rfl),(by show 1<=sizeLine; decide),fun p9 n9=>?_⟩;have t9:=aG.new (o:= .lst [V.str bs[bn]]) n9;refine⟨ph,p9,_,_,rfl,rfl,t9 _ _ CA,ag,c8 (bc (by rw[ae]; show hs.length + 1<=1000; lia)),fun JR Hh=>?_⟩;have sH:=t9.trans (aG.new (o:= .lst (hs.map V.str ++ [V.str bs[bn]])) Hh);exact tq.mk' (d:= .note (bn:Int) day dD) (ph:=JR) (hs:=hs ++ [bs[bn]]) Me E6 cm (k5.trans sH.tk) (s5.trans sH) (sH _ _ vp) (fM (sH _ _ h8) (gK (rS _) (gK (rI _) (gK (rI _) (gK (rI _) r0))))) oh (sH _ _ Ar) (by lia) (by rw[aM]; exact ag) (by rw[aF]; show hs.length + 1<=_; lia) (sH _ _ lS) (by lia) n1 n2 (aI (t9 _ _ vp) Hh).symm (aI (t9 _ _ lS) Hh).symm
   refine⟨_,rfl,_,_,rfl,rfl,_,rfl,cy (fun c4=>?_) (fun c4=>?_)⟩
   ·
    refine⟨_,rfl,.inl ⟨rfl,_,bF.of nu⟩,_,rfl,lp,_,_,rfl,rfl,nu,bc (by rw[ae]; lia),?_⟩;obtain⟨k0,s0,Qp,UN,Qq,Mf⟩:=Tr (x:=0 + (i:Int)) UM s4 qQ n2 n4 E3 zX Hg nu;have ZR:=Me.mono k0;have XG:=s0.seq XD;generalize upd H4 lp (.lst (sp.map V.int ++ [.int (0 + (i:Int))]))=H5 at s0 Qp UN Qq Mf ZR XG ⊢;refine⟨fun σ' H'=>aG H5 H'/\ ∃part:Int,σ'=[some (.ref a),some (.ref pm),some (.ref pb),some (.ref ph),some (.ref lp),some (.int (0 + (i:Int))),some (.int (cell / 16 % 10 ^ (60:Int).toNat)),some (.int ((cell + 5 * (0 + (i:Int))) % 16)),some (.str aK),some (.int day),some (.int dD),some (.int bl),JO,some (.int part),Kk,JP,JQ],?_,?_⟩
    ·refine⟨_,rfl,_,rfl,_,_,rfl,rfl,(by show(0:Int) < 3; decide),_,_,rfl,rfl,(by show 2<=sizeLine; decide),fun p9 n9=>?_⟩;refine⟨_,rfl,_,_,rfl,rfl,_,rfl,cy (fun d=>⟨_,rfl,_,_,rfl,rfl,(by show(0:Int) < 4; decide),_,_,rfl,rfl,.inr ⟨_,rfl,p9,_,_,_,rfl,rfl,bF.of ag,(Tq _ _ _).2,?_⟩⟩) (fun d=> .inr ⟨_,rfl,p9,_,_,_,rfl,rfl,bF.of ag,(Tq _ _ _).2,?_⟩)⟩
     ·exact⟨aG.new n9,_,rfl⟩
     ·exact⟨aG.new n9,_,rfl⟩
    rintro σ' H6 ⟨XH,part,rfl⟩;refine⟨_,rfl,_,rfl,_,rfl,_,rfl,a,_,_,.int cell,rfl,rfl,XH.seq XG,Qo,_,rfl,_,_,rfl,rfl,ph,hs,aK,cell,_,rfl,bF.of (XH _ _ Qq),by lia,fun cr0 H7 s67=>?_⟩;have wW:=XH.trans s67;refine⟨fun σ' H'=>H'=H7/\ ∃cr:Int,σ'=[some (.ref a),some (.ref pm),some (.ref pb),some (.ref ph),some (.ref lp),some (.int (0 + (i:Int))),some (.int (cell / 16 % 10 ^ (60:Int).toNat)),some (.int ((cell + 5 * (0 + (i:Int))) % 16)),some (.str aK),some (.int day),some (.int dD),some (.int bl),JO,some (.int part),some (.int cr),JP,JQ],?_,?_⟩
    ·refine⟨_,rfl,_,rfl,a,_,_,.int cell,rfl,rfl,wW.seq XG,Qo,_,_,rfl,rfl,(by show(0:Int) < 41; decide),rfl,_,rfl,cy (fun d=>?_) (fun d=>⟨rfl,_,rfl⟩)⟩;refine⟨_,rfl,_,_,rfl,rfl,⟨by decide,by decide⟩,_,rfl,ph,_,rfl,.inl (bF.of (wW _ _ Qq)),_,_,rfl,rfl,_,_,rfl,rfl,(by show(0:Int) < ((hs.map V.str).length:Int) + 1; lia),?_⟩;exact⟨rfl,_,rfl⟩
    rintro σ' H' ⟨rfl,cr,rfl⟩;have GN:=wW _ _ Qp;refine⟨_,rfl,.inl ⟨rfl,_,bF.of GN⟩,_,rfl,_,rfl,_,rfl,(by show 4<=sizeLine; decide),fun p8 n8=>?_⟩;refine⟨pm,ms,_,rfl,rfl,aG.new n8 _ _ GN,bc (by lia),?_⟩;obtain⟨k5,s5,vp,h8,Ar,CA,lS⟩:=M4 (xs:=[V.str "set",.int cr,.int bl,.int part]) nm (s0.trans wW) GN n8 n1 n3 E3 (wW _ _ UN) (wW _ _ Qq) (wW _ _ Mf);exact tq.mk' (d:= .set cr bl part) (ZR.mono wW.tk) E6 cm k5 s5 vp (fM h8 (gK (rS _) (gK (rI _) (gK (rI _) (gK (rI _) r0))))) trivial Ar (by lia) CA (by lia) lS (by rw[aF]; show sp.length + 1<=_; lia) n1 n2 n3 n4
   refine⟨_,rfl,_,_,rfl,rfl,_,rfl,cy (fun c5=>?_) (fun c5=>?_)⟩
   ·
    refine⟨_,rfl,.inl ⟨rfl,_,bF.of nu⟩,_,rfl,lp,_,_,rfl,rfl,nu,bc (by rw[ae]; lia),?_⟩;obtain⟨k0,s0,Qp,UN,Qq,Mf⟩:=Tr (x:=0 + (i:Int)) UM s4 qQ n2 n4 E3 zX Hg nu;refine⟨_,rfl,.inl ⟨rfl,_,bF.of Qp⟩,_,rfl,(by show 2<=sizeLine; decide),fun p8 n8=>?_⟩;refine⟨pm,ms,_,rfl,rfl,aG.new n8 _ _ Qp,bc (by lia),?_⟩;obtain⟨k5,s5,vp,h8,Ar,CA,lS⟩:=M4 (xs:=[V.str "sweep",.str aK]) nm s0 Qp n8 n1 n3 E3 UN Qq Mf;exact tq.mk' (d:= .fu aK) (Me.mono k0) E6 cm k5 s5 vp (fM h8 (gK (rS _) (gK (rS _) r0))) trivial Ar (by lia) CA (by lia) lS (by rw[aF]; show sp.length + 1<=_; lia) n1 n2 n3 n4
   refine⟨_,rfl,rfl,_,rfl,cy (fun c6=>?_) (fun c6=>?_)⟩
   ·
    refine⟨_,rfl,_,rfl,_,rfl,_,_,rfl,rfl,⟨by decide,by decide,by decide⟩,_,rfl,_,_,rfl,rfl,_,rfl,_,_,rfl,rfl,⟨by decide,by decide⟩,_,rfl,_,_,rfl,rfl,_,_,rfl,rfl,(by show(0:Int) < 0 + (i:Int) + 1; lia),_,rfl,_,rfl,_,_,rfl,rfl,(by show 7<=sizeLine; decide),fun p9 n9=>?_⟩;refine⟨lp,p9,_,_,rfl,rfl,aG.new n9 _ _ nu,ag,c8 (bc (by rw[ae]; show sp.length + 7<=1000; lia)),fun Qm XB=>?_⟩;have BN:=(aG.new (o:= .lst [V.int (0 + (i:Int)),.int (-1),.int (10 ^ (9:Int).toNat),.int 0,.int (0 + (i:Int) - 1),.int ((cell / 16 % 10 ^ (60:Int).toNat) / 3 % (0 + (i:Int) + 1)),.int (-2 - (cell / 16 % 10 ^ (60:Int).toNat))]) n9).trans (aG.new (o:= .lst (sp.map V.int ++ [V.int (0 + (i:Int)),.int (-1),.int (10 ^ (9:Int).toNat),.int 0,.int (0 + (i:Int) - 1),.int ((cell / 16 % 10 ^ (60:Int).toNat) / 3 % (0 + (i:Int) + 1)),.int (-2 - (cell / 16 % 10 ^ (60:Int).toNat))])) XB);have Tt:=ag (H:=upd H4 p9 (.lst [V.int (0 + (i:Int)),.int (-1),.int (10 ^ (9:Int).toNat),.int 0,.int (0 + (i:Int) - 1),.int ((cell / 16 % 10 ^ (60:Int).toNat) / 3 % (0 + (i:Int) + 1)),.int (-2 - (cell / 16 % 10 ^ (60:Int).toNat))])) (a:=Qm) (o:= .lst (sp.map V.int ++ [V.int (0 + (i:Int)),.int (-1),.int (10 ^ (9:Int).toNat),.int 0,.int (0 + (i:Int) - 1),.int ((cell / 16 % 10 ^ (60:Int).toNat) / 3 % (0 + (i:Int) + 1)),.int (-2 - (cell / 16 % 10 ^ (60:Int).toNat))]));generalize upd (upd H4 p9 (.lst [V.int (0 + (i:Int)),.int (-1),.int (10 ^ (9:Int).toNat),.int 0,.int (0 + (i:Int) - 1),.int ((cell / 16 % 10 ^ (60:Int).toNat) / 3 % (0 + (i:Int) + 1)),.int (-2 - (cell / 16 % 10 ^ (60:Int).toNat))])) Qm (.lst (sp.map V.int ++ [V.int (0 + (i:Int)),.int (-1),.int (10 ^ (9:Int).toNat),.int 0,.int (0 + (i:Int) - 1),.int ((cell / 16 % 10 ^ (60:Int).toNat) / 3 % (0 + (i:Int) + 1)),.int (-2 - (cell / 16 % 10 ^ (60:Int).toNat))]))=H5 at BN Tt ⊢;have Tu:sp.map V.int ++ [V.int (0 + (i:Int)),.int (-1),.int (10 ^ (9:Int).toNat),.int 0,.int (0 + (i:Int) - 1),.int ((cell / 16 % 10 ^ (60:Int).toNat) / 3 % (0 + (i:Int) + 1)),.int (-2 - (cell / 16 % 10 ^ (60:Int).toNat))]=(sp ++ [0 + (i:Int),-1,10 ^ (9:Int).toNat,0,0 + (i:Int) - 1,(cell / 16 % 10 ^ (60:Int).toNat) / 3 % (0 + (i:Int) + 1),-2 - (cell / 16 % 10 ^ (60:Int).toNat)]).map V.int:=by rw[aM]; rfl
    rw[Tu] at Tt;generalize Rk:sp ++ [0 + (i:Int),-1,10 ^ (9:Int).toNat,0,0 + (i:Int) - 1,(cell / 16 % 10 ^ (60:Int).toNat) / 3 % (0 + (i:Int) + 1),-2 - (cell / 16 % 10 ^ (60:Int).toNat)]=mn at Tt;have acB:0 < mn.length:=by rw[← Rk,aF]; show 0 < sp.length + 7; lia
    have ZS:0 < ((mn.map V.int).length:Int):=by rw[ae]; lia
    obtain⟨y,_,hy⟩:=ke (g:=V.int) (xs:=mn) (m:=((mn.map V.int).length:Int)) (x:=(cell / 16 % 10 ^ (60:Int).toNat)) (by rw[ae]) ZS;have Pm:=BN _ _ qQ;refine⟨_,rfl,.inl ⟨rfl,_,bF.of Pm⟩,_,rfl,_,rfl,_,rfl,Qm,_,rfl,.inl (bF.of Tt),_,_,rfl,rfl,ZS,Qm,_,_,.int y,rfl,rfl,bF.of Tt,hy,(by show 2<=sizeLine; decide),fun p8 n8=>?_⟩;refine⟨pm,ms,_,rfl,rfl,aG.new n8 _ _ Pm,bc (by lia),?_⟩;obtain⟨k5,s5,vp,h8,Ar,CA,lS⟩:=M4 (xs:=[V.str "undo",.int y]) nm (s4.trans BN) Pm n8 n1 n3 E3 (BN _ _ zX) (BN _ _ Hg) (BN _ _ nu);exact tq.mk' (d:= .gF y) (Me.mono BN.tk) E6 cm k5 s5 vp (fM h8 (gK (rS _) (gK (rI _) r0))) trivial Ar (by lia) CA (by lia) lS (by lia) n1 n2 n3 n4
   refine⟨_,rfl,rfl,_,rfl,cy (fun c7=>?_) (fun c7=>?_)⟩
   ·
    refine⟨_,rfl,.inl ⟨rfl,_,bF.of qQ⟩,(by show 2<=sizeLine; decide),fun p9 n9=>?_⟩;have t9:=aG.new (o:= .lst [V.str "owed",.str "free"]) n9;obtain⟨y,Wy,hy⟩:=ke (g:=fun o:Bool=>V.str (if o then "owed" else "free")) (xs:=[true,false]) (m:=2) (x:=(cell / 16 % 10 ^ (60:Int).toNat)) rfl (by decide);refine⟨_,rfl,_,_,rfl,rfl,(by show(0:Int) < 2; decide),p9,_,_,_,rfl,rfl,bF.of ag,hy,_,rfl,_,rfl,(by show 3<=sizeLine; decide),fun p8 n8=>?_⟩;have ZT:=t9 _ _ qQ;refine⟨pm,ms,_,rfl,rfl,aG.new n8 _ _ ZT,bc (by lia),?_⟩;obtain⟨k5,s5,vp,h8,Ar,CA,lS⟩:=M4 (xs:=[V.str (if y then "owed" else "free"),.str aK,.int day]) nm (s4.trans t9) ZT n8 n1 n3 E3 (t9 _ _ zX) (t9 _ _ Hg) (t9 _ _ nu);exact tq.mk' (d:= .ask y aK day) (Me.mono t9.tk) E6 cm k5 s5 vp (fM h8 (gK (rS _) (gK (rS _) (gK (rI _) r0)))) trivial Ar (by lia) CA (by lia) lS (by lia) n1 n2 n3 n4
   ·
    obtain⟨Qr,XI,acC⟩:=zh (cell / 16 % 10 ^ (60:Int).toNat) 12 (by decide);refine⟨_,rfl,_,_,rfl,rfl,(by show(0:Int) < 12; decide),_,rfl,lx (by decide) (jX _ (by decide)),Int.lt_trans (pO _ (by decide)) (by decide),?_⟩;show xD (Mt 0 ((cell / 16 % 10 ^ (60:Int).toNat) % 12).toNat) _ _ _ _ _ _;rw[XI,eo];refine C0 (lo:=0) (n:=Qr) (fun D j σ H6=>H4 D=none/\ ∃v,σ=[v,some (.int (cell / 16 % 10 ^ (60:Int).toNat))]/\aG H4 H6/\H6 D=some (.lst ((cY (cell / 16 % 10 ^ (60:Int).toNat) j).map V.int))) (fun D hD=>⟨hD,none,rfl,aG.new hD,ag⟩) ?_ ?_
    ·rintro D j σ H6 hj ⟨hD,v,rfl,t3,hl⟩;refine⟨_,rfl,_,_,rfl,rfl,(by show(0:Int) < 9; decide),_,_,rfl,rfl,_,rfl,_,rfl,_,_,rfl,rfl,(by show(0:Int) < 30; decide),_,_,rfl,rfl,_,_,rfl,rfl,.inl ⟨by lia,by lia⟩,_,_,rfl,rfl,?_⟩;refine⟨_,hl,bc (by rw[ae,Cg]; lia),hD,_,rfl,t3.cZ hD,?_⟩;rw[ag];unfold cY;rw[vP,aM,aM]; rfl
    ·rintro D σ H6 _ ⟨hD,v,rfl,t3,hl⟩;have Js:=t3 _ _ qQ;refine⟨_,rfl,.inl ⟨rfl,_,bF.of Js⟩,_,rfl,_,rfl,_,rfl,D,_,rfl,.inl ⟨bF.of hl,fun pt Zp=>?_⟩⟩;have t7:=t3.trans (aG.new (o:= .tup ((cY (cell / 16 % 10 ^ (60:Int).toNat) Qr).map V.int)) Zp);have g7:=ag (H:=H6) (a:=pt) (o:= .tup ((cY (cell / 16 % 10 ^ (60:Int).toNat) Qr).map V.int));generalize upd H6 pt (.tup ((cY (cell / 16 % 10 ^ (60:Int).toNat) Qr).map V.int))=H7 at t7 g7 ⊢;refine⟨(by show 4<=sizeLine; decide),fun p8 n8=>?_⟩;have GN:=t7 _ _ qQ;refine⟨pm,ms,_,rfl,rfl,aG.new n8 _ _ GN,bc (by lia),?_⟩;obtain⟨k5,s5,vp,h8,Ar,CA,lS⟩:=M4 (xs:=[V.str "ages",.str aK,.int day,.ref pt]) nm (s4.trans t7) GN n8 n1 n3 E3 (t7 _ _ zX) (t7 _ _ Hg) (t7 _ _ nu);exact tq.mk' (d:= .hZ aK day (cY (cell / 16 % 10 ^ (60:Int).toNat) Qr)) (Me.mono t7.tk) E6 cm k5 s5 vp (fM h8 (gK (rS _) (gK (rS _) (gK (rI _) (gK (fM (k5 _ _ g7) (iy.ints _)) r0))))) (Md (cell / 16 % 10 ^ (60:Int).toNat) Qr (by lia)) Ar (by lia) CA (by lia) lS (by lia) n1 n2 n3 n4
  ·rintro σ H2 ⟨pb,ph,bs,hs,sp,ds,ms,x5,x6,x7,x8,x9,B0,GR,JO,Mc,Kk,JP,JQ,rfl,s2,hM,hR,E6,cm,_⟩;rw[ae] at E6;refine⟨_,rfl,?_⟩;exact k pm ds ms H2 s2 hM hR E6 cm
def nN {α:Type}(f:α->Dt)(n:Nat): ∀l:List α,(∀x∈l,(f x).size<=n)->Dt.fb (l.map f)<=l.length * n
 |[],_=>bq _
 |x :: l,h=>by
  have h1:=nN f n l fun y hy=>h y (aQ _ hy);have h2:=h x bh;rw[cS,bU,vL];show(f x).size + Dt.fb (l.map f)<=_;lia
def pK {α:Type}(f:α->Dt)(l:List α)(h: ∀x∈l,(f x).plain=true):Dt.lH (l.map f)=true:=by
 rw[Dt.o4];intro d hd;obtain⟨x,hx,rfl⟩:=bE.mp hd;exact h x hx
def yc {d:bu}(h:d.ok):d.dt.size<=100/\d.dt.plain=true:=by
 cases d with
 |hZ w dy l=>
  have h1:l.length<=11:=h.1;have h2:=nN Dt.int 1 l (fun x _=>aB _);refine⟨?_,?_⟩
  ·show(Dt.tup [.str "ages",.str w,.int dy,.tup (l.map Dt.int)]).size<=100;simp only[Dt.size,Dt.fb];lia
  ·show(Dt.tup [.str "ages",.str w,.int dy,.tup (l.map Dt.int)]).plain=true;simp[Dt.plain,Dt.lH,pK Dt.int l (fun x _=>rfl)]
 |_=>exact⟨by simp[bu.dt,Dt.size,Dt.fb],by simp[bu.dt,Dt.plain,Dt.lH]⟩
def DU {ds:List bu}(h: ∀d∈ds,d.ok)(hl:ds.length<=60):(Dt.lst (ds.map bu.dt)).size<=100000/\(Dt.lst (ds.map bu.dt)).plain=true:=by
 have h1:=nN bu.dt 100 ds fun d hd=>(yc (h d hd)).1;refine⟨?_,pK bu.dt ds fun d hd=>(yc (h d hd)).2⟩;show 1 + Dt.fb (ds.map bu.dt)<=100000;lia
def G1 {H:Hp}{pd:Addr}{d:bu}(h:rV H pd d): ∃r,H pd=some (.tup (.str (bu.word d) :: r)):=by
 cases d with
 |hZ w dy l=>
  obtain⟨pl,h1,_⟩:=h;exact⟨_,h1⟩
 |_=>exact⟨_,h⟩
def yd (d:bu):vV (.str (bu.word d)) [.str "bill",.str "pay",.str "note",.str "set",.str "sweep"]=d.tells:=by
 cases d with
 |dF _ _ _ _=>show vV (.str "bill") _ =true; decide +kernel
 |pQ _ _ _=>show vV (.str "pay") _ =true; decide +kernel
 |note _ _ _=>show vV (.str "note") _ =true; decide +kernel
 |set _ _ _=>show vV (.str "set") _ =true; decide +kernel
 |fu _=>show vV (.str "sweep") _ =true; decide +kernel
 |gF _=>show vV (.str "undo") _ =false; decide +kernel
 |ask o _ _=>
  cases o
  ·show vV (.str "free") _ =false; decide +kernel
  ·show vV (.str "owed") _ =false; decide +kernel
 |hZ _ _ _=>show vV (.str "ages") _ =false; decide +kernel
def Mg (xs:List V)(a b:Nat)(h:a<=b):(qg xs (some (a:Int)) (some (b:Int))).length<=b - a:=by
 unfold qg;rw[HT.yo,HT.yo,bo];lia
def Mh (ns:List Int)(lo hi:Option Int): ∃cs:List Int,qg (ns.map V.int) lo hi=cs.map V.int:=by
 unfold qg;rw[← List.map_drop,← List.map_take];exact⟨_,rfl⟩
def JS {H:Hp}{tb:Addr}{pos:Pos}{qual:Str}(h:H tb=some (.mh #[])):Tb H tb pos qual:=⟨#[],h,True.intro,.inl rfl⟩
def JT (K:Frag)(cps:List (Addr×Addr)):Sp:=fun vs H Q _=> ∃(a:Addr) (ns:List Int),vs=[.ref a]/\bF K H a (ns.map V.int)/\ns.length<=63/\(∀cp∈cps,H cp.2=some (.mh #[]))/\ ∀H',Q (.bl true) H'
def Mi {H:Hp}{sd p:Addr}{S:Bk}{f:fj}{ws:List V}{o:HO}(h:de H sd S f)(e:H p=some (.lst ws))(n:p∉f.fp):de (upd H p o) sd S f:=
 h.keep (fun b u hb z=>by
  have nb:b≠p:=by
   rcases hb with hb|hb
   ·rw[hb];exact lW h.dict e (by intro q; cases q)
   ·exact fun q=>n (q▸hb)
  rw[az nb];exact z) (fY e)
inductive JU (vs:List V)(H:Hp)(Q:VK)(E':XK):Prop
 |mk (pa:Addr)(ds:List bu)(ms:List V)(h1:vs=[.ref pa])(h2:H pa=some (.lst ms))(h3:gH H ds ms)(h4:ds.length<=59)(h5:(∀d∈ds,d.ok))(h6: ∀(t:Addr) (v:V) (ps sd:Addr) (us:List V) (f:fj) (H':Hp),aG H H'->H' t=some (.tup [v,.ref ps,.ref sd])->H' ps=some (.lst us)->gw H' (gG ds iD.new 0).2.steps us->de H' sd (gG ds iD.new 0).2.bk f->(∀x∈f.fp,H x=none)->ps∉f.fp->Good (gG ds iD.new 0).2 ds.length->Q (.ref t) H'):JU vs H Q E'
def i6:aO ["_law_asked","_law_steps","_law_state","_law_due","_law_number","_law_deed","_law_answer"] ["_law_asked"] (ay (top 63)):={}
def om (T:Txt K mg):eQ P w K mg base "_law_gone_through" 6 ["_law_asked"] JU:=by
 have lP:=qH (P:=P) (w:=w) (base:=base) T;have Af:=zB (P:=P) (w:=w) (base:=base) T;have Ci:=BP (P:=P) (w:=w) (base:=base) T;refine T.nZ.fA (k:=5) i6 (fun f cM A outer s H vs Q E hr h=>?_)
 ·obtain⟨pa,ds,ms,rfl,L4,JK,E6,cm,k⟩:=h;have nd:=i6.nd;have Jg:=gH.length JK;refine⟨_,(ah (sv 1 nd (bP aw))
(ah (sv 2 nd (HY lP (hr.mono (by decide)) rfl))
(ah (sv 3 nd (bP aw))
(ah (fk bN rfl (jq rfl T.nH (aa (pT T.eI (pv 0)) aw)) (gn 4 nd)
(ah (sv 5 nd (xl (pv 0) (pv 4)))
(ah (sv 6 nd aN)
(jk (bO (PW.pt (pw_or (fS (fc Af hr (aa (pv 5) aw))) (pw_or1 (a0 cW (xt (pv 5) aj) aN (a7 _)))))
(au (kq (fc Ci hr (aa (pv 1) (aa (pv 2) (aa (pv 4) (aa (pv 5) aw))))) (gT (bW (gn 6 nd) (bW (gn 1 nd) (bW (gn 2 nd) gp))))))
bf)
(au (bG (qx (pv 3) (pv 6))))))))
(au (a6 (dh (aa (pv 3) (aa (pv 1) (aa (pv 2) aw)))))))))),?_⟩
  refine⟨bq _,fun ps ET=>?_⟩;have s6:=aG.new (o:= .lst []) ET;have Pn:upd H ps (.lst []) ps=some (.lst []):=ag;generalize upd H ps (.lst [])=H6 at s6 Pn;refine⟨rfl,fun sd g H7 s7 Tv Ls nf=>?_⟩;have Tw:=s7 _ _ Pn;have wW:=s6.trans s7;have XJ:ps∉g.fp:=fun z=>by
   have:=nf _ z;rw[Pn] at this;cases this
  have nf5: ∀b∈g.fp,H b=none:=fun b hb=>s6.free (nf b hb);refine⟨bq _,fun pu UO=>?_⟩;have s8:=aG.new (o:= .lst []) UO;have Tx:upd H7 pu (.lst []) pu=some (.lst []):=ag;have Tz:=s8 _ _ Tw;have xg:=Tv.same s8;have XM:pu∉g.fp:=Tv.off UO;have XN:pu≠ps:=(aI Tw UO).symm;have XO:=wW.trans s8;have XQ:H pu=none:=wW.free UO;generalize upd H7 pu (.lst [])=H8 at s8 Tx Tz xg XO;refine⟨_,rfl,pa,_,rfl,.inl (bF.of (XO _ _ L4)),(ms.length:Int),rfl,by lia,by lia,?_⟩;rw[eo];refine kJ (lo:=0) (n:=ms.length) (fun i σ H2=> ∃(ps sd:Addr) (us ws:List V) (f:fj) (x4 x5 x6:Option V),σ=[some (.ref pa),some (.ref ps),some (.ref sd),some (.ref pu),x4,x5,x6]/\aG H H2/\H2 ps=some (.lst us)/\gw H2 (gG (ds.take i) iD.new 0).2.steps us/\de H2 sd (gG (ds.take i) iD.new 0).2.bk f/\(∀x∈f.fp,H x=none)/\ps∉f.fp/\Good (gG (ds.take i) iD.new 0).2 i/\H2 pu=some (.lst ws)/\ws.length=i/\pu∉f.fp/\pu≠ps)
   ⟨ps,sd,[],[],g,none,none,none,rfl,XO,Tz,.nil,xg,nf5,XJ,Good.new,Tx,rfl,XM,XN⟩ ?_ ?_
  ·rintro i σ H2 hi ⟨ps,sd,us,ws,f,x4,x5,x6,rfl,s2,mD,Qs,hB,Pp,ET,hG,ZU,El,Kj,XR⟩;rw[ly];have yC:i < ds.length:=by lia
   have oB:=af yC;obtain⟨v0,VZ,SI⟩:=gH.get JK oB;obtain⟨pd,rfl,ZV⟩:=EZ SI;have hd:=ZV.mono s2.tk;have Ma:=cm _ (bD yC);have UK:=yb yC;have oE:Good (fz (gG (ds.take i) iD.new 0).2 (i:Int) ds[i]).2 (i + 1):=hG.step ds[i];rw[UK];generalize ds[i]=d at hd Ma oE;generalize (gG (ds.take i) iD.new 0).2=TT at Qs hB hG oE;clear UK SI ZV oB;refine⟨_,rfl,_,rfl,pa,_,_,.ref pd,rfl,rfl,bF.of (s2 _ _ L4),cz VZ,?_⟩;refine⟨fun σ' H'=> ∃(v:V) (vg Cw:Addr) (BO:List V) (f':fj),σ'=[some (.ref pa),some (.ref vg),some (.ref Cw),some (.ref pu),some (.int (i:Int)),some (.ref pd),some v]/\aG H H'/\H' vg=some (.lst BO)/\gw H' (fz TT i d).2.steps BO/\de H' Cw (fz TT i d).2.bk f'/\(∀x∈f'.fp,H x=none)/\vg∉f'.fp/\H' pu=some (.lst ws)/\pu∉f'.fp/\pu≠vg,?_,?_⟩
   ·obtain⟨r,ZW⟩:=G1 hd;refine⟨_,rfl,pd,bu.word d,r,rfl,ZW,fun H3 s3=>⟨_,rfl,?_⟩⟩;have MU:=hd.mono s3.tk;have XS:=s3 _ _ ZW;have GD:=s3 _ _ mD;have Mj:gw H3 TT.steps us:=Qs.mono s3.tk;have JM:=hB.same s3;have UP:=s2.trans s3;have JV:=s3 _ _ ZU;have M5: ∀(R:VK),(∀t v vg Cw BO f' H',H' t=some (.tup [v,.ref vg,.ref Cw])->aG H H'->H' vg=some (.lst BO)->gw H' (fz TT i d).2.steps BO->de H' Cw (fz TT i d).2.bk f'->(∀x∈f'.fp,H x=none)->vg∉f'.fp->H' pu=some (.lst ws)->pu∉f'.fp->pu≠vg->R (.ref t) H')->MT R H3 ps f (fz TT i d):=fun R h t v vg Cw f' BO H' ht hv hp hS hb fr fi np nq=>
     h t v vg Cw BO f' H' ht (fr.same UP Pp) hp hS hb (fun x hx=>(fi x hx).elim (Pp x) fun z=>UP.free z) np (fr _ _ Kj JV) (fun z=>(fi pu z).elim Kj fun q=>by rw[JV] at q; cases q) (fun z=>XR (z.trans (nq pu _ Kj JV z.symm)))
    by_cases ht:d.tells=true
    ·rw[yd,ht];have Fo:H3 pd=some (.tup (bu.vs d)):=by cases d <;> first|exact MU|cases ht
     refine fe (fe ⟨_,rfl,_,rfl,_,rfl,_,rfl,ps,sd,pd,i,TT,us,f,d,rfl,GD,Mj,JM,ET,Fo,.inl ht,hG,(by lia),M5 _ fun t v vg Cw BO f' H' ht K2 hp hS hb hn XT u1 u2 u3=>?_⟩);refine⟨t,_,rfl,cv.of ht,rfl,_,_,rfl,_,_,rfl,_,_,rfl,rfl,?_⟩;exact⟨v,vg,Cw,BO,f',rfl,K2,hp,hS,hb,hn,XT,u1,u2,u3⟩
    ·rw[yd,Bool.eq_false_iff.mpr ht];refine bV ⟨_,rfl,pd,_,_,.str (bu.word d),rfl,rfl,cv.of XS,JC _ _,rfl,?_⟩;cases d with
     |dF _ _ _ _=>exact absurd rfl ht
     |pQ _ _ _=>exact absurd rfl ht
     |note _ _ _=>exact absurd rfl ht
     |set _ _ _=>exact absurd rfl ht
     |fu _=>exact absurd rfl ht
     |gF m=>
      refine⟨true,Ao _,fe ⟨_,rfl,_,rfl,_,rfl,_,rfl,ps,sd,pd,i,TT,us,f,.gF m,rfl,GD,Mj,JM,ET,MU,.inr ⟨m,rfl⟩,hG,(by lia),M5 _ fun t v vg Cw BO f' H' ht K2 hp hS hb hn XT u1 u2 u3=>?_⟩⟩;refine⟨t,_,rfl,cv.of ht,rfl,_,_,rfl,_,_,rfl,_,_,rfl,rfl,?_⟩;exact⟨v,vg,Cw,BO,f',rfl,K2,hp,hS,hb,hn,XT,u1,u2,u3⟩
     |ask o wh dy=>
      refine⟨false,jo (by cases o; exact(show("free":Str)≠"undo" by decide +kernel); exact(show("owed":Str)≠"undo" by decide +kernel)),bV ?_⟩;exact⟨_,ps,sd,us,f,rfl,UP,GD,Mj,JM,Pp,ET,JV,Kj,XR⟩
     |hZ wh dy cY=>
      refine⟨false,jo (show("ages":Str)≠"undo" by decide +kernel),bV ?_⟩;exact⟨_,ps,sd,us,f,rfl,UP,GD,Mj,JM,Pp,ET,JV,Kj,XR⟩
   ·rintro σ' H' ⟨v,vg,Cw,BO,f',rfl,s',R8,XD,XU,XW,XX,u1,u2,u3⟩;refine⟨_,rfl,.inl ⟨rfl,_,bF.of u1⟩,_,rfl,pu,ws,v,rfl,rfl,u1,bc (by lia),?_⟩;exact⟨vg,Cw,BO,ws ++ [v],f',_,_,_,rfl,s'.cZ XQ,by rw[az u3.symm]; exact R8,XD.mono (fY u1),Mi XU u1 u2,XW,XX,oE,ag,by rw[aF,El]; rfl,u2,u3⟩
  ·rintro σ H2 ⟨ps,sd,us,ws,f,x4,x5,x6,rfl,s2,mD,Qs,hB,Pp,ET,hG,ZU,_⟩;rw[← Jg,a8] at Qs hB hG;refine⟨_,rfl,_,rfl,_,rfl,(by show 3<=sizeLine; decide),fun t nt=>?_⟩;have s9:=aG.new (o:= .tup [V.ref pu,.ref ps,.ref sd]) nt;exact k t _ ps sd us f _ (s2.trans s9) ag (s9 _ _ mD) (Qs.mono s9.tk) (hB.same s9) Pp ET hG
inductive pL (A:dO)(tB tC:Addr)(vs:List V)(H:Hp)(Q:VK)(E':XK):Prop
 |mk (ps:Addr)(ds:List bu)(ms:List V)(h1:vs=[.ref ps])(h2:H ps=some (.lst ms))(h3:gH H ds ms)(h4:ds.length<=60)(h5:(∀d∈ds,d.ok))(h6:lh H tB)(h7:lR H tC)(h8: ∀D us H',Frame [tB,tC] H H'->lh H' tB->lR H' tC->H D=none->H' D=some (.lst us)->gy H' (gG ds iD.new 0).2.bk.made us->Q (.ref D) H'):pL A tB tC vs H Q E'
def sO:aO ["deeds","book"] ["deeds"] (ay (top 33)):={}
def DV (T:Txt K mg){A:dO}{tB tC:Addr}(G:jl K mg A)(DB:pU K mg "bills_in_order" (top 17) tB)(DC:pU K mg "credits_in_order" (top 18) tC)(iU:tB≠tC)(hnd:A.iL≠A.tooMuch)(KB:K.In base)(BM:BMain mg base):eQ P w K mg base "settings" 12 ["deeds"] (pL A tB tC):=by
 have Ag:eQ P w K mg base "answers_in" 11 ["book","deeds"] (zY A tB tC):=zZ T G DB DC iU hnd KB BM;have Pq:sY P w K mg base "Book" A.book 3 ["self"] (zK A):=OY G;refine T.Di.fA (k:=11) sO (fun f cM A' outer s H vs Q E hr h=>?_)
 ·obtain⟨ps,ds,ms,rfl,mD,JK,hl,cm,jT,jx,k⟩:=h;have nd:=sO.nd;refine⟨_,(ah (sv 1 nd (IU Pq (hr.mono (by decide)) rfl))
(ah (bG (fc Ag hr (aa (pv 1) (aa (pv 0) aw))))
(au (a6 (fO lC (by rfl) T.rL boot_list (aa (jJ (jJ (pv 1))) aw)))))),?_⟩
  intro xb ZX XY XZ ne;have s1:=k7 (C:=A.book) (fs:=[]) XY XZ ne;refine⟨xb,ZX,rfl,ag,fun pk pw g H1 F1 hx hk hW nk npw nf ZF=>⟨rfl,?_⟩⟩;have S1:aG H H1:=fun b o e=>F1 b o (by simpa using aI e XY) (s1 b o e);have fr: ∀b∈g.fp,H b=none:=fun b hb=>s1.free (nf b hb);have nk0:H pk=none:=s1.free nk;refine⟨_,rfl,_,rfl,xb,pk,pw,ps,g,ds,ms,rfl,⟨⟨ZX,hx⟩,⟨[],hk,.nil⟩,hW⟩,S1 _ _ mD,(fun z=>by
   have:=fr _ z;rw[mD] at this;cases this),JK.mono S1.tk,hl,cm,bL jT S1,bL jx S1,fun pt ws tV pV f' H2 F2 i0 jZ nt Cv hA ES=>?_⟩
  have ZY:Frame [tB,tC] H H2:=(S1.frame (fp:=[tB,tC])).trans F2 fun x hx=>by
   rcases av.mp hx with hx|hx
   ·exact .inl (by simp[hx])
   rcases av.mp hx with hx|hx
   ·exact .inl (by simp[hx])
   rcases av.mp hx with hx|hx
   ·exact .inr (by rw[hx]; exact XY)
   rcases av.mp hx with hx|hx
   ·exact .inr (by rw[hx]; exact nk0)
   ·exact .inr (fr x hx)
  obtain⟨db,P0⟩:=ES.obj;obtain⟨dw,MP⟩:=ES.wk.obj;obtain⟨us,m1,m2⟩:=ES.wk.hm;refine⟨_,rfl,xb,_,db,_,_,rfl,P0,G.eh,G.fH,qP _ _,pV,_,dw,_,_,rfl,MP,G.bw,G.jm,yX f',f'.pm,us,rfl,.inl (bF.of m1),fun D nD=>?_⟩;have s3:=aG.new (o:= .lst us) nD;refine k D us _ (ZY.cI s3) (bL i0 s3) (bL jZ s3) ?_ ag (m2.mono s3.tk);cases e:H D with
  |none=>rfl
  |some o=>
   exfalso;by_cases ju:D∈[tB,tC]
   ·simp only[List.mem_cons,List.not_mem_nil,or_false] at ju;rcases ju with z|z
    ·obtain⟨_,q⟩:=cJ i0;rw[← z,nD] at q;cases q
    ·obtain⟨_,q⟩:=cJ jZ;rw[← z,nD] at q;cases q
   ·have q:=ZY _ _ ju e;rw[nD] at q;cases q
end
end eD
namespace L2
open PySem PySem.Spec PySem.W PyProof.Rows
section
variable {X:Cx}
def TB (K:Frag):List V->Hp->VK->Prop:=fun xs H Q=> ∃(p:Addr) (ns:List Int),xs=[V.ref p]/\bF K H p (ns.map V.int)/\ns≠[]/\ ∀m,m∈ns->Q (.int m) H
def ye (hc:X.calm=true):gE X (.builtin "min") (TB X.K):=by
 intro pins s σ H xs us Q I r h;obtain⟨p,ns,rfl,hq,iU,q⟩:=h;obtain⟨u,rfl,ru⟩:=vals1 r;cases ru;obtain⟨bX,rv,pl,hz⟩:=I.list hq;have hI:IntsAre bX ns:=intsAre_of rv;have hl:=hI.length;have hh:=I.ok.hd hc;have acF:0 < ns.length:=List.length_pos_iff.mpr iU;have hT:s.heap.IsList p bX.toArray:=pl.isList;have hp:p < s.heap.objs.size:=by
  obtain⟨o,ho,_⟩:=hT;exact aH ho
 have N3:p≠s.heap.objs.size:=aU hp;refine call_min_walk (M9 hT ?_);refine⟨_,[_,p],[_],_,_,_,_,rfl,Walks.list (A:=X.A.in1) hh _ p N3 bX.toArray,
  ⟨⟨_,Heap.get?_push_size _ rfl,rfl,rfl⟩,hT.push _⟩,fun c hc=>?_,by rw[List.size_toArray]; lia,CmpOf.ints_lt (fun i=>ns.getD i 0) (fun i v hv=>IntsAre.int_at hI i v (by simpa using hv)),fun v h' tk hP hk=>?_⟩
 ·show c < (s.heap.push _).objs.size;rw[jU];rcases av.mp hc with rfl|hc
  ·exact eT _
  ·rcases av.mp hc with rfl|hc
   ·exact gj hp
   ·cases hc
 ·obtain⟨b1,b2⟩:=argBest_lt (fun i=>ns.getD i 0) (bX.toArray.size - 1);rw[bg] at b1 b2;obtain⟨t,rfl⟩:=IntsAre.int_at hI _ v (by rw[← Array.getElem?_toList] at hP; exact hP);refine⟨.int _,H,I.kept (t':=tk) (fun b o e=>hk b o (fun hm=>?_) (ax _ e)),⟨_,rfl⟩,q _ ?_⟩
  ·rw[ak] at hm;exact absurd hm (aU (aH e))
  ·rw[bg];rw[ai,af (by lia)];exact bD _
end
def Cj (ms:List (Nat×Nat×Int))(k:Nat):Int:=((ms.filter fun t=>decide (t.2.1=k)).map (·.2.2)).sum
def Ck (ms:List (Nat×Nat×Int))(k:Nat):Int:=((ms.filter fun t=>decide (t.1=k)).map (·.2.2)).sum
def rW (ms:List (Nat×Nat×Int))(t:Nat×Nat×Int)(k:Nat):Cj (ms ++ [t]) k=Cj ms k + if t.2.1=k then t.2.2 else 0:=by
 unfold Cj;rw[fR,aM,Kp];by_cases h:t.2.1=k <;> simp[h]
def rX (ms:List (Nat×Nat×Int))(t:Nat×Nat×Int)(k:Nat):Ck (ms ++ [t]) k=Ck ms k + if t.1=k then t.2.2 else 0:=by
 unfold Ck;rw[fR,aM,Kp];by_cases h:t.1=k <;> simp[h]
def G2 {ms:List (Nat×Nat×Int)}{k:Nat}(h: ∀t∈ms,t.2.1≠k):Cj ms k=0:=by
 unfold Cj;rw[List.filter_eq_nil_iff.mpr fun t ht=>by simp[h t ht]];rfl
def G3 {ms:List (Nat×Nat×Int)}{k:Nat}(h: ∀t∈ms,t.1≠k):Ck ms k=0:=by
 unfold Ck;rw[List.filter_eq_nil_iff.mpr fun t ht=>by simp[h t ht]];rfl
structure Acc (S:Bk):Prop where
 m: ∀t∈S.made,t.1 < S.credits.length/\t.2.1 < S.aC.length/\1<=t.2.2/\S.dG t.1 t.2.1=true
 b: ∀k,k < S.aC.length->(S.bl k).d=(S.bl k).c - Cj S.made k/\0<=(S.bl k).d
 c: ∀k,k < S.credits.length->(S.cr k).d=(S.cr k).b - Ck S.made k/\0<=(S.cr k).d
def Acc.new:Acc Bk.new:=⟨(fun _ h=>by cases h),fun _ h=>absurd h (fE _),fun _ h=>absurd h (fE _)⟩
def Acc.g8 {S:Bk}(h:Acc S){r:Rw}(e:r.d=r.c)(p:0<=r.d):Acc (S.g8 r):=by
 have len:(S.g8 r).aC.length=S.aC.length + 1:=by simp[Bk.g8]
 have old: ∀k,k < S.aC.length->(S.g8 r).bl k=S.bl k:=fun k hk=>getD_snoc hk;refine⟨fun t ht=>?_,fun k hk=>?_,h.c⟩
 ·obtain⟨a,b,c,d⟩:=h.m t ht;refine⟨a,by rw[len]; lia,c,?_⟩;rw[← d];unfold Bk.dG;rw[old _ b];rfl
 ·by_cases q:k < S.aC.length
  ·rw[old k q];exact h.b k q
  ·have q':k=S.aC.length:=by lia
   have e2:(S.g8 r).bl k=r:=by rw[q']; exact getD_last
   rw[e2,show(S.g8 r).made=S.made from rfl,G2 fun t ht=>by have:=(h.m t ht).2.1; lia];lia
def Acc.fF {S:Bk}(h:Acc S){r:Rw}(e:r.d=r.b)(p:0<=r.d):Acc (S.fF r):=by
 have len:(S.fF r).credits.length=S.credits.length + 1:=by simp[Bk.fF]
 have old: ∀k,k < S.credits.length->(S.fF r).cr k=S.cr k:=fun k hk=>getD_snoc hk;refine⟨fun t ht=>?_,h.b,fun k hk=>?_⟩
 ·obtain⟨a,b,c,d⟩:=h.m t ht;refine⟨by rw[len]; lia,b,c,?_⟩;rw[← d];unfold Bk.dG;rw[old _ a];rfl
 ·by_cases q:k < S.credits.length
  ·rw[old k q];exact h.c k q
  ·have q':k=S.credits.length:=by lia
   have e2:(S.fF r).cr k=r:=by rw[q']; exact getD_last
   rw[e2,show(S.fF r).made=S.made from rfl,G3 fun t ht=>by have:=(h.m t ht).1; lia];lia
def Acc.put {S:Bk}(h:Acc S){c b:Nat}{x:Int}(hc:c < S.credits.length)(hb:b < S.aC.length)(hx:1<=x)(x1:x<=(S.cr c).d)(x2:x<=(S.bl b).d)(hg:S.dG c b=true):Acc (S.put c b x):=by
 have L:Later S (S.put c b x):=Later.put hb hc (by lia);refine⟨fun t ht=>?_,fun k hk=>?_,fun k hk=>?_⟩
 ·rw[L.cl,L.bl,L.dG];rcases bb.mp (show t∈S.made ++ [(c,b,x)] from ht) with ht|ht
  ·exact h.m t ht
  ·rw[ak.mp ht];exact⟨hc,hb,hx,hg⟩
 ·rw[L.bl] at hk;rw[show(S.put c b x).made=S.made ++ [(c,b,x)] from rfl,rW,mE hb];have:=h.b k hk;by_cases e:k=b
  ·subst e;rw[aZ rfl,aZ rfl];show(S.bl k).d - x=(S.bl k).c - (Cj S.made k + x)/\0<=(S.bl k).d - x;lia
  ·rw[aL e,aL (fun z=>e z.symm)];lia
 ·rw[L.cl] at hk;rw[show(S.put c b x).made=S.made ++ [(c,b,x)] from rfl,rX,o6 hc];have:=h.c k hk;by_cases e:k=c
  ·subst e;rw[aZ rfl,aZ rfl];show(S.cr k).d - x=(S.cr k).b - (Ck S.made k + x)/\0<=(S.cr k).d - x;lia
  ·rw[aL e,aL (fun z=>e z.symm)];lia
def rY {ex:Bool}{c:Nat}: ∀{l:List Nat} {S:Bk},l.Nodup->Acc S->c < S.credits.length->(∀b∈l,b < S.aC.length/\0 < (S.bl b).d)->Acc (l.foldl (bJ ex c) S)/\(l.foldl (bJ ex c) S).credits.length=S.credits.length/\(l.foldl (bJ ex c) S).aC.length=S.aC.length
 |[],S,_,h,_,_=>⟨h,rfl,rfl⟩
 |b :: l,S,nd,h,hc,hl=>by
  rw[dA];rw[dS] at nd;obtain⟨hb,pb⟩:=hl b bh;by_cases q:0 < (S.cr c).d/\S.dG c b=true/\((S.cr c).d=(S.bl b).d∨ex=false)
  ·have e:bJ ex c S b=S.put c b (ff (S.cr c).d (S.bl b).d):=aZ q;rw[e];have mn:1<=ff (S.cr c).d (S.bl b).d/\ff (S.cr c).d (S.bl b).d<=(S.cr c).d/\ff (S.cr c).d (S.bl b).d<=(S.bl b).d:=by
    unfold ff;split <;> lia
   have L:Later S (S.put c b (ff (S.cr c).d (S.bl b).d)):=Later.put hb hc (by lia);obtain⟨r1,r2,r3⟩:=rY (ex:=ex) nd.2 (h.put hc hb mn.1 mn.2.1 mn.2.2 q.2.1) (by rw[L.cl]; exact hc) (fun b' pP=>by
    obtain⟨u1,u2⟩:=hl b' (aQ _ pP);refine⟨by rw[L.bl]; exact u1,?_⟩;have nb:b'≠b:=fun z=>nd.1 (z▸pP);rw[mE hb,aL nb];exact u2)
   exact⟨r1,r2.trans L.cl,r3.trans L.bl⟩
  ·have e:bJ ex c S b=S:=aL q;rw[e];exact rY nd.2 h hc fun b' pP=>hl b' (aQ _ pP)
def nv {ex:Bool}{aK:Str}: ∀{l:List Nat} {S:Bk},Acc S->(∀c∈l,c < S.credits.length)->Acc (l.foldl (bS aK ex) S)
 |[],_,h,_=>h
 |c :: l,S,h,hl=>by
  rw[dA];obtain⟨r1,r2,_⟩:=rY (ex:=ex) (ie S.aC aK (·.b)) h (hl c bh) (fun b hb=>⟨(cq.mp hb).1,(cq.mp hb).2.2⟩);exact nv r1 fun c' Kx=>by
   show c' < (bS aK ex S c).credits.length;rw[show(bS aK ex S c).credits.length=S.credits.length from r2];exact hl c' (aQ _ Kx)
def Acc.ij {S:Bk}(h:Acc S)(aK:Str):Acc (S.ij aK):=
 nv (nv h fun c hc=>(cq.mp hc).1) fun c hc=>(cq.mp hc).1
def Acc.enter {S:Bk}(h:Acc S){d:bu}(hb:S.bar d=""):Acc (S.enter d):=by
 cases d with
 |dF w dy u a=>
  refine h.g8 rfl ?_;have pP:(if a < 1 then("no amount":Str) else if u < dy then("too early":Str) else("":Str))="":=hb;split at pP
  ·exact absurd pP n4
  ·show 0<=a; lia
 |pQ w dy a=>
  refine h.fF rfl ?_;have pP:(if a < 1 then("no amount":Str) else("":Str))="":=hb;split at pP
  ·exact absurd pP n4
  ·show 0<=a; lia
 |note b dy a=>
  refine h.fF rfl ?_;have:=(nF hb).2;show 0<=a;lia
 |set c b a=>
  obtain⟨⟨c1,c2⟩,⟨b1,b2⟩,g,x,m1,m2⟩:=kP hb;exact h.put (by lia) (by lia) x m1 m2 g
 |fu w=>exact h.ij w
 |gF m=>exact h
 |ask o w d=>exact h
 |hZ w d l=>exact h
def vE: ∀(l:List (Int×bu)) {S T:Bk},Acc S->cu l S=some T->Acc T
 |[],S,T,h,e=>by
  cases e;exact h
 |(k,d) :: l,S,T,h,e=>by
  unfold cu at e;split at e
  ·rename_i hb;exact vE l (h.enter hb) e
  ·cases e
def Good.acc {T:iD}{n:Nat}(h:Good T n):Acc T.bk:=vE T.steps Acc.new h.w
def dZ (l:List Rw):Nat:=(l.filter fun r=>decide (0 < r.d)).length
def nO (r:Rw)(l:List Rw):dZ (r :: l)=dZ l + if 0 < r.d then 1 else 0:=by
 unfold dZ;by_cases h:0 < r.d
 ·rw[List.filter_cons_of_pos (by simpa using h),if_pos h]; rfl
 ·rw[List.filter_cons_of_neg (by simpa using h),if_neg h]; rfl
def vF: ∀{l:List Rw} {i:Nat} {r:Rw},i < l.length->r.d<=(l.getD i default).d->dZ (l.set i r)<=dZ l/\(0 < (l.getD i default).d->r.d<=0->dZ (l.set i r) + 1=dZ l)
 |[],_,_,h,_=>absurd h (fE _)
 |x :: l,0,r,_,hd=>by
  have Fo:r.d<=x.d:=hd;show dZ (r :: l)<=dZ (x :: l)/\(0 < x.d->r.d<=0->dZ (r :: l) + 1=dZ (x :: l));rw[nO,nO];by_cases a:0 < r.d
  ·rw[aZ a,aZ (by lia)];exact⟨aB _,fun _ h=>by lia⟩
  ·rw[aL a];by_cases b:0 < x.d
   ·rw[aZ b];exact⟨by lia,fun _ _=>rfl⟩
   ·rw[aL b];exact⟨aB _,fun h=>absurd h b⟩
 |x :: l,i + 1,r,h,hd=>by
  obtain⟨h1,h2⟩:=vF (l:=l) (i:=i) (r:=r) (Nat.lt_of_succ_lt_succ h) hd;show dZ (x :: l.set i r)<=dZ (x :: l)/\(0 < (l.getD i default).d->r.d<=0->dZ (x :: l.set i r) + 1=dZ (x :: l));rw[nO,nO];exact⟨by lia,fun a b=>by have:=h2 a b; lia⟩
def Bk.Ah (S:Bk):Nat:=S.made.length + dZ S.aC + dZ S.credits
def E7 {S:Bk}{c b:Nat}{x:Int}(hc:c < S.credits.length)(hb:b < S.aC.length)(hx:0<=x):(S.put c b x).Ah<=S.Ah + 1/\(0 < (S.cr c).d->0 < (S.bl b).d->x=ff (S.cr c).d (S.bl b).d->(S.put c b x).Ah<=S.Ah):=by
 obtain⟨b1,b2⟩:=vF (l:=S.aC) (i:=b) (r:=(S.bl b).less x) hb (by show(S.bl b).d - x<=(S.bl b).d; lia);obtain⟨c1,c2⟩:=vF (l:=S.credits) (i:=c) (r:=(S.cr c).less x) hc (by show(S.cr c).d - x<=(S.cr c).d; lia);have e:(S.put c b x).Ah=S.made.length + 1 + dZ (S.aC.set b ((S.bl b).less x)) + dZ (S.credits.set c ((S.cr c).less x)):=by
  show(S.made ++ [(c,b,x)]).length + _ + _ =_;rw[aF];rfl
 rw[e];unfold Bk.Ah;refine⟨by lia,fun h1 h2 h3=>?_⟩;by_cases q:(S.bl b).d < (S.cr c).d
 ·have hz:((S.bl b).less x).d<=0:=by
   show(S.bl b).d - x<=0;rw[h3];unfold ff;rw[aZ q];lia
  have:=b2 h2 hz;lia
 ·have hz:((S.cr c).less x).d<=0:=by
   show(S.cr c).d - x<=0;rw[h3];unfold ff;rw[aL q];lia
  have:=c2 h1 hz;lia
def rZ {ex:Bool}{c:Nat}: ∀{l:List Nat} {S:Bk},l.Nodup->c < S.credits.length->(∀b∈l,b < S.aC.length/\0 < (S.bl b).d)->(l.foldl (bJ ex c) S).Ah<=S.Ah/\(l.foldl (bJ ex c) S).credits.length=S.credits.length
 |[],S,_,_,_=>⟨aB _,rfl⟩
 |b :: l,S,nd,hc,hl=>by
  rw[dA];rw[dS] at nd;obtain⟨hb,pb⟩:=hl b bh;by_cases q:0 < (S.cr c).d/\S.dG c b=true/\((S.cr c).d=(S.bl b).d∨ex=false)
  ·have e:bJ ex c S b=S.put c b (ff (S.cr c).d (S.bl b).d):=aZ q;rw[e];have mn:0<=ff (S.cr c).d (S.bl b).d:=by
    unfold ff;split <;> lia
   have L:Later S (S.put c b (ff (S.cr c).d (S.bl b).d)):=Later.put hb hc mn;have p:=(E7 hc hb mn).2 q.1 pb rfl;obtain⟨r1,r2⟩:=rZ (ex:=ex) (S:=S.put c b (ff (S.cr c).d (S.bl b).d)) nd.2 (by rw[L.cl]; exact hc) (fun b' pP=>by
    obtain⟨u1,u2⟩:=hl b' (aQ _ pP);refine⟨by rw[L.bl]; exact u1,?_⟩;have nb:b'≠b:=fun z=>nd.1 (z▸pP);rw[mE hb,aL nb];exact u2)
   exact⟨aV r1 p,r2.trans L.cl⟩
  ·have e:bJ ex c S b=S:=aL q;rw[e];exact rZ nd.2 hc fun b' pP=>hl b' (aQ _ pP)
def ny {ex:Bool}{aK:Str}: ∀{l:List Nat} {S:Bk},(∀c∈l,c < S.credits.length)->(l.foldl (bS aK ex) S).Ah<=S.Ah
 |[],_,_=>aB _
 |c :: l,S,hl=>by
  rw[dA];obtain⟨r1,r2⟩:=rZ (ex:=ex) (ie S.aC aK (·.b)) (hl c bh) (fun b hb=>⟨(cq.mp hb).1,(cq.mp hb).2.2⟩);refine aV (ny fun c' Kx=>?_) r1;show c' < (bS aK ex S c).credits.length;rw[show(bS aK ex S c).credits.length=S.credits.length from r2];exact hl c' (aQ _ Kx)
def G4 (S:Bk)(aK:Str):(S.ij aK).Ah<=S.Ah:=
 aV (ny fun c hc=>(cq.mp hc).1) (ny fun c hc=>(cq.mp hc).1)
def r6 (l:List Rw)(r:Rw):dZ (l ++ [r])<=dZ l + 1:=by
 unfold dZ;rw[fR,aF];have:=aY (fun r:Rw=>decide (0 < r.d)) [r];have e:[r].length=1:=rfl;lia
def G5 {S:Bk}{d:bu}(hb:S.bar d=""):(S.enter d).Ah<=S.Ah + 1:=by
 cases d with
 |dF w dy u a=>
  have:=r6 S.aC ⟨w,dy,u,a,a⟩;show S.made.length + dZ (S.aC ++ [_]) + dZ S.credits<=S.made.length + dZ S.aC + dZ S.credits + 1;lia
 |pQ w dy a=>
  have:=r6 S.credits ⟨w,dy,a,-1,a⟩;show S.made.length + dZ S.aC + dZ (S.credits ++ [_])<=S.made.length + dZ S.aC + dZ S.credits + 1;lia
 |note b dy a=>
  have:=r6 S.credits ⟨(S.bl b.toNat).aK,dy,a,b,a⟩;show S.made.length + dZ S.aC + dZ (S.credits ++ [_])<=S.made.length + dZ S.aC + dZ S.credits + 1;lia
 |set c b a=>
  obtain⟨⟨c1,c2⟩,⟨b1,b2⟩,g,x,m1,m2⟩:=kP hb;exact(E7 (by lia) (by lia) (by lia)).1
 |fu w=>exact rm (G4 S w)
 |gF m=>exact cD _
 |ask o w d=>exact cD _
 |hZ w d l=>exact cD _
def vG: ∀(l:List (Int×bu)) {S T:Bk},cu l S=some T->T.Ah<=S.Ah + l.length
 |[],S,T,e=>by
  cases e;exact aB _
 |(k,d) :: l,S,T,e=>by
  unfold cu at e;split at e
  ·rename_i hb;have h1:=vG l e;have h2:=G5 hb;rw[bU];lia
  ·cases e
def Good.made {T:iD}{n:Nat}(h:Good T n):T.bk.made.length<=n:=by
 have h1:=vG T.steps h.w;have h2:=h.len;have h3:Bk.new.Ah=0:=rfl;have h4:T.bk.made.length<=T.bk.Ah:=by unfold Bk.Ah; lia
 lia
end L2
namespace eD
open PySem L2 PyProof.Rows Ka
seal L2.oq L2.PS L2.PE L2.PT L2.PW L2.PA L2.PC L2.PG L2.Hr L2.PI L2.KU L2.JZ L2.PO L2.nW L2.Mw L2.gE L2.HL L2.My
section
variable {P:Program}{w:World}{K:Frag}{mg:Str->Option Value}{base:Heap}
def yf {H:Hp}{rs:List Rw}{ps:List Addr}(h:eM H rs ps){a:Addr}(ha:a∈ps): ∃xs,H a=some (.lst xs):=by
 induction h with
 |nil=>cases ha
 | @cons r p rs ps hr t ih=>
  rcases av.mp ha with ha|ha
  ·rw[ha];exact⟨_,hr⟩
  ·exact ih ha
def Ml {H:Hp}{sd a:Addr}{S:Bk}{f:fj}(h:de H sd S f)(hb:a∈f.fp): ∃xs,H a=some (.lst xs):=by
 obtain⟨ms,m1,_⟩:=h.hm;unfold fj.fp at hb;rcases av.mp hb with z|z
 ·rw[z]; exact⟨_,h.hb⟩
 rcases av.mp z with z|z
 ·rw[z]; exact⟨_,h.hc⟩
 rcases av.mp z with z|z
 ·rw[z]; exact⟨_,m1⟩
 rcases bb.mp z with z|z
 ·exact yf h.rb z
 ·exact yf h.rc z
def Pr {H H':Hp}{sd:Addr}{S:Bk}{f:fj}(h:de H sd S f)(k: ∀a o,H a=some o->(∀ps,o≠ .mh ps)->H' a=some o):de H' sd S f:=by
 refine h.keep (fun b o hb e=>?_) (fun a xs e=>k _ _ e (fun _ z=>by cases z));refine k _ _ e (fun ps z=>?_);rcases hb with hb|hb
 ·rw[hb,h.dict,z] at e;cases e
 ·obtain⟨xs,q⟩:=Ml h hb;rw[q,z] at e;cases e
def G6 {ms:List (Nat×Nat×Int)}(h:ms.length<=60):(Dt.lst (ms.map fun t=> .tup [.int t.1,.int t.2.1,.int t.2.2])).size<=100000/\(Dt.lst (ms.map fun t=> .tup [.int t.1,.int t.2.1,.int t.2.2])).plain=true:=by
 have h1:=nN (fun t:Nat×Nat×Int=>Dt.tup [.int t.1,.int t.2.1,.int t.2.2]) 4 ms (fun x _=>aB _);refine⟨?_,pK _ ms fun x _=>rfl⟩;show 1 + Dt.fb (ms.map fun t=>Dt.tup [.int t.1,.int t.2.1,.int t.2.2])<=100000
 omega
def ko (S:Bk)(ms:List (Nat×Nat×Int)):List Int:=(List.range S.credits.length).map fun k=>(S.cr k).b - Ck ms k
def l5 (S:Bk)(ms:List (Nat×Nat×Int)):List Int:=(List.range S.aC.length).map fun k=>(S.bl k).c - Cj ms k
def yg (g:Nat->Int){n i:Nat}(h:i < n):((List.range n).map g).getD i 0=g i:=by
 rw[ai,aD,List.getElem?_range h]; rfl
def Cm {g g':Nat->Int}{n i:Nat}{v:Int}(h:i < n)(e:g' i=v)(o: ∀k,k≠i->g' k=g k):((List.range n).map g).set i v=(List.range n).map g':=by
 apply List.ext_getElem
 ·rw[dz,ae,ae]
 ·intro k h1 h2;rw[dz,ae,df] at h1;rw[List.getElem_set,Hm,Hm,List.getElem_range];split
  ·rename_i z;rw[← z,e]
  ·rename_i z;rw[o k fun q=>z q.symm]
def DW (S:Bk)(ms:List (Nat×Nat×Int)){t:Nat×Nat×Int}(h:t.1 < S.credits.length):(ko S ms).set t.1 ((ko S ms).getD t.1 0 - t.2.2)=ko S (ms ++ [t]):=by
 unfold ko;rw[yg _ h];refine Cm h ?_ fun k hk=>?_
 ·rw[rX,aZ rfl]; omega
 ·rw[rX,aL fun z=>hk z.symm]; omega
def DX (S:Bk)(ms:List (Nat×Nat×Int)){t:Nat×Nat×Int}(h:t.2.1 < S.aC.length):(l5 S ms).set t.2.1 ((l5 S ms).getD t.2.1 0 - t.2.2)=l5 S (ms ++ [t]):=by
 unfold l5;rw[yg _ h];refine Cm h ?_ fun k hk=>?_
 ·rw[rW,aZ rfl]; omega
 ·rw[rW,aL fun z=>hk z.symm]; omega
def yh {rows:List Rw}{g:Rw->Int}{i:Nat}(h:i < rows.length):(rows.take (i + 1)).map g=(rows.take i).map g ++ [g (rows.getD i default)]:=by
 rw[lV h,aM,ai,af h]; rfl
def Cn (rows:List Rw)(g:Rw->Int):rows.map g=(List.range rows.length).map fun k=>g (rows.getD k default):=by
 have e:=rH rows (default:Rw);have e2:rows.map g=((List.range rows.length).map fun j=>rows.getD j default).map g:=by rw[e]
 rw[e2,fh]; rfl
def JW:aO ["_law_script","_law_cells","_law_asked","_law_state","_law_handed","_law_found","_law_frees","_law_lefts","_law_credit","_law_bill","_law_amount"] ["_law_script"] (ay (top 64)):={}
def Pt {cps:List (Addr×Addr)}{f:Addr}{fd:FuncData}(F:fV K "law" "law" (top 64) f fd)(T:Txt K mg){A:dO}{tB tC:Addr}(G:jl K mg A)(DB:pU K mg "bills_in_order" (top 17) tB)(DC:pU K mg "credits_in_order" (top 18) tC)(iU:tB≠tC)(hnd:A.iL≠A.tooMuch)(KB:K.In base)(BM:BMain mg base)(V7: ∃c,(c,tB)∈cps)(hcC: ∃c,(c,tC)∈cps):lB P w K mg base rC 13 f fd ["_law_script"] (JT K cps):=by
 have DY:eQ P w K mg base "settings" 12 ["deeds"] (pL A tB tC):=DV T G DB DC iU hnd KB BM;have Co:=Cf (P:=P) (w:=w) (base:=base) T;have Ai:=Ae (P:=P) (w:=w) (base:=base) T;have qX:=z8 (P:=P) (w:=w) (base:=base) T;have iZ:=mU (P:=P) (w:=w) (base:=base) T;have oo:=om (P:=P) (w:=w) (base:=base) T;refine F.ok (k:=12) JW (fun vs H Q E h=>?_) (fun cM A' outer s H vs Q E hr h=>?_)
 ·obtain⟨a,ns,rfl,_⟩:=h;rfl
 ·obtain⟨a,ns,rfl,hS,hz,hO,k⟩:=h;have jT:lh H tB:=let⟨c,hc⟩:=V7; JS (hO _ hc)
  have jx:lR H tC:=let⟨c,hc⟩:=hcC; JS (hO _ hc)
  have nd:=JW.nd;have hu:=j8 hr;refine⟨_,(ah (sv 1 nd (qf Uj (pv 0) (qe aj) (qe (aR dB aj (fc Co hr (aa (pv 0) (aa aj (aa aj aw))))))))
(ah (sv 2 nd (fc Ai hr (aa (pv 1) aw)))
(ah (sv 3 nd (xt (fc oo hr (aa (pv 2) aw)) aj))
(ah (sv 4 nd (fO lC (by rfl) T.rL boot_list (aa (pv 2) aw)))
(ah (sv 5 nd (fc DY hr (aa (pv 4) aw)))
(ah (bO (PW.pt (pw_or (jy (fS (fc qX hr (aa (pv 4) (aa (pv 2) aw))))) (pw_or1 (jy (fS (fc qX hr (aa (pv 5) (aa (cF hu (pv 3) aN (fun _ _=>rfl)) aw))))))))
(au (a6 mi))
bf)
(ah (iT (i:=6) nd rfl (Or.inl rfl) (tn:=["_law_row"]) (cn:=[]) (cj:=[]) rfl yy (tI (cF hu (pv 3) aN (fun _ _=>rfl))) (fun _ _ _ _=>(en (i:=0) (show(["_law_row"]:List Str).Nodup by decide +kernel) rfl (Or.inl rfl))) (fun _ _ _ _=>lE) (fun _ _ _ _=>(je (iV (K:=K) rfl) (pv 0) aj (fun _ _=>rfl))))
(ah (iT (i:=7) nd rfl (Or.inl rfl) (tn:=["_law_row"]) (cn:=[]) (cj:=[]) rfl yy (tI (cF hu (pv 3) aN (fun _ _=>rfl))) (fun _ _ _ _=>(en (i:=0) (show(["_law_row"]:List Str).Nodup by decide +kernel) rfl (Or.inl rfl))) (fun _ _ _ _=>lE) (fun _ _ _ _=>(je (iV (K:=K) rfl) (pv 0) aj (fun _ _=>rfl))))
(ah (fk bN rfl (tI (pv 5)) (gT (bW (gn 8 nd) (bW (gn 9 nd) (bW (gn 10 nd) gp))))
(ah (bO (PW.pt (pw_or (a0 jA (pv 10) aj (a7 _)) (pw_or1 (jy (fS (fc iZ hr (aa (pv 3) (aa (pv 8) (aa (pv 9) aw)))))))))
(au (a6 mi))
bf)
(ah (kq (aR eK (xl (pv 6) (pv 8)) (pv 10)) (mq (pv 6) (pv 8) set_list))
(au (kq (aR eK (xl (pv 7) (pv 9)) (pv 10)) (mq (pv 7) (pv 9) set_list))))))
(au (a6 (oU (eG AH (fm (ye rfl) (by rfl) T.Be boot_min (aa (aR lD (pv 6) (bP (aa aj aw))) aw)) aj (a7 _)) (mj (eG AH (fm (ye rfl) (by rfl) T.Be boot_min (aa (aR lD (pv 7) (bP (aa aj aw))) aw)) aj (a7 _))))))))))))))),?_⟩
  refine⟨_,rfl,_,rfl,_,rfl,a,_,44,140,rfl,hS,(by rw[ae]; exact hz),_,_,rfl,rfl,_,rfl,a,_,rfl,hS,fun pc nc=>?_⟩;obtain⟨cs,ZZ⟩:=Mh ns (some 1) (some (1 + 44));have qw:cs.length<=44:=by
   have h:=Mg (ns.map V.int) 1 45 (by decide);have e:qg (ns.map V.int) (some ((1:Nat):Int)) (some ((45:Nat):Int))=cs.map V.int:=ZZ;rw[e,ae] at h;exact h
  rw[ZZ];have s1:=aG.new (o:= .lst (cs.map V.int)) nc;have Z0:upd H pc (.lst (cs.map V.int)) pc=some (.lst (cs.map V.int)):=ag;generalize upd H pc (.lst (cs.map V.int))=H1 at s1 Z0;refine⟨_,rfl,pc,cs,rfl,bF.of Z0,(by omega),fun pa ds ms H2 s2 L4 JK E6 cm=>?_⟩;have S2:=s1.trans s2;have i0:lh H2 tB:=bL jT S2;have jZ:lR H2 tC:=bL jx S2;clear s1 s2 S2 jT jx;refine⟨_,rfl,pa,ds,ms,rfl,L4,JK,(by omega),cm,fun t v ps sd us g H3 s3 ht mD Qs Tv Pp ET hG=>?_⟩;refine⟨t,_,_,.ref sd,rfl,rfl,cv.of ht,rfl,?_⟩;have Pu:=s3 _ _ L4;have TC:=JK.mono s3.tk;have qR:lh H3 tB:=bL i0 s3;have qS:lR H3 tC:=bL jZ s3;clear s3 i0 jZ L4 JK;refine⟨_,rfl,pa,ms,rfl,.inl (bF.of Pu),fun ph nh=>?_⟩;have s4:=aG.new (o:= .lst ms) nh;have pH:lh _ tB:=bL qR s4;have pI:lR _ tC:=bL qS s4;have Pw:=s4 _ _ Pu;have Mm:=TC.mono s4.tk;have Mn:=Tv.same s4;have Mo:upd H3 ph (.lst ms) ph=some (.lst ms):=ag;generalize upd H3 ph (.lst ms)=H4 at s4 pH pI Pw Mm Mn Mo;clear s4 qR qS Pu TC Tv;refine⟨_,rfl,ph,ds,ms,rfl,Mo,Mm,(by omega),cm,pH,pI,fun D ws H5 F5 DM DN nD hD Aq=>?_⟩;have JI: ∀t∈[tB,tC],∃ps,H4 t=some (.mh ps):=fun t z=>by
   simp only[List.mem_cons,List.not_mem_nil,or_false] at z;rcases z with rfl|rfl
   ·exact cJ pH
   ·exact cJ pI
  have TF:=qV F5 JI Pw (fun _ z=>by cases z);have TH:=qV F5 JI Mo (fun _ z=>by cases z);have Px:=Mm.mono (fun b xs e=>qV F5 JI e (fun _ z=>by cases z));have Py:=Pr Mn (fun a o e z=>qV F5 JI e z);have nDf:D∉g.fp:=Mn.off nD;have Mp:=hG.acc;have TJ:=hG.made;have wf:=hG.wf (by omega:ds.length<=60);generalize (gG ds iD.new 0).2.bk=S at Py Aq Mp TJ wf;clear Mn F5 DM DN pH pI Pw Mo Mm JI;obtain⟨sz,pl⟩:=DU cm (by omega);refine⟨_,rfl,_,rfl,_,_,_,rfl,lF TH Px,lF TF Px,sz,pl,fun H6 s6=>⟨_,rfl,bV ?_⟩⟩;have Mq:=Py.same s6;have X0:=s6 _ _ hD;have vq:=Aq.mono s6.tk;obtain⟨BO,m1,m2⟩:=Mq.hm;obtain⟨sz2,pl2⟩:=G6 (ms:=S.made) (by omega);refine⟨_,rfl,_,rfl,sd,_,rfl,Mq.gM,_,_,_,rfl,lF X0 (gy.Um vq),lF m1 (gy.Um m2),sz2,pl2,fun H7 s7=>⟨_,rfl,bV ?_⟩⟩;have Aj:=Mq.same s7;have UQ:=s7 _ _ X0;have GO:=vq.mono s7.tk;clear Mq Py s6 s7 X0 vq m1 m2 hD Aq TF TH Px;have lc:=Aj.rc.length;have lb:=Aj.rb.length;have acJ:S.credits.length<=60:=by have:=wf.lc; omega
  have acK:S.aC.length<=60:=by have:=wf.lb; omega
  refine⟨_,rfl,sd,_,rfl,Aj.gC,g.pc,rfl,⟨_,bF.of Aj.hc⟩,?_⟩;refine dX (K:=K) (a:=g.pc) (xs:=g.cps.map V.ref) (fun D i σ H8=>H7 D=none/\ ∃v,σ=[v]/\aG H7 H8/\H8 D=some (.lst (((S.credits.take i).map (·.b)).map V.int))) (fun D hD=>⟨hD,none,rfl,aG.new hD,ag⟩) (fun D i σ H8 _ ⟨_,_,_,t3,_⟩=>bF.of (t3 _ _ Aj.hc)) ?_ ?_
  ·rintro D' i x σ H8 hx ⟨wG,v,rfl,t3,UC⟩;have hi:i < S.credits.length:=by
    have:=(ao.mp hx).1;rw[ae] at this
    omega
   obtain⟨p,e1,e2,e3⟩:=Aj.lc hi;rw[aD,e1] at hx;obtain rfl:V.ref p=x:=aE hx;refine⟨_,rfl,p,_,_,.int (S.cr i).b,rfl,rfl,bF.of (t3 _ _ e3),rfl,_,UC,bc (by rw[ae,ae,bo]; omega),wG,_,rfl,t3.cZ wG,?_⟩;rw[ag,yh hi,aM];rfl
  rintro pf σ H8 Kj ⟨_,v8,rfl,t8,ER⟩;rw[ae,← lc,a8] at ER;have ef:S.credits.map (·.b)=ko S []:=by
   rw[Cn];exact ez fun k _=>(Int.sub_zero _).symm
  rw[ef] at ER;have xg:=Aj.same t8;have nff:pf∉g.fp:=Aj.off Kj;refine⟨_,rfl,sd,_,rfl,xg.gB,g.pb,rfl,⟨_,bF.of xg.hb⟩,?_⟩;refine dX (K:=K) (a:=g.pb) (xs:=g.ip.map V.ref) (fun D i σ H9=>H8 D=none/\ ∃v,σ=[v]/\aG H8 H9/\H9 D=some (.lst (((S.aC.take i).map (·.c)).map V.int))) (fun D hD=>⟨hD,none,rfl,aG.new hD,ag⟩) (fun D i σ H9 _ ⟨_,_,_,t3,_⟩=>bF.of (t3 _ _ xg.hb)) ?_ ?_
  ·rintro D' i x σ H9 hx ⟨wG,v,rfl,t3,hl9⟩;have hi:i < S.aC.length:=by
    have:=(ao.mp hx).1;rw[ae] at this
    omega
   obtain⟨p,e1,e2,e3⟩:=xg.lb hi;rw[aD,e1] at hx;obtain rfl:V.ref p=x:=aE hx;refine⟨_,rfl,p,_,_,.int (S.bl i).c,rfl,rfl,bF.of (t3 _ _ e3),rfl,_,hl9,bc (by rw[ae,ae,bo]; omega),wG,_,rfl,t3.cZ wG,?_⟩;rw[ag,yh hi,aM];rfl
  rintro Kl σ H9 SR ⟨_,v9,rfl,t9,gN⟩;rw[ae,← lb,a8] at gN;have el:S.aC.map (·.c)=l5 S []:=by
   rw[Cn];exact ez fun k _=>(Int.sub_zero _).symm
  rw[el] at gN;have TK:=xg.same t9;have WE:Kl∉g.fp:=xg.off SR;have Pz:=t9 _ _ ER;have X1:=t8.trans t9;have Z1:=X1 _ _ UQ;have TL:=GO.mono X1.tk;have Z2:pf≠Kl:=aI ER SR;have X2:D∉[pf,Kl]:=fun z=>by
   simp only[List.mem_cons,List.not_mem_nil,or_false] at z;rcases z with z|z
   ·rw[← z,UQ] at Kj;cases Kj
   ·have:=t8 _ _ UQ;rw[← z,this] at SR;cases SR
  clear Aj xg t8 t9 X1 UQ GO ER ef el;have El:=aS TL;have PB: ∀ms,(ko S ms).length=S.credits.length:=fun ms=>by unfold ko; rw[List.length_map,List.length_range]
  have PD: ∀ms,(l5 S ms).length=S.aC.length:=fun ms=>by unfold l5; rw[List.length_map,List.length_range]
  refine⟨_,rfl,D,rfl,⟨_,bF.of Z1⟩,?_⟩;refine gA (K:=K) (a:=D) (xs:=ws) (fun i σ H'=> ∃(x8 x9 B0:Option V),σ=[some (.ref a),some (.ref pc),some (.ref pa),some (.ref sd),some (.ref ph),some (.ref D),some (.ref pf),some (.ref Kl),x8,x9,B0]/\Frame [pf,Kl] H9 H'/\H' pf=some (.lst ((ko S (S.made.take i)).map V.int))/\H' Kl=some (.lst ((l5 S (S.made.take i)).map V.int)))
   ⟨none,none,none,rfl,Frame.refl,Pz,gN⟩ (fun i σ H' _ ⟨_,_,_,_,f2,_⟩=>bF.of (f2 _ _ X2 Z1)) ?_ ?_
  ·rintro i x σ H' hx ⟨x8,x9,B0,rfl,f2,UR,QV⟩;have hi:i < S.made.length:=by have:=(ao.mp hx).1; omega
   have oB:=af hi;obtain⟨v',hv,p,rfl,hp⟩:=bI TL oB;rw[hx] at hv;obtain rfl:x= .ref p:=aE hv;obtain⟨a1,a2,a3,a4⟩:=Mp.m _ (bD hi);have mv:=lV hi;generalize S.made[i]=t at hp a1 a2 a3 a4 mv;have GW: ∀{b:Addr} {o:HO},H9 b=some o->(∀xs,o≠ .lst xs)->H' b=some o:=fun{b o} e n=>f2 _ _ (fun z=>by
    simp only[List.mem_cons,List.not_mem_nil,or_false] at z;rcases z with z|z
    ·rw[z,Pz] at e;exact n _ (aE e).symm
    ·rw[z,gN] at e;exact n _ (aE e).symm) e
   have XU:de H' sd S g:=TK.keep (fun b o hb e=>f2 _ _ (fun z=>by
    simp only[List.mem_cons,List.not_mem_nil,or_false] at z;rcases hb with hb|hb
    ·have e9:=TK.dict;rcases z with z|z
     ·rw[← hb,z,Pz] at e9;cases e9
     ·rw[← hb,z,gN] at e9;cases e9
    ·rcases z with z|z
     ·exact nff (z▸hb)
     ·exact WE (z▸hb)) e) (fun b xs e=>GW e (fun _ z=>by cases z))
   refine⟨p,_,rfl,cv.of (GW hp (fun _ z=>by cases z)),rfl,_,_,rfl,_,_,rfl,_,_,rfl,rfl,?_⟩;refine⟨_,rfl,_,_,rfl,rfl,_,rfl,cy (fun z=>?_) (fun _=>?_)⟩
   ·have:=aX z
    omega
   refine⟨_,rfl,_,rfl,_,rfl,sd,S,g,t.1,t.2.1,rfl,XU,a1,a2,fun H2 s2=>⟨_,rfl,cy (fun z=>?_) (fun _=>?_)⟩⟩
   ·rw[a4] at z;cases z
   have Z3:=s2 _ _ UR;have Hf:=s2 _ _ QV;refine⟨_,rfl,_,rfl,pf,_,_,.int ((ko S (S.made.take i)).getD t.1 0),rfl,rfl,bF.of Z3,mO (by rw[PB]; exact a1),_,rfl,_,_,rfl,rfl,?_⟩;refine⟨_,rfl,_,rfl,pf,_,_,t.1,rfl,rfl,Z3,nJ (by rw[ae,PB]; exact a1),?_⟩;have To:upd H2 pf (.lst (((ko S (S.made.take i)).map V.int).set t.1 (.int ((ko S (S.made.take i)).getD t.1 0 - t.2.2)))) Kl=some (.lst ((l5 S (S.made.take i)).map V.int)):=by rw[az Z2.symm]; exact Hf
   refine⟨_,rfl,_,rfl,Kl,_,_,.int ((l5 S (S.made.take i)).getD t.2.1 0),rfl,rfl,bF.of To,mO (by rw[PD]; exact a2),_,rfl,_,_,rfl,rfl,?_⟩;refine⟨_,rfl,_,rfl,Kl,_,_,t.2.1,rfl,rfl,To,nJ (by rw[ae,PD]; exact a2),?_⟩;refine⟨_,_,_,rfl,((f2.cI s2).tr (Frame.upd (by simp))).tr (Frame.upd (by simp)),?_,?_⟩
   ·rw[az Z2,ag,mv,← DW S _ a1,vO]
   ·rw[ag,mv,← DX S _ a2,vO]
  ·rintro σ H' ⟨x8,x9,B0,rfl,f2,UR,QV⟩;rw[← El,a8] at UR QV;have X3: ∀m∈ko S S.made ++ [0],0<=m:=fun m hm=>by
    rcases bb.mp hm with hm|hm
    ·obtain⟨q,hq,rfl⟩:=bE.mp hm;have:=Mp.c q (cK.mp hq)
     omega
    ·rw[ak.mp hm];exact eu _
   have posB: ∀m∈l5 S S.made ++ [0],0<=m:=fun m hm=>by
    rcases bb.mp hm with hm|hm
    ·obtain⟨q,hq,rfl⟩:=bE.mp hm;have:=Mp.b q (cK.mp hq)
     omega
    ·rw[ak.mp hm];exact eu _
   refine⟨_,rfl,(by show 1<=sizeLine; decide),fun p1 n1=>?_⟩;have u1:=aG.new (o:= .lst [V.int 0]) n1;refine⟨pf,p1,_,_,rfl,rfl,u1 _ _ UR,ag,?_,fun p2 n2=>?_⟩
   ·refine c8 (bc ?_);rw[ae,PB];show S.credits.length + 1<=1000
    omega
   have u2:=aG.new (o:= .lst ((ko S S.made).map V.int ++ [V.int 0])) n2;refine⟨p2,ko S S.made ++ [0],rfl,bF.of (by rw[ag,List.map_append]; rfl),by simp,fun m hm=>?_⟩;have SE:=X3 m hm;refine⟨_,_,rfl,rfl,true,cQ V.bl (aJ SE),fe ?_⟩;have Hf:=u2 _ _ (u1 _ _ QV);refine⟨_,rfl,(by show 1<=sizeLine; decide),fun p3 n3=>?_⟩;have u3:=aG.new (o:= .lst [V.int 0]) n3;refine⟨Kl,p3,_,_,rfl,rfl,u3 _ _ Hf,ag,?_,fun p4 n4=>?_⟩
   ·refine c8 (bc ?_);rw[ae,PD];show S.aC.length + 1<=1000
    omega
   refine⟨p4,l5 S S.made ++ [0],rfl,bF.of (by rw[ag,List.map_append]; rfl),by simp,fun m' hm'=>?_⟩;have T3:=posB m' hm';refine⟨_,_,rfl,rfl,?_⟩;have e:decide (m'≥0)=true:=aJ T3;show Q (.bl (decide (m'≥0))) _;rw[e];exact k _
section
variable {h:Heap}{x q:Str}{st:Stmt}{f C R:Addr}{oc kV dc pm cd ct:Value}{od an:Option Addr}{sl:Array (Option Value)}
abbrev M6 (K:Frag)(f:Addr)(x q:Str)(st:Stmt)(oc:Value)(od an:Option Addr)(kV dc pm cd ct:Value)(sl:Array (Option Value)):Prop:=K.lookup f=some ⟨oc,od,.func (fnOf x q (gr st) (dj st) (ay st) .none kV dc pm an cd ct),sl⟩
def cX (X:K.In h)(G:h.Ns mainGlobals mg)(a:nsIn K mainGlobals x=some (some (.ref f)))(l:M6 K f x x st oc od an kV dc pm cd ct sl)(c:codeIn K cd x=true)(k:keepIn K (.ref f)=true):Df K mg x st:=⟨_,_,oY l c k,cU X G a⟩
def lq (a:findIn K (.ref C) x=some (some (.ref f)))(i:PySem.W.isFn K (.ref f)=true)(l:M6 K f x q st oc od an kV dc pm cd ct sl)(c:codeIn K cd q=true)(k:keepIn K (.ref f)=true): ∃f fd,fV K x q st f fd/\Meth K C x f:=⟨_,_,oY l c k,a,i,k⟩
def E8 (a:findIn K (.ref C) "__init__"=some (some (.ref f)))(i:PySem.W.isFn K (.ref f)=true)(l:M6 K f "__init__" q st oc od an kV dc pm cd ct sl)(c:codeIn K cd q=true)(k:keepIn K (.ref f)=true)(m:makesIn K C=true)(kc:keepIn K (.ref C)=true): ∃f fd,fV K "__init__" q st f fd/\Mk K C f:=⟨_,_,oY l c k,m,a,i,kc⟩
def sP (a:findIn K (.ref C) "__init__"=some (some (.ref f)))(t:typeIn K (.ref f)=some (.type "function"))(l:M6 K f "__init__" q st oc od an kV dc pm cd ct sl)(c:codeIn K cd q=true)(k:keepIn K (.ref f)=true): ∃f fd,fV K "__init__" q st f fd/\findIn K (.ref C) "__init__"=some (some (.ref f))/\typeIn K (.ref f)=some (.type "function"):=⟨_,_,oY l c k,a,t⟩
def PF (r:readsIn K C (.type "type")=true)(s:specialIn K (.ref C) "__getattribute__"=some (some (.builtin "type.__getattribute__")))(a:findCls K (.ref C) (.type "type") "__init__"=some (.val (.ref f)))(l:M6 K f "__init__" q st oc od an kV dc pm cd ct sl)(c:codeIn K cd q=true)(k:keepIn K (.ref f)=true): ∃f fd,fV K "__init__" q st f fd/\EB K C f:=⟨_,_,oY l c k,r,s,a,k⟩
def sQ {nm:Str}{N:Addr}{bs:List Value}{sn:List Str}{sub:List Value}{ab:Bool}{col:Option Bool}{dd:Option Addr}{k0 k1 k2 k3 k5:Option Value}(o:K.lookup C=some (excClassObj nm q C N bs [.ref R,.type "Exception",.type "BaseException",.type "object"] true sn sub ab col dd k0 k1 k2 k3 k5 "Exception.__new__"))
  (a:findIn K (.ref C) "__setattr__"=some (some (.builtin "object.__setattr__"))) (b:findIn K (.ref C) "__getattribute__"=some (some (.builtin "BaseException.__getattribute__"))) (c:findIn K (.ref C) "__getattr__"=some none) (d:findIn K (.ref C) "text"=some none):gI K C R:=⟨⟨_,_,_,_,_,_,_,_,_,_,_,_,_,_,_,o,.inr rfl⟩,a,b,c,d⟩
def PH {nm:Str}{N:Addr}{bs:List Value}{sn:List Str}{sub:List Value}{ab:Bool}{col:Option Bool}{dd:Option Addr}{k0 k1 k2 k3 k5:Option Value}(o:K.lookup C=some (excClassObj nm q C N bs [.type "Exception",.type "BaseException",.type "object"] true sn sub ab col dd k0 k1 k2 k3 k5 "Exception.__new__"))
  (a:findIn K (.ref C) "__setattr__"=some (some (.builtin "object.__setattr__"))) (b:findIn K (.ref C) "__getattribute__"=some (some (.builtin "BaseException.__getattribute__"))) (c:findIn K (.ref C) "__getattr__"=some none) (d:findIn K (.ref C) "text"=some none):gI K C C:=⟨⟨_,_,_,_,_,_,_,_,_,_,_,_,_,_,_,o,.inl ⟨rfl,rfl⟩⟩,a,b,c,d⟩
def M7 {c tb:Addr}(X:K.In h)(G:h.Ns mainGlobals mg)(a:nsIn K mainGlobals x=some (some (.ref f)))(l:M6 K f x x st oc od an kV dc pm (.ref c) ct sl)(cd:codeIn K (.ref c) x=true)(k:keepIn K (.ref f)=true)(hd:codeHdIn K c tb=true)(n:K.lookup tb=none):pU K mg x st tb/\ ∃c,codeHdIn K c tb=true/\K.lookup tb=none:=⟨⟨f,c,oc,od,kV,dc,pm,an,ct,sl,l,cd,k,cU X G a,hd⟩,c,hd,n⟩
end
end
def PJ {K:Frag}{mg:Str->Option Value}{lT ix fI lU d8 jQ nz i7 jR jS lu i8 nA:Addr}(h1:mg "Refusal"=some (.ref d8))(h2:gI K d8 d8)(h3:keepIn K (.ref d8)=true)(h4: ∃f fd,fV K "__init__" "Refusal.__init__" (mem 3 0) f fd/\EB K d8 f)(h5:mg "NoCredit"=some (.ref jQ))(h6:gI K jQ d8)(h7:keepIn K (.ref jQ)=true)(h8: ∃f fd,fV K "__init__" "NoCredit.__init__" (mem 4 0) f fd/\findIn K (.ref jQ) "__init__"=some (some (.ref f))/\typeIn K (.ref f)=some (.type "function"))(h9:mg "NoBill"=some (.ref nz))(J2:gI K nz d8)(VR:keepIn K (.ref nz)=true)(T8: ∃f fd,fV K "__init__" "NoBill.__init__" (mem 5 0) f fd/\findIn K (.ref nz) "__init__"=some (some (.ref f))/\typeIn K (.ref f)=some (.type "function"))(h13:mg "NotTheirs"=some (.ref i7))(h14:gI K i7 d8)(Vy:keepIn K (.ref i7)=true)(h16: ∃f fd,fV K "__init__" "NotTheirs.__init__" (mem 6 0) f fd/\findIn K (.ref i7) "__init__"=some (some (.ref f))/\typeIn K (.ref f)=some (.type "function"))(h17:mg "NoAmount"=some (.ref jR))(h18:gI K jR d8)(h19:keepIn K (.ref jR)=true)(h20: ∃f fd,fV K "__init__" "NoAmount.__init__" (mem 7 0) f fd/\findIn K (.ref jR) "__init__"=some (some (.ref f))/\typeIn K (.ref f)=some (.type "function"))(h21:mg "TooEarly"=some (.ref jS))(h22:gI K jS d8)(h23:keepIn K (.ref jS)=true)(Ws: ∃f fd,fV K "__init__" "TooEarly.__init__" (mem 8 0) f fd/\findIn K (.ref jS) "__init__"=some (some (.ref f))/\typeIn K (.ref f)=some (.type "function"))(h25:mg "TooMuch"=some (.ref lu))(h26:gI K lu d8)(h27:keepIn K (.ref lu)=true)(h28: ∃f fd,fV K "__init__" "TooMuch.__init__" (mem 9 0) f fd/\findIn K (.ref lu) "__init__"=some (some (.ref f))/\typeIn K (.ref f)=some (.type "function"))(h29:mg "NoSetting"=some (.ref i8))(ZL:gI K i8 d8)(h31:keepIn K (.ref i8)=true)(h32: ∃f fd,fV K "__init__" "NoSetting.__init__" (mem 10 0) f fd/\findIn K (.ref i8) "__init__"=some (some (.ref f))/\typeIn K (.ref f)=some (.type "function"))(h33:mg "Needed"=some (.ref nA))(Wt:gI K nA d8)(h35:keepIn K (.ref nA)=true)(h36: ∃f fd,fV K "__init__" "Needed.__init__" (mem 11 0) f fd/\findIn K (.ref nA) "__init__"=some (some (.ref f))/\typeIn K (.ref f)=some (.type "function"))(h37:mg "Bill"=some (.ref lT))(h38:vT K lT)(h39:bY K lT "number")(h40:bY K lT "who")(h41:bY K lT "day")(h42:bY K lT "due")(h43:bY K lT "amount")(h44: ∃f fd,fV K "__init__" "Bill.__init__" (mem 13 0) f fd/\Mk K lT f)(h45:mg "Credit"=some (.ref ix))(h46:vT K ix)(h47:bY K ix "number")(h48:bY K ix "who")(h49:bY K ix "day")(h50:bY K ix "amount")(h51:bY K ix "only")(h52: ∃f fd,fV K "__init__" "Credit.__init__" (mem 14 0) f fd/\Mk K ix f)(h53:mg "Work"=some (.ref fI))(Wu:vT K fI)(h55:bY K fI "bills")(h56:bY K fI "all_credits")(h57:bY K fI "lefts")(h58:bY K fI "frees")(h59:bY K fI "made")(h60: ∃f fd,fV K "__init__" "Work.__init__" (mem 25 0) f fd/\Mk K fI f)(h61: ∃f fd,fV K "tell_bill" "Work.tell_bill" (mem 25 1) f fd/\Meth K fI "tell_bill" f)(h62: ∃f fd,fV K "tell_payment" "Work.tell_payment" (mem 25 2) f fd/\Meth K fI "tell_payment" f)(h63: ∃f fd,fV K "tell_note" "Work.tell_note" (mem 25 3) f fd/\Meth K fI "tell_note" f)(Cr: ∃f fd,fV K "tell_credit" "Work.tell_credit" (mem 25 4) f fd/\Meth K fI "tell_credit" f)(h65: ∃f fd,fV K "set_by_hand" "Work.set_by_hand" (mem 25 5) f fd/\Meth K fI "set_by_hand" f)(h66: ∃f fd,fV K "sweep" "Work.sweep" (mem 25 6) f fd/\Meth K fI "sweep" f)(h67: ∃f fd,fV K "one_round" "Work.one_round" (mem 25 7) f fd/\Meth K fI "one_round" f)(h68: ∃f fd,fV K "put" "Work.put" (mem 25 8) f fd/\Meth K fI "put" f)(h69: ∃f fd,fV K "credit_at" "Work.credit_at" (mem 25 9) f fd/\Meth K fI "credit_at" f)(h70: ∃f fd,fV K "bill_at" "Work.bill_at" (mem 25 10) f fd/\Meth K fI "bill_at" f)(h71:mg "Book"=some (.ref lU))(h72:vT K lU)(h73:bY K lU "kept")(h74:bY K lU "work")(h75: ∃f fd,fV K "__init__" "Book.__init__" (mem 29 0) f fd/\Mk K lU f)(h76: ∃f fd,fV K "do" "Book.do" (mem 29 1) f fd/\Meth K lU "do" f)(h77: ∃f fd,fV K "undo" "Book.undo" (mem 29 2) f fd/\Meth K lU "undo" f)(h78: ∃f fd,fV K "in_force" "Book.in_force" (mem 29 3) f fd/\Meth K lU "in_force" f):jl K mg ⟨lT,ix,fI,lU,d8,jQ,nz,i7,jR,jS,lu,i8,nA⟩:=⟨h1,h2,h3,h4,h5,h6,h7,h8,h9,J2,VR,T8,h13,h14,Vy,h16,h17,h18,h19,h20,h21,h22,h23,Ws,h25,h26,h27,h28,h29,ZL,h31,h32,h33,Wt,h35,h36,h37,h38,h39,h40,h41,h42,h43,h44,h45,h46,h47,h48,h49,h50,h51,h52,h53,Wu,h55,h56,h57,h58,h59,h60,h61,h62,h63,Cr,h65,h66,h67,h68,h69,h70,h71,h72,h73,h74,h75,h76,h77,h78⟩
def all_mk {l:PySem.W.OpenLaw}{w:World}{K:Frag}{h:Heap}{mg:Str->Option Value}{f fa:Addr}{oc kV dc pm cd ct:Value}{od an:Option Addr}{sl:Array (Option Value)}(X:K.In h)(G:h.Ns mainGlobals mg)(hfa:mg "law"=some (.ref fa)){A:dO}(GP:jl K mg A)(hnd:A.iL≠A.tooMuch)(T:Txt K mg)(DB:pU K mg "bills_in_order" (top 17) 249/\ ∃c,codeHdIn K c 249=true/\K.lookup 249=none)(DC:pU K mg "credits_in_order" (top 18) 254/\ ∃c,codeHdIn K c 254=true/\K.lookup 254=none)(a:nsIn K mainGlobals "law"=some (some (.ref f)))(lk:M6 K f "law" "law" (top 64) oc od an kV dc pm cd ct sl)(c:codeIn K cd "law"=true)(k:keepIn K (.ref f)=true):
  ∃(fd:FuncData) (cps:List (Addr×Addr)),(∀cp∈cps,cp.2∈[254,249])/\(∀cp∈cps,codeHdIn K cp.1 cp.2=true/\K.lookup cp.2=none)/\(∀(s:Shared) (u:Value),BindsTo s fd ⟨[u],[]⟩ [("_law_script",u)])/\
   ∀base:Heap,K.In base->base.Ns mainGlobals mg->BMain mg base->lB l.prog w K mg base rC 13 fa fd ["_law_script"] (JT K cps):=by
 have e:=hfa.symm.trans (cU X G a);cases e;obtain⟨DB,cb,b1,b2⟩:=DB;obtain⟨DC,cc,c1,c2⟩:=DC;refine⟨_,[(cb,249),(cc,254)],fun cp hc=>?_,fun cp hc=>?_,fun s v=> .of_eq rfl,fun base KB _ BM=>Pt (oY (st:=top 64) lk c k) T GP DB DC (by decide) hnd KB BM ⟨cb,by simp⟩ ⟨cc,by simp⟩⟩
 ·simp only[List.mem_cons,List.not_mem_nil,or_false] at hc;rcases hc with rfl|rfl <;> simp
 ·simp only[List.mem_cons,List.not_mem_nil,or_false] at hc;rcases hc with rfl|rfl
  ·exact⟨b1,b2⟩
  ·exact⟨c1,c2⟩
end eD
open PySem PySem.W PyProof.Rows L2
set_option maxRecDepth 100000 in
set_option maxHeartbeats 0 in
theorem PySem.Challenge.cw_spikebook_k06_whole_never_twice_holds : PySem.Challenge.rw_spikebook_k06_whole_never_twice.Holds := by
 w_on; o_law; k_head; (case hw=>w_witness2)
 k_fill
 refine L2.II (n:=63) (k:=13) (ts:=[254,249]) (x:="_law_script") (sp:=fun K cps=>eD.JT K cps) rfl (by decide) rfl ⟨rfl,by decide,by decide⟩ (fun w h Y=>⟨PySem.W.km_in_of Y,PySem.W.km_tabs_of Y⟩) ?F (fun _ cps _ a ns hl hO hS=>⟨a,ns,rfl,hS,hl,hO,fun _=>rfl⟩)
 case F=>
  intro w mg fa h KX G Q5
  refine' eD.all_mk KX G Q5 (eD.PJ (cU KX G ?q1) (eD.PH ?q2 ?q3 ?q4 ?q5 ?q6) ?q7 (eD.PF ?q8 ?q9 ?q10 ?q11 ?q12 ?q13) (cU KX G ?q14) (eD.sQ ?q15 ?q16 ?q17 ?q18 ?q19) ?q20 (eD.sP ?q21 ?q22 ?q23 ?q24 ?q25) (cU KX G ?q26) (eD.sQ ?q27 ?q28 ?q29 ?q30 ?q31) ?q32 (eD.sP ?q33 ?q34 ?q35 ?q36 ?q37) (cU KX G ?q38) (eD.sQ ?q39 ?q40 ?q41 ?q42 ?q43) ?q44 (eD.sP ?q45 ?q46 ?q47 ?q48 ?q49) (cU KX G ?q50) (eD.sQ ?q51 ?q52 ?q53 ?q54 ?q55) ?q56 (eD.sP ?q57 ?q58 ?q59 ?q60 ?q61) (cU KX G ?q62) (eD.sQ ?q63 ?q64 ?q65 ?q66 ?q67) ?q68 (eD.sP ?q69 ?q70 ?q71 ?q72 ?q73) (cU KX G ?q74) (eD.sQ ?q75 ?q76 ?q77 ?q78 ?q79) ?q80 (eD.sP ?q81 ?q82 ?q83 ?q84 ?q85) (cU KX G ?q86) (eD.sQ ?q87 ?q88 ?q89 ?q90 ?q91) ?q92 (eD.sP ?q93 ?q94 ?q95 ?q96 ?q97) (cU KX G ?q98) (eD.sQ ?q99 ?q100 ?q101 ?q102 ?q103) ?q104 (eD.sP ?q105 ?q106 ?q107 ?q108 ?q109) (cU KX G ?q110) ⟨?q111,?q112,?q113,?q114⟩ ?q115 ?q116 ?q117 ?q118 ?q119 (eD.E8 ?q120 ?q121 ?q122 ?q123 ?q124 ?q125 ?q126) (cU KX G ?q127) ⟨?q128,?q129,?q130,?q131⟩ ?q132 ?q133 ?q134 ?q135 ?q136 (eD.E8 ?q137 ?q138 ?q139 ?q140 ?q141 ?q142 ?q143) (cU KX G ?q144) ⟨?q145,?q146,?q147,?q148⟩ ?q149 ?q150 ?q151 ?q152 ?q153 (eD.E8 ?q154 ?q155 ?q156 ?q157 ?q158 ?q159 ?q160) (eD.lq ?q161 ?q162 ?q163 ?q164 ?q165) (eD.lq ?q166 ?q167 ?q168 ?q169 ?q170) (eD.lq ?q171 ?q172 ?q173 ?q174 ?q175) (eD.lq ?q176 ?q177 ?q178 ?q179 ?q180) (eD.lq ?q181 ?q182 ?q183 ?q184 ?q185) (eD.lq ?q186 ?q187 ?q188 ?q189 ?q190) (eD.lq ?q191 ?q192 ?q193 ?q194 ?q195) (eD.lq ?q196 ?q197 ?q198 ?q199 ?q200) (eD.lq ?q201 ?q202 ?q203 ?q204 ?q205) (eD.lq ?q206 ?q207 ?q208 ?q209 ?q210) (cU KX G ?q211) ⟨?q212,?q213,?q214,?q215⟩ ?q216 ?q217 (eD.E8 ?q218 ?q219 ?q220 ?q221 ?q222 ?q223 ?q224) (eD.lq ?q225 ?q226 ?q227 ?q228 ?q229) (eD.lq ?q230 ?q231 ?q232 ?q233 ?q234) (eD.lq ?q235 ?q236 ?q237 ?q238 ?q239)) ?hnd ⟨eD.cX KX G ?q240 ?q241 ?q242 ?q243,eD.cX KX G ?q244 ?q245 ?q246 ?q247,eD.cX KX G ?q248 ?q249 ?q250 ?q251,eD.cX KX G ?q252 ?q253 ?q254 ?q255,eD.cX KX G ?q256 ?q257 ?q258 ?q259,eD.cX KX G ?q260 ?q261 ?q262 ?q263,eD.cX KX G ?q264 ?q265 ?q266 ?q267,eD.cX KX G ?q268 ?q269 ?q270 ?q271,eD.cX KX G ?q272 ?q273 ?q274 ?q275,eD.cX KX G ?q276 ?q277 ?q278 ?q279,eD.cX KX G ?q280 ?q281 ?q282 ?q283,eD.cX KX G ?q284 ?q285 ?q286 ?q287,eD.cX KX G ?q288 ?q289 ?q290 ?q291,eD.cX KX G ?q292 ?q293 ?q294 ?q295,eD.cX KX G ?q296 ?q297 ?q298 ?q299,eD.cX KX G ?q300 ?q301 ?q302 ?q303,eD.cX KX G ?q304 ?q305 ?q306 ?q307,eD.cX KX G ?q308 ?q309 ?q310 ?q311,eD.cX KX G ?q312 ?q313 ?q314 ?q315,eD.cX KX G ?q316 ?q317 ?q318 ?q319,eD.cX KX G ?q320 ?q321 ?q322 ?q323,eD.cX KX G ?q324 ?q325 ?q326 ?q327,eD.cX KX G ?q328 ?q329 ?q330 ?q331,eD.cX KX G ?q332 ?q333 ?q334 ?q335,eD.cX KX G ?q336 ?q337 ?q338 ?q339,eD.cX KX G ?q340 ?q341 ?q342 ?q343,eD.cX KX G ?q344 ?q345 ?q346 ?q347,eD.cX KX G ?q348 ?q349 ?q350 ?q351,eD.cX KX G ?q352 ?q353 ?q354 ?q355,eD.cX KX G ?q356 ?q357 ?q358 ?q359,eD.cX KX G ?q360 ?q361 ?q362 ?q363,eD.cX KX G ?q364 ?q365 ?q366 ?q367,eD.cX KX G ?q368 ?q369 ?q370 ?q371,eD.cX KX G ?q372 ?q373 ?q374 ?q375,eD.cX KX G ?q376 ?q377 ?q378 ?q379,eD.cX KX G ?q380 ?q381 ?q382 ?q383,eD.cX KX G ?q384 ?q385 ?q386 ?q387,eD.cX KX G ?q388 ?q389 ?q390 ?q391,eD.cX KX G ?q392 ?q393 ?q394 ?q395,eD.cX KX G ?q396 ?q397 ?q398 ?q399,eD.cX KX G ?q400 ?q401 ?q402 ?q403,eD.cX KX G ?q404 ?q405 ?q406 ?q407,eD.cX KX G ?q408 ?q409 ?q410 ?q411,eD.cX KX G ?q412 ?q413 ?q414 ?q415,bT KX G ?q416,bT KX G ?q417,bT KX G ?q418,bT KX G ?q419,bT KX G ?q420,bT KX G ?q421,bT KX G ?q422,bT KX G ?q423,bT KX G ?q424,bT KX G ?q425,bT KX G ?q426,bT KX G ?q427,bT KX G ?q428,bT KX G ?q429,bT KX G ?q430⟩ (eD.M7 KX G ?q431 ?q432 ?q433 ?q434 ?u1 ?u2) (eD.M7 KX G ?q435 ?q436 ?q437 ?q438 ?u3 ?u4) ?q439 ?q440 ?q441 ?q442
  case q1|q2|q3|q4|q5|q6|q7|q8|q9|q10|q11|q12|q13|q14|q15|q16|q17|q18|q19|q20|q21|q22|q23|q24|q25|q26|q27|q28|q29|q30|q31|q32|q33|q34|q35|q36|q37|q38|q39|q40|q41|q42|q43|q44|q45|q46|q47|q48|q49|q50|q51|q52|q53|q54|q55|q56|q57|q58|q59|q60|q61|q62|q63|q64|q65|q66|q67|q68|q69|q70|q71|q72|q73|q74|q75|q76|q77|q78|q79|q80|q81|q82|q83|q84|q85|q86|q87|q88|q89|q90|q91|q92|q93|q94|q95|q96|q97|q98|q99|q100|q101|q102|q103|q104|q105|q106|q107|q108|q109|q110|q111|q112|q113|q114|q115|q116|q117|q118|q119|q120|q121|q122|q123|q124|q125|q126|q127|q128|q129|q130|q131|q132|q133|q134|q135|q136|q137|q138|q139|q140|q141|q142|q143|q144|q145|q146|q147|q148|q149|q150|q151|q152|q153|q154|q155|q156|q157|q158|q159|q160|q161|q162|q163|q164|q165|q166|q167|q168|q169|q170|q171|q172|q173|q174|q175|q176|q177|q178|q179|q180|q181|q182|q183|q184|q185|q186|q187|q188|q189|q190|q191|q192|q193|q194|q195|q196|q197|q198|q199|q200|q201|q202|q203|q204|q205|q206|q207|q208|q209|q210|q211|q212|q213|q214|q215|q216|q217|q218|q219|q220|q221|q222|q223|q224|q225|q226|q227|q228|q229|q230|q231|q232|q233|q234|q235|q236|q237|q238|q239|q240|q241|q242|q243|q244|q245|q246|q247|q248|q249|q250|q251|q252|q253|q254|q255|q256|q257|q258|q259|q260|q261|q262|q263|q264|q265|q266|q267|q268|q269|q270|q271|q272|q273|q274|q275|q276|q277|q278|q279|q280|q281|q282|q283|q284|q285|q286|q287|q288|q289|q290|q291|q292|q293|q294|q295|q296|q297|q298|q299|q300|q301|q302|q303|q304|q305|q306|q307|q308|q309|q310|q311|q312|q313|q314|q315|q316|q317|q318|q319|q320|q321|q322|q323|q324|q325|q326|q327|q328|q329|q330|q331|q332|q333|q334|q335|q336|q337|q338|q339|q340|q341|q342|q343|q344|q345|q346|q347|q348|q349|q350|q351|q352|q353|q354|q355|q356|q357|q358|q359|q360|q361|q362|q363|q364|q365|q366|q367|q368|q369|q370|q371|q372|q373|q374|q375|q376|q377|q378|q379|q380|q381|q382|q383|q384|q385|q386|q387|q388|q389|q390|q391|q392|q393|q394|q395|q396|q397|q398|q399|q400|q401|q402|q403|q404|q405|q406|q407|q408|q409|q410|q411|q412|q413|q414|q415|q416|q417|q418|q419|q420|q421|q422|q423|q424|q425|q426|q427|q428|q429|q430|q431|q432|q433|q434|q435|q436|q437|q438|q439|q440|q441|q442=>((try unfold eD.M6); (try unfold L2.bY); k_is)
  (case hnd=>decide)
  (case u1=>kernel_rfl)
  (case u2=>kernel_rfl)
  (case u3=>kernel_rfl)
  (case u4=>kernel_rfl)
