import PyProof.Rows.All
import Wide.All
import OpenK.AllK
import Wide.FinOn
import Lean
import PyProof.EqAt
import PyProof.EqKinds
import PyProof.TupleCall
import PySem.Str
import PyProof.StationsW
import PyProof.PassesOwn
import PyProof.RulesAs
import PyProof.ExcClass2
import PyProof.InstStore
import PyProof.ExcArgs
import PyProof.ExcClass
import PyProof.InstStoreFacts
import PyProof.ExcBaseAll.Exception
import PyProof.ExcAttrAll.Exception
import PyProof.DictValues
import PyProof.DictWalks
import PyProof.Rows.Range3
import PySem.Challenge.RW_spikebook_k09_ages
set_option Elab.async false
set_option linter.all false
set_option maxRecDepth 100000
set_option maxHeartbeats 4000000
def ae:=@List.length_map
def af:=@List.getElem?_eq_getElem
def aj:=@List.getD_eq_getElem?_getD
def ak:=@List.getElem?_eq_some_iff
def ao:=@List.mem_singleton
def aw:=@List.mem_cons
def ax:=@PySem.Heap.get?_push_of_some
def aA:=@PySem.wpAny_bind
def aB:=@List.getElem?_map
def aC:=@List.length_append
def aE:=@Nat.le_refl
def aF:=@Option.some.inj
def aG:=@decide_eq_true
def aK:=@List.map_append
def aL:=@PySem.Paired.length
def aM:=@PySem.Heap.lt_size
def aN:=@of_decide_eq_true
def aU:=@if_neg
def aW:=@Bool.false_ne_true
def aX:=@List.length_filter_le
def aY:=@Nat.le_trans
def a6:=@Nat.ne_of_lt
def a7:=@List.take_length
def a8:=@if_pos
def ba:=@List.mem_cons_of_mem
def bf:=@List.length_take
def bg:=@Nat.lt_of_lt_of_le
def bh:=@Nat.zero_le
def bo:=@Option.map_eq_some_iff
def bp:=@decide_eq_false
def bq:=@List.mem_append
def bu:=@List.mem_append_right
def bw:=@PySem.PassesOwn.never
def bz:=@PySem.wpAny_loadPart_at
def bB:=@List.size_toArray
def bE:=@PySem.wpAny_pure
def bF:=@List.mem_map
def bG:=@List.getElem_mem
def bJ:=@List.mem_cons_self
def bL:=@PySem.Heap.get?_push_size
def bR:=@List.append_nil
def bS:=@List.length_cons
def bV:=@PySem.W.mg_none_of
def b0:=@PySem.mem_of_lookup
def b9:=@PySem.wpAny_mono
def cu:=@List.filter_cons_of_pos
def cv:=@Int.eq_ofNat_of_zero_le
def cy:=@PySem.Paired.snoc
def cJ:=@congrArg
def cK:=@List.replicate_succ
def cV:=@PySem.wpAny_isSubtype_exc
def cX:=@List.mem_append_left
def cZ:=@List.map_cons
def c8:=@PySem.W.mg_of
def dh:=@List.mem_range
def dj:=@List.length_range
def dm:=@Nat.le_succ
def dr:=@Nat.le_of_lt
def dG:=@PySem.wpAny_passesOwn
def dH:=@List.length_replicate
def dI:=@Int.toNat_natCast
def dZ:=@PySem.W.kia_one
def d8:=@List.length_set
def d9:=@PySem.W.kia_tup
def ee:=@List.pairwise_cons
def eu:=@List.map_map
def eD:=@PySem.sizeLine_eq
def eE:=@PySem.wpAny_Call_Name_kw
def eG:=@List.append_assoc
def eU:=@List.mem_filter
def fq:=@List.mem_of_getElem?
def fI:=@PyProof.Rows.callWith_type1
def fJ:=@List.nodup_cons
def fL:=@List.foldl_cons
def fM:=@Int.le_refl
def fR:=@PySem.wpAny_truthy_bool
def fV:=@Nat.lt_succ_self
def gJ:=@beq_eq_false_iff_ne
def gK:=@List.map_congr_left
def gN:=@List.filter_cons_of_neg
def ij:=@PySem.wpAny_holding
def il:=@PySem.wpAny_standAt
def iE:=@Nat.le_of_eq
def iF:=@Nat.not_lt_zero
def iG:=@Int.zero_add
def iM:=@Nat.lt_irrefl
def iN:=@PySem.Calls.callWith_builtin
def iO:=@List.flatten_cons
def iP:=@Nat.lt_succ_of_lt
def iW:=@List.getElem?_append_right
def jg:=@List.getElem?_eq_none_iff
def jh:=@PySem.wpAny_execs_nil
def jm:=@PyProof.Rows.take_snoc
def ka:=@PySem.W.callWith_K
def kb:=@List.pairwise_singleton
def ke:=@Int.emod_nonneg
def kg:=@List.filter_append
def k4:=@List.getElem?_set_self
def k6:=@PySem.W.cellsFrom_some
def lN:=@Bool.and_false
def lP:=@List.getElem?_eq_none
def lQ:=@Int.le_trans
def mC:=@List.length_drop
def mD:=@List.nodup_range
def mE:=@decide_eq_decide
def mJ:=@List.getElem?_set_ne
def mK:=@PySem.Heap.get?_update_other
def mM:=@PySem.Heap.get?_push_ne
def nY:=@PySem.Heap.size_push
def oq:=@Bool.eq_iff_iff
def ou:=@List.of_mem_zip
def ow:=@Option.map_some
def ox:=@Array.length_toList
def oy:=@List.range_succ
def pz:=@PySem.Heap.size_update
def qe:=@Nat.ne_of_gt
def qf:=@List.map_nil
def qg:=@Nat.lt_of_le_of_lt
def qh:=@List.filter_filter
def qj:=@Int.emod_lt_of_pos
def qo:=@Bool.false_and
def qp:=@List.getElem?_append_left
def qq:=@Nat.mul_le_mul
def rK:=@List.any_eq_false
def rL:=@PySem.W.kitx_list
def rM:=@PySem.W.kitx_dict
def rN:=@List.pairwise_map
def rO:=@List.filter_congr
def rP:=@List.foldl_append
def rQ:=@PySem.Heap.SameBut.update
def rR:=@Array.size_setIfInBounds
def tM:=@PySem.wpAny_newFunctionEnv_cells
def tN:=@List.any_cons
def tO:=@List.sum_cons
def ug:=@Bool.and_eq_true
def uh:=@PySem.tupleKind_room_in1
def wA:=@PyProof.Rows.listUpdate_at
def wC:=@Ne.symm
def wD:=@PySem.W.methodCall_KW
def wF:=@Nat.succ_mul
def wG:=@List.length_nil
def xT:=@Nat.not_lt
def yW:=@List.getElem?_of_mem
def A2:=@List.take_succ
def A6:=@PySem.W.plainGet_of
def A7:=@PySem.W.callWith_K0
def A8:=@List.map_id
def A9:=@List.toList_toArray
def Dl:=@PySem.codeAny_mono
def Dm:=@PySem.Heap.get?_update_self
def EH:=@PySem.wpAny_call
def F9:=@beq_iff_eq
def Ga:=@PySem.Calls.evalArgs_plain
def Gb:=@Option.isSome_map
def Gd:=@List.take_add_one
def Ge:=@List.ext_getElem?
def Gf:=@Classical.not_not
def Gg:=@Nat.le_succ_of_le
def Gh:=@PySem.codeAny_call_builtin
def Ij:=@List.map_set
def Iz:=@PySem.Heap.get?_update_ne
def IA:=@PySem.wpAny_field
def Lk:=@Array.getD_eq_getD_getElem?
def Ll:=@Array.Perm.refl
def Lm:=@PySem.wpAny_newList
def Ln:=@List.filter_map
def Ng:=@PyProof.Rows.get?_update_seq
def N2:=@PySem.plainObj_wpAny_Assign_Attribute
def N3:=@List.Perm.refl
def N4:=@List.mem_of_find?_eq_some
def N5:=@PySem.F.excBase_Exception
def N6:=@List.drop_eq_getElem_cons
def QM:=@Option.isSome_iff_exists
def QN:=@PySem.F.slot_dict_values
open PySem.W (Frag findIn keepIn typeIn fnOf nsIn codeIn codeHdIn mg_of mg_none_of specialIn readsIn findCls makesIn hasDictIn plainGet plainOver)
namespace PySem.W.Fast
def tw6781299253758780525:=0
def tw7214061675615082849:=0
def tw13983933242545850683:=0
def tw189308330141197345:=0
def tw498307284092675843:=0
def tw7380419966447430172:=0
def tw12860422748292010653:=0
def tw1393370538837246183:=0
def tw5703711344621740612:=0
def tw5011933265486393776:=0
def tw5961029239462047680:=0
def tw6808064428030563032:=0
def tw6908457034337305942:=0
def tw11684717824397730460:=0
def tw4761738586060243337:=0
def tw14868419644572539410:=0
def tw11714392651094863884:=0
def tw3233009220989700427:=0
def tw14531604937992331196:=0
def tw17823837335315358686:=0
def tw1907836463232592852:=0
def tw11725410496298053670:=0
def tw2060843270361576275:=0
def tw11994233939364824330:=0
def tw13299991575632148467:=0
def tw10190545507149020987:=0
def tw1240587181901486812:=0
def tw12976679741738620099:=0
def tw9459478199887511281:=0
def tw503030378093526148:=0
def tw9950471459252370570:=0
def tw6377935427283754435:=0
def tw7948198367539910163:=0
def tw11533738234043120529:=0
def tw1514336006625626235:=0
def tw10146491859109619352:=0
def tw18226066377030024622:=0
def tw13271258913101410788:=0
def tw15429505299430815820:=0
def tw11334682354266632098:=0
def tw1889264324829179743:=0
def tw15579179554581908604:=0
def tw2976041085648874580:=0
def tw11884245478314726656:=0
def tw7668564680542591067:=0
def tw6338584203115316160:=0
def tw573960860038060486:=0
def tw7955775295502475987:=0
def tw6448301261254144462:=0
def tw2584313321636540497:=0
def tw3436372405012428402:=0
def tw5578625649831625604:=0
def tw4512470263366157212:=0
def tw13983610428231489215:=0
def tw6385491599541370420:=0
def tw8726488547981190446:=0
def tw7473186031946353415:=0
def tw15479736342666464319:=0
def tw16562117999296673763:=0
def tw1809116317004739849:=0
def tw1953279666261446321:=0
def tw3755775676271960131:=0
def tw8789084224222720926:=0
def tw11883494755085811680:=0
def tw13820266031503448933:=0
def tw17723355347786350530:=0
def tw11976998173427002451:=0
def tw12954304961470160592:=0
def tw2511019343237582631:=0
def tw4090680129717332381:=0
def tw2866568052222394336:=0
def tw2463667578793924411:=0
def tw5870908927114173176:=0
def tw13376400820948650849:=0
def tw13029024516592954697:=0
def tw9456063924475915688:=0
def tw5480871615004080644:=0
def tw14030930493858531063:=0
def tw5435187647351539903:=0
def tw16600139238245358874:=0
def tw11750057286565664351:=0
def tw10479823842625769903:=0
def tw18173238736109922583:=0
def tw1726072031532983859:=0
def tw9804776390253068397:=0
def tw15262682618693134653:=0
def tw17838411505769629816:=0
def tw18352930691660756285:=0
def tw2947546235865672632:=0
def tw2148202740344007110:=0
def tw17242472528030926700:=0
def tw14145180879798291090:=0
def tw107322362761851867:=0
def tw13166732309670589473:=0
def tw4215445153292580624:=0
def tw16069562769541580327:=0
def tw13206926100688436180:=0
def tw3735904519590543110:=0
def tw6874309011360116866:=0
def tw9310992943725409457:=0
def tw2611962409752378413:=0
def tw15308652436954847909:=0
def tw1552681346746177408:=0
def tw14436134476503139508:=0
def tw13328570250270116972:=0
def tw1642357976063993829:=0
def tw14116007722858410361:=0
def tw10212676879253252147:=0
def tw13782394040857476001:=0
def tw5650077911723574031:=0
def tw10255951771647999802:=0
def tw439944052194745015:=0
def tw11767381258400701375:=0
def tw2237535537384229617:=0
def tw3873646023195974208:=0
def tw6200421900152959675:=0
def tw222355940049612669:=0
def tw11272055167293418662:=0
def tw9252301959334516667:=0
def tw4310847733513722989:=0
def tw2259676491622061127:=0
def tw3283221486052307104:=0
def tw623535806206896992:=0
def tw4194675802028942766:=0
def tw2097407470703997885:=0
def tw1566192104120248033:=0
def tw7647515964666178628:=0
def tw4792300010367331036:=0
def tw5922197803029234974:=0
def tw9640040365369822606:=0
def tw3210306179392450198:=0
def tw8202600858755073484:=0
def tw504507873945458087:=0
def tw7318624537537101507:=0
def tw15050808044561967809:=0
def tw4337356401605710100:=0
def tw9967058734255698247:=0
def tw5220281108739830223:=0
def tw13766267290814932856:=0
def tw10379331278174690709:=0
def tw6780237133288152861:=0
def tw15648712279496655350:=0
def tw14032639506016296722:=0
def tw9613507777238268483:=0
def tw3545663753167914647:=0
def tw13522087953752475626:=0
def tw3632215701860705589:=0
def tw7144803448805197196:=0
def tw11528073890080313123:=0
def tw15585852359748508327:=0
def tw2392558700413835135:=0
def tw10778327557173099524:=0
def tw7506915762051999266:=0
def tw18085679634194013329:=0
def tw16974109388012196814:=0
def tw12029215609045429647:=0
def tw6868936936558037432:=0
def tw1137140201079759766:=0
def tw5899957549326136992:=0
def tw5982210661936101538:=0
def tw16555573425448029880:=0
def tw4480886323209540848:=0
def tw2083397368140729749:=0
def tw11842442926201559505:=0
def tw7927024982508686788:=0
def tw8144364296275604455:=0
def tw194193243541968659:=0
def tw9095825952976139754:=0
def tw17450447101916899545:=0
def tw16165603182456372907:=0
def tw18312171006606842673:=0
def tw2433991985589389782:=0
def tw17008792786636925099:=0
def tw3776449682631744749:=0
def tw6293776309670645623:=0
def tw13330158509037184564:=0
def tw9421828147953007070:=0
def tw14921108044397240783:=0
def tw4389326575846159409:=0
def tw14613025015888669683:=0
def tw14568582728160536043:=0
def tw6651359514551141477:=0
def tw8549089747082005805:=0
def tw8253372705672298677:=0
def tw18041922573771404047:=0
def tw12070815844449635788:=0
def tw15515718649084537435:=0
def tw1528212994585278920:=0
def tw17632287123959096610:=0
def tw5627871932960057774:=0
def tw12243302063328706136:=0
def tw5032930577325926982:=0
def tw8693186249404298892:=0
def tw11586126932306009045:=0
def tw11850028241318230658:=0
def tw5731855292008191795:=0
def tw14124244393485178522:=0
def tw8247546455817661586:=0
def tw14367242455454584567:=0
def tw18411350664516615568:=0
def tw15360383879787810961:=0
def tw5537599680170482754:=0
def tw12486546144687883593:=0
def tw1225151189033686805:=0
def tw12316312711020018227:=0
def tw11285706218282421476:=0
def tw1578771254327805668:=0
def tw14205573142341122103:=0
def tw7740218108508888293:=0
def tw7772322002487189784:=0
def tw11895252012503431139:=0
def tw6790692762891086313:=0
def tw10664366533181815725:=0
def tw15770176221428777838:=0
def tw16434114506975912775:=0
def tw7716841213192170929:=0
def tw928899340810205499:=0
def tw10030914786527335205:=0
def tw573465195473309140:=0
def tw15438865868406590718:=0
def tw1786894159971090384:=0
def tw3129286015582735128:=0
def tw11605082634014208269:=0
def tw13466590623115861845:=0
def tw14092929488671062051:=0
def tw3623544070756139208:=0
def tw182535257296165359:=0
def tw3461472856224263959:=0
def tw489135938629882214:=0
def tw17383577448107079619:=0
def tw2344933913589272731:=0
def tw12152622007644517202:=0
def tw5336986894043701285:=0
def tw12714895196508320790:=0
def tw5934958874169914430:=0
def tw11107896719060911077:=0
def tw152179999159674929:=0
def tw18132511579720431901:=0
def tw15125791921015154236:=0
def tw585026552269927270:=0
def tw2607922025015488123:=0
def tw7399566947477340912:=0
def tw15511580107380457592:=0
def tw12276833053648365429:=0
def tw8011000773606582273:=0
def tw14848862034566738487:=0
def tw14517425716380510402:=0
def tw17506547957589477946:=0
def tw6453056393755206705:=0
def tw707222141845523842:=0
def tw2752512130201174660:=0
def tw3351890568362430144:=0
def tw2562193277589481790:=0
def tw7918121135727224400:=0
def tw15502938039227726031:=0
def tw2119626683751381058:=0
def tw8413455759012937976:=0
def tw7546151058570410642:=0
def tw13884181995873760591:=0
def tw7179363642889271331:=0
def tw17755604516781201145:=0
def tw2258516991330397699:=0
def tw15185901889957304092:=0
def tw9577804576153236652:=0
def tw14943798172079277535:=0
def tw8639989926372739223:=0
def tw7103637642266493549:=0
def tw16344184529580014646:=0
def tw14939200436469905720:=0
def tw945057757102899699:=0
def tw169560491394555329:=0
def tw12471042614085509160:=0
def tw17267440419609262770:=0
def tw1402021725011271586:=0
def tw10305233717462215807:=0
def tw8660069644925664472:=0
def tw2014273863472938457:=0
def tw9499371257303000205:=0
def tw14899647642066017799:=0
def tw654923128643057511:=0
def tw13358127718842989610:=0
def tw951115072456800861:=0
def tw6989847786376176325:=0
def tw34558366435756860:=0
def tw11907254472742826380:=0
def tw10380018524753301330:=0
def tw12775906214781047509:=0
def tw17332018990824693265:=0
def tw8241328966109156477:=0
def tw2254642448800013012:=0
def tw12022305264514635803:=0
def tw11216513978091803870:=0
def tw5607019766249799814:=0
def tw5948978177260562252:=0
def tw3522563913134518550:=0
def tw4349456133132211933:=0
def tw17149977045092844108:=0
def tw2941930619646519695:=0
def tw9400284865896040593:=0
def tw16172105559640057756:=0
def tw17090686902752883774:=0
def tw5886045162616822081:=0
def tw18160662331293072323:=0
def tw17758035344790716557:=0
def tw13066658074175178458:=0
def tw2258876387956434918:=0
def tw8089219921509101856:=0
def tw7211411425969386496:=0
def tw9805661099302945011:=0
def tw13932304821021395562:=0
def tw16854973595913598330:=0
def tw14633314318286219885:=0
def tw12030710584515618552:=0
def tw11875405458173351557:=0
def tw11804278945637757994:=0
def tw5491938473727365448:=0
def tw17973489887826073170:=0
def tw14888565896230947408:=0
def tw3709385500371859130:=0
def tw8115048236954925079:=0
def tw8715528458020245416:=0
def tw6974877516221784441:=0
def tw16847316363444144198:=0
def tw113916941439876849:=0
def tw4493837503634110878:=0
def tw2799144972477476408:=0
def tw8792734078789303809:=0
def tw8775646284320669479:=0
def tw9740015874150938977:=0
def tw14083511667837322659:=0
def tw4011415983470440442:=0
def tw11228925429830816786:=0
def tw13315601691331490146:=0
def tw9446457659063840496:=0
def tw1491231742440501063:=0
def tw18249642190088201494:=0
def tw12480922657601374604:=0
def tw15787440061886575336:=0
def tw432309324628823892:=0
def tw2012707733783018832:=0
def tw3821449622616922692:=0
def tw18051206940153772304:=0
def tw18138871235403961917:=0
def tw2256306476234183144:=0
def tw3176301346241256534:=0
def tw3456471513335991387:=0
def tw12364945821715078488:=0
def tw13590044202912290223:=0
def tw1417605587653068572:=0
def tw5339208847638640887:=0
def tw8263156282700162297:=0
def tw5877202302093165172:=0
def tw16301718262584259066:=0
def tw11239500029914000936:=0
def tw17333112679564695838:=0
def tw4826392660799499804:=0
def tw2759730933747387050:=0
def tw11337088501392095171:=0
def tw4872265798850243726:=0
def tw7765123877835857094:=0
def tw7519342937765931090:=0
def tw4345383189290763574:=0
def tw4711305302062911285:=0
def tw4862869579082629036:=0
def tw601262904275782333:=0
def tw17568909408816946492:=0
def tw1528894152170861230:=0
def tw14608633412894926199:=0
def tw8353647562661741996:=0
def tw2722476018210803709:=0
def tw3666670895529336140:=0
def tw10808858928343887539:=0
def tw6194941045671479681:=0
def tw7896222526850472958:=0
def tw15346836581720387578:=0
def tw16174755098706653978:=0
def tw7761543210424657191:=0
def tw11269149344238820871:=0
def tw11940035875349817886:=0
def tw15956146950121968642:=0
def tw8655286139079071401:=0
def tw470182535376633612:=0
def tw5276938101864094582:=0
def tw12458536506009795807:=0
def tw5947065045753456048:=0
def tw15943365197082735819:=0
def tw17232408052877241432:=0
def tw1466335947646414259:=0
def tw6023946913160497219:=0
def tw16398193091594993109:=0
def tw10458463370740381062:=0
def tw9296061070222955876:=0
def tw3320669153669717996:=0
def tw8815650089056087549:=0
def tw2781210854744596972:=0
def tw17091294793216789453:=0
def tw16836593952293614587:=0
def tw9941707822817085864:=0
def tw190282493139202348:=0
def tw11382690399139044674:=0
end PySem.W.Fast
namespace L2
open PySem PySem.Spec PyProof.Rows
abbrev Key:=Sum Int Str
def xU:Key->Value->Bool
 | .inl k,v=>Value.isInt k v
 | .inr x,v=>Value.isStrOf x v
def Wh (w:World):Key->Int
 | .inl k=>hashInt k
 | .inr x=>hashStr w x
def fe: ∀{k:Key} {v:Value},xU k v=true->(∃i t,k=Sum.inl i/\v=Value.int i t)∨(∃x t,k=Sum.inr x/\v=Value.str x t)
 | .inl i,v,h=>by
  obtain⟨t,e⟩:=Value.isInt_shape (k:=i) (v:=v) h;exact .inl ⟨i,t,rfl,e⟩
 | .inr x,v,h=>by
  obtain⟨t,e⟩:=Value.isStrOf_shape (x:=x) (v:=v) h;exact .inr ⟨x,t,rfl,e⟩
def Gi (i:Int)(t:Tok):xU (.inl i) (.int i t)=true:=by simp[xU,Value.isInt]
def Gj (x:Str)(t:Tok):xU (.inr x) (.str x t)=true:=by simp[xU,Value.isStrOf]
def N7 (a b:Int):decide ((Sum.inl a:Key)=Sum.inl b)=(a == b):=by
 by_cases e:a=b
 ·subst e; simp
 ·have h: ¬ (Sum.inl a:Key)=Sum.inl b:=fun q=>e (Sum.inl.inj q);rw[bp h];exact(gJ.mpr e).symm
def N8 (a b:Str):decide ((Sum.inr a:Key)=Sum.inr b)=decide (a=b):=by
 by_cases e:a=b
 ·subst e; simp
 ·have h: ¬ (Sum.inr a:Key)=Sum.inr b:=fun q=>e (Sum.inr.inj q);rw[bp h,bp e]
def N9 (a:Int)(b:Str):decide ((Sum.inl a:Key)=Sum.inr b)=false:=bp (fun q=>nomatch q)
def Oa (a:Str)(b:Int):decide ((Sum.inr a:Key)=Sum.inl b)=false:=bp (fun q=>nomatch q)
def dP (prog:Program)(w:World):PySem.KeyKind prog w Key where
 is:=xU
 hash:=Wh w
 inj:=fun v a b ha hb=>by
  rcases fe ha with⟨i,t,rfl,rfl⟩|⟨x,t,rfl,rfl⟩
  ·rcases fe hb with⟨j,u,rfl,e⟩|⟨y,u,rfl,e⟩
   ·injection e with e1 _; rw[e1]
   ·exact nomatch e
  ·rcases fe hb with⟨j,u,rfl,e⟩|⟨y,u,rfl,e⟩
   ·exact nomatch e
   ·injection e with e1 _; rw[e1]
 byValue:=fun k v h=>by
  rcases fe h with⟨i,t,rfl,rfl⟩|⟨x,t,rfl,rfl⟩ <;> rfl
 pyHash:=fun hv h=>by
  rcases fe hv with⟨i,t,rfl,rfl⟩|⟨x,t,rfl,rfl⟩
  ·exact wpAny_pyHash_int h
  ·exact wpAny_pyHash_str h
 eqBool:=fun hu hv h=>by
  rcases fe hu with⟨i,t,rfl,rfl⟩|⟨x,t,rfl,rfl⟩
  ·rcases fe hv with⟨j,u,rfl,rfl⟩|⟨y,u,rfl,rfl⟩
   ·rw[N7] at h; exact wpAny_eqBool_int h
   ·rw[N9] at h; exact SeqAt.EqAt.int_str i t y u _ _ _ _ h
  ·rcases fe hv with⟨j,u,rfl,rfl⟩|⟨y,u,rfl,rfl⟩
   ·rw[Oa] at h; exact SeqAt.EqAt.str_int x t j u _ _ _ _ h
   ·rw[N8] at h; exact wpAny_eqBool_str h
 «strs»:=fun k x t v h=>by
  rcases fe h with⟨i,u,rfl,e⟩|⟨y,u,rfl,e⟩
  ·exact nomatch e
  ·injection e with e1 _;subst e1;cases v <;> rfl
def Ba (prog:Program)(w:World)(i:Int)(t:Tok):(dP prog w).is (.inl i) (.int i t)=true:=Gi i t
def Bb (prog:Program)(w:World)(x:Str)(t:Tok):(dP prog w).is (.inr x) (.str x t)=true:=Gj x t
inductive V where
 |eh|bl (b:Bool)|int (i:Int)|str (x:Str)|Gk (b:Array UInt8)|Lo (b:UInt64)|ref (a:Addr)|ty (n:String)
 deriving DecidableEq
def RelV:V->Value->Prop
 | .eh,u=>u=Value.none
 | .bl b,u=>u=Value.bool b
 | .int i,u=> ∃t,u=Value.int i t
 | .str x,u=> ∃t,u=Value.str x t
 | .Gk b,u=> ∃t,u=Value.bytes b t
 | .Lo b,u=> ∃t,u=Value.float b t
 | .ref a,u=>u=Value.ref a
 | .ty n,u=>u=Value.type n
abbrev Vals:List V->List Value->Prop:=Paired RelV
def Vals.length {xs:List V}{us:List Value}(r:Vals xs us):xs.length=us.length:=aL r
def Vals.get: ∀{xs:List V} {us:List Value} {i:Nat} {x:V},Vals xs us->xs[i]? =some x-> ∃u,us[i]? =some u/\RelV x u
 |_,_,_,_,.nil,e=>by simp at e
 |_,_,0,_,.cons r _,e=>by simp at e; subst e; exact⟨_,rfl,r⟩
 |_,_,i + 1,x,.cons _ t,e=>by
  obtain⟨u,h1,h2⟩:=Vals.get (i:=i) (x:=x) t (by simpa using e);exact⟨u,by simpa using h1,h2⟩
def Vals.set {x:V}{u:Value}(r:RelV x u): ∀{xs:List V} {us:List Value} (i:Nat),Vals xs us->Vals (xs.set i x) (us.set i u)
 |_,_,_,.nil=> .nil
 |_,_,0,.cons _ t=> .cons r t
 |_,_,i + 1,.cons q t=> .cons q (Vals.set r i t)
def Vals.append: ∀{xs ys:List V} {us ws:List Value},Vals xs us->Vals ys ws->Vals (xs ++ ys) (us ++ ws)
 |_,_,_,_,.nil,s=>s
 |_,_,_,_,.cons r t,s=> .cons r (Vals.append t s)
def Vals.take: ∀{xs:List V} {us:List Value} (n:Nat),Vals xs us->Vals (xs.take n) (us.take n)
 |_,_,0,_=> .nil
 |_,_,_ + 1,.nil=> .nil
 |_,_,n + 1,.cons r t=> .cons r (Vals.take n t)
def Vals.drop: ∀{xs:List V} {us:List Value} (n:Nat),Vals xs us->Vals (xs.drop n) (us.drop n)
 |_,_,0,r=>r
 |_,_,_ + 1,.nil=> .nil
 |_,_,n + 1,.cons _ t=>Vals.drop n t
def Vals.none_of: ∀{xs:List V} {us:List Value} {i:Nat},Vals xs us->xs[i]? =none->us[i]? =none:=fun{xs us i} r e=>by
 have h1:=r.length;have h2:xs.length<=i:=jg.mp e;exact jg.mpr (by lia)
def k7:Option V->Option Value->Prop
 |some v,some u=>RelV v u
 |none,none=>True
 |_,_=>False
def KV {κ:Type}:List (κ×V)->List (κ×Value)->Prop:=Paired fun(p:κ×V) (q:κ×Value)=>p.1=q.1/\RelV p.2 q.2
def kV:Key->V
 | .inl i=> .int i
 | .inr x=> .str x
inductive HO where
 |lst (xs:List V)
 |tup (xs:List V)
 |dK (bc:List (Key×V))|dT (bc:List (List Key×V))
 |set (S:Int->Bool) (n:Nat)
 |ins (C dx:Addr) (fs:List (Str×V))
 |own (x:Addr)
 |xd (fs:List (Str×V))
 |met (f x:Addr)
 |Wi (lo hi:Int)
 |C8 (o:Obj) (u:HO)
 |mL (ps:Array Value)
 |ext (φ:Heap->Prop)
abbrev Hp:=Addr->Option HO
def upd (H:Hp)(a:Addr)(o:HO):Hp:=fun b=>if b=a then some o else H b
def ag {H:Hp}{a:Addr}{o:HO}:upd H a o a=some o:=by unfold upd; rw[if_pos rfl]
def az {H:Hp}{a b:Addr}{o:HO}(h:b≠a):upd H a o b=H b:=by unfold upd; rw[if_neg h]
def mr {H:Hp}{a b:Addr}{o u:HO}(h:H a=some o)(h':H b=some u)(d:o≠u):a≠b:=by
 intro e; subst e; rw[h] at h'; exact d (aF h')
def aJ {H:Hp}{a b:Addr}{o:HO}(h:H a=some o)(h':H b=none):a≠b:=by
 intro e; subst e; rw[h] at h'; cases h'
section
variable (P:Program)(w:World)
def dv (H:Hp)(h:Heap)(a:Addr):HO->Prop
 | .lst xs=>xs.length<=sizeLine/\ ∃(bY:List Value) (n:Nat),Vals xs bY/\h.get? a=some {cls:= .type "list",data:= .seq bY.toArray n}
 | .tup xs=>xs.length<=sizeLine/\ ∃bY:List Value,Vals xs bY/\IsTup h a bY.toArray
 | .dK bc=>bc.length<=sizeLine/\(a == sysModules)=false/\ ∃vs,KV bc vs/\h.DictOf (dP P w) a vs
 | .dT bc=>bc.length<=sizeLine/\(a == sysModules)=false/\ ∃xs:List (List Key×Addr×Value),
   Paired (fun(p:List Key×V) (q:List Key×Addr×Value)=>p.1=q.1/\H q.2.1=some (.tup (p.1.map kV))/\RelV p.2 q.2.2) bc xs/\
   ∃o es ep,h.get? a=some o/\o.ExactDict/\o.data= .dict es ep/\es.toList=xs.map (entryOfKey (tupleKind (dP P w)))/\(xs.map (·.1)).Nodup
 | .set S n=>h.SetOf (intKind P w) a S n
 | .ins C dx fs=>H dx=some (.own a)/\fs.length<=1000/\dx≠a/\h.get? a=some (PySem.W.instObj C dx)/\
   ∃mA,h.Ns1 dx mA/\(∀f,k7 (fs.lookup f) (mA f))/\PySem.Within mA (fs.map (·.1))
 | .own _=> ∃o,h.get? a=some o
 | .xd fs=> ∃mA,h.Ns1 a mA/\ ∀f,k7 (fs.lookup f) (mA f)
 | .Wi lo hi=> ∃t u v,h.get? a=some {cls:= .type "range",data:= .fields #[.int lo t,.int hi u,.int 1 v]}
 | .C8 o u=>h.get? a=some o/\dv H h a u
 | .mL ps=>h.get? a=some {cls:= .none,data:= .fields ps}
 | .met f x=>h.get? a=some (PySem.W.methodObj (.ref f) (.ref x))
 | .ext φ=>φ h/\(∃o,h.get? a=some o)/\ ∀h1 h2:Heap,φ h1->(∀o,h1.get? a=some o->h2.get? a=some o)->φ h2
def oz (H:Hp)(h:Heap):Prop:= ∀a o,H a=some o->dv P w H h a o
end
section
variable {P:Program}{w:World}{H H':Hp}{h h':Heap}{a:Addr}{o:HO}
def dv.lt (x:dv P w H h a o):a < h.objs.size:=by
 cases o with
 |lst xs=>obtain⟨_,_,_,_,e⟩:=x; exact aM e
 |tup xs=>obtain⟨_,_,_,p⟩:=x; exact p.lt
 |dK bc=>obtain⟨_,_,_,_,o,_,_,e,_⟩:=x; exact aM e
 |dT bc=>obtain⟨_,_,_,_,o,_,_,e,_⟩:=x; exact aM e
 |set S n=>obtain⟨o,_,_,_,e,_⟩:=x; exact aM e
 |ins C dx fs=>obtain⟨_,_,_,e,_⟩:=x; exact aM e
 |own y=>obtain⟨_,e⟩:=x; exact aM e
 |xd fs=>obtain⟨_,⟨_,_,_,e,_⟩,_⟩:=x; exact aM e
 |Wi lo hi=>obtain⟨_,_,_,e⟩:=x; exact aM e
 |C8 ob u=>obtain⟨e,_⟩:=x; exact aM e
 |mL ps=>exact aM (show h.get? a=some _ from x)
 |met f y=>exact aM (show h.get? a=some _ from x)
 |ext φ=>obtain⟨_,⟨_,e⟩,_⟩:=x; exact aM e
def Paired.gI {α β:Type}{F G:α->β->Prop}: ∀{l₁:List α} {l₂:List β},Paired F l₁ l₂->(∀a b,F a b->G a b)->Paired G l₁ l₂
 |_,_,.nil,_=> .nil
 |_,_,.cons r t,f=> .cons (f _ _ r) (Paired.gI t f)
def dv.tP (x:dv P w H h a o)(k: ∀b u,(b=a∨H b=some (.own a))->h.get? b=some u->h'.get? b=some u)
  (ho: ∀b,H b=some (.own a)->H' b=some (.own a)) (ht: ∀b xs,H b=some (.tup xs)->H' b=some (.tup xs)):dv P w H' h' a o:=by
 induction o with
 |lst xs=>obtain⟨z,bY,n,r,e⟩:=x; exact⟨z,bY,n,r,k _ _ (.inl rfl) e⟩
 |tup xs=>obtain⟨z,bY,r,ob,e,c⟩:=x; exact⟨z,bY,r,ob,k _ _ (.inl rfl) e,c⟩
 |dK bc=>obtain⟨z,y,vs,r,ob,es,ep,e,c⟩:=x; exact⟨z,y,vs,r,ob,es,ep,k _ _ (.inl rfl) e,c⟩
 |dT bc=>
  obtain⟨z,y,xs,r,ob,es,ep,e,c⟩:=x;exact⟨z,y,xs,Paired.gI r fun p q z=>⟨z.1,ht _ _ z.2.1,z.2.2⟩,ob,es,ep,k _ _ (.inl rfl) e,c⟩
 |set S n=>obtain⟨ob,es,ep,t,e,c⟩:=x; exact⟨ob,es,ep,t,k _ _ (.inl rfl) e,c⟩
 |ins C dx fs=>
  obtain⟨d,z,ne,e,mA,⟨od,es,ep,e2,c⟩,r⟩:=x;exact⟨ho _ d,z,ne,k _ _ (.inl rfl) e,mA,⟨od,es,ep,k _ _ (.inr d) e2,c⟩,r⟩
 |own y=>obtain⟨ob,e⟩:=x; exact⟨ob,k _ _ (.inl rfl) e⟩
 |xd fs=>obtain⟨mA,⟨od,es,ep,e,c⟩,r⟩:=x; exact⟨mA,⟨od,es,ep,k _ _ (.inl rfl) e,c⟩,r⟩
 |Wi lo hi=>obtain⟨t,u,v,e⟩:=x; exact⟨t,u,v,k _ _ (.inl rfl) e⟩
 |C8 ob u ih=>obtain⟨e,q⟩:=x; exact⟨k _ _ (.inl rfl) e,ih q⟩
 |mL ps=>
  have e:h.get? a=some {cls:= .none,data:= .fields ps}:=x;show h'.get? a=some {cls:= .none,data:= .fields ps};exact k a _ (.inl rfl) e
 |met f y=>
  have e:h.get? a=some (PySem.W.methodObj (.ref f) (.ref y)):=x;show h'.get? a=some (PySem.W.methodObj (.ref f) (.ref y));exact k a _ (.inl rfl) e
 |ext φ=>obtain⟨p,⟨o,e⟩,st⟩:=x; exact⟨st _ _ p fun o q=>k _ _ (.inl rfl) q,⟨o,k _ _ (.inl rfl) e⟩,st⟩
def oz.lt (x:oz P w H h)(e:H a=some o):a < h.objs.size:=(x a o e).lt
def oz.fresh (x:oz P w H h)(e:h.objs.size<=a):H a=none:=by
 cases q:H a with
 |none=>rfl
 |some u=>exact absurd (bg (x.lt q) e) (iM _)
def oz.kept (x:oz P w H h)(k: ∀b u,h.get? b=some u->h'.get? b=some u):oz P w H h':=fun a o e=>
 (x a o e).tP (fun b u _ q=>k b u q) (fun _ q=>q) fun _ _ q=>q
def oz.laid (x:oz P w H h)(k: ∀b u,h.get? b=some u->h'.get? b=some u)(hp:h.objs.size<=a)(new:dv P w (upd H a o) h' a o):oz P w (upd H a o) h':=fun b u e=>by
 have hn:=x.fresh hp;by_cases hb:b=a
 ·subst hb; rw[ag] at e; cases e; exact new
 ·rw[az hb] at e;exact(x b u e).tP (fun c v _ q=>k c v q) (fun c q=>by rw[az (aJ q hn)]; exact q) fun c xs q=>by rw[az (aJ q hn)]; exact q
end
def Rd (H:Hp)(a:Addr)(u:HO):Prop:=H a=some u∨ ∃o,H a=some (.C8 o u)
def Rd.ok {P:Program}{w:World}{H:Hp}{h:Heap}{a:Addr}{u:HO}(r:Rd H a u)(x:oz P w H h):dv P w H h a u:=by
 rcases r with r|⟨o,r⟩
 ·exact x a u r
 ·obtain⟨_,q⟩:=x a _ r;exact q
def RA:Option HO->Prop
 |some (.lst _)=>True
 |some (.dK _)=>True
 |some (.dT _)=>True
 |some (.set _ _)=>True
 |some (.ins _ _ _)=>True
 |some (.ext _)=>True
 |_=>False
section
variable {P:Program}{w:World}{H:Hp}{h h':Heap}{x e:Addr}{o':HO}
def oz.write (ok:oz P w H h)(mu:RA (H x))(he:e=x∨H e=some (.own x))(k: ∀b u,b≠e->h.get? b=some u->h'.get? b=some u)(QO: ∃u,h'.get? e=some u)
  (new:dv P w (upd H x o') h' x o'):oz P w (upd H x o') h':=fun b u q=>by
 have RB: ∀c y,H c=some (.own y)->c≠x:=fun c y r z=>by subst z; rw[r] at mu; exact mu
 have Wj: ∀c xs,H c=some (.tup xs)->c≠x:=fun c xs r z=>by subst z; rw[r] at mu; exact mu
 by_cases hb:b=x
 ·subst hb; rw[ag] at q; cases q; exact new
 ·rw[az hb] at q;by_cases Ob:b=e
  ·have q':H b=some (.own x):=by
    rcases he with z|z
    ·exact absurd (Ob.trans z) hb
    ·rw[Ob]; exact z
   rw[q] at q'; cases q';obtain⟨v,hv⟩:=QO;exact⟨v,by rw[Ob]; exact hv⟩
  ·refine(ok b u q).tP (fun c v hc r=>k c v ?_ r) (fun c r=>by rw[az (RB c b r)]; exact r) fun c xs r=>by rw[az (Wj c xs r)]; exact r
   rcases hc with rfl|hc
   ·exact Ob
   ·rintro rfl;rcases he with z|z
    ·exact RB c b hc z
    ·rw[hc] at z; cases z; exact hb rfl
end
structure Un (fs ex:List Addr)(H H':Hp)(h h':Heap):Prop where
 keep: ∀b o,h.get? b=some o->H b=none->b∉fs->b∉ex->h'.get? b=some o
 slot: ∀b o,h.get? b=some o->H b=none->b∈fs->b∉ex-> ∃sl,h'.get? b=some {o with slots:=sl}
 free: ∀b o,h.get? b=some o->H b=none->b∉ex->H' b=none
 there: ∀b o,h.get? b=some o->b∉ex-> ∃o',h'.get? b=some o'
 qr: ∀b xs,H b=some (.tup xs)->H' b=some (.tup xs)
 pA: ∀b o u,H b=some (.C8 o u)->H' b=some (.C8 o u)
 pB: ∀b ps,H b=some (.mL ps)-> ∃more,H' b=some (.mL (ps ++ more))
section
variable {fs fs' ex ex':List Addr}{H H1 H2:Hp}{h h1 h2 h':Heap}{a x e:Addr}{o:HO}
def Un.any (u:Un fs ex H H1 h h1){b:Addr}{ob:Obj}(q:h.get? b=some ob)(n:H b=none)(hx:b∉ex): ∃sl,h1.get? b=some {ob with slots:=sl}:=by
 by_cases hb:b∈fs
 ·exact u.slot b ob q n hb hx
 ·exact⟨ob.slots,u.keep b ob q n hb hx⟩
def Un.kept (k: ∀b u,h.get? b=some u->h'.get? b=some u):Un fs ex H H h h':=
 ⟨fun b ob q _ _ _=>k b ob q,fun b ob q _ _ _=>⟨ob.slots,k b ob q⟩,fun _ _ _ n _=>n,fun b ob q _=>⟨ob,k b ob q⟩,fun _ _ q=>q,fun _ _ _ q=>q,fun _ ps q=>⟨#[],by rw[q]; simp⟩⟩
def Un.refl:Un fs ex H H h h:=Un.kept fun _ _ q=>q
def Un.laid (k: ∀b u,h.get? b=some u->h'.get? b=some u)(hp:h.objs.size<=a)(hn:H a=none):Un fs ex H (upd H a o) h h' where
 keep:=fun b u q _ _ _=>k b u q
 slot:=fun b u q _ _ _=>⟨u.slots,k b u q⟩
 free:=fun b u q n _=>by rw[az (a6 (bg (aM q) hp))]; exact n
 there:=fun b u q _=>⟨u,k b u q⟩
 qr:=fun b xs q=>by rw[az (aJ q hn)]; exact q
 pA:=fun b u xs q=>by rw[az (aJ q hn)]; exact q
 pB:=fun b ps q=>⟨#[],by rw[az (aJ q hn),q]; simp⟩
def Un.write (mu:RA (H x))(he:e=x∨H e=some (.own x))(k: ∀b u,b≠e->h.get? b=some u->h'.get? b=some u)(QO: ∃u,h'.get? e=some u):Un fs ex H (upd H x o) h h':=by
 have hx: ∀b,H b=none->b≠x:=fun b n z=>by subst z; rw[n] at mu; exact mu
 have hb: ∀b,H b=none->b≠e:=fun b n z=>by
  subst z;rcases he with r|r
  ·exact hx b n r
  ·rw[n] at r; cases r
 have hm: ∀b u,H b=some u-> ¬ RA (some u)->b≠x:=fun b u q nm z=>by subst z; rw[q] at mu; exact nm mu
 refine⟨fun b u q n _ _=>k b u (hb b n) q,fun b u q n _ _=>⟨u.slots,k b u (hb b n) q⟩,fun b u q n _=>by rw[az (hx b n)]; exact n,fun b u q _=>?_,
  fun b xs q=>by rw[az (hm b _ q fun z=>z)]; exact q,fun b u xs q=>by rw[az (hm b _ q fun z=>z)]; exact q,fun b ps q=>⟨#[],by rw[az (hm b _ q fun z=>z),q]; simp⟩⟩
 by_cases Ob:b=e
 ·subst Ob; exact QO
 ·exact⟨u,k b u Ob q⟩
end
def Vf (h:Heap)(H:Hp):List Addr:=(List.range h.objs.size).filter fun a=>(H a).isSome
def wH (h:Heap)(H:Hp):Heap:=PySem.W.hideAll h (Vf h H)
def Gm (h:Heap)(H:Hp):(wH h H).objs.size=h.objs.size:=PySem.W.hideAll_size _ _
def IB {h:Heap}{H:Hp}{b:Addr}{o:Obj}(e:h.get? b=some o)(n:H b=none):(wH h H).get? b=some o:=
 PySem.W.hideAll_get _ e fun hm=>by
  have q:(H b).isSome=true:=(eU.mp hm).2;rw[n] at q; simp at q
def Lp {h:Heap}{H:Hp}{b:Addr}{o:Obj}(e:(wH h H).get? b=some o):h.get? b=some o/\H b=none:=by
 have e':h.get? b=some o:=PySem.W.of_hideAll (Vf h H) e;refine⟨e',?_⟩;cases q:H b with
 |none=>rfl
 |some x=>
  have hm:b∈Vf h H:=List.mem_filter.mpr ⟨List.mem_range.mpr (Heap.lt_size e'),by simp[q]⟩;have z:(wH h H).get? b=none:=PySem.W.hideAll_none (Vf h H) hm;rw[z] at e; cases e
structure Mod (K:Frag)(mg:Str->Option Value)(base:Heap):Prop where
 Lq:K.In base
 glob:base.Ns mainGlobals mg
 blt: ∃mb,base.Ns builtinsNs mb/\ ∀x:Str,x≠"__name__"->mb x=bootBuiltins x
 nolimit:base.NoLimit
structure Cx where
 prog:Program
 w:World
 K:Frag
 mg:Str->Option Value
 base:Heap
 A:Around
 N:List Str
 s₀:Shared
 H₀:Hp
 env:Env
 outer:List Env
 stack:List Env
 ex:List Addr
 fn:Str->Bool
 calm:Bool
 pn:List (Addr×Obj)
 xe:Value->Shared->Prop
def Dn (l:List Env):List Addr:=l.filterMap (·.frame)
abbrev Cx.fs (X:Cx):List Addr:=Dn X.outer
def RC (sc:Scope)(x:Str):Prop:=sc.names.lookup x=some .local∨sc.names.lookup x=some .cell∨sc.names.lookup x=some .free
def Loc (sc:Scope)(x:Str):Prop:=sc.names.lookup x=some .local∨sc.names.lookup x=some .cell
def Look (env:Env)(h:Heap)(m:Str->Option Value)(x:Str)(u:Value):Prop:=
 (env.kindOf x=some .local/\m x=some u)∨((env.kindOf x=some .cell∨env.kindOf x=some .free)/\ ∃c,env.cells.lookup x=some c/\h.IsCell c (some u))
structure Cx.Ok (X:Cx):Prop where
 mod:Mod X.K X.mg X.base
 kind:X.env.scope.kind= .function
 glob:X.env.globals=mainGlobals
 blt:X.env.builtins=builtinsNs
 above:X.s₀.heap.objs.size<=X.env.locals
 inj: ∀x y c,X.env.cells.lookup x=some c->X.env.cells.lookup y=some c->x=y
 has: ∀x,(X.env.kindOf x=some .cell∨X.env.kindOf x=some .free)-> ∃c,X.env.cells.lookup x=some c
 K1: ∀x c,X.fn x=true->X.env.cells.lookup x=some c->X.s₀.heap.objs.size<=c
 hd:X.calm=true->X.A.handled=none
 frames:X.A.frames=some X.stack
 Ik:X.stack=X.outer∨(X.stack=X.env :: X.outer/\X.env.frame=some X.env.locals)
 Lr: ∀b∈X.ex,b≠X.env.locals/\ ∀x c,X.env.cells.lookup x=some c->c≠b
 bs: ∀b o,X.base.get? b=some o->X.s₀.heap.get? b=some o/\X.H₀ b=none
 Bc:X.base.objs.size<=X.s₀.heap.objs.size
 wI: ∀b o,X.base.get? b=some o->b∉X.ex
 wJ: ∀b∈X.ex,b∉X.fs
 lR:X.s₀.heap.FunFrames X.base X.outer
 EI: ∀b∈X.fs,X.H₀ b=none
structure Inv (X:Cx)(pins:List (Addr×Obj))(σ:List (Option V))(H:Hp)(s:Shared):Prop where
 ok:X.Ok
 os:s.os=X.s₀.os
 bare:AllBare s.gens
 base:Un X.fs X.ex X.H₀ H X.s₀.heap s.heap
 loc: ∃m,s.heap.Ns X.env.locals m/\ ∀(i:Nat) (x:Str) (v:V),X.N[i]? =some x->σ[i]? =some (some v)->RC X.env.scope x-> ∃u,RelV v u/\Look X.env s.heap m x u
 cell: ∀x c,X.env.cells.lookup x=some c-> ∃v,s.heap.IsCell c v
 free:H X.env.locals=none
 iJ: ∀x c,X.env.cells.lookup x=some c->H c=none
 pin: ∀p∈X.pn ++ pins,s.heap.get? p.1=some p.2/\H p.1=none/\p.1≠X.env.locals/\p.1∉X.fs/\ ∀v,p.2.data≠ .cell v
 cq:oz X.prog X.w H s.heap
 len:σ.length=X.N.length
section
variable {X:Cx}{pins:List (Addr×Obj)}{σ:List (Option V)}{H H':Hp}{s:Shared}{h':Heap}
def Cx.Ok.Wk (ok:X.Ok){b:Addr}{o:Obj}(e:X.base.get? b=some o):b∉X.fs:=fun hb=>by
 have:=(ok.lR.mem hb).1;rw[e] at this; cases this
def Inv.bs (I:Inv X pins σ H s): ∀b o,X.base.get? b=some o->s.heap.get? b=some o/\H b=none:=fun b o e=>
 ⟨I.base.keep b o (I.ok.bs b o e).1 (I.ok.bs b o e).2 (I.ok.Wk e) (I.ok.wI b o e),I.base.free b o (I.ok.bs b o e).1 (I.ok.bs b o e).2 (I.ok.wI b o e)⟩
def Inv.bk (I:Inv X pins σ H s): ∀b o,X.base.get? b=some o->s.heap.get? b=some o:=fun b o e=>(I.bs b o e).1
def Inv.mod (I:Inv X pins σ H s):Mod X.K X.mg X.base:=I.ok.mod
def Inv.gH (I:Inv X pins σ H s):X.K.In s.heap:=I.ok.mod.Lq.keeps I.bk
def Inv.nolimit (I:Inv X pins σ H s):s.heap.NoLimit:=I.ok.mod.nolimit.keeps I.bk
def Inv.fr (I:Inv X pins σ H s): ∃m,Fr X.base X.env.locals s.heap m:=
 let⟨m,hn,_⟩:=I.loc
 ⟨m,hn,I.bk,aY I.ok.Bc I.ok.above⟩
def Inv.lt (I:Inv X pins σ H s):X.env.locals < s.heap.objs.size:=let⟨_,hn,_⟩:=I.loc; hn.lt
def Inv.sz (I:Inv X pins σ H s):X.s₀.heap.objs.size<=s.heap.objs.size:=aY I.ok.above (dr I.lt)
def Inv.Gn (I:Inv X pins σ H s){a:Addr}(h:s.heap.objs.size<=a):a∉X.fs:=fun hb=>by
 obtain⟨_,o,ho,_⟩:=I.ok.lR.mem hb;exact absurd (bg (aM ho) (aY I.sz h)) (iM _)
def Inv.Nh (I:Inv X pins σ H s): ∀x c,X.env.cells.lookup x=some c->c≠X.env.locals:=fun x c e z=>by
 obtain⟨v,o,ho,hd⟩:=I.cell x c e;obtain⟨m,⟨o',es,ep,Ls,Il,_⟩,_⟩:=I.loc;rw[z,Ls] at ho; cases ho; rw[Il] at hd; cases hd
def Inv.lR (I:Inv X pins σ H s):s.heap.FunFrames X.base X.outer:=by
 have all: ∀(l:List Env),(∀b∈Dn l,b∈X.fs)->X.s₀.heap.FunFrames X.base l->s.heap.FunFrames X.base l:=by
  intro l
  induction l with
  |nil=>intro _ _; trivial
  |cons env r ih=>
   intro hs hl;obtain⟨hk,⟨L,o,hf,hn,ho,hd⟩,hr⟩:=hl;have hL:L∈X.fs:=hs L (by unfold Dn; rw[List.filterMap_cons,hf]; exact List.mem_cons_self);obtain⟨sl,e⟩:=I.base.slot L o ho (I.ok.EI L hL) hL fun z=>I.ok.wJ L z hL;exact⟨hk,⟨L,_,hf,hn,e,hd⟩,ih (fun b hb=>hs b (by unfold Dn; rw[List.filterMap_cons,hf]; exact List.mem_cons_of_mem _ hb)) hr⟩
 exact all X.outer (fun _ hb=>hb) I.ok.lR
def Inv.stack (I:Inv X pins σ H s):s.heap.FunFrames X.base X.stack:=by
 rcases I.ok.Ik with e|⟨e,hf⟩
 ·rw[e]; exact I.lR
 ·rw[e];obtain⟨m,hn,_⟩:=I.loc;refine .cons (by rw[I.ok.kind]; decide) hf hn ?_ I.lR;exact Heap.get?_none_of_le (aY I.ok.Bc I.ok.above)
def Inv.uF (I:Inv X pins σ H s): ∀b∈Dn X.stack,b∈X.env.locals :: X.fs:=fun b hb=>by
 rcases I.ok.Ik with e|⟨e,hf⟩
 ·rw[e] at hb; exact ba _ hb
 ·rw[e] at hb;unfold Dn at hb;rw[List.filterMap_cons,hf] at hb;exact hb
def Inv.qt (I:Inv X pins σ H s): ∀b∈Dn X.stack,H b=none:=fun b hb=>by
 rcases aw.mp (I.uF b hb) with e|hb
 ·rw[e]; exact I.free
 ·obtain⟨_,o,ho,_⟩:=I.ok.lR.mem hb;exact I.base.free b o ho (I.ok.EI b hb) fun z=>I.ok.wJ b z hb
def Inv.step {g':Array GenState}{t':Nat}{d':Drawn}{ch:List Addr}(I:Inv X pins σ H s)
  (Bd: ∀b∈ch,(b∈X.ex∨X.s₀.heap.objs.size<=b)/\b≠X.env.locals/\(∀x c,X.env.cells.lookup x=some c->c≠b)/\ ∀p∈X.pn ++ pins,p.1≠b)
  (keep: ∀b o,b≠X.env.locals->b∉X.fs->b∉ch->s.heap.get? b=some o->H b=none->h'.get? b=some o)
  (slot: ∀b o,b≠X.env.locals->b∈X.fs->b∉ch->s.heap.get? b=some o->H b=none-> ∃sl,h'.get? b=some {o with slots:=sl}) (free: ∀b o,b∉ch->s.heap.get? b=some o->H b=none->H' b=none)
  (there: ∀b o,b∉ch->s.heap.get? b=some o-> ∃o',h'.get? b=some o')
  (qr: ∀b xs,H b=some (.tup xs)->H' b=some (.tup xs)) (pA: ∀b o u,H b=some (.C8 o u)->H' b=some (.C8 o u)) (pB: ∀b ps,H b=some (.mL ps)-> ∃more,H' b=some (.mL (ps ++ more)))
  (ns: ∀m,s.heap.Ns X.env.locals m->h'.Ns X.env.locals m) (cq:oz X.prog X.w H' h') (hg:AllBare g'):
  Inv X pins σ H' {s with heap:=h',gens:=g',drawn:=d',toks:=t'}:=by
 have Zs: ∀b o,X.s₀.heap.get? b=some o->b≠X.env.locals:=fun b o e=>a6 (bg (aM e) I.ok.above);have Vg: ∀b o,X.s₀.heap.get? b=some o->b∉X.ex->b∉ch:=fun b o e hx hb=>by
  rcases(Bd b hb).1 with z|z
  ·exact hx z
  ·exact absurd (bg (aM e) z) (iM _)
 have cellK: ∀x c,X.env.cells.lookup x=some c-> ∀v,s.heap.IsCell c v->h'.IsCell c v:=fun x c e v ⟨o,ho,hd⟩=>by
  have RD:c∉ch:=fun z=>(Bd c z).2.2.1 x c e rfl;by_cases hc:c∈X.fs
  ·obtain⟨sl,q⟩:=slot c o (I.Nh x c e) hc RD ho (I.iJ x c e);exact⟨_,q,hd⟩
  ·exact⟨o,keep c o (I.Nh x c e) hc RD ho (I.iJ x c e),hd⟩
 refine⟨I.ok,I.os,hg,⟨fun b o e n hb hx=>?_,fun b o e n hb hx=>?_,fun b o e n hx=>?_,fun b o e hx=>?_,fun b xs e=>qr b xs (I.base.qr b xs e),fun b o xs e=>pA b o xs (I.base.pA b o xs e),fun b ps e=>?_⟩,?_,fun x c e=>?_,?_,fun x c e=>?_,fun p hp=>?_,cq,I.len⟩
 ·exact keep b o (Zs b o e) hb (Vg b o e hx) (I.base.keep b o e n hb hx) (I.base.free b o e n hx)
 ·obtain⟨sl,e1⟩:=I.base.slot b o e n hb hx;obtain⟨sl',e2⟩:=slot b _ (Zs b o e) hb (Vg b o e hx) e1 (I.base.free b o e n hx);exact⟨sl',e2⟩
 ·obtain⟨o',e1⟩:=I.base.there b o e hx;exact free b o' (Vg b o e hx) e1 (I.base.free b o e n hx)
 ·obtain⟨o',e1⟩:=I.base.there b o e hx;exact there b o' (Vg b o e hx) e1
 ·obtain⟨m1,e1⟩:=I.base.pB b ps e;obtain⟨m2,e2⟩:=pB b _ e1;exact⟨m1 ++ m2,by rw[e2,Array.append_assoc]⟩
 ·obtain⟨m,hn,hl⟩:=I.loc;refine⟨m,ns m hn,fun i x v e1 e2 e3=>?_⟩;obtain⟨u,r,l⟩:=hl i x v e1 e2 e3;refine⟨u,r,?_⟩;rcases l with l|⟨k,c,e,z⟩
  ·exact .inl l
  ·exact .inr ⟨k,c,e,cellK x c e _ z⟩
 ·obtain⟨v,z⟩:=I.cell x c e;exact⟨v,cellK x c e v z⟩
 ·obtain⟨m,⟨o,_,_,ho,_⟩,_⟩:=I.loc;exact free _ o (fun z=>(Bd _ z).2.1 rfl) ho I.free
 ·obtain⟨v,o,ho,hd⟩:=I.cell x c e;exact free c o (fun z=>(Bd c z).2.2.1 x c e rfl) ho (I.iJ x c e)
 ·obtain⟨e,n,ne,nf,d⟩:=I.pin p hp;have RD:p.1∉ch:=fun z=>(Bd p.1 z).2.2.2 p hp rfl;exact⟨keep p.1 p.2 ne nf RD e n,free p.1 p.2 RD e n,ne,nf,d⟩
def Inv.un {t':Nat}(I:Inv X pins σ H s)(u:Un X.fs [] H H' s.heap h')(cq:oz X.prog X.w H' h'):Inv X pins σ H' {s with heap:=h',toks:=t'}:=by
 obtain⟨m,⟨o,es,ep,ho,r⟩,_⟩:=id I.loc;obtain⟨sl,hL⟩:=u.any ho I.free (by simp);exact I.step (g':=s.gens) (d':=s.drawn) (ch:=[]) (fun _ z=>nomatch z) (fun b o _ hb _ e n=>u.keep b o e n hb (by simp)) (fun b o _ hb _ e n=>u.slot b o e n hb (by simp)) (fun b o _ e n=>u.free b o e n (by simp)) (fun b o _ e=>u.there b o e (by simp)) u.qr u.pA u.pB (fun m' hm=>by
  obtain⟨o',Wl,Wm,Ls,r'⟩:=hm;rw[ho] at Ls; cases Ls;exact⟨_,Wl,Wm,hL,r'⟩) cq I.bare
def Inv.call {g':Array GenState}{t':Nat}{d':Drawn}{ch:List Addr}(I:Inv X pins σ H s)(u:Un (Dn X.stack) ch H H' s.heap h')(cq:oz X.prog X.w H' h')(hg:AllBare g')
  (Bd: ∀b∈ch,(b∈X.ex∨X.s₀.heap.objs.size<=b)/\b≠X.env.locals/\(∀x c,X.env.cells.lookup x=some c->c≠b)/\ ∀p∈X.pn ++ pins,p.1≠b):
  Inv X pins σ H' {s with heap:=h',gens:=g',drawn:=d',toks:=t'}:=by
 obtain⟨m,⟨o,es,ep,ho,r⟩,_⟩:=id I.loc;obtain⟨sl,hL⟩:=u.any ho I.free fun z=>(Bd _ z).2.1 rfl;exact I.step (ch:=ch) Bd (fun b o hL hb hc e n=>u.keep b o e n (fun z=>(aw.mp (I.uF b z)).elim hL hb) hc) (fun b o _ _ hc e n=>u.any e n hc) (fun b o hc e n=>u.free b o e n hc) (fun b o hc e=>u.there b o e hc) u.qr u.pA u.pB (fun m' hm=>by
  obtain⟨o',Wl,Wm,Ls,r'⟩:=hm;rw[ho] at Ls; cases Ls;exact⟨_,Wl,Wm,hL,r'⟩) cq hg
def Inv.turned {t':Nat}{it:Addr}(I:Inv X pins σ H s)(k: ∀b o,b≠it->s.heap.get? b=some o->h'.get? b=some o)(hn:H it=none)(hL:it≠X.env.locals)
  (h1:it∈X.ex∨X.s₀.heap.objs.size<=it) (h2: ∀x c,X.env.cells.lookup x=some c->c≠it) (h3: ∀p∈X.pn ++ pins,p.1≠it):Inv X pins σ H {s with heap:=h',toks:=t'}:=by
 have RE: ∀b u,H b=some u->b≠it:=fun b u e z=>by rw[z,hn] at e; cases e
 refine I.step (g':=s.gens) (d':=s.drawn) (ch:=[it]) (fun b hb=>?_) (fun b o _ _ hc e _=>k b o (fun z=>hc (by simp[z])) e) (fun b o _ _ hc e _=>⟨o.slots,k b o (fun z=>hc (by simp[z])) e⟩) (fun _ _ _ _ n=>n)
  (fun b o hc e=>⟨o,k b o (fun z=>hc (by simp[z])) e⟩) (fun _ _ e=>e) (fun _ _ _ e=>e) (fun b ps e=>⟨#[],by rw[e]; simp⟩) (fun m hm=>?_) (fun b u e=>?_) I.bare
 ·have e:b=it:=by simpa using hb
  subst e;exact⟨h1,hL,h2,h3⟩
 ·obtain⟨o,es,ep,ho,r⟩:=hm;exact⟨o,es,ep,k _ o (wC hL) ho,r⟩
 ·refine(I.cq b u e).tP (fun c v hc q=>k c v ?_ q) (fun _ q=>q) fun _ _ q=>q;rcases hc with z|z
  ·rw[z]; exact RE b u e
  ·exact RE c _ z
def Inv.tok (I:Inv X pins σ H s)(t:Nat):Inv X pins σ H {s with toks:=t}:=I.un (h':=s.heap) (t':=t) Un.refl I.cq
def Inv.kept {t':Nat}(I:Inv X pins σ H s)(k: ∀b u,s.heap.get? b=some u->h'.get? b=some u):Inv X pins σ H {s with heap:=h',toks:=t'}:=I.un (Un.kept k) (I.cq.kept k)
def Inv.laid {a:Addr}{o:HO}{t':Nat}(I:Inv X pins σ H s)(k: ∀b u,s.heap.get? b=some u->h'.get? b=some u)(hp:s.heap.objs.size<=a)(new:dv X.prog X.w (upd H a o) h' a o):
  Inv X pins σ (upd H a o) {s with heap:=h',toks:=t'}:=I.un (Un.laid k hp (I.cq.fresh hp)) (I.cq.laid k hp new)
def Inv.write {x e:Addr}{o:HO}{t':Nat}(I:Inv X pins σ H s)(mu:RA (H x))(he:e=x∨H e=some (.own x))(k: ∀b u,b≠e->s.heap.get? b=some u->h'.get? b=some u)(QO: ∃u,h'.get? e=some u)
  (new:dv X.prog X.w (upd H x o) h' x o):Inv X pins σ (upd H x o) {s with heap:=h',toks:=t'}:=I.un (Un.write mu he k QO) (I.cq.write mu he k QO new)
def Inv.ui {Be:List (Addr×Obj)}(I:Inv X pins σ H s)(h: ∀p∈Be,s.heap.get? p.1=some p.2/\H p.1=none/\p.1≠X.env.locals/\p.1∉X.fs/\ ∀v,p.2.data≠ .cell v):Inv X Be σ H s:=
 ⟨I.ok,I.os,I.bare,I.base,I.loc,I.cell,I.free,I.iJ,fun p hp=>(bq.mp hp).elim (fun z=>I.pin p (cX _ z)) (h p),I.cq,I.len⟩
def Bf {N:List Str}(hN:N.Nodup){i j:Nat}{x:Str}(a:N[i]? =some x)(b:N[j]? =some x):i=j:=by
 obtain⟨h1,e1⟩:=ak.mp a;obtain⟨h2,e2⟩:=ak.mp b;exact(List.getElem_inj hN).mp (e1.trans e2.symm)
def xV {M:Model}{A:Around}{E:Value->Shared->Prop}{i:Nat}{x:Str}{v:V}{u:Value}{Q:Unit->Shared->Prop}(I:Inv X pins σ H s)(hN:X.N.Nodup)(hi:X.N[i]? =some x)(hx:Loc X.env.scope x)(r:RelV v u)
  (h: ∀s',Inv X pins (σ.set i (some v)) H s'->(∃a,Heap.SameBut a s.heap s'.heap/\(a=X.env.locals∨X.env.cells.lookup x=some a))->Q () s') (hf:X.fn x=true∨X.env.scope.names.lookup x=some .local:=by first|exact .inl rfl|exact .inr rfl|assumption):wpAny M A (storeName X.env x u) Q E s:=by
 obtain⟨m,hn,hl⟩:=id I.loc;have Oc:(X.env.scope.kind == .class || (X.env.scope.kind == .module && X.env.locals != X.env.globals))=false:=by rw[I.ok.kind]; rfl
 have Zt:i < σ.length:=by rw[I.len]; exact(ak.mp hi).1
 have Nh:=I.Nh;have tracked: ∀{a:Addr} {h':Heap},(∃o,s.heap.get? a=some o/\H a=none)->Heap.SameBut a s.heap h'->oz X.prog X.w H h':=fun{a h'} ha hs b ob e=>by
  obtain⟨_,_,xW⟩:=ha;refine(I.cq b ob e).tP (fun c w' hc q=>(hs.2 c ?_).trans q) (fun _ q=>q) fun _ _ q=>q;rintro rfl;rcases hc with rfl|hc
  ·rw[xW] at e; cases e
  ·rw[xW] at hc; cases hc
 rcases hx with hk|hk
 ·refine wpAny_storeName_local hk hn (fun h' Wn hs=>?_) Oc;obtain⟨oL,_,_,Od,_⟩:=id hn;refine h _ ⟨I.ok,I.os,I.bare,⟨fun b o e n hb hx=>?_,fun b o e n hb hx=>?_,I.base.free,fun b o e hx=>?_,I.base.qr,I.base.pA,I.base.pB⟩,⟨_,Wn,fun j y v' e1 e2 e3=>?_⟩,fun y c e=>?_,I.free,I.iJ,fun p hp=>?_,tracked ⟨oL,Od,I.free⟩ hs,by simpa using I.len⟩ ⟨_,hs,.inl rfl⟩
  ·exact(hs.2 b (a6 (bg (aM e) I.ok.above))).trans (I.base.keep b o e n hb hx)
  ·obtain⟨sl,e1⟩:=I.base.slot b o e n hb hx;exact⟨sl,(hs.2 b (a6 (bg (aM e) I.ok.above))).trans e1⟩
  ·obtain⟨o',e1⟩:=I.base.there b o e hx;exact⟨o',(hs.2 b (a6 (bg (aM e) I.ok.above))).trans e1⟩
  ·by_cases hj:j=i
   ·subst hj;rw[hi] at e1; cases e1;rw[k4 Zt] at e2;cases e2;exact⟨u,r,.inl ⟨hk,by simp⟩⟩
   ·rw[mJ (wC hj)] at e2;obtain⟨u',r',q⟩:=hl j y v' e1 e2 e3;refine⟨u',r',?_⟩;rcases q with⟨k,e⟩|⟨k,c,e,z⟩
    ·refine .inl ⟨k,?_⟩;have:y≠x:=fun e=>hj (Bf hN e1 (e▸hi));simp[this,e]
    ·exact .inr ⟨k,c,e,z.sameBut hs (Nh y c e)⟩
  ·obtain⟨w',z⟩:=I.cell y c e;exact⟨w',z.sameBut hs (Nh y c e)⟩
  ·obtain⟨e,n,ne,nf,d⟩:=I.pin p hp;exact⟨(hs.2 p.1 ne).trans e,n,ne,nf,d⟩
 ·have Lu:X.fn x=true:=by
   rcases hf with z|z
   ·exact z
   ·rw[z] at hk; cases hk
  obtain⟨c,hc⟩:=I.ok.has x (.inl hk);obtain⟨w',z⟩:=I.cell x c hc;refine wpAny_storeName_cell I.ok.kind hk hc z (fun h' RF hs=>?_);obtain⟨oc,QP,Wo⟩:=id z;refine h {s with heap:=h'} ⟨I.ok,I.os,I.bare,⟨fun b o e n hb hx=>?_,fun b o e n hb hx=>?_,I.base.free,fun b o e hx=>?_,I.base.qr,I.base.pA,I.base.pB⟩,⟨m,hn.sameBut hs (Ne.symm (Nh x c hc)),fun j y v' e1 e2 e3=>?_⟩,fun y c' e=>?_,I.free,I.iJ,fun p hp=>?_,tracked ⟨oc,QP,I.iJ x c hc⟩ hs,by simpa using I.len⟩ ⟨c,hs,.inr hc⟩
  ·exact(hs.2 b (a6 (bg (aM e) (I.ok.K1 x c Lu hc)))).trans (I.base.keep b o e n hb hx)
  ·obtain⟨sl,e1⟩:=I.base.slot b o e n hb hx;exact⟨sl,(hs.2 b (a6 (bg (aM e) (I.ok.K1 x c Lu hc)))).trans e1⟩
  ·obtain⟨o',e1⟩:=I.base.there b o e hx;exact⟨o',(hs.2 b (a6 (bg (aM e) (I.ok.K1 x c Lu hc)))).trans e1⟩
  ·by_cases hj:j=i
   ·subst hj;rw[hi] at e1; cases e1;rw[k4 Zt] at e2;cases e2;exact⟨u,r,.inr ⟨.inl hk,c,hc,RF⟩⟩
   ·rw[mJ (wC hj)] at e2;obtain⟨u',r',q⟩:=hl j y v' e1 e2 e3;refine⟨u',r',?_⟩;rcases q with q|⟨k,c',e,z'⟩
    ·exact .inl q
    ·refine .inr ⟨k,c',e,z'.sameBut hs ?_⟩;rintro rfl;exact hj (Bf hN e1 (I.ok.inj _ _ _ e hc▸hi))
  ·by_cases Vh:c'=c
   ·subst Vh; exact⟨_,RF⟩
   ·obtain⟨w2,z2⟩:=I.cell y c' e;exact⟨w2,z2.sameBut hs Vh⟩
  ·obtain⟨e,n,ne,nf,d⟩:=I.pin p hp;refine⟨(hs.2 p.1 ?_).trans e,n,ne,nf,d⟩;intro q;rw[q,QP] at e;have q':oc=p.2:=aF e;exact d w' (by rw[← q']; exact Wo)
def uG {M:Model}{A:Around}{E:Value->Shared->Prop}{i:Nat}{x:Str}{v:V}{u:Value}{Q:Unit->Shared->Prop}(I:Inv X pins σ H s)(hN:X.N.Nodup)(hi:X.N[i]? =some x)(hx:Loc X.env.scope x)(r:RelV v u)
  (h: ∀s',Inv X pins (σ.set i (some v)) H s'->Q () s') (hf:X.fn x=true∨X.env.scope.names.lookup x=some .local:=by first|exact .inl rfl|exact .inr rfl|assumption):wpAny M A (storeName X.env x u) Q E s:=
 xV I hN hi hx r (fun s' I' _=>h s' I') hf
def Inv.EJ {s':Shared}{ch:List Addr}(I:Inv X pins σ H s)(ho:s'.os=s.os)(u:Un (Dn X.stack) ch H H' s.heap s'.heap)(cq:oz X.prog X.w H' s'.heap)(hg:AllBare s'.gens)
  (Bd: ∀b∈ch,(b∈X.ex∨X.s₀.heap.objs.size<=b)/\b≠X.env.locals/\(∀x c,X.env.cells.lookup x=some c->c≠b)/\ ∀p∈X.pn ++ pins,p.1≠b):Inv X pins σ H' s':=by
 obtain⟨h',g',d',t',o'⟩:=s';have e:o'=s.os:=ho;subst e;exact I.call (g':=g') (t':=t') (d':=d') u cq hg Bd
end
abbrev XK:=Value->Option Addr->Hp->Prop
abbrev St:=List (Option V)
abbrev VK:=V->Hp->Prop
abbrev TE:=St->Hp->VK->Prop
abbrev TT:=St->Hp->(Bool->Hp->Prop)->Prop
abbrev TA:=St->Hp->(List V->Hp->Prop)->Prop
structure Ends where
 nx:St->Hp->Prop
 rt:VK
 bk:St->Hp->Prop:=fun _ _=>False
 ct:St->Hp->Prop:=fun _ _=>False
abbrev TS:=Ends->St->Hp->Prop
def EP (X:Cx)(pins:List (Addr×Obj))(σ:St)(Q:VK)(u:Value)(s':Shared):Prop:= ∃v H',Inv X pins σ H' s'/\RelV v u/\Q v H'
def TP (X:Cx)(pins:List (Addr×Obj))(σ:St)(Q:Bool->Hp->Prop)(b:Bool)(s':Shared):Prop:= ∃H',Inv X pins σ H' s'/\Q b H'
def AP (X:Cx)(pins:List (Addr×Obj))(σ:St)(Q:List V->Hp->Prop)(us:List Value)(s':Shared):Prop:= ∃vs H',Inv X pins σ H' s'/\Vals vs us/\Q vs H'
def SP (X:Cx)(pins:List (Addr×Obj))(D:Ends)(f:Flow)(s':Shared):Prop:=
 match f with
 | .next=> ∃σ' H',Inv X pins σ' H' s'/\D.nx σ' H'
 | .brk=> ∃σ' H',Inv X pins σ' H' s'/\D.bk σ' H'
 | .cont=> ∃σ' H',Inv X pins σ' H' s'/\D.ct σ' H'
 | .ret u=> ∃v σ' H',Inv X pins σ' H' s'/\RelV v u/\D.rt v H'
def PE (X:Cx)(e:Expr)(t:TE):Prop:=
 ∀(pins:List (Addr×Obj)) (s:Shared) (σ:St) (H:Hp) (Q:VK),Inv X pins σ H s->t σ H Q->wpAny (model X.prog X.w) X.A (eval e X.env) (EP X pins σ Q) X.xe s
def PT (X:Cx)(e:Expr)(t:TT):Prop:=
 ∀(pins:List (Addr×Obj)) (s:Shared) (σ:St) (H:Hp) (Q:Bool->Hp->Prop),Inv X pins σ H s->t σ H Q->wpAny (model X.prog X.w) X.A (isTrue e X.env (eval e X.env)) (TP X pins σ Q) X.xe s
def PW (X:Cx)(e:Expr)(t:TT):Prop:=
 ∀(whole:Sem Value) (pins:List (Addr×Obj)) (s:Shared) (σ:St) (H:Hp) (Q:Bool->Hp->Prop),Inv X pins σ H s->t σ H Q->wpAny (model X.prog X.w) X.A (isTrue e X.env whole) (TP X pins σ Q) X.xe s
def PW.pt {X:Cx}{e:Expr}{t:TT}(h:PW X e t):PT X e t:=h _
def PA (X:Cx)(es:List Expr)(t:TA):Prop:=
 ∀(pos:Pos) (pins:List (Addr×Obj)) (s:Shared) (σ:St) (H:Hp) (Q:List V->Hp->Prop),Inv X pins σ H s->t σ H Q->wpAny (model X.prog X.w) X.A (spliced (backTo pos (starEach es X.env))) (AP X pins σ Q) X.xe s
def PS (X:Cx)(st:Stmt)(t:TS):Prop:=
 ∀(pins:List (Addr×Obj)) (s:Shared) (σ:St) (H:Hp) (D:Ends),Inv X pins σ H s->t D σ H->wpAny (model X.prog X.w) X.A (exec st X.env) (SP X pins D) X.xe s
def oO (X:Cx)(st:List Stmt)(t:TS):Prop:=
 ∀(pins:List (Addr×Obj)) (s:Shared) (σ:St) (H:Hp) (D:Ends),Inv X pins σ H s->t D σ H->wpAny (model X.prog X.w) X.A (execs st X.env) (SP X pins D) X.xe s
def dO {α:Type}{t:Sem α}{Q Q':α->Shared->Prop}{M:Model}{A:Around}{E:Value->Shared->Prop}{s:Shared}(h:wpAny M A t Q E s)(hQ: ∀a s,Q a s->Q' a s):wpAny M A t Q' E s:=b9 h hQ fun _ _ x=>x
section
variable {X:Cx}
inductive Zu (o:Option (Option V))(k:V->Prop):Prop
 |mk (v:V)(h:o=some (some v))(q:k v):Zu o k
def RG (i:Nat):TE:=fun σ H Q=>Zu σ[i]? fun v=>Q v H
def tC (v:V):TE:=fun _ H Q=>Q v H
def Dp {i:Nat}{x:Str}{pos:Pos}(hN:X.N[i]? =some x)(hv:RC X.env.scope x)(hd:(x == ("__debug__":Str))=false:=by decide)(rE:(x == ("__classdict__":Str))=false:=by decide):PE X (.Name x pos) (RG i):=by
 intro pins s σ H Q I h;obtain⟨v,e,h⟩:=h;obtain⟨m,hn,hl⟩:=I.loc;obtain⟨u,r,l⟩:=hl i x v hN e hv;have fin:EP X pins σ Q u s:=⟨v,H,I,r,h⟩;rcases l with⟨hk,hm⟩|⟨hk,c,hc,mv⟩
 ·exact wpAny_Name (wpAny_loadName_local I.ok.kind hk hn hm fin) hd
 ·rcases hk with hk|hk
  ·exact wpAny_Name (wpAny_loadName_cell I.ok.kind hk hc mv fin) hd
  ·exact wpAny_Name (wpAny_loadName_free I.ok.kind hk hc mv fin rE) hd
def ai {i j pos}:PE X (.Constant (.int i) j pos) (tC (.int i)):=fun _ _ _ H _ I h=>wpAny_Constant_int ⟨.int i,H,I.tok _,⟨_,rfl⟩,h⟩
def k8 {b j pos}:PE X (.Constant (.bool b) j pos) (tC (.bl b)):=fun _ _ _ H _ I h=>Constant_bool ⟨.bl b,H,I,rfl,h⟩
def Dq {j pos}:PE X (.Constant .none j pos) (tC .eh):=fun _ _ _ H _ I h=>Constant_none ⟨.eh,H,I,rfl,h⟩
def aQ {x j pos}:PE X (.Constant (.str x) j pos) (tC (.str x)):=fun _ _ _ H _ I h=>Calls.Constant_str ⟨.str x,H,I.tok _,⟨_,rfl⟩,h⟩
def Gl (X:Cx)(x:Str):Prop:=X.env.kindOf x=some .globalImplicit
def js {E:Value->Shared->Prop}{pins:List (Addr×Obj)}{s:Shared}{σ:St}{H:Hp}{x:Str}{u:Value}{pos:Pos}{Q:Value->Shared->Prop}(I:Inv X pins σ H s)(hg:Gl X x)(hm:X.mg x=some u)(h:Q u s)
  (hd:(x == ("__debug__":Str))=false:=by decide):wpAny (model X.prog X.w) X.A (eval (.Name x pos) X.env) Q E s:=
 Calls.Name_function_global I.ok.kind hg (Calls.loadGlobal_global (by rw[I.ok.glob]; exact I.mod.glob.keeps I.bk) hm h) hd
def lS {E:Value->Shared->Prop}{pins:List (Addr×Obj)}{s:Shared}{σ:St}{H:Hp}{x:Str}{u:Value}{pos:Pos}{Q:Value->Shared->Prop}(I:Inv X pins σ H s)(hg:Gl X x)(hm:X.mg x=none)(hv:bootBuiltins x=some u)(h:Q u s)
  (hn:x≠"__name__":=by decide) (hd:(x == ("__debug__":Str))=false:=by decide):wpAny (model X.prog X.w) X.A (eval (.Name x pos) X.env) Q E s:=by
 obtain⟨mb,h1,h2⟩:=I.mod.blt;exact Calls.Name_function_global I.ok.kind hg (Calls.loadGlobal_builtin (by rw[I.ok.glob]; exact I.mod.glob.keeps I.bk) hm (by rw[I.ok.blt]; exact h1.keeps I.bk) ((h2 x hn).trans hv) h) hd
def EK {x:Str}{v:V}{u:Value}{pos:Pos}(hg:Gl X x)(hm:X.mg x=some u)(r:RelV v u)(hd:(x == ("__debug__":Str))=false:=by decide):PE X (.Name x pos) (tC v):=
 fun _ _ _ H _ I h=>js I hg hm ⟨v,H,I,r,h⟩ hd
def yX {x:Str}{v:V}{u:Value}{pos:Pos}(hg:Gl X x)(hm:X.mg x=none)(hv:bootBuiltins x=some u)(r:RelV v u)(hn:x≠"__name__":=by decide)(hd:(x == ("__debug__":Str))=false:=by decide):PE X (.Name x pos) (tC v):=
 fun _ _ _ H _ I h=>lS I hg hm hv ⟨v,H,I,r,h⟩ hn hd
variable {a b:Expr}{ta tb:TE}{pos:Pos}
def PC (X:Cx)(op:CmpOp)(a b:Expr)(t:TE):Prop:=
 ∀(pins:List (Addr×Obj)) (s:Shared) (σ:St) (H:Hp) (Q:VK),Inv X pins σ H s->t σ H Q->
  wpAny (model X.prog X.w) X.A (eval a X.env) (fun v s₁=>wpAny (model X.prog X.w) X.A (eval b X.env) (fun u s₂=>wpAny (model X.prog X.w) X.A (compareOp op v u) (EP X pins σ Q) X.xe s₂) X.xe s₁) X.xe s
def Bg (b:Expr){op:CmpOp}(h:op≠ .In)(h2:op≠ .NotIn):behindInMarks op b=false:=by
 have e1:(op == CmpOp.In)=false:=by cases op <;> first|rfl|exact absurd rfl h
 have e2:(op == CmpOp.NotIn)=false:=by cases op <;> first|rfl|exact absurd rfl h2
 cases b <;> simp[behindInMarks,e1,e2]
def Wq (ta:TE):TE:=fun σ H Q=>ta σ H fun x H1=>Q (.bl (decide (x= .eh))) H1
def RH (ta:TE):TE:=fun σ H Q=>ta σ H fun x H1=>Q (.bl (!decide (x= .eh))) H1
def RelV.Bh {x:V}{v:Value}(r:RelV x v):(v == Value.none)=decide (x= .eh):=by
 cases x with
 |eh=>cases r; rfl
 |bl _=>cases r; rfl
 |int _=>obtain⟨t,rfl⟩:=r; rfl
 |str _=>obtain⟨t,rfl⟩:=r; rfl
 |Gk _=>obtain⟨t,rfl⟩:=r; rfl
 |Lo _=>obtain⟨t,rfl⟩:=r; rfl
 |ref _=>cases r; rfl
 |ty _=>cases r; rfl
def IC {j pos'}(ha:PE X a ta):PC X .Is a (.Constant .none j pos') (Wq ta):=by
 intro pins s σ H Q I h;refine dO (ha pins s σ H _ I h) fun v s1 ⟨x,H1,I1,r1,q1⟩=>?_;exact Constant_none (is_none_gen ⟨.bl _,H1,I1,by rw[r1.Bh]; rfl,q1⟩)
def Lv {j pos'}(ha:PE X a ta):PC X .IsNot a (.Constant .none j pos') (RH ta):=by
 intro pins s σ H Q I h;refine dO (ha pins s σ H _ I h) fun v s1 ⟨x,H1,I1,r1,q1⟩=>?_;exact Constant_none (isnot_none_gen ⟨.bl _,H1,I1,by rw[r1.Bh]; rfl,q1⟩)
def tB (t:TE):TT:=fun σ H Q=>t σ H fun x H1=> ∃c,x= .bl c/\Q c H1
def Oe {op:CmpOp}{t:TE}(h:PC X op a b t)(h1:behindInMarks op b=false:=by first|exact Bg _ (by decide) (by decide)|rfl):PE X (.Compare a [op] [b] pos) t:=fun pins s σ H Q I hw=>wpAny_Compare1 (h pins s σ H Q I hw) h1
def yY {op:CmpOp}{t:TE}(h:PC X op a b t)(h1:behindInMarks op b=false:=by first|exact Bg _ (by decide) (by decide)|rfl):PT X (.Compare a [op] [b] pos) (tB t):=by
 intro pins s σ H Q I hw;refine wpAny_isTrue_Compare1 (dO (h pins s σ H _ I hw) fun v s1 h1=>dO h1 fun u s2 h2=>dO h2 fun c s3 ⟨x,H1,I1,r1,q1⟩=>?_) h1;obtain⟨d,rfl,q⟩:=q1;cases r1;exact fR ⟨H1,I1,q⟩
def f9 {e:Expr}{t:TE}(h:PE X e t)(he: ∀whole,isTrue e X.env whole=(do let v ← whole; standAt e.pos; holding [v] (truthy v)):=by intro _; rfl):PT X e (tB t):=by
 intro pins s σ H Q I hw;refine isTrue_plain (dO (h pins s σ H _ I hw) fun v s1 ⟨x,H1,I1,r1,q1⟩=>?_) (he _);obtain⟨d,rfl,q⟩:=q1;cases r1;exact fR ⟨H1,I1,q⟩
variable {tA Vi:TT}{rest:List Expr}
def Wr (t u:TT):TT:=fun σ H Q=>t σ H fun c H1=>if c=true then u σ H1 Q else Q false H1
def tOr (t u:TT):TT:=fun σ H Q=>t σ H fun c H1=>if c=true then Q true H1 else u σ H1 Q
def Ws (t:TT):TT:=fun σ H Q=>t σ H fun c H1=>Q (!c) H1
def pw_and1 (ha:PT X a tA):PW X (.BoolOp .And [a] pos) tA:=by
 intro wh pins s σ H Q I h;refine isTrue_and (dO (ha pins s σ H Q I h) fun c s1 e=>?_);cases c with
 |true=>exact isTrue_and_nil e
 |false=>exact e
def pw_or1 (ha:PT X a tA):PW X (.BoolOp .Or [a] pos) tA:=by
 intro wh pins s σ H Q I h;refine isTrue_or (dO (ha pins s σ H Q I h) fun c s1 e=>?_);cases c with
 |false=>exact isTrue_or_nil e
 |true=>exact e
def pw_and (ha:PT X a tA)(hb:PW X (.BoolOp .And (b :: rest) pos) Vi):PW X (.BoolOp .And (a :: b :: rest) pos) (Wr tA Vi):=by
 intro wh pins s σ H Q I h;refine isTrue_and (dO (ha pins s σ H _ I h) fun c s1 ⟨H1,I1,q1⟩=>?_);cases c with
 |true=>exact hb wh pins s1 σ H1 Q I1 q1
 |false=>exact⟨H1,I1,q1⟩
def pw_or (ha:PT X a tA)(hb:PW X (.BoolOp .Or (b :: rest) pos) Vi):PW X (.BoolOp .Or (a :: b :: rest) pos) (tOr tA Vi):=by
 intro wh pins s σ H Q I h;refine isTrue_or (dO (ha pins s σ H _ I h) fun c s1 ⟨H1,I1,q1⟩=>?_);cases c with
 |true=>exact⟨H1,I1,q1⟩
 |false=>exact hb wh pins s1 σ H1 Q I1 q1
def kI (ha:PT X a tA):PT X (.UnaryOp .Not a pos) (Ws tA):=by
 intro pins s σ H Q I h;exact isTrue_not (ha pins s σ H (fun c H1=>Q (!c) H1) I h)
def RI (ta tb:TE):TE:=fun σ H Q=>ta σ H fun x H1=> ∃c,x= .bl c/\if c=true then tb σ H1 Q else Q (.bl false) H1
def Wt (ta tb:TE):TE:=fun σ H Q=>ta σ H fun x H1=> ∃c,x= .bl c/\if c=true then Q (.bl true) H1 else tb σ H1 Q
def RJ (ta:TE):TE:=fun σ H Q=>ta σ H fun x H1=> ∃c,x= .bl c/\Q (.bl (!c)) H1
def pC {op}{t:TE}(h:PE X a t):PE X (.BoolOp op [a] pos) t:=fun pins s σ H Q I hw=>BoolOp_one (h pins s σ H Q I hw)
def rT (ha:PE X a ta)(hb:PE X (.BoolOp .And (b :: rest) pos) tb):PE X (.BoolOp .And (a :: b :: rest) pos) (RI ta tb):=by
 intro pins s σ H Q I h;refine BoolOp_and (dO (ha pins s σ H _ I h) fun v s1 ⟨x,H1,I1,r1,q1⟩=>?_);obtain⟨c,rfl,q1⟩:=q1;cases r1;refine fR ?_;cases c with
 |true=>exact hb pins s1 σ H1 Q I1 q1
 |false=>exact⟨.bl false,H1,I1,rfl,q1⟩
def RK (ha:PE X a ta)(hb:PE X (.BoolOp .Or (b :: rest) pos) tb):PE X (.BoolOp .Or (a :: b :: rest) pos) (Wt ta tb):=by
 intro pins s σ H Q I h;refine BoolOp_or (dO (ha pins s σ H _ I h) fun v s1 ⟨x,H1,I1,r1,q1⟩=>?_);obtain⟨c,rfl,q1⟩:=q1;cases r1;refine fR ?_;cases c with
 |false=>exact hb pins s1 σ H1 Q I1 q1
 |true=>exact⟨.bl true,H1,I1,rfl,q1⟩
def Of (ha:PE X a ta):PE X (.UnaryOp .Not a pos) (RJ ta):=by
 intro pins s σ H Q I h;refine UnaryOp_ (dO (ha pins s σ H _ I h) fun v s1 ⟨x,H1,I1,r1,q1⟩=>?_);obtain⟨c,rfl,q1⟩:=q1;cases r1;exact not_of (fR ⟨.bl (!c),H1,I1,rfl,q1⟩)
end
def bA (K:Frag)(H:Hp)(a:Addr)(xs:List V):Prop:=
 Rd H a (.lst xs)∨
  ∃(o:Obj) (bY:Array Value) (n:Nat),K.lookup a=some o/\o.cls= .type "list"/\o.dict=none/\o.data= .seq bY n/\bY.size<=sizeLine/\Vals xs bY.toList
def cf (K:Frag)(H:Hp)(a:Addr)(xs:List V):Prop:=
 Rd H a (.tup xs)∨
  ∃(o:Obj) (bY:Array Value) (n:Nat),K.lookup a=some o/\o.cls= .type "tuple"/\o.data= .seq bY n/\bY.size<=sizeLine/\Vals xs bY.toList
def Wu:Value->Option V
 | .none=>some .eh
 | .bool b=>some (.bl b)
 | .int i _=>some (.int i)
 | .str x _=>some (.str x)
 | .bytes b _=>some (.Gk b)
 | .float b _=>some (.Lo b)
 | .ref a=>some (.ref a)
 | .type n=>some (.ty n)
 |_=>none
def RelV.abs {x:V}{u:Value}(r:RelV x u):Wu u=some x:=by
 cases x with
 |eh=>cases r; rfl
 |bl _=>cases r; rfl
 |int _=>obtain⟨t,rfl⟩:=r; rfl
 |str _=>obtain⟨t,rfl⟩:=r; rfl
 |Gk _=>obtain⟨t,rfl⟩:=r; rfl
 |Lo _=>obtain⟨t,rfl⟩:=r; rfl
 |ref _=>cases r; rfl
 |ty _=>cases r; rfl
def RelV.inj {x y:V}{u:Value}(r:RelV x u)(q:RelV y u):x=y:=aF (r.abs.symm.trans q.abs)
def Vals.inj: ∀{xs ys:List V} {us:List Value},Vals xs us->Vals ys us->xs=ys
 |_,_,_,.nil,.nil=>rfl
 |_,_,_,.cons r t,.cons r' t'=>by rw[r.inj r',Vals.inj t t']
section
variable {X:Cx}{pins:List (Addr×Obj)}{σ:St}{H:Hp}{s:Shared}{a:Addr}{xs ys:List V}
def bA.of {K:Frag}(h:H a=some (.lst xs)):bA K H a xs:= .inl (.inl h)
def cf.of {K:Frag}(h:H a=some (.tup xs)):cf K H a xs:= .inl (.inl h)
def Inv.list (I:Inv X pins σ H s)(h:bA X.K H a xs): ∃bY:List Value,Vals xs bY/\PlainL s.heap a bY.toArray/\xs.length<=sizeLine:=by
 rcases h with h|⟨o,bY,n,hk,hc,hd,hs,hz,r⟩
 ·obtain⟨z,bY,n,r,e⟩:=h.ok I.cq;exact⟨bY,r,⟨_,n,e,rfl,rfl,rfl⟩,z⟩
 ·refine⟨bY.toList,r,⟨o,n,I.gH a o hk,hc,hd,by simpa using hs⟩,?_⟩;have e:=r.length;simp only[Array.length_toList] at e;lia
def Inv.tuple (I:Inv X pins σ H s)(h:cf X.K H a xs): ∃bY:List Value,Vals xs bY/\IsTup s.heap a bY.toArray/\xs.length<=sizeLine:=by
 rcases h with h|⟨o,bY,n,hk,hc,hs,hz,r⟩
 ·obtain⟨z,bY,r,p⟩:=h.ok I.cq;exact⟨bY,r,p,z⟩
 ·refine⟨bY.toList,r,⟨o,I.gH a o hk,hc,n,by simpa using hs⟩,?_⟩;have e:=r.length;simp only[Array.length_toList] at e;lia
def Inv.Bi (I:Inv X pins σ H s)(h:bA X.K H a xs)(h':bA X.K H a ys):xs=ys:=by
 obtain⟨bY,r,⟨o,n,e,_,_,d⟩,_⟩:=I.list h;obtain⟨qu,r',⟨o',n',e',_,_,d'⟩,_⟩:=I.list h';rw[e] at e'; cases e';rw[d] at d';injection d' with d1 _;have:bY=qu:=by simpa using congrArg Array.toList d1
 subst this;exact r.inj r'
def Inv.Gp (I:Inv X pins σ H s)(h:cf X.K H a xs)(h':cf X.K H a ys):xs=ys:=by
 obtain⟨bY,r,⟨o,e,_,n,d⟩,_⟩:=I.tuple h;obtain⟨qu,r',⟨o',e',_,n',d'⟩,_⟩:=I.tuple h';rw[e] at e'; cases e';rw[d] at d';injection d' with d1 _;have:bY=qu:=by simpa using congrArg Array.toList d1
 subst this;exact r.inj r'
end
abbrev Cx.uH (X:Cx)(E:Value->Shared->Prop):Cx:={X with xe:=E}
abbrev Cx.Dr (X:Cx):Cx:=X.uH fun _ _=>False
def Cx.Ok.uH {X:Cx}(ok:X.Ok)(E:Value->Shared->Prop):(X.uH E).Ok:=
 ⟨ok.mod,ok.kind,ok.glob,ok.blt,ok.above,ok.inj,ok.has,ok.K1,ok.hd,ok.frames,ok.Ik,ok.Lr,ok.bs,ok.Bc,ok.wI,ok.wJ,ok.lR,ok.EI⟩
def Cx.Ok.mN {X:Cx}{E:Value->Shared->Prop}(ok:(X.uH E).Ok):X.Ok:=
 ⟨ok.mod,ok.kind,ok.glob,ok.blt,ok.above,ok.inj,ok.has,ok.K1,ok.hd,ok.frames,ok.Ik,ok.Lr,ok.bs,ok.Bc,ok.wI,ok.wJ,ok.lR,ok.EI⟩
section
variable {X:Cx}{pins:List (Addr×Obj)}{σ:St}{H:Hp}{s:Shared}{E:Value->Shared->Prop}
def Inv.uH (I:Inv X pins σ H s)(E:Value->Shared->Prop):Inv (X.uH E) pins σ H s:=⟨I.ok.uH E,I.os,I.bare,I.base,I.loc,I.cell,I.free,I.iJ,I.pin,I.cq,I.len⟩
def Inv.mN (I:Inv (X.uH E) pins σ H s):Inv X pins σ H s:=⟨I.ok.mN,I.os,I.bare,I.base,I.loc,I.cell,I.free,I.iJ,I.pin,I.cq,I.len⟩
def SP.mN {D:Ends}{f:Flow}{s':Shared}(h:SP (X.uH E) pins D f s'):SP X pins D f s':=by
 cases f with
 |next=>obtain⟨σ',H',I,q⟩:=h; exact⟨σ',H',I.mN,q⟩
 |brk=>obtain⟨σ',H',I,q⟩:=h; exact⟨σ',H',I.mN,q⟩
 |cont=>obtain⟨σ',H',I,q⟩:=h; exact⟨σ',H',I.mN,q⟩
 |ret u=>obtain⟨v,σ',H',I,r,q⟩:=h; exact⟨v,σ',H',I.mN,r,q⟩
def oO.Dr {st:List Stmt}{t:TS}(h:oO X.Dr st t):oO X st t:=fun pins s σ H D I hw=>
 b9 (h pins s σ H D (I.uH _) hw) (fun _ _ q=>q.mN) fun _ _ z=>False.elim z
end
section
variable {X:Cx}{st:Stmt}{rest:List Stmt}{t u:TS}{e:Expr}{te:TE}{pos:Pos}
def RL:TS:=fun D σ H=>D.nx σ H
def Wv (t u:TS):TS:=fun D σ H=>t {D with nx:=u D} σ H
def bb:oO X [] RL:=fun _ _ σ H _ I h=>jh ⟨σ,H,I,h⟩
def ah (h1:PS X st t)(h2:oO X rest u):oO X (st :: rest) (Wv t u):=by
 intro pins s σ H D I h;refine wpAny_execs_cons (dO (h1 pins s σ H {D with nx:=u D} I h) fun f s1 q=>?_);cases f with
 |next=>
  obtain⟨σ',H',I',q⟩:=q;exact h2 pins s1 σ' H' D I' q
 |ret v=>exact q
 |brk=>exact q
 |cont=>exact q
def au (h1:PS X st t):oO X [st] t:=by
 intro pins s σ H D I h;refine wpAny_execs_cons (dO (h1 pins s σ H D I h) fun f s1 q=>?_);cases f with
 |next=>exact jh q
 |ret v=>exact q
 |brk=>exact q
 |cont=>exact q
def Inv.quiet {pins:List (Addr×Obj)}{σ:St}{H:Hp}{s:Shared}(I:Inv X pins σ H s):interactive X.env=false:=by simp[interactive,I.ok.kind]
def RM (te:TE):TS:=fun D σ H=>te σ H fun _ H1=>D.nx σ H1
def bK (he:PE X e te)(hs:swapsWith e none pos.line X.env=pure false:=by rfl):PS X (.Expr e pos) (RM te):=by
 intro pins s σ H D I h;exact wpAny_Expr_any (dO (he pins s σ H _ I h) fun v s1 ⟨x,H1,I1,r1,q1⟩=>⟨σ,H1,I1,q1⟩) I.quiet hs
def Ww (te:TE):TS:=fun D σ H=>te σ H D.rt
def a0 (he:PE X e te):PS X (.Return (some e) pos) (Ww te):=by
 intro pins s σ H D I h;exact wpAny_Return_some (dO (he pins s σ H _ I h) fun v s1 ⟨x,H1,I1,r1,q1⟩=>⟨x,σ,H1,I1,r1,q1⟩)
def Wx (c:TT)(t u:TS):TS:=fun D σ H=>c σ H fun b H1=>if b=true then t D σ H1 else u D σ H1
def bN {c:Expr}{a b:List Stmt}{tc:TT}(hc:PT X c tc)(ha:oO X a t)(hb:oO X b u):PS X (.If c a b pos) (Wx tc t u):=by
 intro pins s σ H D I h;refine wpAny_If (dO (hc pins s σ H _ I h) fun d s1 ⟨H1,I1,q1⟩=>?_);cases d with
 |true=>exact ha pins s1 σ H1 D I1 q1
 |false=>exact hb pins s1 σ H1 D I1 q1
end
abbrev TG:=V->St->Hp->(St->Hp->Prop)->Prop
abbrev Lw:=List V->St->Hp->(St->Hp->Prop)->Prop
def PG (X:Cx)(target:Expr)(t:TG):Prop:=
 ∀(pins:List (Addr×Obj)) (s:Shared) (σ:St) (H:Hp) (v:V) (u:Value) (Q:St->Hp->Prop),Inv X pins σ H s->RelV v u->t v σ H Q->
  wpAny (model X.prog X.w) X.A (assign target X.env u) (fun _ s'=> ∃σ' H',Inv X pins σ' H' s'/\Q σ' H') X.xe s
def ID (X:Cx)(ts:List Expr)(t:Lw):Prop:=
 ∀(pins:List (Addr×Obj)) (s:Shared) (σ:St) (H:Hp) (vs:List V) (us:List Value) (Q:St->Hp->Prop),Inv X pins σ H s->Vals vs us->t vs σ H Q->
  wpAny (model X.prog X.w) X.A (assignInOrder ((assignEach ts X.env).map (·.2)) us) (fun _ s'=> ∃σ' H',Inv X pins σ' H' s'/\Q σ' H') X.xe s
abbrev Og:=V->V->V->Hp->(Hp->Prop)->Prop
def RN (X:Cx)(t:Og):Prop:=
 ∀(pins:List (Addr×Obj)) (s:Shared) (σ:St) (H:Hp) (o i v:V) (ov iv u:Value) (Q:Hp->Prop),Inv X pins σ H s->RelV o ov->RelV i iv->RelV v u->t o i v H Q->
  wpAny (model X.prog X.w) X.A (setItem ov iv u) (fun _ s'=> ∃H',Inv X pins σ H' s'/\Q H') X.xe s
section
variable {X:Cx}{pos:Pos}
def Bj (i:Nat):TG:=fun v σ H Q=>Q (σ.set i (some v)) H
def dQ {i:Nat}{x:Str}(hN:X.N.Nodup)(hi:X.N[i]? =some x)(hx:Loc X.env.scope x)(hf:X.fn x=true∨X.env.scope.names.lookup x=some .local:=by first|exact .inl rfl|exact .inr rfl|assumption):PG X (.Name x pos) (Bj i):=by
 intro pins s σ H v u Q I r h;exact wpAny_assign_Name (uG I hN hi hx r (fun s' I'=>⟨_,H,I',h⟩) hf)
def Wy:Lw:=fun vs σ H Q=>vs=[]/\Q σ H
inductive Zv (vs:List V)(k:V->List V->Prop):Prop
 |mk (v:V)(r:List V)(h:vs=v :: r)(q:k v r):Zv vs k
def RO (t:TG)(u:Lw):Lw:=fun vs σ H Q=>Zv vs fun v r=>t v σ H fun σ' H'=>u r σ' H' Q
def gv:ID X [] Wy:=by
 intro pins s σ H vs us Q I r h;obtain⟨e,h⟩:=h;subst e;cases r;exact assignInOrder_nil ⟨σ,H,I,h⟩
def bX {e:Expr}{es:List Expr}{t:TG}{u:Lw}(h1:PG X e t)(h2:ID X es u)
  (hs:(assignEach (e :: es) X.env).map (·.2)=assign e X.env :: (assignEach es X.env).map (·.2):=by rfl):ID X (e :: es) (RO t u):=by
 intro pins s σ H vs us Q I r h;obtain⟨v,vr,e1,h⟩:=h;subst e1;cases r with
 |cons r rr=>
  rw[hs];refine assignInOrder_cons (dO (h1 pins s σ H _ _ _ I r h) fun _ s1 ⟨σ1,H1,I1,q1⟩=>?_);exact h2 pins s1 σ1 H1 _ _ Q I1 rr q1
inductive Zw (K:Frag)(H:Hp)(n:Nat)(v:V)(k:List V->Prop):Prop
 |mk (a:Addr)(xs:List V)(h1:v= .ref a)(h2:cf K H a xs)(h3:xs.length=n)(q:k xs):Zw K H n v k
def Oh (K:Frag)(n:Nat)(t:Lw):TG:=fun v σ H Q=>Zw K H n v fun xs=>t xs σ H Q
def IE {es:List Expr}{k:Nat}{t:Lw}{n:Nat}(hc:X.calm=true)(h:ID X es t)
  (hn:(assignEach es X.env).length=n:=by rfl) (rF:(assignEach es X.env).findIdx? (·.1)=none:=by rfl):PG X (.Tuple es k pos) (Oh X.K n t):=by
 intro pins s σ H v u Q I r hw;obtain⟨a,xs,e1,hq,hl,hw⟩:=hw;subst e1;cases r;obtain⟨bY,rv,ht,hz⟩:=I.tuple hq;refine assign_Tuple_tuple (I.ok.hd hc) ht (by simp[hn,← hl,rv.length]) rF fun h' hx=>?_;have I1:Inv X pins σ H {s with heap:=h'}:=I.kept (t':=s.toks) fun b o e=>hx b o (a6 (aM e)) e;exact h pins _ σ H xs _ Q I1 (by simpa using rv) hw
def Wz (to ti:TE)(t:Og):TG:=fun v σ H Q=>to σ H fun o H1=>ti σ H1 fun i H2=>t o i v H2 fun H3=>Q σ H3
def pE {o i:Expr}{to ti:TE}{t:Og}(ho:PE X o to)(hi:PE X i ti)(hs:RN X t)
  (ha: ∀v,assign (.Subscript o i pos) X.env v=(do
   let ov ← holding [v] (eval o X.env)
   let iv ← holding [v,ov] (eval i X.env)
   standAt pos
   holding [v,ov,iv] (setItem ov iv v)
   release [v,ov,iv] []):=by intro _; rfl):PG X (.Subscript o i pos) (Wz to ti t):=by
 intro pins s σ H v u Q I r h;rw[ha];refine aA (ij (dO (ho pins s σ H _ I h) fun ov s1 ⟨x,H1,I1,r1,q1⟩=>?_));refine aA (ij (dO (hi pins s1 σ H1 _ I1 q1) fun iv s2 ⟨y,H2,I2,r2,q2⟩=>?_));refine aA (il (aA (ij (dO (hs pins s2 σ H2 x y v ov iv u _ I2 r1 r2 r q2) fun _ s3 ⟨H3,I3,q3⟩=>?_))));exact wpAny_release ⟨σ,H3,I3,q3⟩
def Lx (te:TE)(g:TG):TS:=fun D σ H=>te σ H fun x H1=>g x σ H1 D.nx
def lT {tg e:Expr}{te:TE}{g:TG}(he:PE X e te)(hg:PG X tg g)(hs:swapsWithSole [tg] e pos.line X.env=pure false:=by rfl)(hw:swappedStores [tg] e X.env=pure none:=by rfl)
  (h1:(assignEach [tg] X.env).map (·.2)=[assign tg X.env]:=by rfl):PS X (.Assign [tg] e pos) (Lx te g):=by
 intro pins s σ H D I h;refine wpAny_Assign_stores (dO (he pins s σ H _ I h) fun v s1 ⟨x,H1,I1,r1,q1⟩=>?_) hs hw;rw[h1];exact dO (hg pins s1 σ H1 x v _ I1 r1 q1) fun _ s2 q=>q
def Oi {i:Nat}{x:Str}{e:Expr}{te:TE}{pos':Pos}(hN:X.N.Nodup)(hi:X.N[i]? =some x)(hx:Loc X.env.scope x)(he:PE X e te)(hs:swapsWith e (some (.Name x pos')) pos.line X.env=pure false:=by rfl)(hf:X.fn x=true∨X.env.scope.names.lookup x=some .local:=by first|exact .inl rfl|exact .inr rfl|assumption):
  PS X (.Assign [.Name x pos'] e pos) (Lx te (Bj i)):=by
 intro pins s σ H D I h;refine wpAny_Assign_Name (dO (he pins s σ H _ I h) fun v s1 ⟨y,H1,I1,r1,q1⟩=>?_) hs;exact uG I1 hN hi hx r1 (fun s2 I2=>⟨_,H1,I2,q1⟩) hf
def Oj (c:TT)(tb:TS):TS:=fun D σ H=> ∃W:Nat->St->Hp->Prop,(∃m,W m σ H)/\ ∀m σ H,W m σ H->
 c σ H fun b H1=>if b=true then ∃N:St->Hp->Prop,(∀σ' H',N σ' H'-> ∃m',m' < m/\W m' σ' H')/\tb {D with nx:=N,ct:=N,bk:=D.nx} σ H1 else D.nx σ H1
def IF {c:Expr}{body:List Stmt}{tc:TT}{tb:TS}(hp:PassesOwn (model X.prog X.w) X.A X.env X.xe)(hc:PT X c tc)(hb:oO X body tb):PS X (.While c body [] pos) (Oj tc tb):=by
 intro pins s σ H D I h;obtain⟨W,⟨m0,w0⟩,turn⟩:=h;refine wpAny_While (codeAny_whileLoop (fun n s'=> ∃σ' H',Inv X pins σ' H' s'/\W n σ' H') ?_ m0 ⟨σ,H,I,w0⟩);rintro n s1 ⟨σ1,H1,I1,w1⟩;refine dG hp (dO (hc pins s1 σ1 H1 _ I1 (turn n σ1 H1 w1)) fun b s2 ⟨H2,I2,q2⟩=>?_);cases b with
 |true=>
  obtain⟨N,hN,q2⟩:=q2;rw[a8 rfl];refine dG hp (dO (hb pins s2 σ1 H2 _ I2 q2) fun f s3 q3=>?_);cases f with
  |next=>
   obtain⟨σ3,H3,I3,n3⟩:=q3;obtain⟨m',hm,w3⟩:=hN σ3 H3 n3;exact⟨m',hm,σ3,H3,I3,w3⟩
  |cont=>
   obtain⟨σ3,H3,I3,n3⟩:=q3;obtain⟨m',hm,w3⟩:=hN σ3 H3 n3;exact⟨m',hm,σ3,H3,I3,w3⟩
  |brk=>exact q3
  |ret v=>exact q3
 |false=>
  rw[aU aW];exact jh ⟨σ1,H2,I2,q2⟩
end
structure It where
 go:Nat->Hp->Prop
 Ol:Nat->Hp->V->Hp->Prop
 stop:Nat->Hp->Prop
def uI (X:Cx)(pins:List (Addr×Obj))(H:Hp)(b:Addr):Prop:=
 H b=none/\b≠X.env.locals/\b∉X.fs/\(b∈X.ex∨X.s₀.heap.objs.size<=b)/\(∀x c,X.env.cells.lookup x=some c->c≠b)/\ ∀p∈X.pn ++ pins,p.1≠b
def Inv.Du {X:Cx}{pins:List (Addr×Obj)}{σ:St}{H H':Hp}{s:Shared}{b:Addr}(I:Inv X pins σ H s)(hb:s.heap.objs.size<=b)(hn:H' b=none):uI X pins H' b:=by
 refine⟨hn,qe (bg I.lt hb),I.Gn hb,.inr (aY I.sz hb),fun x c e z=>?_,fun p hp z=>?_⟩
 ·obtain⟨v,q⟩:=I.cell x c e;exact absurd (bg q.lt (by rw[z]; exact hb)) (iM _)
 ·exact absurd (bg (aM (I.pin p hp).1) (by rw[z]; exact hb)) (iM _)
structure Turn (P:Program)(w:World)(K:Frag)(tg:Expr)(J:It)(fp:List Addr)(it:Addr)(tn:Nat->Heap->Prop):Prop where
 mem:it∈fp
 obj: ∀i h,tn i h-> ∀b∈fp,∃o,h.get? b=some o/\ ∀v,o.data≠ .cell v
 keep: ∀i h h',tn i h->(∀b∈fp,∀o,h.get? b=some o->h'.get? b=some o)->tn i h'
 item: ∀(X:Cx),X.prog=P->X.w=w->X.K=K->X.calm=true-> ∀(i:Nat) (pins:List (Addr×Obj)) (s:Shared) (σ:St) (H:Hp) (E:Value->Shared->Prop),Inv X pins σ H s->(∀b∈fp,uI X pins H b)->tn i s.heap->J.go i H->
  wpAny (model P w) X.A (pyNext (.ref it)) (fun r s1=> ∃u,r=some u/\
   wpAny (model P w) X.A (letOwnedTupleGo tg (.ref it) u) (fun _ s2=> ∃x H',Inv X pins σ H' s2/\RelV x u/\J.Ol i H x H'/\tn (i + 1) s2.heap/\ ∀b∈fp,H' b=none) E s1) E s
 done: ∀(X:Cx),X.prog=P->X.w=w->X.K=K->X.calm=true-> ∀(i:Nat) (pins:List (Addr×Obj)) (s:Shared) (σ:St) (H:Hp) (E:Value->Shared->Prop),Inv X pins σ H s->(∀b∈fp,uI X pins H b)->tn i s.heap->J.stop i H->
  wpAny (model P w) X.A (pyNext (.ref it)) (fun r s1=>r=none/\Inv X pins σ H s1) E s
 self: ∀(A:Around) (i:Nat) (s:Shared) (Q:Value->Shared->Prop) (E:Value->Shared->Prop),tn i s.heap->Q (.ref it) s->wpAny (model P w) A (pyIter (.ref it)) Q E s
abbrev TI:=St->Hp->(It->Hp->Prop)->Prop
def Zx (X:Cx)(pins:List (Addr×Obj))(σ:St)(tg:Expr)(R:It->Hp->Prop)(Vj:Value)(s2:Shared):Prop:=
 ∃(it:Addr) (fp:List Addr) (tn:Nat->Heap->Prop) (J:It) (H':Hp),Vj= .ref it/\Inv X pins σ H' s2/\Turn X.prog X.w X.K tg J fp it tn/\tn 0 s2.heap/\(∀b∈fp,uI X pins H' b)/\R J H'
def PI (X:Cx)(tg iter:Expr)(wi:TI):Prop:=
 ∀(pins:List (Addr×Obj)) (s:Shared) (σ:St) (H:Hp) (R:It->Hp->Prop),Inv X pins σ H s->wi σ H R->
  wpAny (model X.prog X.w) X.A (eval iter X.env) (fun v s1=>wpAny (model X.prog X.w) X.A (pyIter v) (Zx X pins σ tg R) X.xe s1) X.xe s
def Bl {M:Model}{A:Around}{E:Value->Shared->Prop}{s:Shared}{tg:Expr}{it:Addr}{u:Value}{o:Obj}{n:String}{vs:Array Value}{Q:Unit->Shared->Prop}(ho:s.heap.get? it=some o)(hc:o.cls= .type n)(hd:o.data= .fields vs)
  (hn:["enumerate","zip","dict_itemiterator","dict_reverseitemiterator","odict_iterator","itertools.zip_longest","itertools.pairwise"].contains n=false) (hQ:Q () s):wpAny M A (letOwnedTupleGo tg (.ref it) u) Q E s:=by
 unfold letOwnedTupleGo;cases tg <;> first
  |exact bE hQ
  |(cases u <;> first
    |exact bE hQ
    |(refine aA (wpAny_load ho ?_)
      rw[hc,hd];show wpAny M A (if(["enumerate","zip","dict_itemiterator","dict_reverseitemiterator","odict_iterator","itertools.zip_longest","itertools.pairwise"].contains n && vs[0]? == some (rawInt _))=true then _ else _) Q E s;rw[aU (by intro h; rw[hn,qo] at h; cases h)];exact bE hQ))
def QQ (K:Frag)(a:Addr):It:=
 ⟨fun i H=> ∃xs x,bA K H a xs/\xs[i]? =some x,fun i H x H'=>H'=H/\ ∀xs,bA K H a xs->xs[i]? =some x,fun i H=> ∃xs,bA K H a xs/\xs.length<=i⟩
def WA (K:Frag)(a:Addr):It:=
 ⟨fun i H=> ∃xs x,cf K H a xs/\xs[i]? =some x,fun i H x H'=>H'=H/\ ∀xs,cf K H a xs->xs[i]? =some x,fun i H=> ∃xs,cf K H a xs/\xs.length<=i⟩
def Ly (lo:Int)(n:Nat):It:=⟨fun i _=>i < n,fun i H x H'=>H'=H/\x= .int (lo + i),fun i _=>n<=i⟩
def Gq {P:Program}{w:World}{K:Frag}{tg:Expr}(a it:Addr):Turn P w K tg (QQ K a) [it] it (fun i h=>h.IsListIter it a i) where
 mem:=by simp
 obj:=fun i h st b hb=>by
  have e:b=it:=by simpa using hb
  subst e;obtain⟨o,e,c,d⟩:=st;exact⟨o,e,fun v z=>by rw[d] at z; cases z⟩
 keep:=fun i h h' st k=>st.at fun o e=>k it (by simp) o e
 item:=by
  intro X hP hw hK hc i pins s σ H E I hf st hg;subst hP hw hK;obtain⟨xs,x,hq,hx⟩:=hg;obtain⟨bY,rv,p,hz⟩:=I.list hq;obtain⟨u,hu,ru⟩:=rv.get hx;obtain⟨f0,f1,f2,f3,f4,f5⟩:=hf it (by simp);refine wpAny_pyNext_list_item st p.isList (x:=u) (by simpa using hu) fun h' wK sb=>?_;have I1:Inv X pins σ H {s with heap:=h'}:=I.turned (t':=s.toks) (fun b o hb e=>(sb.2 b hb).trans e) f0 f1 f3 f4 f5;obtain⟨o,e,c,d⟩:=id wK;exact⟨u,rfl,Bl (s:={s with heap:=h'}) e c d (by decide) ⟨x,H,I1,ru,⟨rfl,fun ys hy=>by rw[I.Bi hy hq]; exact hx⟩,wK,fun b hb=>(hf b hb).1⟩⟩
 done:=by
  intro X hP hw hK hc i pins s σ H E I hf st hg;subst hP hw hK;obtain⟨xs,hq,hx⟩:=hg;obtain⟨bY,rv,p,hz⟩:=I.list hq;obtain⟨f0,f1,f2,f3,f4,f5⟩:=hf it (by simp);have hl:=rv.length;exact wpAny_pyNext_list_end (I.ok.hd hc) st p.isList (by simp; lia) fun h' eb=>⟨rfl,I.turned (t':=s.toks) (fun b o hb e=>eb b o hb e) f0 f1 f3 f4 f5⟩
 self:=fun _ _ _ _ _ st h=>wpAny_pyIter_listiter st h
def Dv {P:Program}{w:World}{K:Frag}{tg:Expr}(a it:Addr):Turn P w K tg (WA K a) [it] it (fun i h=>h.IsTupleIter it a i) where
 mem:=by simp
 obj:=fun i h st b hb=>by
  have e:b=it:=by simpa using hb
  subst e;obtain⟨o,e,c,d⟩:=st;exact⟨o,e,fun v z=>by rw[d] at z; cases z⟩
 keep:=fun i h h' st k=>st.at fun o e=>k it (by simp) o e
 item:=by
  intro X hP hw hK hc i pins s σ H E I hf st hg;subst hP hw hK;obtain⟨xs,x,hq,hx⟩:=hg;obtain⟨bY,rv,p,hz⟩:=I.tuple hq;obtain⟨u,hu,ru⟩:=rv.get hx;obtain⟨f0,f1,f2,f3,f4,f5⟩:=hf it (by simp);refine wpAny_pyNext_tuple_item st (show s.heap.IsTuple a bY.toArray from p) (x:=u) (by simpa using hu) fun h' wK sb=>?_;have I1:Inv X pins σ H {s with heap:=h'}:=I.turned (t':=s.toks) (fun b o hb e=>(sb.2 b hb).trans e) f0 f1 f3 f4 f5;obtain⟨o,e,c,d⟩:=id wK;exact⟨u,rfl,Bl (s:={s with heap:=h'}) e c d (by decide) ⟨x,H,I1,ru,⟨rfl,fun ys hy=>by rw[I.Gp hy hq]; exact hx⟩,wK,fun b hb=>(hf b hb).1⟩⟩
 done:=by
  intro X hP hw hK hc i pins s σ H E I hf st hg;subst hP hw hK;obtain⟨xs,hq,hx⟩:=hg;obtain⟨bY,rv,p,hz⟩:=I.tuple hq;obtain⟨f0,f1,f2,f3,f4,f5⟩:=hf it (by simp);have hl:=rv.length;exact wpAny_pyNext_tuple_end (I.ok.hd hc) st (show s.heap.IsTuple a bY.toArray from p) (by simp; lia) fun h' eb=>⟨rfl,I.turned (t':=s.toks) (fun b o hb e=>eb b o hb e) f0 f1 f3 f4 f5⟩
 self:=fun _ _ _ _ _ st h=>wpAny_pyIter_tupleiter st h
def Dw {P:Program}{w:World}{K:Frag}{tg:Expr}(it:Addr)(lo:Int)(n:Nat):Turn P w K tg (Ly lo n) [it] it (fun i h=>IsRangeIter h it (lo + (i:Nat) * 1) ((n:Int) - (i:Nat)) 1) where
 mem:=by simp
 obj:=fun i h st b hb=>by
  have e:b=it:=by simpa using hb
  subst e;exact⟨_,st,fun v z=>by
   have z':Data.fields _ =Data.cell v:=z;cases z'⟩
 keep:=fun i h h' st k=>k it (by simp) _ st
 item:=by
  intro X hP hw hK hc i pins s σ H E I hf st hg;subst hP hw hK;obtain⟨f0,f1,f2,f3,f4,f5⟩:=hf it (by simp);have W:=Walks.range (prog:=X.prog) (w:=X.w) (I.ok.hd hc) it lo 1 n;refine W.item i s _ _ hg st fun v h' tk hv wK kk=>?_;obtain⟨t,rfl⟩:=hv;have I1:Inv X pins σ H {s with heap:=h',toks:=tk}:=I.turned (fun b o hb e=>kk b o (by simpa using hb) e) f0 f1 f3 f4 f5;refine⟨_,rfl,Bl (s:={s with heap:=h',toks:=tk}) (n:="range_iterator") wK rfl rfl (by decide) ⟨.int (lo + i),H,I1,⟨t,?_⟩,⟨rfl,rfl⟩,wK,fun b hb=>(hf b hb).1⟩⟩;rw[Int.mul_one]
 done:=by
  intro X hP hw hK hc i pins s σ H E I hf st hg;subst hP hw hK;obtain⟨f0,f1,f2,f3,f4,f5⟩:=hf it (by simp);exact wpAny_pyNext_range_end (I.ok.hd hc) st (by have:n<=i:=hg; lia) fun h' eb=>⟨rfl,I.turned (t':=s.toks) (fun b o hb e=>eb b o hb e) f0 f1 f3 f4 f5⟩
 self:=fun _ _ _ _ _ st h=>wpAny_pyIter_rangeiter st h
section
variable {X:Cx}{tg:Expr}
inductive Zy (x:V)(S k:Addr->Prop):Prop
 |mk (a:Addr)(h:x= .ref a)(s:S a)(q:k a):Zy x S k
def Ni (K:Frag)(tl:TE):TI:=fun σ H R=>tl σ H fun x H1=>Zy x (fun a=> ∃xs,bA K H1 a xs) fun a=>R (QQ K a) H1
def WB (K:Frag)(tl:TE):TI:=fun σ H R=>tl σ H fun x H1=> ∃a,x= .ref a/\(∃xs,cf K H1 a xs)/\R (WA K a) H1
def Lz {l:Expr}{tl:TE}(hl:PE X l tl):PI X tg l (Ni X.K tl):=by
 intro pins s σ H R I h;refine dO (hl pins s σ H _ I h) fun v s1 ⟨x,H1,I1,r1,q1⟩=>?_;obtain⟨a,e,⟨xs,hq⟩,q⟩:=q1;subst e;cases r1;obtain⟨bY,rv,p,hz⟩:=I1.list hq;refine wpAny_pyIter_list p.isList ?_;refine⟨s1.heap.objs.size,[s1.heap.objs.size],_,_,H1,rfl,I1.kept (t':=s1.toks) fun b o e=>ax _ e,Gq a _,⟨_,bL _ rfl,rfl,rfl⟩,fun b hb=>?_,q⟩;have e:b=s1.heap.objs.size:=by simpa using hb
 subst e;exact I1.Du (aE _) (I1.cq.fresh (aE _))
def IG {l:Expr}{tl:TE}(hl:PE X l tl):PI X tg l (WB X.K tl):=by
 intro pins s σ H R I h;refine dO (hl pins s σ H _ I h) fun v s1 ⟨x,H1,I1,r1,q1⟩=>?_;obtain⟨a,e,⟨xs,hq⟩,q⟩:=q1;subst e;cases r1;obtain⟨bY,rv,p,hz⟩:=I1.tuple hq;refine wpAny_pyIter_tuple (show s1.heap.IsTuple a bY.toArray from p) ?_;refine⟨s1.heap.objs.size,[s1.heap.objs.size],_,_,H1,rfl,I1.kept (t':=s1.toks) fun b o e=>ax _ e,Dv a _,⟨_,bL _ rfl,rfl,rfl⟩,fun b hb=>?_,q⟩;have e:b=s1.heap.objs.size:=by simpa using hb
 subst e;exact I1.Du (aE _) (I1.cq.fresh (aE _))
def Bm {pins:List (Addr×Obj)}{σ:St}{H:Hp}{s:Shared}{R:It->Hp->Prop}{E:Value->Shared->Prop}{lo hi:Int}{t u v:Tok}{tk:Nat}(I:Inv X pins σ H s)(h1: -(2 ^ 62)<=lo)(h2:lo < 2 ^ 62)(h3: -(2 ^ 62)<=hi)(h4:hi < 2 ^ 62)
  (q:R (Ly lo (hi - lo).toNat) H):wpAny (model X.prog X.w) X.A (pyIter (.ref s.heap.objs.size)) (Zx X pins σ tg R) E {s with heap:=s.heap.push {cls:= .type "range",data:= .fields #[.int lo t,.int hi u,.int 1 v]},toks:=tk}:=by
 refine wpAny_pyIter_range (IsRange.new ..) (small_one h1 h2 h3 h4) ?_;have I1:Inv X pins σ H {s with heap:=s.heap.push {cls:= .type "range",data:= .fields #[.int lo t,.int hi u,.int 1 v]},toks:=tk}:=I.kept fun b o e=>ax _ e;refine⟨(s.heap.push {cls:= .type "range",data:= .fields #[.int lo t,.int hi u,.int 1 v]}).objs.size,[(s.heap.push {cls:= .type "range",data:= .fields #[.int lo t,.int hi u,.int 1 v]}).objs.size],_,_,H,rfl,
  I1.kept (t':=tk) fun b o e=>ax _ e,Dw _ lo (hi - lo).toNat,?_,fun b hb=>?_,q⟩
 ·have e1:lo + ((0:Nat):Int) * 1=lo:=by simp
  have e2:(((hi - lo).toNat:Nat):Int) - ((0:Nat):Int)=Builtin.Range.rangeSize lo hi 1:=by rw[rangeSize_one]; split <;> lia
  show IsRangeIter _ _ (lo + ((0:Nat):Int) * 1) ((((hi - lo).toNat:Nat):Int) - ((0:Nat):Int)) 1;rw[e1,e2];exact bL _ rfl
 ·have e:b=(s.heap.push {cls:= .type "range",data:= .fields #[.int lo t,.int hi u,.int 1 v]}).objs.size:=by simpa using hb
  subst e;exact I1.Du (aE _) (I1.cq.fresh (aE _))
def RP (ta:TA):TI:=fun σ H R=>ta σ H fun vs H1=> ∃j:Int,vs=[.int j]/\ -(2 ^ 62)<=j/\j < 2 ^ 62/\R (Ly 0 j.toNat) H1
def RQ (ta:TA):TI:=fun σ H R=>ta σ H fun vs H1=> ∃i j:Int,vs=[.int i,.int j]/\(-(2 ^ 62)<=i/\i < 2 ^ 62/\ -(2 ^ 62)<=j/\j < 2 ^ 62)/\R (Ly i (j - i).toNat) H1
def iQ {a:Expr}{ta:TA}{p pos:Pos}(hg:Gl X "range")(hm:X.mg "range"=none)(ha:PA X [a] ta)(hs:starEach [a] X.env=[(false,eval a X.env)]:=by rfl):PI X tg (.Call (.Name "range" p) [a] [] pos) (RP ta):=by
 intro pins s σ H R I h;refine Call_ (lS I hg hm boot_range (fI (dO (ha pos pins s σ H _ I h) fun us s1 ⟨vs,H1,I1,r1,q1⟩=>?_) hs rfl));obtain⟨j,e,q1,q2,q⟩:=q1;subst e;cases r1 with
 |cons r rr=>
  cases rr;obtain⟨t,rfl⟩:=r;exact call_range_1 (Bm I1 (by lia) (by lia) q1 q2 (by simpa using q))
def Gr {a b:Expr}{ta:TA}{p pos:Pos}(hg:Gl X "range")(hm:X.mg "range"=none)(ha:PA X [a,b] ta)(hs:starEach [a,b] X.env=[(false,eval a X.env),(false,eval b X.env)]:=by rfl)(LA:starEach [b] X.env=[(false,eval b X.env)]:=by rfl):
  PI X tg (.Call (.Name "range" p) [a,b] [] pos) (RQ ta):=by
 intro pins s σ H R I h;refine Call_ (lS I hg hm boot_range (fI (dO (ha pos pins s σ H _ I h) fun us s1 ⟨vs,H1,I1,r1,q1⟩=>?_) (by rw[hs,LA]) (by rw[LA]; rfl)));obtain⟨i,j,e,⟨q1,q2,q3,q4⟩,q⟩:=q1;subst e;cases r1 with
 |cons r rr=>
  cases rr with
  |cons r' rr=>
   cases rr;obtain⟨t,rfl⟩:=r;obtain⟨t',rfl⟩:=r';exact call_range_2 (Bm I1 q1 q2 q3 q4 q)
def WC (wi:TI)(g:TG)(tb:TS):TS:=fun D σ H=>wi σ H fun J H1=> ∃W:Nat->Nat->St->Hp->Prop,(∃m,W 0 m σ H1)/\ ∀i m σ H,W i m σ H->
 (J.stop i H/\D.nx σ H)∨(J.go i H/\ ∃N:St->Hp->Prop,(∀σ' H',N σ' H'-> ∃m',m' < m/\W (i + 1) m' σ' H')/\ ∀x H',J.Ol i H x H'->g x σ H' fun σ2 H2=>tb {D with nx:=N,ct:=N,bk:=D.nx} σ2 H2)
def pF (fp:List Addr)(h:Heap):List (Addr×Obj):=fp.filterMap fun b=>(h.get? b).map fun o=>(b,o)
def jF {fp:List Addr}{h:Heap}{b:Addr}{o:Obj}(hb:b∈fp)(e:h.get? b=some o):(b,o)∈pF fp h:=List.mem_filterMap.mpr ⟨b,hb,by rw[e]; rfl⟩
def Gs {fp:List Addr}{h:Heap}{p:Addr×Obj}(hp:p∈pF fp h):p.1∈fp/\h.get? p.1=some p.2:=by
 obtain⟨b,hb,e⟩:=List.mem_filterMap.mp hp;cases q:h.get? b with
 |none=>rw[q] at e; cases e
 |some o=>
  rw[q] at e;have e':(b,o)=p:=aF e;subst e';exact⟨hb,q⟩
def Inv.pinned {pins:List (Addr×Obj)}{σ:St}{H:Hp}{s:Shared}{fp:List Addr}(I:Inv X pins σ H s)(hf: ∀b∈fp,uI X pins H b)(ho: ∀b∈fp,∃o,s.heap.get? b=some o/\ ∀v,o.data≠ .cell v):Inv X (pins ++ pF fp s.heap) σ H s:=
 I.ui fun p hp=>(bq.mp hp).elim (fun z=>I.pin p (bu _ z)) fun z=>by
  obtain⟨hb,e⟩:=Gs z;obtain⟨f0,f1,f2,_⟩:=hf p.1 hb;obtain⟨o,e',d⟩:=ho p.1 hb;rw[e] at e'; cases e';exact⟨e,f0,f1,f2,d⟩
def Inv.i7 {pins pl:List (Addr×Obj)}{σ:St}{H:Hp}{s:Shared}(I:Inv X (pins ++ pl) σ H s):Inv X pins σ H s:=I.ui fun p hp=>I.pin p (bu _ (cX _ hp))
def dW {iter:Expr}{body:List Stmt}{wi:TI}{g:TG}{tb:TS}{pos:Pos}(hp:PassesOwn (model X.prog X.w) X.A X.env X.xe)(hc:X.calm=true)(hi:PI X tg iter wi)(hg:PG X tg g)(hb:oO X body tb)
  (hs: ∀x,foldedSetIterable iter X.env x=pure x:=by intro _; rfl):PS X (.For tg iter body [] pos) (WC wi g tb):=by
 intro pins s σ H D I h;refine wpAny_For (dO (hi pins s σ H _ I h) fun v s1 h1=>dO h1 fun Vj s2 h2=>?_) hs;obtain⟨it,fp,tn,J,H2,e,I2,T,Nj,f2,W,⟨m0,w0⟩,turn⟩:=h2;subst e;have rV: ∀{H':Hp},(∀b∈fp,H' b=none)-> ∀b∈fp,uI X pins H' b:=fun hn b hb=>⟨hn b hb,(f2 b hb).2⟩;refine codeAny_forLoop_any (fun n s'=> ∃i σ' H',Inv X pins σ' H' s'/\tn i s'.heap/\(∀b∈fp,H' b=none)/\W i n σ' H') ?_ m0 ⟨0,σ,H2,I2,Nj,fun b hb=>(f2 b hb).1,w0⟩;rintro n s3 ⟨i,σ3,H3,I3,RS,LB,w3⟩;rcases turn i n σ3 H3 w3 with⟨stop,qn⟩|⟨go,N,hN,step⟩
 ·refine dG hp (dO (T.done X rfl rfl rfl hc i pins s3 σ3 H3 X.xe I3 (rV LB) RS stop) fun r s4 ⟨hr,I4⟩=>?_);subst hr;exact jh ⟨σ3,H3,I4,qn⟩
 ·refine dG hp (dO (T.item X rfl rfl rfl hc i pins s3 σ3 H3 X.xe I3 (rV LB) RS go) fun r s4 ⟨u,hr,h4⟩=>?_);subst hr;refine dG hp (dO h4 fun _ s5 ⟨x,H5,I5,r5,y5,Om,QR⟩=>?_);have I5':=I5.pinned (rV QR) (T.obj _ _ Om);refine dG hp (dO (hg _ s5 σ3 H5 x u _ I5' r5 (step x H5 y5)) fun _ s6 ⟨σ6,H6,I6,q6⟩=>?_);refine dG hp (dO (hb _ s6 σ6 H6 _ I6 q6) fun f s7 q7=>?_);have again: ∀{σ7:St} {H7:Hp},Inv X (pins ++ pF fp s5.heap) σ7 H7 s7->N σ7 H7-> ∃m,m < n/\ ∃i σ' H',Inv X pins σ' H' s7/\tn i s7.heap/\(∀b∈fp,H' b=none)/\W i m σ' H':=fun{σ7 H7} I7 n7=>by
   obtain⟨m',hm,w7⟩:=hN σ7 H7 n7;refine⟨m',hm,i + 1,σ7,H7,I7.i7,T.keep _ _ _ Om fun b hb o e=>(I7.pin (b,o) (bu _ (bu _ (jF hb e)))).1,fun b hb=>?_,w7⟩;obtain⟨o,e,d⟩:=T.obj _ _ Om b hb;exact(I7.pin (b,o) (bu _ (bu _ (jF hb e)))).2.1
  cases f with
  |next=>obtain⟨σ7,H7,I7,n7⟩:=q7; exact again I7 n7
  |cont=>obtain⟨σ7,H7,I7,n7⟩:=q7; exact again I7 n7
  |brk=>obtain⟨σ7,H7,I7,q7⟩:=q7; exact⟨σ7,H7,I7.i7,q7⟩
  |ret v=>obtain⟨x7,σ7,H7,I7,r7,q7⟩:=q7; exact⟨x7,σ7,H7,I7.i7,r7,q7⟩
end
def fC {K:Frag}{a:Addr}{xs:List V}{g:TG}{tb:TS}{D:Ends}{σ:St}{H:Hp}(Pv:Nat->St->Hp->Prop)(h0:Pv 0 σ H)(hl: ∀i σ H,i<=xs.length->Pv i σ H->bA K H a xs)
  (hs: ∀i x σ H,xs[i]? =some x->Pv i σ H->g x σ H fun σ2 H2=>tb {D with nx:=Pv (i + 1),ct:=Pv (i + 1),bk:=D.nx} σ2 H2) (hd: ∀σ H,Pv xs.length σ H->D.nx σ H):
  ∃W:Nat->Nat->St->Hp->Prop,(∃m,W 0 m σ H)/\ ∀i m σ H,W i m σ H->
   ((QQ K a).stop i H/\D.nx σ H)∨((QQ K a).go i H/\ ∃N:St->Hp->Prop,(∀σ' H',N σ' H'-> ∃m',m' < m/\W (i + 1) m' σ' H')/\ ∀x H',(QQ K a).Ol i H x H'->g x σ H' fun σ2 H2=>tb {D with nx:=N,ct:=N,bk:=D.nx} σ2 H2):=by
 refine⟨fun i m σ H=>m=xs.length - i/\i<=xs.length/\Pv i σ H,⟨xs.length,by simp,Nat.zero_le _,h0⟩,?_⟩;rintro i m σ H ⟨rfl,hi,p⟩;have q:=hl i σ H hi p;by_cases ip:i < xs.length
 ·refine .inr ⟨⟨xs,xs[i],q,by simp[ip]⟩,Pv (i + 1),fun σ' H' p'=>⟨xs.length - (i + 1),by lia,rfl,ip,p'⟩,fun x H' y=>?_⟩;obtain⟨e,y⟩:=y;subst e;exact hs i x σ _ (y xs q) p
 ·have e:i=xs.length:=by lia
  subst e;exact .inl ⟨⟨xs,q,aE _⟩,hd σ H p⟩
def iR {lo:Int}{n:Nat}{g:TG}{tb:TS}{D:Ends}{σ:St}{H:Hp}(Pv:Nat->St->Hp->Prop)(h0:Pv 0 σ H)
  (hs: ∀i σ H,i < n->Pv i σ H->g (.int (lo + i)) σ H fun σ2 H2=>tb {D with nx:=Pv (i + 1),ct:=Pv (i + 1),bk:=D.nx} σ2 H2) (hd: ∀σ H,Pv n σ H->D.nx σ H):
  ∃W:Nat->Nat->St->Hp->Prop,(∃m,W 0 m σ H)/\ ∀i m σ H,W i m σ H->
   ((Ly lo n).stop i H/\D.nx σ H)∨((Ly lo n).go i H/\ ∃N:St->Hp->Prop,(∀σ' H',N σ' H'-> ∃m',m' < m/\W (i + 1) m' σ' H')/\ ∀x H',(Ly lo n).Ol i H x H'->g x σ H' fun σ2 H2=>tb {D with nx:=N,ct:=N,bk:=D.nx} σ2 H2):=by
 refine⟨fun i m σ H=>m=n - i/\i<=n/\Pv i σ H,⟨n,by simp,Nat.zero_le _,h0⟩,?_⟩;rintro i m σ H ⟨rfl,hi,p⟩;by_cases ip:i < n
 ·refine .inr ⟨ip,Pv (i + 1),fun σ' H' p'=>⟨n - (i + 1),by lia,rfl,ip,p'⟩,fun x H' y=>?_⟩;obtain⟨e,y⟩:=y;subst e y;exact hs i σ _ ip p
 ·have e:i=n:=by lia
  subst e;exact .inl ⟨aE _,hd σ H p⟩
abbrev R2:=V->V->Hp->VK->Prop
def oA (X:Cx)(f:Value->Value->Sem Value)(r:R2):Prop:=
 ∀(pins:List (Addr×Obj)) (s:Shared) (σ:St) (H:Hp) (x y:V) (v u:Value) (Q:VK),Inv X pins σ H s->RelV x v->RelV y u->r x y H Q->
  wpAny (model X.prog X.w) X.A (f v u) (EP X pins σ Q) X.xe s
def Nk (X:Cx)(f:Value->Sem Value)(r:V->Hp->VK->Prop):Prop:=
 ∀(pins:List (Addr×Obj)) (s:Shared) (σ:St) (H:Hp) (x:V) (v:Value) (Q:VK),Inv X pins σ H s->RelV x v->r x H Q->
  wpAny (model X.prog X.w) X.A (f v) (EP X pins σ Q) X.xe s
def gZ (X:Cx)(f:Value)(r:List V->Hp->VK->Prop):Prop:=
 ∀(pins:List (Addr×Obj)) (s:Shared) (σ:St) (H:Hp) (xs:List V) (us:List Value) (Q:VK),Inv X pins σ H s->Vals xs us->r xs H Q->
  wpAny (model X.prog X.w) X.A (call f us) (EP X pins σ Q) X.xe s
def QS (r:R2)(ta tb:TE):TE:=fun σ H Q=>ta σ H fun x H1=>tb σ H1 fun y H2=>r x y H2 Q
def tUn (r:V->Hp->VK->Prop)(ta:TE):TE:=fun σ H Q=>ta σ H fun x H1=>r x H1 Q
inductive Zz (x y:V)(C k:Int->Int->Prop):Prop
 |mk (i j:Int)(h1:x= .int i)(h2:y= .int j)(c:C i j)(q:k i j):Zz x y C k
inductive ZA (x y:V)(k:Int->Int->Prop):Prop
 |mk (i j:Int)(h1:x= .int i)(h2:y= .int j)(q:k i j):ZA x y k
def rI (C:Int->Int->Prop)(g:Int->Int->V):R2:=fun x y H Q=>Zz x y C fun i j=>Q (g i j) H
def K2 (g:Int->Int->V):R2:=fun x y H Q=>ZA x y fun i j=>Q (g i j) H
def rU (g:Int->V):V->Hp->VK->Prop:=fun x H Q=> ∃i,x= .int i/\Q (g i) H
section
variable {X:Cx}{a b c:Expr}{ta tb tc:TE}{pos:Pos}
def Oo (ha:PE X a ta)(hb:PE X b tb){pins:List (Addr×Obj)}{s:Shared}{σ:St}{H:Hp}{R:V->V->Hp->Prop}(I:Inv X pins σ H s)
  (h:ta σ H fun x H1=>tb σ H1 fun y H2=>R x y H2) {Q:Value->Shared->Prop} {f:Value->Value->Sem Value}
  (hf: ∀v u s2 x y H2,Inv X pins σ H2 s2->RelV x v->RelV y u->R x y H2->wpAny (model X.prog X.w) X.A (f v u) Q X.xe s2):
  wpAny (model X.prog X.w) X.A (eval a X.env) (fun v s₁=>wpAny (model X.prog X.w) X.A (eval b X.env) (fun u s₂=>wpAny (model X.prog X.w) X.A (f v u) Q X.xe s₂) X.xe s₁) X.xe s:=by
 refine dO (ha pins s σ H _ I h) fun v s1 ⟨x,H1,I1,r1,q1⟩=>?_;refine dO (hb pins s1 σ H1 _ I1 q1) fun u s2 ⟨y,H2,I2,r2,q2⟩=>?_;exact hf v u s2 x y H2 I2 r1 r2 q2
def aO {op:Operator}{r:R2}(ho:oA X (binaryOp op) r)(ha:PE X a ta)(hb:PE X b tb):PE X (.BinOp a op b pos) (QS r ta tb):=by
 intro pins s σ H Q I h;exact wpAny_BinOp (Oo ha hb I h fun v u s2 x y H2 I2 rx ry q=>ho pins s2 σ H2 x y v u Q I2 rx ry q)
def oP {op:UnaryOp}{r:V->Hp->VK->Prop}(ho:Nk X (unaryOp op) r)(ha:PE X a ta):PE X (.UnaryOp op a pos) (tUn r ta):=by
 intro pins s σ H Q I h;exact UnaryOp_ (dO (ha pins s σ H _ I h) fun v s1 ⟨x,H1,I1,r1,q1⟩=>ho pins s1 σ H1 x v Q I1 r1 q1)
def RT {f:Value->Value->Sem Value}{C:Int->Int->Prop}{g:Int->Int->Int}
  (rule: ∀(i j:Int) (t u:Tok) (s:Shared) (Q:Value->Shared->Prop) (E:Value->Shared->Prop),C i j->Q (.int (g i j) s.toks) {s with toks:=s.toks + 1}->wpAny (model X.prog X.w) X.A (f (.int i t) (.int j u)) Q E s):
  oA X f (rI C fun i j=> .int (g i j)):=by
 intro pins s σ H x y v u Q I rx ry h;obtain⟨i,j,rfl,rfl,hc,q⟩:=h;obtain⟨t,rfl⟩:=rx;obtain⟨t',rfl⟩:=ry;exact rule i j t t' s _ _ hc ⟨.int (g i j),H,I.tok _,⟨_,rfl⟩,q⟩
def RU {f:Value->Value->Sem Value}{g:Int->Int->Int}
  (rule: ∀(i j:Int) (t u:Tok) (s:Shared) (Q:Value->Shared->Prop) (E:Value->Shared->Prop),Q (.int (g i j) s.toks) {s with toks:=s.toks + 1}->wpAny (model X.prog X.w) X.A (f (.int i t) (.int j u)) Q E s):
  oA X f (K2 fun i j=> .int (g i j)):=by
 intro pins s σ H x y v u Q I rx ry h;obtain⟨i,j,rfl,rfl,q⟩:=h;obtain⟨t,rfl⟩:=rx;obtain⟨t',rfl⟩:=ry;exact rule i j t t' s _ _ ⟨.int (g i j),H,I.tok _,⟨_,rfl⟩,q⟩
def LC {f:Value->Value->Sem Value}{g:Int->Int->Bool}
  (rule: ∀(i j:Int) (t u:Tok) (s:Shared) (Q:Value->Shared->Prop) (E:Value->Shared->Prop),Q (.bool (g i j)) s->wpAny (model X.prog X.w) X.A (f (.int i t) (.int j u)) Q E s):
  oA X f (K2 fun i j=> .bl (g i j)):=by
 intro pins s σ H x y v u Q I rx ry h;obtain⟨i,j,rfl,rfl,q⟩:=h;obtain⟨t,rfl⟩:=rx;obtain⟨t',rfl⟩:=ry;exact rule i j t t' s _ _ ⟨.bl (g i j),H,I,rfl,q⟩
def WD (i j:Int):Prop:=0 < j/\j < 1073741824
def WE (i j:Int):Prop:=0<=j/\j<=1000000/\i.natAbs < 2 ^ 64
def Oq (i j:Int):Prop:=(-(2 ^ 64) < i/\i < 2 ^ 64)∨(-(2 ^ 64) < j/\j < 2 ^ 64)
def Oq.ok {i j:Int}(h:Oq i j):IntMulOk i j:=by
 rcases h with⟨h1,h2⟩|⟨h1,h2⟩
 ·exact .of_left (intBits_le_64 h1 h2)
 ·exact .of_right (intBits_le_64 h1 h2)
def cz:oA X (binaryOp .Add) (K2 fun i j=> .int (i + j)):=RU fun _ _ _ _ _ _ _ q=>add_int q
def eL:oA X (binaryOp .Sub) (K2 fun i j=> .int (i - j)):=RU fun _ _ _ _ _ _ _ q=>sub_int q
def lU:oA X (binaryOp .Mult) (rI Oq fun i j=> .int (i * j)):=RT fun _ _ _ _ _ _ _ hc q=>mul_int q hc.ok
def iX:oA X (binaryOp .FloorDiv) (rI WD fun i j=> .int (i / j)):=RT fun i j _ _ _ _ _ hc q=>by
 have h1:(0:Int) < j:=hc.1;have h2:j < 1073741824:=hc.2;exact floordiv_int (by lia) (by rw[Int.fdiv_eq_ediv_of_nonneg i (by lia)]; exact q) (.inl (PyProof.noPylong_small (by lia)))
def bW:oA X (binaryOp .Mod) (rI (fun _ j=>0 < j) fun i j=> .int (i % j)):=RT fun i j _ _ _ _ _ hc q=>by
 have h1:(0:Int) < j:=hc;exact mod_int' (by lia) (by rw[Int.fmod_eq_emod_of_nonneg i (by lia)]; exact q)
def ji:oA X (binaryOp .Pow) (rI WE fun i j=> .int (i ^ j.toNat)):=RT fun _ _ _ _ _ _ _ hc q=>pow_int_small hc.1 hc.2.1 hc.2.2 q
def unI {f:Value->Sem Value}{g:Int->Int}
  (rule: ∀(i:Int) (t:Tok) (s:Shared) (Q:Value->Shared->Prop) (E:Value->Shared->Prop),Q (.int (g i) s.toks) {s with toks:=s.toks + 1}->wpAny (model X.prog X.w) X.A (f (.int i t)) Q E s):
  Nk X f (rU fun i=> .int (g i)):=by
 intro pins s σ H x v Q I rx h;obtain⟨i,rfl,q⟩:=h;obtain⟨t,rfl⟩:=rx;exact rule i t s _ _ ⟨.int (g i),H,I.tok _,⟨_,rfl⟩,q⟩
def kJ:Nk X (unaryOp .USub) (rU fun i=> .int (-i)):=unI fun _ _ _ _ _ q=>neg_int q
end
def RV:V->V->Bool
 | .eh,.eh=>true| .eh,.int _=>true| .int _,.eh=>true| .eh,.bl _=>true| .bl _,.eh=>true| .eh,.str _=>true| .str _,.eh=>true
 | .int _,.int _=>true| .bl _,.bl _=>true| .str _,.str _=>true| .Gk _,.Gk _=>true
 | .int _,.str _=>true| .str _,.int _=>true| .bl _,.str _=>true| .str _,.bl _=>true
 |_,_=>false
def rEq:R2:=fun x y H Q=>RV x y=true/\Q (.bl (decide (x=y))) H
def rNe:R2:=fun x y H Q=>RV x y=true/\Q (.bl (!decide (x=y))) H
def EL {i j:Int}:decide (V.int i=V.int j)=(i == j):=by
 rw[oq];simp
def IH {i j:Bool}:decide (V.bl i=V.bl j)=(i == j):=by
 rw[oq];simp
def EM {i j:Str}:decide (V.str i=V.str j)=(i == j):=by
 rw[oq];simp
def EN {i j:Array UInt8}:decide (V.Gk i=V.Gk j)=(i.toList == j.toList):=by
 rw[oq];cases i;cases j;simp
section
variable {X:Cx}{a b c:Expr}{ta tb tc:TE}{pos:Pos}
def dk {pins:List (Addr×Obj)}{σ:St}{H:Hp}{s:Shared}{Q:VK}{k k':Bool}(I:Inv X pins σ H s)(q:Q (.bl k) H)(e:k=k'):EP X pins σ Q (.bool k') s:=by
 subst e;exact⟨.bl k,H,I,rfl,q⟩
def cH:oA X (compareOp .Eq) rEq:=by
 intro pins s σ H x y v u Q I rx ry h;obtain⟨hs,q⟩:=h;cases x with
 |eh=>
  cases rx;cases y with
  |eh=>cases ry; exact PySem.EqNone.eq_none_none (dk I q (by simp))
  |bl j=>cases ry; exact PySem.EqNone.eq_none_bool (dk I q (by simp))
  |int j=>obtain⟨t',rfl⟩:=ry; exact PySem.EqNone.eq_none_int (dk I q (by simp))
  |str j=>obtain⟨t',rfl⟩:=ry; exact PySem.EqNone.eq_none_str (dk I q (by simp))
  |_=>exact absurd (show false=true from hs) aW
 |bl i=>
  cases rx;cases y with
  |eh=>cases ry; exact PySem.EqNone.eq_bool_none (dk I q (by simp))
  |bl j=>cases ry; exact eq_bool (dk I q IH)
  |str j=>obtain⟨t',rfl⟩:=ry; exact PySem.EqMixed.eq_bool_str (dk I q (by simp))
  |_=>exact absurd (show false=true from hs) aW
 |int i=>
  obtain⟨t,rfl⟩:=rx;cases y with
  |eh=>cases ry; exact PySem.EqNone.eq_int_none (dk I q (by simp))
  |int j=>obtain⟨t',rfl⟩:=ry; exact eq_int (dk I q EL)
  |str j=>obtain⟨t',rfl⟩:=ry; exact PySem.EqMixed.eq_int_str (dk I q (by simp))
  |_=>exact absurd (show false=true from hs) aW
 |str i=>
  obtain⟨t,rfl⟩:=rx;cases y with
  |eh=>cases ry; exact PySem.EqNone.eq_str_none (dk I q (by simp))
  |bl j=>cases ry; exact PySem.EqMixed.eq_str_bool (dk I q (by simp))
  |int j=>obtain⟨t',rfl⟩:=ry; exact PySem.EqMixed.eq_str_int (dk I q (by simp))
  |str j=>obtain⟨t',rfl⟩:=ry; exact eq_str (dk I q EM)
  |_=>exact absurd (show false=true from hs) aW
 |Gk i=>
  obtain⟨t,rfl⟩:=rx;cases y with
  |Gk j=>obtain⟨t',rfl⟩:=ry; exact PySem.W.eq_bytes (dk I q EN)
  |_=>exact absurd (show false=true from hs) aW
 |_=>cases y <;> exact absurd (show false=true from hs) aW
def oQ:oA X (compareOp .NotEq) rNe:=by
 intro pins s σ H x y v u Q I rx ry h;obtain⟨hs,q⟩:=h;cases x with
 |eh=>
  cases rx;cases y with
  |eh=>cases ry; exact PySem.EqNone.ne_none_none (dk I q (by simp))
  |bl j=>cases ry; exact PySem.EqNone.ne_none_bool (dk I q (by simp))
  |int j=>obtain⟨t',rfl⟩:=ry; exact PySem.EqNone.ne_none_int (dk I q (by simp))
  |str j=>obtain⟨t',rfl⟩:=ry; exact PySem.EqNone.ne_none_str (dk I q (by simp))
  |_=>exact absurd (show false=true from hs) aW
 |bl i=>
  cases rx;cases y with
  |eh=>cases ry; exact PySem.EqNone.ne_bool_none (dk I q (by simp))
  |bl j=>cases ry; exact ne_bool (dk I q (cJ not IH))
  |str j=>obtain⟨t',rfl⟩:=ry; exact PySem.EqMixed.ne_bool_str (dk I q (by simp))
  |_=>exact absurd (show false=true from hs) aW
 |int i=>
  obtain⟨t,rfl⟩:=rx;cases y with
  |eh=>cases ry; exact PySem.EqNone.ne_int_none (dk I q (by simp))
  |int j=>obtain⟨t',rfl⟩:=ry; exact ne_int (dk I q (cJ not EL))
  |str j=>obtain⟨t',rfl⟩:=ry; exact PySem.EqMixed.ne_int_str (dk I q (by simp))
  |_=>exact absurd (show false=true from hs) aW
 |str i=>
  obtain⟨t,rfl⟩:=rx;cases y with
  |eh=>cases ry; exact PySem.EqNone.ne_str_none (dk I q (by simp))
  |bl j=>cases ry; exact PySem.EqMixed.ne_str_bool (dk I q (by simp))
  |int j=>obtain⟨t',rfl⟩:=ry; exact PySem.EqMixed.ne_str_int (dk I q (by simp))
  |str j=>obtain⟨t',rfl⟩:=ry; exact ne_str (dk I q (cJ not EM))
  |_=>exact absurd (show false=true from hs) aW
 |Gk i=>
  obtain⟨t,rfl⟩:=rx;cases y with
  |Gk j=>obtain⟨t',rfl⟩:=ry; exact PySem.W.ne_bytes (dk I q (cJ not EN))
  |_=>exact absurd (show false=true from hs) aW
 |_=>cases y <;> exact absurd (show false=true from hs) aW
def jn:oA X (compareOp .Lt) (K2 fun i j=> .bl (decide (i < j))):=LC fun _ _ _ _ _ _ _ q=>lt_int q
def sO:oA X (compareOp .LtE) (K2 fun i j=> .bl (decide (i<=j))):=LC fun _ _ _ _ _ _ _ q=>le_int q
def iK:oA X (compareOp .Gt) (K2 fun i j=> .bl (decide (j < i))):=LC fun _ _ _ _ _ _ _ q=>gt_int q
def II:oA X (compareOp .GtE) (K2 fun i j=> .bl (decide (j<=i))):=LC fun _ _ _ _ _ _ _ q=>ge_int q
def aZ (b:Expr){op:CmpOp}(h:op≠ .In:=by decide)(h2:op≠ .NotIn:=by decide):behindInMarks op b=false:=by
 have e1:(op == CmpOp.In)=false:=by cases op <;> first|rfl|exact absurd rfl h
 have e2:(op == CmpOp.NotIn)=false:=by cases op <;> first|rfl|exact absurd rfl h2
 cases b <;> simp[behindInMarks,e1,e2]
def ff {op:CmpOp}{r:R2}(ho:oA X (compareOp op) r)(ha:PE X a ta)(hb:PE X b tb)(hm:behindInMarks op b=false):PE X (.Compare a [op] [b] pos) (QS r ta tb):=by
 intro pins s σ H Q I h;exact wpAny_Compare1 (Oo ha hb I h fun v u s2 x y H2 I2 rx ry q=>ho pins s2 σ H2 x y v u Q I2 rx ry q) hm
inductive ZC (x:V)(k:Bool->Prop):Prop
 |mk (b:Bool)(h:x= .bl b)(q:k b):ZC x k
def IJ (t:TE):TT:=fun σ H Q=>t σ H fun x H'=>ZC x fun b=>Q b H'
def aV {op:CmpOp}{r:R2}(ho:oA X (compareOp op) r)(ha:PE X a ta)(hb:PE X b tb)(hm:behindInMarks op b=false):PT X (.Compare a [op] [b] pos) (IJ (QS r ta tb)):=by
 intro pins s σ H Q I h;refine wpAny_isTrue_Compare1 (dO (ha pins s σ H _ I h) fun v s1 ⟨x,H1,I1,r1,q1⟩=>dO (hb pins s1 σ H1 _ I1 q1) fun u s2 ⟨y,H2,I2,r2,q2⟩=>
  dO (ho pins s2 σ H2 x y v u _ I2 r1 r2 q2) fun c s3 ⟨z,H3,I3,r3,k,e,q3⟩=>?_) hm
 subst e;cases r3;exact fR ⟨H3,I3,q3⟩
def IK (r r':R2)(ta tb tc:TE):TE:=fun σ H Q=>ta σ H fun x H1=>tb σ H1 fun y H2=>r x y H2 fun z H3=> ∃k,z= .bl k/\
 (if k=true then tc σ H3 fun w' H4=>r' y w' H4 Q else Q (.bl false) H3)
def Bn {op WG:CmpOp}{r r':R2}(ho:oA X (compareOp op) r)(Ls:oA X (compareOp WG) r')(ha:PE X a ta)(hb:PE X b tb)(hc:PE X c tc)
  (hm:lastMarks [op,WG] [b,c]=false:=by with_unfolding_all rfl):PT X (.Compare a [op,WG] [b,c] pos) (IJ (IK r r' ta tb tc)):=by
 intro pins s σ H Q I h;refine isTrue_chain (dO (ha pins s σ H _ I h) fun v s1 ⟨x,H1,I1,r1,q1⟩=>test_link (dO (hb pins s1 σ H1 _ I1 q1) fun u s2 ⟨y,H2,I2,r2,q2⟩=>
  dO (ho pins s2 σ H2 x y v u _ I2 r1 r2 q2) fun d s3 ⟨z,H3,I3,r3,k,e,q3⟩=>?_)) hm
 subst e;cases r3;refine fR ?_;cases k with
 |false=>
  obtain⟨k',e',q'⟩:=q3;cases e';exact ite_ff ⟨H3,I3,q'⟩
 |true=>
  refine ite_tt (test_last (dO (hc pins s3 σ H3 _ I3 q3) fun w' s4 ⟨z',H4,I4,r4,q4⟩=>dO (Ls pins s4 σ H4 y z' u w' _ I4 r2 r4 q4) fun d' s5 ⟨z2,H5,I5,r5,k2,e2,q5⟩=>?_));subst e2;cases r5;exact fR ⟨H5,I5,q5⟩
def yZ:(sizeLine:Nat) < 2 ^ 63:=by rw[eD]; decide
def uJ:oA X (binaryOp .Add) (fun x y H Q=> ∃i j,x= .str i/\y= .str j/\i.length + j.length<=sizeLine/\Q (.str (i ++ j)) H):=by
 intro pins s σ H x y v u Q I rx ry h;obtain⟨i,j,rfl,rfl,hz,q⟩:=h;obtain⟨t,rfl⟩:=rx;obtain⟨t',rfl⟩:=ry;exact add_str (fun t' tk=>⟨.str (i ++ j),H,I.tok _,⟨_,rfl⟩,q⟩) hz
def vals1 {x:V}{us:List Value}(r:Vals [x] us): ∃u,us=[u]/\RelV x u:=by
 cases r with
 |cons r1 r2=>cases r2; exact⟨_,rfl,r1⟩
def vals2 {x y:V}{us:List Value}(r:Vals [x,y] us): ∃u w',us=[u,w']/\RelV x u/\RelV y w':=by
 cases r with
 |cons r1 r2=>
  cases r2 with
  |cons r3 r4=>cases r4; exact⟨_,_,rfl,r1,r3⟩
def xX (hc:X.calm=true):gZ X (.builtin "max") (fun xs H Q=> ∃i j,xs=[.int i,.int j]/\Q (.int (if j > i then j else i)) H):=by
 intro pins s σ H xs us Q I r h;obtain⟨i,j,rfl,q⟩:=h;obtain⟨u,w',rfl,⟨t,rfl⟩,⟨t',rfl⟩⟩:=vals2 r;refine max_two_ints (I.ok.hd hc) fun h' tk k=>⟨_,H,I.kept k,?_,q⟩;by_cases hj:j > i
 ·rw[a8 hj,a8 hj]; exact⟨_,rfl⟩
 ·rw[aU hj,aU hj]; exact⟨_,rfl⟩
def rW (hc:X.calm=true):gZ X (.builtin "min") (fun xs H Q=> ∃i j,xs=[.int i,.int j]/\Q (.int (if j < i then j else i)) H):=by
 intro pins s σ H xs us Q I r h;obtain⟨i,j,rfl,q⟩:=h;obtain⟨u,w',rfl,⟨t,rfl⟩,⟨t',rfl⟩⟩:=vals2 r;refine min_two_ints (I.ok.hd hc) fun h' tk k=>⟨_,H,I.kept k,?_,q⟩;by_cases hj:j < i
 ·rw[a8 hj,a8 hj]; exact⟨_,rfl⟩
 ·rw[aU hj,aU hj]; exact⟨_,rfl⟩
def jx:gZ X (.type "int") (fun xs H Q=>(∃i,xs=[.int i]/\Q (.int i) H)∨ ∃k,xs=[.bl k]/\Q (.int (if k then 1 else 0)) H):=by
 intro pins s σ H xs us Q I r h;rcases h with⟨i,rfl,q⟩|⟨k,rfl,q⟩
 ·obtain⟨u,rfl,t,rfl⟩:=vals1 r;exact call_int_int ⟨.int i,H,I,⟨_,rfl⟩,q⟩
 ·obtain⟨u,rfl,r1⟩:=vals1 r;cases r1;exact call_int_bool ⟨.int (if k then 1 else 0),H,I.tok _,⟨_,rfl⟩,q⟩
end
structure Dx (h:Heap)(x dx C:Addr)(mA:Str->Option Value):Prop where
 obj:h.get? x=some (PySem.W.instObj C dx)
 ns:h.Ns1 dx mA
 ne:dx≠x
def Gu {h:Heap}{dx:Addr}{mA:Str->Option Value}(n:h.Ns1 dx mA): ∃od,h.get? dx=some od/\ ∀name,PySem.W.lookIn name od=some (mA name):=by
 obtain⟨o,es,ep,ho,hd,hk,_,hm⟩:=n;refine⟨o,ho,fun name=>?_⟩;have e:=hm name;unfold nsFind findBy at e;rw[← Array.find?_toList] at e;unfold PySem.W.lookIn;rw[hd];dsimp only;split
 ·rename_i y q;rw[q] at e;exact cJ some e
 ·rename_i q;rw[q] at e;have a:es.toList.any (·.refKey)=false:=by
   rw[rK];intro y hy;obtain⟨z,t,IL⟩:=hk y (Array.mem_toList_iff.mp hy);simp[DictEntry.refKey,IL]
  have a': ¬ es.toList.any (·.refKey)=true:=by rw[a]; exact aW
  rw[aU a'];exact cJ some e
def Dx.look {h:Heap}{x dx C:Addr}{mA:Str->Option Value}(I:Dx h x dx C mA): ∃od,PySem.W.InstAt h x (PySem.W.instObj C dx) C (some od)/\ ∀name,PySem.W.lookIn name od=some (mA name):=
 let⟨od,ho,hl⟩:=Gu I.ns
 ⟨od,⟨I.obj,rfl,rfl,ho⟩,hl⟩
section
variable {prog:Program}{w:World}{A:Around}{E:Value->Shared->Prop}{s:Shared}{K:Frag}{x dx C f:Addr}{mA:Str->Option Value}{name:Str}{v:Value}
def get_map {expr:Bool}{Q:Value->Shared->Prop}(X:K.In s.heap)(I:Dx s.heap x dx C mA)(hg:plainGet K C name=true)(hh:hasDictIn K C=true)
  (ha:findIn K (.ref C) name=some none) (hv:mA name=some v) (hv':PySem.W.handedIn v=true) (h:Q v {s with toks:=s.toks + 1}):
  wpAny (model prog w) A (getAttr (.ref x) name expr) Q E s:=by
 obtain⟨od,J,hl⟩:=I.look;exact PySem.W.get_value X J (A6 hg).1 (PySem.W.findObj_own hh ha rfl (by rw[hl,hv])) hv' h
def IM {pl:Sem Bool}{Q:Value×List Value->Shared->Prop}(X:K.In s.heap)(I:Dx s.heap x dx C mA)(hg:plainGet K C name=true)
  (hf:findIn K (.ref C) name=some (some (.ref f))) (ht:PySem.W.isFn K (.ref f)=true) (hv:mA name=none) (h:Q (.ref f,[.ref x]) s):
  wpAny (model prog w) A (getMethod (.ref x) name pl) Q E s:=by
 obtain⟨od,J,hl⟩:=I.look;exact PySem.W.method_fn X J (A6 hg).1 (A6 hg).2 hf (F9.mp ht) (by show(PySem.W.lookIn name od).map (·.isSome)=some false; rw[hl,hv]; rfl) h
def LD {ns:List Str}{Q:Unit->Shared->Prop}(X:K.In s.heap)(I:Dx s.heap x dx C mA)
  (hs:findIn K (.ref C) "__setattr__"=some (some (.builtin "object.__setattr__"))) (hp:plainOver K C=true) (ht:PySem.W.takerIn K C name=some none) (hh:hasDictIn K C=true)
  (hw:PySem.Within mA ns) (hsz:ns.length<=sizeLine)
  (h: ∀h',Dx h' x dx C (fun y=>if y=name then some v else mA y)->Heap.SameBut dx s.heap h'->Q () {s with heap:=h',toks:=s.toks + 2}):
  wpAny (model prog w) A (setAttr (.ref x) name v) Q E s:=by
 obtain⟨od,J,hl⟩:=I.look;refine PySem.W.set_plain X J hs (PySem.W.osa_open (s:={s with toks:=s.toks + 1}) (r:=none) X J hp ht fun b=>?_);obtain⟨cd,hc,Il⟩:=PySem.W.any_some hh;have hx:s.heap.get? x=some ⟨.ref C,some dx,.plain,#[]⟩:=I.obj;refine aA (bE (aA (aA (wpAny_loadPart hx (aA (PySem.W.Looks.here (s:={s with toks:=s.toks + 1}) (PySem.W.looks_clsIn X hc) ?_))))));rw[Il];refine bE (a:=some dx) (aA (bE (aA ?_)));refine wpAny_nsSet1 (s:={s with toks:=s.toks + 1}) I.ns fun h' Vk LA=>?_;obtain⟨oD,esD,epD,WH,WI,WJ⟩:=Vk.count (PySem.Within.cons name v hw);refine aA (wpAny_lookBehind WH (by rw[WI]; exact pastItsLine_dict (aY WJ (by rw[bS]; lia))) ?_);exact bE (h _ ⟨(LA.2 _ (wC I.ne)).trans I.obj,Vk,I.ne⟩ LA)
def IP {R:Result->Shared->Prop}{vs:List Value}{kw:List (Str×Value)}(X:K.In s.heap)(hm:makesIn K C=true)
  (hi:findIn K (.ref C) "__init__"=some (some (.ref f))) (hf:typeIn K (.ref f)=some (.type "function"))
  (h:codeAny (model prog w) (A.under (.builtin "type.__call__" ⟨.ref C :: vs,kw⟩)) (.call (.ref f) ⟨.ref (s.heap.objs.size + 1) :: vs,kw⟩) (PySem.W.InitBack (s.heap.objs.size + 1) R)
   {s with heap:=(s.heap.push PySem.W.emptyDict).push (PySem.W.instObj C s.heap.objs.size)}):
  codeAny (model prog w) A (.call (.ref C) ⟨vs,kw⟩) R s:=by
 obtain⟨hh,g,d,t,os⟩:=s;exact PySem.W.make_core (PySem.W.makes_of X hm) (PySem.W.looks_findIn X hi) (fun self=>PySem.W.bind_fn X self hf) (.inl rfl) h
end
def ez (f:Str)(v:V):List (Str×V)->List (Str×V)
 |[]=>[(f,v)]
 |(g,x) :: r=>if g=f then(g,v) :: r else(g,x) :: ez f v r
def sP (f g:Str)(v:V): ∀fs:List (Str×V),(ez f v fs).lookup g=if g=f then some v else fs.lookup g
 |[]=>by
  show List.lookup g [(f,v)]=_;by_cases h:g=f
  ·have hb:(g == f)=true:=F9.mpr h;simp only[List.lookup,hb,if_pos h]
  ·have hb:(g == f)=false:=gJ.mpr h;simp only[List.lookup,hb,if_neg h]
 |(k,x) :: r=>by
  have ih:=sP f g v r;rw[show ez f v ((k,x) :: r)=(if k=f then(k,v) :: r else(k,x) :: ez f v r) from rfl];by_cases hk:k=f
  ·rw[a8 hk];by_cases h:g=k
   ·have hb:(g == k)=true:=F9.mpr h;simp only[List.lookup,hb,if_pos (h.trans hk)]
   ·have hb:(g == k)=false:=gJ.mpr h;simp only[List.lookup,hb,if_neg (fun e:g=f=>h (e.trans hk.symm))]
  ·rw[aU hk];by_cases h:g=k
   ·have hb:(g == k)=true:=F9.mpr h;simp only[List.lookup,hb,if_neg (fun e:g=f=>hk (h.symm.trans e))]
   ·have hb:(g == k)=false:=gJ.mpr h;simp only[List.lookup,hb];exact ih
def rX (f:Str)(v:V): ∀fs:List (Str×V),f∈(ez f v fs).map (·.1)/\ ∀g,g∈fs.map (·.1)->g∈(ez f v fs).map (·.1)
 |[]=>⟨by simp[ez],fun g h=>by simp at h⟩
 |(k,x) :: r=>by
  obtain⟨i1,i2⟩:=rX f v r;rw[show ez f v ((k,x) :: r)=(if k=f then(k,v) :: r else(k,x) :: ez f v r) from rfl];by_cases hk:k=f
  ·rw[a8 hk];subst hk;exact⟨by simp,fun g h=>by simpa using h⟩
  ·rw[aU hk];refine⟨?_,fun g h=>?_⟩
   ·rw[cZ];exact ba _ i1
   ·rw[cZ] at h ⊢;rcases aw.mp h with e|e
    ·exact aw.mpr (.inl e)
    ·exact ba _ (i2 g e)
def mO (f:Str)(v:V): ∀fs:List (Str×V),(ez f v fs).length<=fs.length + 1
 |[]=>by simp[ez]
 |(k,x) :: r=>by
  have ih:=mO f v r;rw[show ez f v ((k,x) :: r)=(if k=f then(k,v) :: r else(k,x) :: ez f v r) from rfl];by_cases hk:k=f
  ·rw[a8 hk,bS,bS]; lia
  ·rw[aU hk,bS,bS]; lia
def k7.some_of {v:V}{o:Option Value}(r:k7 (some v) o): ∃u,o=some u/\RelV v u:=by
 cases o with
 |none=>exact(show False from r).elim
 |some u=>exact⟨u,rfl,r⟩
def k7.none_of {o:Option Value}(r:k7 none o):o=none:=by
 cases o with
 |none=>rfl
 |some u=>exact(show False from r).elim
def Gv {v:V}{u:Value}(r:RelV v u):PySem.W.handedIn u=true:=by
 cases v with
 |eh=>cases(show u=Value.none from r); rfl
 |bl b=>cases(show u=Value.bool b from r); rfl
 |int i=>obtain⟨t,e⟩:=(show ∃t,u=Value.int i t from r); cases e; rfl
 |str x=>obtain⟨t,e⟩:=(show ∃t,u=Value.str x t from r); cases e; rfl
 |Gk b=>obtain⟨t,e⟩:=(show ∃t,u=Value.bytes b t from r); cases e; rfl
 |Lo b=>obtain⟨t,e⟩:=(show ∃t,u=Value.float b t from r); cases e; rfl
 |ref a=>cases(show u=Value.ref a from r); rfl
 |ty n=>cases(show u=Value.type n from r); rfl
section
variable {P:Program}{w:World}{H H':Hp}{h h':Heap}{a C dx:Addr}{fs fs':List (Str×V)}
def qv (cq:oz P w H h)(e:H a=some (.ins C dx fs)): ∃mA,Dx h a dx C mA/\(∀f,k7 (fs.lookup f) (mA f))/\PySem.Within mA (fs.map (·.1))/\fs.length<=1000/\H dx=some (.own a):=by
 obtain⟨d,z,ne,ob,mA,n,r,q⟩:=(show dv P w H h a (.ins C dx fs) from cq a _ e);exact⟨mA,⟨ob,n,ne⟩,r,q,z,d⟩
end
structure wL (K:Frag)(C:Addr):Prop where
 pg:plainGet K C Str.empty=true
 hd:hasDictIn K C=true
 po:plainOver K C=true
 sa:findIn K (.ref C) "__setattr__"=some (some (.builtin "object.__setattr__"))
def wL.get {K:Frag}{C:Addr}(c:wL K C)(f:Str):plainGet K C f=true:=c.pg
def bZ (K:Frag)(C:Addr)(f:Str):Prop:=findIn K (.ref C) f=some none
def bZ.RW {K:Frag}{C:Addr}{f:Str}(n:bZ K C f):PySem.W.takerIn K C f=some none:=by
 unfold PySem.W.takerIn;rw[show findIn K (.ref C) f=some none from n];rfl
structure Meth (K:Frag)(C:Addr)(m:Str)(f:Addr):Prop where
 at_:findIn K (.ref C) m=some (some (.ref f))
 fn:PySem.W.isFn K (.ref f)=true
 kp:keepIn K (.ref f)=true
section
variable {X:Cx}{pins:List (Addr×Obj)}{σ:St}{H:Hp}{s:Shared}{a C dx:Addr}{fs:List (Str×V)}{f:Str}{v:V}{A:Around}{E:Value->Shared->Prop}
def Dy {b:Bool}{Q:Value->Shared->Prop}(I:Inv X pins σ H s)(e:H a=some (.ins C dx fs))(c:wL X.K C)(n:bZ X.K C f)(l:fs.lookup f=some v)
  (h: ∀u s',Inv X pins σ H s'->RelV v u->Q u s'):wpAny (model X.prog X.w) A (getAttr (.ref a) f b) Q E s:=by
 obtain⟨mA,O,r,_,_,_⟩:=qv I.cq e;obtain⟨u,hu,ru⟩:=k7.some_of (v:=v) (o:=mA f) (by rw[← l]; exact r f);exact get_map I.gH O (c.get f) c.hd n hu (Gv ru) (h u _ (I.tok _) ru)
def Dz {m:Str}{g:Addr}{pl:Sem Bool}{Q:Value×List Value->Shared->Prop}(I:Inv X pins σ H s)(e:H a=some (.ins C dx fs))(c:wL X.K C)(k:Meth X.K C m g)(l:fs.lookup m=none)
  (h:Q (.ref g,[.ref a]) s):wpAny (model X.prog X.w) A (getMethod (.ref a) m pl) Q E s:=by
 obtain⟨mA,O,r,_,_,_⟩:=qv I.cq e;have hn:mA m=none:=k7.none_of (by rw[← l]; exact r m);exact IM I.gH O (c.get m) k.at_ k.fn hn h
def DA {y:V}{u:Value}{Q:Unit->Shared->Prop}(I:Inv X pins σ H s)(e:H a=some (.ins C dx fs))(c:wL X.K C)(n:bZ X.K C f)(hl:fs.length < 1000)(ry:RelV y u)
  (h: ∀s',Inv X pins σ (upd H a (.ins C dx (ez f y fs))) s'->Q () s'):wpAny (model X.prog X.w) A (setAttr (.ref a) f u) Q E s:=by
 obtain⟨mA,O,r,wi,_,ho⟩:=qv I.cq e;have hz:(fs.map (·.1)).length<=sizeLine:=by rw[ae,eD]; lia
 refine LD I.gH O c.sa c.po n.RW c.hd wi hz fun h' O' sb=>h _ ?_;have hd: ∃o,h'.get? dx=some o:=let⟨o,_,_,e',_⟩:=O'.ns; ⟨o,e'⟩
 refine I.write (x:=a) (e:=dx) (by rw[e]; exact True.intro) (.inr ho) (fun b q hb z=>(sb.2 b hb).trans z) hd ?_;refine⟨by rw[az O.ne]; exact ho,?_,O.ne,O'.obj,_,O'.ns,fun g=>?_,fun g hg=>?_⟩
 ·have:=mO f y fs; lia
 ·show k7 ((ez f y fs).lookup g) (if g=f then some u else mA g);rw[sP];by_cases q:g=f
  ·rw[a8 q,a8 q]; exact ry
  ·rw[aU q,aU q]; exact r g
 ·by_cases q:g=f
  ·rw[q]; exact(rX f y fs).1
  ·refine(rX f y fs).2 g (wi g fun z=>hg ?_);show(if g=f then some u else mA g)=none;rw[aU q]; exact z
def Inv.made (I:Inv X pins σ H s):Inv X pins σ (upd (upd H s.heap.objs.size (.own (s.heap.objs.size + 1))) (s.heap.objs.size + 1) (.ins C s.heap.objs.size []))
  {s with heap:=(s.heap.push PySem.W.emptyDict).push (PySem.W.instObj C s.heap.objs.size)}:=by
 have e1:(s.heap.push PySem.W.emptyDict).get? s.heap.objs.size=some PySem.W.emptyDict:=bL s.heap rfl;have e2:((s.heap.push PySem.W.emptyDict).push (PySem.W.instObj C s.heap.objs.size)).get? (s.heap.objs.size + 1)=some (PySem.W.instObj C s.heap.objs.size):=by
  have:=bL (s.heap.push PySem.W.emptyDict) (o:=PySem.W.instObj C s.heap.objs.size) rfl;rwa [nY] at this
 have e3:(s.heap.push PySem.W.emptyDict).Ns s.heap.objs.size (fun _=>none):=⟨PySem.W.emptyDict,#[],_,e1,rfl,(fun e he=>absurd he (by simp)),fun _=>rfl⟩;have I1:=I.laid (a:=s.heap.objs.size) (o:= .own (s.heap.objs.size + 1)) (h':=s.heap.push PySem.W.emptyDict) (t':=s.toks) (fun b u q=>ax _ q) (aE _) ⟨_,e1⟩;refine I1.laid (a:=s.heap.objs.size + 1) (o:= .ins C s.heap.objs.size []) (t':=s.toks) (fun b u q=>ax _ q) (iE (nY _ _)) ?_;have ne:s.heap.objs.size≠s.heap.objs.size + 1:=a6 (fV _);refine⟨by rw[az ne,ag],bh _,ne,e2,fun _=>none,(Heap.Ns1.of_empty e3).at fun o q=>ax _ q,fun _=>True.intro,fun y hy=>absurd rfl hy⟩
def EO {prog:Program}{w:World}{env:Env}{e:Expr}{f:Str}{pos:Pos}{s:Shared}{Q:Value->Shared->Prop}(hb:attributeBase e f env (eval e env)=eval e env)
  (h:wpAny (model prog w) A (eval e env) (fun o s₁=>wpAny (model prog w) A (getAttr o f true) Q E s₁) E s):wpAny (model prog w) A (eval (.Attribute e f pos) env) Q E s:=
 Attribute_any_ h (by rw[arm_eval_Attribute,hb])
end
inductive ZD (K:Frag)(H:Hp)(x:V)(f:Str)(k:V->Prop):Prop
 |mk (a C dx:Addr)(fs:List (Str×V))(v:V)(h1:x= .ref a)(h2:H a=some (.ins C dx fs))(c:wL K C)(n:bZ K C f)(l:fs.lookup f=some v)(q:k v):ZD K H x f k
def Ot (K:Frag)(ta:TE)(f:Str):TE:=fun σ H Q=>ta σ H fun x H1=>ZD K H1 x f fun v=>Q v H1
inductive ZE (K:Frag)(H:Hp)(x:V)(f:Str)(k:Addr->Addr->Addr->List (Str×V)->Prop):Prop
 |mk (a C dx:Addr)(fs:List (Str×V))(h1:x= .ref a)(h2:H a=some (.ins C dx fs))(c:wL K C)(n:bZ K C f)(l:fs.length < 1000)(q:k a C dx fs):ZE K H x f k
def RX (K:Frag)(ta tv:TE)(f:Str):TS:=fun D σ H=>tv σ H fun y H1=>ta σ H1 fun x H2=>ZE K H2 x f fun a C dx fs=>D.nx σ (upd H2 a (.ins C dx (ez f y fs)))
section
variable {X:Cx}{o e value:Expr}{f:Str}{pos pos' Ou:Pos}{ta tv:TE}
def IQ (he:PE X e ta)(hb:attributeBase e f X.env (eval e X.env)=eval e X.env):PE X (.Attribute e f pos) (Ot X.K ta f):=by
 intro pins s σ H Q I h;refine EO hb (dO (he pins s σ H _ I h) fun u s1 ⟨x,H1,I1,rx,a,C,dx,fs,v,ex,ea,c,n,l,q⟩=>?_);subst ex;obtain rfl:u=Value.ref a:=rx;exact Dy I1 ea c n l fun u' s2 I2 ru=>⟨v,H1,I2,ru,q⟩
def Ov (ha:PE X o ta)(hv:PE X value tv)(hs:swapsWith value (some (.Attribute o f pos')) pos.line X.env=pure false):PS X (.Assign [.Attribute o f pos'] value pos) (RX X.K ta tv f):=by
 intro pins s σ H D I h;refine N2 (dO (hv pins s σ H _ I h) fun u s1 ⟨y,H1,I1,ry,q⟩=>dO (ha pins s1 σ H1 _ I1 q) fun ov s2 ⟨x,H2,I2,rx,a,C,dx,fs,ex,ea,c,n,l,q2⟩=>?_) hs;subst ex;obtain rfl:ov=Value.ref a:=rx;exact DA I2 ea c n l ry fun s3 I3=>⟨σ,_,I3,q2⟩
end
section
variable {X:Cx}{pins:List (Addr×Obj)}{σ:St}{H:Hp}{s:Shared}{A:Around}{E:Value->Shared->Prop}{Q:Value->Shared->Prop}{c:Value}{b:Bool}
inductive mF (K:Frag)(H:Hp):V->Value->Prop where
 |eh:mF K H .eh (.type "NoneType")
 |bl (x:Bool):mF K H (.bl x) (.type "bool")
 |int (i:Int):mF K H (.int i) (.type "int")
 |str (x:Str):mF K H (.str x) (.type "str")
 |Lo (x:UInt64):mF K H (.Lo x) (.type "float")
 |lst {a:Addr} {xs:List V} (e:H a=some (.lst xs)):mF K H (.ref a) (.type "list")
 |C8 {a:Addr} {o:Obj} {xs:List V} (e:H a=some (.C8 o (.lst xs))):mF K H (.ref a) (.type "list")
 |tup {a:Addr} {xs:List V} (e:H a=some (.tup xs)):mF K H (.ref a) (.type "tuple")
 |dK {a:Addr} {bc:List (Key×V)} (e:H a=some (.dK bc)):mF K H (.ref a) (.type "dict")
 |dT {a:Addr} {bc:List (List Key×V)} (e:H a=some (.dT bc)):mF K H (.ref a) (.type "dict")
 |ins {a C dx:Addr} {fs:List (Str×V)} (e:H a=some (.ins C dx fs)) (cl:wL K C) (ha:findIn K (.ref C) "__class__"=some (some (.builtin "object.__class__")))
   (hn:specialIn K (.builtin "object.__class__") "__get__"=some (some (.builtin "getset_descriptor.__get__"))) (lO:PySem.W.takesIn K (.builtin "object.__class__")=some true)
   (hm:PySem.W.mroIn K C (.type "object")=some true):mF K H (.ref a) (.ref C)
def Gw {x:V}{u t:Value}(I:Inv X pins σ H s)(rx:RelV x u)(ty:mF X.K H x t)(e:PySem.W.kitOne X.K t c=some b)(h: ∀tk,Q (.bool b) {s with toks:=tk}):
  wpAny (model X.prog X.w) A (call (.builtin "isinstance") [u,c]) Q E s:=by
 cases ty with
 |eh=>cases(show u=Value.none from rx); exact dZ PySem.W.kitx_none I.gH True.intro e (fun z=>nomatch z) h
 |bl y=>cases(show u=Value.bool y from rx); exact dZ PySem.W.kitx_bool I.gH True.intro e (fun z=>nomatch z) h
 |int i=>obtain⟨t,q⟩:=(show ∃t,u=Value.int i t from rx); cases q; exact dZ PySem.W.kitx_int I.gH True.intro e (fun z=>nomatch z) h
 |str y=>obtain⟨t,q⟩:=(show ∃t,u=Value.str y t from rx); cases q; exact dZ PySem.W.kitx_str I.gH True.intro e (fun z=>nomatch z) h
 |Lo y=>obtain⟨t,q⟩:=(show ∃t,u=Value.float y t from rx); cases q; exact dZ PySem.W.kitx_float I.gH True.intro e (fun z=>nomatch z) h
 | @lst a xs ea=>
  cases(show u=Value.ref a from rx);obtain⟨_,_,n,_,h1⟩:=(show dv X.prog X.w H s.heap a (.lst xs) from I.cq a _ ea);exact dZ rL I.gH ⟨_,h1,rfl⟩ e (fun z=>nomatch z) h
 | @C8 a ob xs ea=>
  cases(show u=Value.ref a from rx);obtain⟨_,_,_,n,_,h1⟩:=(show dv X.prog X.w H s.heap a (.C8 ob (.lst xs)) from I.cq a _ ea);exact dZ rL I.gH ⟨_,h1,rfl⟩ e (fun z=>nomatch z) h
 | @tup a xs ea=>
  cases(show u=Value.ref a from rx);obtain⟨_,_,_,p⟩:=(show dv X.prog X.w H s.heap a (.tup xs) from I.cq a _ ea);obtain⟨o,h1,h2,_⟩:=p;exact dZ PySem.W.kitx_tuple I.gH ⟨o,h1,h2⟩ e (fun z=>nomatch z) h
 | @dK a bc ea=>
  cases(show u=Value.ref a from rx);obtain⟨_,_,vs,_,p⟩:=(show dv X.prog X.w H s.heap a (.dK bc) from I.cq a _ ea);obtain⟨o,es,ep,h1,h2,_⟩:=p;exact dZ rM I.gH ⟨o,h1,h2.1⟩ e (fun z=>nomatch z) h
 | @dT a bc ea=>
  cases(show u=Value.ref a from rx);obtain⟨_,_,xs,_,o,es,ep,h1,h2,_⟩:=(show dv X.prog X.w H s.heap a (.dT bc) from I.cq a _ ea);exact dZ rM I.gH ⟨o,h1,h2.1⟩ e (fun z=>nomatch z) h
 | @ins a C dx fs ea cl ha hn lO hm=>
  cases(show u=Value.ref a from rx);obtain⟨mA,O,_⟩:=qv I.cq ea;obtain⟨od,J,_⟩:=O.look;exact dZ (PySem.W.kitx_own (cl.get _) cl.hd ha hn lO hm) I.gH J e (fun z=>nomatch z) h
end
structure eW (k:Nat)(A:Around):Prop where
 hd:A.handled=none
 dp:A.depth + 3 * k + 5 < recursionLimit
 un:A.units + 16 * k + 200 < cLine
def eW.mono {j k:Nat}{A:Around}(r:eW k A)(h:j<=k):eW j A:=⟨r.hd,by have:=r.dp; lia,by have:=r.un; lia⟩
def eW.deeper {k:Nat}{A:Around}(r:eW (k + 1) A)(env:Env):eW k (A.deeper env):=
 ⟨r.hd,by have:=r.dp; show A.depth + 1 + 3 * k + 5 < _; lia,by have:=r.un; show A.units + 3 + 16 * k + 200 < _; lia⟩
def uK {A:Around}{C:Addr}{us:List Value}{kw:List (Str×Value)}:(A.under (.builtin "type.__call__" ⟨.ref C :: us,kw⟩)).depth=A.depth + 1:=by
 first|rfl|simp[Around.under,Code.weight,Code.isCreation,Code.isGuard,Code.isCaller,Code.frames,Code.isFrame,guardIds]
def uL {A:Around}{C:Addr}{us:List Value}{kw:List (Str×Value)}:(A.under (.builtin "type.__call__" ⟨.ref C :: us,kw⟩)).units=A.units + 1:=by
 first|rfl|simp[Around.under,Code.cUnits,Code.frames,Code.isFrame]
def eW.make {k:Nat}{A:Around}(r:eW (k + 1) A)(C:Addr)(us:List Value)(kw:List (Str×Value)):eW k (A.under (.builtin "type.__call__" ⟨.ref C :: us,kw⟩)):=
 ⟨r.hd,by have:=r.dp; rw[uK]; lia,by have:=r.un; rw[uL]; lia⟩
def eW.depth {k:Nat}{A:Around}(r:eW k A):A.depth < recursionLimit:=by have:=r.dp; lia
def eW.units {k:Nat}{A:Around}(r:eW k A):A.units + 64 < cLine:=by have:=r.un; lia
def Bo:TA:=fun _ H Q=>Q [] H
def Bp (ta:TE)(tr:TA):TA:=fun σ H Q=>ta σ H fun x H1=>tr σ H1 fun xs H2=>Q (x :: xs) H2
section
variable {X:Cx}{e:Expr}{es:List Expr}{te:TE}{t:TA}{pos:Pos}
def av:PA X [] Bo:=fun _ _ _ _ H Q I h=>Calls.spliced_nil ⟨[],H,I,.nil,h⟩
def aa (ha:PE X e te)(hr:PA X es t)(hs:starEach (e :: es) X.env=(false,eval e X.env) :: starEach es X.env:=by rfl):PA X (e :: es) (Bp te t):=by
 intro pos pins s σ H Q I h;rw[hs];show wpAny _ _ (spliced ((false,eval e X.env) :: backTo pos (starEach es X.env))) _ _ s;refine Calls.spliced_cons (dO (ha pins s σ H _ I h) fun u s1 ⟨x,H1,I1,r1,q1⟩=>?_);exact dO (hr pos pins s1 σ H1 _ I1 q1) fun us s2 ⟨xs,H2,I2,r2,q2⟩=>⟨x :: xs,H2,I2,.cons r1 r2,q2⟩
def WK (t:TA):TE:=fun σ H Q=>t σ H fun xs H1=>xs.length<=sizeLine/\ ∀p,H1 p=none->Q (.ref p) (upd H1 p (.tup xs))
def WL (t:TA):TE:=fun σ H Q=>t σ H fun xs H1=>xs.length<=sizeLine/\ ∀p,H1 p=none->Q (.ref p) (upd H1 p (.lst xs))
def cD {x1}(h:PA X es t):PE X (.Tuple es x1 pos) (WK t):=by
 intro pins s σ H Q I hq;refine wpAny_Tuple_spliced (dO (h pos pins s σ H _ I hq) fun us s1 ⟨xs,H1,I1,r,z,q⟩=>⟨by rw[← r.length]; exact z,?_⟩);have hf:H1 s1.heap.objs.size=none:=I1.cq.fresh (aE _);refine⟨.ref s1.heap.objs.size,upd H1 s1.heap.objs.size (.tup xs),I1.laid (t':=s1.toks) (fun b u e=>ax _ e) (aE _) ?_,rfl,q _ hf⟩;exact⟨z,us,r,⟨_,bL _ rfl,rfl,_,rfl⟩⟩
def bP (h:PA X es t):PE X (.List es pos) (WL t):=by
 intro pins s σ H Q I hq;refine wpAny_List_spliced (dO (h pos pins s σ H _ I hq) fun us s1 ⟨xs,H1,I1,r,z,q⟩=>⟨by rw[← r.length]; exact z,?_⟩);have hf:H1 s1.heap.objs.size=none:=I1.cq.fresh (aE _);refine⟨.ref s1.heap.objs.size,upd H1 s1.heap.objs.size (.lst xs),I1.laid (t':=s1.toks) (fun b u e=>ax _ e) (aE _) ?_,rfl,q _ hf⟩;exact⟨z,us,0,r,bL _ rfl⟩
end
abbrev Sp:=List V->Hp->VK->XK->Prop
abbrev ER:=List Env->Hp->Shared->XK->Value->Shared->Prop
structure qw (P:Program)(w:World)(K:Frag)(mg:Str->Option Value)(base:Heap)(A:Around)(outer:List Env)(s:Shared)(H:Hp):Prop where
 frames:A.frames=some outer
 mod:Mod K mg base
 bs: ∀b o,base.get? b=some o->s.heap.get? b=some o/\H b=none
 Bc:base.objs.size<=s.heap.objs.size
 lR:s.heap.FunFrames base outer
 EI: ∀b∈Dn outer,H b=none
 cq:oz P w H s.heap
 bare:AllBare s.gens
def CE (outer:List Env)(P:Program)(w:World)(H:Hp)(s:Shared)(Q:VK)(u:Value)(s':Shared):Prop:=
 ∃v H',s'.os=s.os/\AllBare s'.gens/\Un (Dn outer) [] H H' s.heap s'.heap/\oz P w H' s'.heap/\RelV v u/\Q v H'
def CR (CX:ER)(outer:List Env)(P:Program)(w:World)(H:Hp)(s:Shared)(Q:VK)(E:XK)(r:Result)(s':Shared):Prop:=
 match r with
 | .ok (.ret u)=>CE outer P w H s Q u s'
 | .ok _=>False
 | .error e=>CX outer H s E e s'
structure lV (P:Program)(w:World)(K:Frag)(mg:Str->Option Value)(base:Heap)(CX:ER)(k:Nat)(f:Addr)(fd:FuncData)(ps:List Str)(sp:Sp):Prop where
 len: ∀vs H Q E,sp vs H Q E->vs.length=ps.length
 run: ∀(A:Around) (outer:List Env) (s:Shared) (H:Hp) (args:Args) (us:List Value) (vs:List V) (Q:VK) (E:XK),eW k A->qw P w K mg base A outer s H->BindsTo s fd args (ps.zip us)->Vals vs us->sp vs H Q E->
  codeAny (model P w) A (.call (.ref f) args) (CR CX outer P w H s Q E) s
def qw.make {P:Program}{w:World}{K:Frag}{mg:Str->Option Value}{base:Heap}{A:Around}{outer:List Env}{s:Shared}{H:Hp}(e:qw P w K mg base A outer s H)(C:Addr)(us:List Value)(kw:List (Str×Value)):
  qw P w K mg base (A.under (.builtin "type.__call__" ⟨.ref C :: us,kw⟩)) outer s H:=⟨by first|exact e.frames|(simpa[Around.under,Code.envs,Code.isFrame,pushEnvs] using e.frames),e.mod,e.bs,e.Bc,e.lR,e.EI,e.cq,e.bare⟩
def qw.in1 {P:Program}{w:World}{K:Frag}{mg:Str->Option Value}{base:Heap}{A:Around}{outer:List Env}{s:Shared}{H:Hp}(e:qw P w K mg base A outer s H):
  qw P w K mg base A.in1 outer s H:=⟨e.frames,e.mod,e.bs,e.Bc,e.lR,e.EI,e.cq,e.bare⟩
section
variable {X:Cx}{pins:List (Addr×Obj)}{σ:St}{H:Hp}{s s':Shared}
def Inv.IS (I:Inv X pins σ H s):qw X.prog X.w X.K X.mg X.base X.A X.stack s H:=
 ⟨I.ok.frames,I.ok.mod,I.bs,aY I.ok.Bc I.sz,I.stack,I.qt,I.cq,I.bare⟩
def Inv.after {Q:VK}{u:Value}(I:Inv X pins σ H s)(h:CE X.stack X.prog X.w H s Q u s'):EP X pins σ Q u s':=by
 obtain⟨v,H',os,bare,un,cq,r,q⟩:=h;obtain⟨hh,g,d,t,os'⟩:=s';obtain rfl:os'=s.os:=os;exact⟨v,H',I.call (h':=hh) (g':=g) (d':=d) (t':=t) (ch:=[]) un cq bare (fun b z=>absurd z (by simp)),r,q⟩
end
def uM (sp:Sp)(uN:List V)(E:XK)(t:TA):TE:=fun σ H Q=>t σ H fun vs H1=>sp (vs ++ uN) H1 Q E
def Nl (C:Addr)(m:Str)(sp:Sp)(uN:List V)(E:XK)(ta:TE)(t:TA):TE:=fun σ H Q=>ta σ H fun x H1=> ∃a dx fs,x= .ref a/\H1 a=some (.ins C dx fs)/\fs.lookup m=none/\
 t σ H1 fun vs H2=>sp (x :: (vs ++ uN)) H2 Q E
def ES (C:Addr)(sp:Sp)(uN:List V)(E:XK)(t:TA):TE:=fun σ H Q=>t σ H fun vs H1=> ∀x dx,H1 x=none->H1 dx=none->dx≠x->
 sp (.ref x :: (vs ++ uN)) (upd (upd H1 dx (.own x)) x (.ins C dx [])) (fun v H2=>v= .eh/\Q (.ref x) H2) E
def Binds (K:Frag)(fd:FuncData)(ps:List Str)(ds:List Value):Prop:=
 ∀(s:Shared) (us:List Value),K.In s.heap->(us ++ ds).length=ps.length->BindsTo s fd ⟨us,[]⟩ (ps.zip (us ++ ds))
def Binds.all {K:Frag}{fd:FuncData}{ps:List Str}(h: ∀us:List Value,us.length=ps.length->bindArgs fd ⟨us,[]⟩=pure (ps.zip us)):Binds K fd ps []:=fun s us _ hl=>by
 rw[bR] at hl ⊢;exact .of_eq (h us hl)
def Passes (CX:ER)(X:Cx)(E:XK):Prop:= ∀(pins:List (Addr×Obj)) (σ:St) (H:Hp) (s:Shared) (e:Value) (s':Shared),Inv X pins σ H s->CX X.stack H s E e s'->X.xe e s'
section
variable {X:Cx}{CX:ER}{k:Nat}{f C:Addr}{fd:FuncData}{ps:List Str}{sp:Sp}{uN:List V}{ds:List Value}{E:XK}{x m:Str}{p pos apos:Pos}{e o:Expr}{es:List Expr}{ta:TE}{t:TA}
def y0 {pins:List (Addr×Obj)}{σ:St}{H:Hp}{s:Shared}{Q:VK}{us:List Value}{vs:List V}(F:lV X.prog X.w X.K X.mg X.base CX k f fd ps sp)(hr:eW k X.A)(hb:Binds X.K fd ps ds)(hd:Vals uN ds)(hx:Passes CX X E)
  (I:Inv X pins σ H s) (r:Vals vs us) (h:sp (vs ++ uN) H Q E):wpAny (model X.prog X.w) X.A (call (.ref f) us) (EP X pins σ Q) X.xe s:=by
 have r2:Vals (vs ++ uN) (us ++ ds):=r.append hd;have hl:(us ++ ds).length=ps.length:=by rw[← r2.length]; exact F.len _ _ _ _ h
 refine EH (Dl (F.run X.A X.stack s H ⟨us,[]⟩ (us ++ ds) (vs ++ uN) Q E hr I.IS (hb s us I.gH hl) r2 h) fun r s' hq=>?_);cases r with
 |error e=>exact hx pins σ H s e s' I hq
 |ok fl=>
  cases fl with
  |ret u=>exact I.after hq
  |next=>exact False.elim hq
  |brk=>exact False.elim hq
  |cont=>exact False.elim hq
def ET (F:lV X.prog X.w X.K X.mg X.base CX k f fd ps sp)(hr:eW k X.A)(hg:Gl X x)(hm:X.mg x=some (.ref f))(hk:keepIn X.K (.ref f)=true)(hb:Binds X.K fd ps ds)(hd:Vals uN ds)(hx:Passes CX X E)
  (ha:PA X (e :: es) t) (qx:(x == ("__debug__":Str))=false:=by decide) (he:starEach (e :: es) X.env=(false,eval e X.env) :: starEach es X.env:=by rfl) (gw:(backTo pos (starEach es X.env)).any (·.1)=false:=by rfl):
  PE X (.Call (.Name x p) (e :: es) [] pos) (uM sp uN E t):=by
 intro pins s σ H Q I h;refine eE (js I hg hm ?_ qx);refine ka (h₀:=X.base) I.ok.mod.Lq hk (dO (ha pos pins s σ H _ I h) fun us s1 ⟨vs,H1,I1,r,q⟩=>⟨I1.gH,?_⟩) he gw;exact y0 F hr hb hd hx I1 r q
def IT (F:lV X.prog X.w X.K X.mg X.base CX k f fd ps sp)(hr:eW k X.A)(hg:Gl X x)(hm:X.mg x=some (.ref f))(hk:keepIn X.K (.ref f)=true)(hb:Binds X.K fd ps ds)(hd:Vals uN ds)(hx:Passes CX X E)
  (qx:(x == ("__debug__":Str))=false:=by decide):PE X (.Call (.Name x p) [] [] pos) (uM sp uN E Bo):=by
 intro pins s σ H Q I h;refine eE (js I hg hm ?_ qx);exact A7 I.gH hk (y0 (us:=[]) F hr hb hd hx I .nil h)
def LF {pl:Sem Bool}(he:PE X o ta)(c:wL X.K C)(hm:Meth X.K C m f)(F:lV X.prog X.w X.K X.mg X.base CX k f fd ps sp)(hr:eW k X.A)(hb:Binds X.K fd ps ds)(hd:Vals uN ds)(hx:Passes CX X E)(ha:PA X (e :: es) t)
  (rF:starEach (e :: es) X.env=(false,eval e X.env) :: starEach es X.env:=by rfl) (gw:(backTo pos (starEach es X.env)).any (·.1)=false:=by rfl)
  (ht:eval (.Call (.Attribute o m apos) (e :: es) [] pos) X.env=(do
   let ov ← eval o X.env
   standAt apos.atName
   let(f,first) ← holding [ov] (getMethod ov m pl)
   callWith pos f first (backTo pos (starEach (e :: es) X.env)) (backToKw pos (keywordEach [] X.env))):=by rfl):
  PE X (.Call (.Attribute o m apos) (e :: es) [] pos) (Nl C m sp uN E ta t):=by
 intro pins s σ H Q I h;refine wD (pl:=pl) (dO (he pins s σ H _ I h) fun u s1 ⟨x,H1,I1,rx,a,dx,fs,ex,ea,l,q⟩=>?_) ht;subst ex;obtain rfl:u=Value.ref a:=rx;refine Dz I1 ea c hm l ?_;refine ka (first:=[.ref a]) (h₀:=X.base) I.ok.mod.Lq hm.kp (dO (ha pos pins s1 σ H1 _ I1 q) fun us s2 ⟨vs,H2,I2,r,q2⟩=>⟨I2.gH,?_⟩) rF gw;exact y0 (us:= .ref a :: us) (vs:= .ref a :: vs) F hr hb hd hx I2 (.cons rfl r) q2
structure Mk (K:Frag)(C f:Addr):Prop where
 makes:makesIn K C=true
 init:findIn K (.ref C) "__init__"=some (some (.ref f))
 fn:PySem.W.isFn K (.ref f)=true
 kp:keepIn K (.ref C)=true
def Bq {pins:List (Addr×Obj)}{σ:St}{H:Hp}{s:Shared}{Q:VK}{us:List Value}{vs:List V}(M:Mk X.K C f)(F:lV X.prog X.w X.K X.mg X.base CX k f fd ps sp)(hr:eW (k + 1) X.A)(hb:Binds X.K fd ps ds)(hd:Vals uN ds)
  (hx:Passes CX X E) (I:Inv X pins σ H s) (r:Vals vs us)
  (h: ∀x dx,H x=none->H dx=none->dx≠x->sp (.ref x :: (vs ++ uN)) (upd (upd H dx (.own x)) x (.ins C dx [])) (fun v H2=>v= .eh/\Q (.ref x) H2) E):
  wpAny (model X.prog X.w) X.A (call (.ref C) us) (EP X pins σ Q) X.xe s:=by
 have hq:=h (s.heap.objs.size + 1) s.heap.objs.size (I.cq.fresh (dm _)) (I.cq.fresh (aE _)) (a6 (fV _));have I2:=Inv.made (C:=C) I;have r2:Vals (V.ref (s.heap.objs.size + 1) :: (vs ++ uN)) (Value.ref (s.heap.objs.size + 1) :: (us ++ ds)):= .cons rfl (r.append hd);have hl:(Value.ref (s.heap.objs.size + 1) :: us ++ ds).length=ps.length:=by
  have e:=r2.length;rw[F.len _ _ _ _ hq] at e;exact e.symm
 refine EH (IP (f:=f) I.gH M.makes M.init (F9.mp M.fn) (Dl (F.run _ X.stack _ _ ⟨Value.ref (s.heap.objs.size + 1) :: us,[]⟩ (Value.ref (s.heap.objs.size + 1) :: (us ++ ds)) _ _ E (hr.make C us [])
  (I2.IS.make C us []) (hb _ (Value.ref (s.heap.objs.size + 1) :: us) I2.gH hl) r2 hq) fun r s' sQ=>?_))
 cases r with
 |error e=>exact hx pins σ _ _ e s' I2 sQ
 |ok fl=>
  cases fl with
  |ret u=>
   obtain⟨v,H',I3,rv,ev,q3⟩:=I2.after sQ;subst ev;exact⟨rv,⟨V.ref (s.heap.objs.size + 1),H',I3,rfl,q3⟩⟩
  |next=>exact False.elim sQ
  |brk=>exact False.elim sQ
  |cont=>exact False.elim sQ
def LG (M:Mk X.K C f)(F:lV X.prog X.w X.K X.mg X.base CX k f fd ps sp)(hr:eW (k + 1) X.A)(hg:Gl X x)(hm:X.mg x=some (.ref C))(hb:Binds X.K fd ps ds)(hd:Vals uN ds)(hx:Passes CX X E)
  (ha:PA X (e :: es) t) (qx:(x == ("__debug__":Str))=false:=by decide) (he:starEach (e :: es) X.env=(false,eval e X.env) :: starEach es X.env:=by rfl) (gw:(backTo pos (starEach es X.env)).any (·.1)=false:=by rfl):
  PE X (.Call (.Name x p) (e :: es) [] pos) (ES C sp uN E t):=by
 intro pins s σ H Q I h;refine eE (js I hg hm ?_ qx);refine ka (h₀:=X.base) I.ok.mod.Lq M.kp (dO (ha pos pins s σ H _ I h) fun us s1 ⟨vs,H1,I1,r,q⟩=>⟨I1.gH,?_⟩) he gw;exact Bq M F hr hb hd hx I1 r q
def IU (M:Mk X.K C f)(F:lV X.prog X.w X.K X.mg X.base CX k f fd ps sp)(hr:eW (k + 1) X.A)(hg:Gl X x)(hm:X.mg x=some (.ref C))(hb:Binds X.K fd ps ds)(hd:Vals uN ds)(hx:Passes CX X E)
  (qx:(x == ("__debug__":Str))=false:=by decide):PE X (.Call (.Name x p) [] [] pos) (ES C sp uN E Bo):=by
 intro pins s σ H Q I h;refine eE (js I hg hm ?_ qx);exact A7 I.gH M.kp (Bq (us:=[]) M F hr hb hd hx I .nil h)
end
section
variable {X:Cx}{CX:ER}{k:Nat}{f C:Addr}{fd:FuncData}{ps ks:List Str}{sp:Sp}{E:XK}{x m:Str}{p pos apos RY:Pos}{e o:Expr}{es:List Expr}{kws:List Keyword}{te ta:TE}{t tk:TA}{nm:Option Str}
variable {g:List Value->List Value->List Value}{gV:List V->List V->List V}
end
structure aS (N P:List Str)(sc:Scope):Prop where
 kind:sc.kind= .function:=by rfl
 co:sc.isCoroutine=false:=by rfl
 gen:sc.isGenerator=false:=by rfl
 nd:N.Nodup:=by decide +kernel
 pre:N.take P.length=P:=by rfl
 par: ∀x∈P,sc.names.lookup x=some .local∨sc.names.lookup x=some .cell:=by decide +kernel
 Ow: ∀y∈sc.names,y.2≠ .free:=by decide +kernel
def xY {kindOf:Str->Option NameKind}{x:Str}: ∀{binds:List (Str×Value)} {m:Str->Option Value},(∀v,(x,v)∉binds)->bindL kindOf binds m x=m x
 |[],_,_=>rfl
 |(n,v) :: r,m,h=>by
  unfold bindL;rw[xY fun w hw=>h w (ba _ hw)];split
  ·have:x≠n:=by rintro rfl; exact h v bJ
   simp[this]
  ·rfl
def xZ {kindOf:Str->Option NameKind}{x:Str}: ∀{binds:List (Str×Value)} {m:Str->Option Value},(∀v,(x,v)∉binds)->bindC kindOf binds m x=m x
 |[],_,_=>rfl
 |(n,v) :: r,m,h=>by
  unfold bindC;rw[xZ fun w hw=>h w (ba _ hw)];split
  ·rfl
  ·have:x≠n:=by rintro rfl; exact h v bJ
   simp[this]
def ya {kindOf:Str->Option NameKind}{x:Str}{v:Value}: ∀{P:List Str} {vs:List Value} {i:Nat} {m:Str->Option Value},P.Nodup->P[i]? =some x->vs[i]? =some v->kindOf x=some .local->
  bindL kindOf (P.zip vs) m x=some v
 |[],_,_,_,_,h,_,_=>by simp at h
 |_ :: _,[],_,_,_,_,h,_=>by simp at h
 |p :: P,w :: vs,0,m,nd,h1,h2,hk=>by
  simp at h1 h2; subst h1; subst h2;show bindL kindOf ((p,w) :: P.zip vs) m p=_;unfold bindL;rw[xY fun v hv=>(fJ.mp nd).1 (ou hv).1,a8 hk];simp
 |p :: P,w :: vs,i + 1,m,nd,h1,h2,hk=>by
  show bindL kindOf ((p,w) :: P.zip vs) m x=_;unfold bindL;exact ya (i:=i) (List.nodup_cons.mp nd).2 (by simpa using h1) (by simpa using h2) hk
def yb {kindOf:Str->Option NameKind}{x:Str}{v:Value}: ∀{P:List Str} {vs:List Value} {i:Nat} {m:Str->Option Value},P.Nodup->P[i]? =some x->vs[i]? =some v->kindOf x≠some .local->
  bindC kindOf (P.zip vs) m x=some v
 |[],_,_,_,_,h,_,_=>by simp at h
 |_ :: _,[],_,_,_,_,h,_=>by simp at h
 |p :: P,w :: vs,0,m,nd,h1,h2,hk=>by
  simp at h1 h2; subst h1; subst h2;show bindC kindOf ((p,w) :: P.zip vs) m p=_;unfold bindC;rw[xZ fun v hv=>(fJ.mp nd).1 (ou hv).1,aU hk];simp
 |p :: P,w :: vs,i + 1,m,nd,h1,h2,hk=>by
  show bindC kindOf ((p,w) :: P.zip vs) m x=_;unfold bindC;exact yb (i:=i) (List.nodup_cons.mp nd).2 (by simpa using h1) (by simpa using h2) hk
def start (N:List Str)(vs:List V):St:=vs.map some ++ List.replicate (N.length - vs.length) none
def kK (CX:ER)(P:Program)(w:World)(K:Frag)(mg:Str->Option Value)(base:Heap)(N:List Str)(qual:Str)(scope:Scope)(f:Addr)(cd:Value)(A:Around)(outer:List Env)(s:Shared)(H:Hp)(E:XK):Cx where
 prog:=P
 w:=w
 K:=K
 mg:=mg
 base:=base
 A:=A.deeper (envOfC qual scope s.heap.objs.size f cd)
 N:=N
 s₀:=s
 H₀:=H
 env:=envOfC qual scope s.heap.objs.size f cd
 outer:=outer
 stack:=envOfC qual scope s.heap.objs.size f cd :: outer
 ex:=[]
 calm:=true
 fn:=fun _=>true
 pn:=[]
 xe:=fun e s'=>wpAny (model P w) (A.deeper (envOfC qual scope s.heap.objs.size f cd)) (leaving (envOfC qual scope s.heap.objs.size f cd) e) (fun _ EU=>CX outer H s E e EU) (fun e' EU=>CX outer H s E e' EU) s'
def Br {sc:Scope}{n:Nat}{x:Str}(h:sc.names.lookup x=some .cell): ∃c,(cellsFrom n sc.names []).lookup x=some c:=by
 have q:=k6 sc.names n [] (.inl h);exact QM.mp q
def yc {CX:ER}{P:Program}{w:World}{K:Frag}{mg:Str->Option Value}{base:Heap}{N ps:List Str}{qual:Str}{scope:Scope}{f:Addr}{cd:Value}{A:Around}{outer:List Env}{s s1:Shared}{H:Hp}{E:XK}{us:List Value}{vs:List V}
  (S:aS N ps scope) (hd:A.handled=none) (e0:qw P w K mg base A outer s H) (hl:vs.length=ps.length) (r:Vals vs us)
  (x:InCallC s s.heap.objs.size (bindL (envOfC qual scope s.heap.objs.size f cd).kindOf (ps.zip us) fun _=>none) (cellsFrom (s.heap.objs.size + 1) scope.names []) (bindC (envOfC qual scope s.heap.objs.size f cd).kindOf (ps.zip us) fun _=>none) s1):
  Inv (kK CX P w K mg base N qual scope f cd A outer s H E) [] (start N vs) H s1:=by
 have gw:ps.length<=N.length:=by have:=cJ List.length S.pre; rw[bf] at this; lia
 obtain⟨h1,tk,rfl,hk⟩:=x.done;have WM: ∀b:Addr,b∉(kK CX P w K mg base N qual scope f cd A outer s H E).ex:=fun b z=>absurd (show b∈([]:List Addr) from z) (by simp);refine⟨⟨e0.mod,S.kind,rfl,rfl,aE _,fun y z c h1 h2=>?_,fun y hy=>?_,fun y c _ h=>?_,fun _=>hd,Around.frames_deeper e0.frames,.inr ⟨rfl,rfl⟩,fun b z=>absurd z (WM b),e0.bs,e0.Bc,fun b _ _=>WM b,fun b z=>absurd z (WM b),e0.lR,e0.EI⟩,
  rfl,e0.bare,Un.kept hk,⟨_,x.toInCall.ns,fun i y v h1 h2 h3=>?_⟩,fun y c h=>⟨_,x.cell y c h⟩,e0.cq.fresh (Nat.le_refl _),fun y c h=>?_,fun p hp=>absurd (show p∈([]:List (Addr×Obj)) from hp) (by simp),e0.cq.kept hk,?_⟩
 ·exact name_of_addr x.apart (b0 h1) (b0 h2)
 ·have hy:scope.names.lookup y=some .cell∨scope.names.lookup y=some .free:=hy;rcases hy with hy|hy
  ·exact Br hy
  ·exact absurd rfl (S.Ow _ (b0 hy))
 ·exact dr (x.above y c (b0 h))
 ·have hi:i < vs.length:=by
   unfold start at h2;by_cases hi:i < vs.length
   ·exact hi
   ·rw[List.getElem?_append_right (by simpa using hi)] at h2;rw[List.getElem?_replicate] at h2;split at h2 <;> cases h2
  have ha:vs[i]? =some v:=by
   unfold start at h2;rw[List.getElem?_append_left (by simpa using hi),List.getElem?_map] at h2;cases e:vs[i]? with
   |none=>rw[e] at h2; cases h2
   |some a=>rw[e] at h2; cases h2; rfl
  obtain⟨u,hu,rv⟩:=r.get ha;have hp:ps[i]? =some y:=by
   rw[← S.pre,List.getElem?_take_of_lt (by lia)]; exact h1
  have ZF:ps.Nodup:=by rw[← S.pre]; exact S.nd.sublist (List.take_sublist _ _)
  refine⟨u,rv,?_⟩;rcases S.par y (fq hp) with k|k
  ·exact .inl ⟨k,ya ZF hp hu k⟩
  ·obtain⟨c,e⟩:=Br (n:=s.heap.objs.size + 1) k;refine .inr ⟨.inl k,c,e,?_⟩;have q:=x.cell y c e;rw[yb ZF hp hu (by show scope.names.lookup y≠_; rw[k]; decide)] at q;exact q
 ·exact e0.cq.fresh (dr (x.above y c (b0 h)))
 ·unfold start;show _ =N.length;rw[aC,ae,dH];lia
def IV {CX:ER}{P:Program}{w:World}{K:Frag}{mg:Str->Option Value}{base:Heap}{k:Nat}{f:Addr}{name qual:Str}{params:Arguments}{body:List Stmt}{scope:Scope}{dV kV doc pm cO ct oc:Value}{an od:Option Addr}
  {Gx:Array (Option Value)} {N ps:List Str} {sp:Sp} (lk:K.lookup f=some ⟨oc,od,.func (fnOf name qual params body scope dV kV doc pm an cO ct),Gx⟩) (rE:codeIn K cO qual=true) (S:aS N ps scope)
  (len: ∀vs H Q E,sp vs H Q E->vs.length=ps.length)
  (fS: ∀(A:Around) (outer:List Env) (s:Shared) (H:Hp) (vs:List V) (Q:VK) (E:XK),eW k (A.deeper (envOfC qual scope s.heap.objs.size f cO))->sp vs H Q E->
   ∃t,oO (kK CX P w K mg base N qual scope f cO A outer s H E) body t/\t {nx:=fun _ H'=>Q .eh H',rt:=Q} (start N vs) H):
  lV P w K mg base CX (k + 1) f (fnOf name qual params body scope dV kV doc pm an cO ct) ps sp:=by
 refine⟨len,fun A outer s H args us vs Q E hr e0 hb r y1=>?_⟩;have hl:=len _ _ _ _ y1;have KX:K.In s.heap:=e0.mod.Lq.keeps fun b o e=>(e0.bs b o e).1;have lim:s.heap.NoLimit:=e0.mod.nolimit.keeps fun b o e=>(e0.bs b o e).1;have mP: ∀y∈ps.zip us,scope.names.lookup y.1=some .local∨(scope.names.lookup y.1=some .cell/\((cellsFrom (s.heap.objs.size + 1) scope.names []).lookup y.1).isSome=true):=fun⟨n,v⟩ hy=>by
  rcases S.par n (ou hy).1 with q|q
  ·exact .inl q
  ·exact .inr ⟨q,k6 _ _ _ (.inl q)⟩
 refine codeAny_call_function hr.depth (KX _ _ lk) rfl S.co S.gen rfl (PySem.W.codeRec_of KX rE) (hb _ _ _ _ ?_);refine tM S.kind mP fun env he s1 x=>?_;subst he;refine⟨lim.keeps x.toInCall.keep,codeAny_func ?_⟩;obtain⟨t,ht,hq⟩:=fS A outer s H vs Q E (hr.deeper _) y1;have I:Inv (kK CX P w K mg base N qual scope f cO A outer s H E) [] (start N vs) H s1:=yc S hr.hd e0 hl r x;refine b9 (ht [] s1 (start N vs) H _ I hq) (fun fl s' hs=>?_) fun e s' hs=>hs;have fin: ∀{σ':St} {H':Hp} {v:V} {u:Value},Inv (kK CX P w K mg base N qual scope f cO A outer s H E) [] σ' H' s'->RelV v u->Q v H'->CE outer P w H s Q u s':=
  fun{σ' H' v u} J rv q=>⟨v,H',J.os,J.bare,J.base,J.cq,rv,q⟩
 cases fl with
 |ret u=>
  obtain⟨v,σ',H',J,rv,q⟩:=hs;exact fin J rv q
 |next=>
  obtain⟨σ',H',J,q⟩:=hs;exact fin (v:=V.eh) (u:=Value.none) J rfl q
 |brk=>
  obtain⟨_,_,_,q⟩:=hs;exact False.elim q
 |cont=>
  obtain⟨_,_,_,q⟩:=hs;exact False.elim q
section
variable {X:Cx}{x:Str}{p pos:Pos}{e:Expr}{es:List Expr}{t:TA}{id T:String}{r:List V->Hp->VK->Prop}
def Vl (r:List V->Hp->VK->Prop)(t:TA):TE:=fun σ H Q=>t σ H fun vs H1=>r vs H1 Q
def eM (hc:gZ X (.builtin id) r)(hg:Gl X x)(hm:X.mg x=none)(hv:bootBuiltins x=some (.builtin id))(ha:PA X (e :: es) t)(hn:x≠"__name__":=by decide)(qx:(x == ("__debug__":Str))=false:=by decide)
  (he:starEach (e :: es) X.env=(false,eval e X.env) :: starEach es X.env:=by rfl) (gw:(backTo pos (starEach es X.env)).any (·.1)=false:=by rfl):PE X (.Call (.Name x p) (e :: es) [] pos) (Vl r t):=by
 intro pins s σ H Q I h;refine eE (lS I hg hm hv ?_ hn qx);exact PyProof.Rows.callWith_builtin1 (dO (ha pos pins s σ H _ I h) fun us s1 ⟨vs,H1,I1,r1,q1⟩=>hc pins s1 σ H1 vs us Q I1 r1 q1) he gw
def gx (hc:gZ X (.type T) r)(hg:Gl X x)(hm:X.mg x=none)(hv:bootBuiltins x=some (.type T))(ha:PA X (e :: es) t)(hn:x≠"__name__":=by decide)(qx:(x == ("__debug__":Str))=false:=by decide)
  (he:starEach (e :: es) X.env=(false,eval e X.env) :: starEach es X.env:=by rfl) (gw:(backTo pos (starEach es X.env)).any (·.1)=false:=by rfl):PE X (.Call (.Name x p) (e :: es) [] pos) (Vl r t):=by
 intro pins s σ H Q I h;refine eE (lS I hg hm hv ?_ hn qx);exact fI (dO (ha pos pins s σ H _ I h) fun us s1 ⟨vs,H1,I1,r1,q1⟩=>hc pins s1 σ H1 vs us Q I1 r1 q1) he gw
end
end L2
namespace HT
open PySem PyProof.Rows
def lexLt:List Int->List Int->Bool
 |[],[]=>false
 |[],_ :: _=>true
 |_ :: _,[]=>false
 |x :: xs,y :: ys=>if x=y then lexLt xs ys else decide (x < y)
def lW (x y:Int)(xs ys:List Int):lexLt (x :: xs) (y :: ys)=if x=y then lexLt xs ys else decide (x < y):=rfl
section
open PySem.SeqAt
open PySem.AutoSeq1 (wpAny_loadPart')
open PySem.MeetsSeq PySem.MeetsSeq2 PySem.MeetsSeq3
end
section
variable {prog:Program}{w:World}{A:Around}{E:Value->Shared->Prop}{s:Shared}
def Bs (n d:Nat):Option Int->Nat
 |none=>d
 |some v=>if v < 0 then(v + (n:Int)).toNat else min v.toNat n
def IW (n d:Nat):Bs n d none=d:=rfl
def y2 (n d k:Nat):Bs n d (some (k:Int))=min k n:=by
 show(if(k:Int) < 0 then((k:Int) + (n:Int)).toNat else min (k:Int).toNat n)=min k n;rw[aU (by lia),dI]
end
end HT
namespace L2
open PySem PySem.Spec PyProof.Rows
abbrev TO:=St->Hp->(Option Int->Hp->Prop)->Prop
def PO (X:Cx)(e:Option Expr)(t:TO):Prop:=
 ∀(pins:List (Addr×Obj)) (s:Shared) (σ:St) (H:Hp) (Q:Option Int->Hp->Prop),Inv X pins σ H s->t σ H Q->
  wpAny (model X.prog X.w) X.A (evalPart e X.env) (fun u s'=> ∃o H',Inv X pins σ H' s'/\IsPart u o/\Q o H') X.xe s
def LH:TO:=fun _ H Q=>Q none H
inductive ZG (x:V)(k:Int->Prop):Prop
 |mk (i:Int)(h:x= .int i)(q:k i):ZG x k
def RZ (t:TE):TO:=fun σ H Q=>t σ H fun x H1=>ZG x fun i=>Q (some i) H1
def intsAre_of {ns:List Int}: ∀{us:List Value},Vals (ns.map V.int) us->IntsAre us ns:=by
 induction ns with
 |nil=>intro us r; rw[qf] at r; cases r; exact .nil
 |cons n ns ih=>
  intro us r;rw[cZ] at r;cases r with
  |cons r1 r2=>
   obtain⟨t,e⟩:=r1;subst e;exact .cons n t (ih r2)
section
variable {X:Cx}{e:Expr}{te:TE}{lo hi:Option Expr}{tl th:TO}{pos p2:Pos}
def uj:PO X none LH:=by
 intro pins s σ H Q I h;rw[evalPart_none];exact bE ⟨none,H,I,.none,h⟩
def nZ (h:PE X e te):PO X (some e) (RZ te):=by
 intro pins s σ H Q I hw;rw[evalPart_some];refine dO (h pins s σ H _ I hw) fun u s1 ⟨x,H1,I1,r1,q1⟩=>?_;obtain⟨i,rfl,q⟩:=q1;obtain⟨t,rfl⟩:=r1;exact⟨some i,H1,I1,.int i t,q⟩
def Nm (X:Cx)(r:V->Option Int->Option Int->Hp->VK->Prop):Prop:=
 ∀(pins:List (Addr×Obj)) (s:Shared) (σ:St) (H:Hp) (x:V) (v vl vu:Value) (lo hi:Option Int) (sl:Addr) (Q:VK),Inv X pins σ H s->RelV x v->s.heap.IsSliceOf sl vl vu .none->IsPart vl lo->IsPart vu hi->r x lo hi H Q->
  ∃T id,typeLookup (.type T) "__getitem__"=pure (some (.builtin id))/\s.TypeIs v T/\wpAny (model X.prog X.w) X.A (getItem v (.ref sl)) (EP X pins σ Q) X.xe s
def tSl (r:V->Option Int->Option Int->Hp->VK->Prop)(te:TE)(tl th:TO):TE:=fun σ H Q=>te σ H fun x H1=>tl σ H1 fun l H2=>th σ H2 fun u H3=>r x l u H3 Q
def mQ {r:V->Option Int->Option Int->Hp->VK->Prop}(hr:Nm X r)(he:PE X e te)(hl:PO X lo tl)(hu:PO X hi th):PE X (.Subscript e (.Slice lo hi none p2) pos) (tSl r te tl th):=by
 intro pins s σ H Q I h;refine Subscript_ (dO (he pins s σ H _ I h) fun v s1 ⟨x,H1,I1,r1,q1⟩=>?_);refine wpAny_Slice (dO (hl pins s1 σ H1 _ I1 q1) fun vl s2 ⟨l,H2,I2,pl,q2⟩=>dO (hu pins s2 σ H2 _ I2 q2) fun vu s3 ⟨u,H3,I3,pu,q3⟩=>?_);rw[evalPart_none];refine bE ?_;have I4:Inv X pins σ H3 {s3 with heap:=s3.heap.push {cls:= .type "slice",data:= .fields #[vl,vu,.none]}}:=I3.kept (t':=s3.toks) fun b ob q=>ax _ q;obtain⟨T,id,hT,ht,hg⟩:=hr pins {s3 with heap:=s3.heap.push {cls:= .type "slice",data:= .fields #[vl,vu,.none]}} σ H3 x v vl vu l u s3.heap.objs.size Q I4 r1 (Heap.IsSliceOf.new ..) pl pu q3;show wpAny (model X.prog X.w) X.A (subscriptTail e (.Slice lo hi none p2) v (.ref s3.heap.objs.size)) (EP X pins σ Q) X.xe {s3 with heap:=s3.heap.push {cls:= .type "slice",data:= .fields #[vl,vu,.none]}};exact tail_any (ops:=[.ref s3.heap.objs.size,v]) ht hT hg (by with_unfolding_all rfl)
def qy (xs:List V)(lo hi:Option Int):List V:=(xs.drop (HT.Bs xs.length 0 lo)).take (HT.Bs xs.length xs.length hi - HT.Bs xs.length 0 lo)
def Bt (xs:List V)(lo hi:Option Int):(qy xs lo hi).length<=xs.length:=by
 unfold qy;rw[bf,mC];lia
end
def LI (n:Nat)(i:Int):Option Nat:=if 0<=i then(if i < n then some i.toNat else none) else if -(n:Int)<=i then some (i + n).toNat else none
def rY {α:Type}(xs:List α)(i:Int):Option α:=(LI xs.length i).bind fun j=>xs[j]?
def EV {n:Nat}{i:Int}{j:Nat}(h:LI n i=some j):seqIndex? i n=some j/\j < n/\ -(n:Int)<=i/\i < n:=by
 unfold LI at h;by_cases h0:0<=i
 ·rw[a8 h0] at h;by_cases h1:i < n
  ·rw[a8 h1] at h;have e:i.toNat=j:=aF h;exact⟨by rw[seqIndex_of h0 h1,e],by lia,by lia,h1⟩
  ·rw[aU h1] at h; cases h
 ·rw[aU h0] at h;by_cases h1: -(n:Int)<=i
  ·rw[a8 h1] at h;have e:(i + n).toNat=j:=aF h;exact⟨by rw[seqIndex_neg (by lia) h1,e],by lia,h1,by lia⟩
  ·rw[aU h1] at h; cases h
def EW {α:Type}{xs:List α}{i:Int}{v:α}(h:rY xs i=some v): ∃j,seqIndex? i xs.length=some j/\xs[j]? =some v/\j < xs.length/\ -(xs.length:Int)<=i/\i < xs.length:=by
 unfold rY at h;cases e:LI xs.length i with
 |none=>rw[e] at h; cases h
 |some j=>
  rw[e] at h;obtain⟨h1,h2,h3,h4⟩:=EV e;exact⟨j,h1,h,h2,h3,h4⟩
def cw {α:Type}{xs:List α}{j:Nat}{v:α}(h:xs[j]? =some v):rY xs (j:Int)=some v:=by
 have hj:j < xs.length:=(ak.mp h).1;have e:LI xs.length (j:Int)=some j:=by
  unfold LI;rw[if_pos (by lia),if_pos (by lia)]; simp
 unfold rY; rw[e]; exact h
def y3 (b:Expr):Prop:= ∀o i,subscripted b false o i=operate [o,i] (getItem o i)
def IX (X:Cx)(r:R2):Prop:=
 ∀(value slice:Expr) (pins:List (Addr×Obj)) (s:Shared) (σ:St) (H:Hp) (x y:V) (v u:Value) (Q:VK),Inv X pins σ H s->RelV x v->RelV y u->r x y H Q->
  subscripted slice false v u=operate [v,u] (getItem v u)->wpAny (model X.prog X.w) X.A (subscriptTail value slice v u) (EP X pins σ Q) X.xe s
def ZH (X:Cx)(id:String)(r:V->List V->Hp->VK->Prop):Prop:=
 ∀(pins:List (Addr×Obj)) (s:Shared) (σ:St) (H:Hp) (x:V) (xs:List V) (v:Value) (us:List Value) (Q:VK),Inv X pins σ H s->RelV x v->Vals xs us->r x xs H Q->
  wpAny (model X.prog X.w) X.A (call (.builtin id) (v :: us)) (EP X pins σ Q) X.xe s
section
variable {X:Cx}{a b:Expr}{ta tb:TE}{pos:Pos}
def i8 {r:R2}(hr:IX X r)(ha:PE X a ta)(hb:PE X b tb)(hs:y3 b):PE X (.Subscript a b pos) (QS r ta tb):=by
 intro pins s σ H Q I h;exact Subscript_ (Oo ha hb I h fun v u s2 x y H2 I2 rx ry q=>hr a b pins s2 σ H2 x y v u Q I2 rx ry q (hs _ _))
inductive WN (x y:V)(S:Addr->List V->Prop)(k:V->Prop):Prop
 |mk (p:Addr)(xs:List V)(i:Int)(v:V)(h1:x= .ref p)(h2:y= .int i)(s:S p xs)(a:rY xs i=some v)(q:k v):WN x y S k
def Ox (K:Frag):R2:=fun x y H Q=>WN x y (bA K H) fun v=>Q v H
def Oy (K:Frag):R2:=fun x y H Q=>WN x y (cf K H) fun v=>Q v H
def y4:IX X (Ox X.K):=by
 intro value slice pins s σ H x y v u Q I rx ry h hs;obtain⟨p,xs,i,z,rfl,rfl,hq,he,q⟩:=h;cases rx;obtain⟨t,rfl⟩:=ry;obtain⟨bY,r,pl,hz⟩:=I.list hq;obtain⟨j,h1,h2,h3,h4,h5⟩:=EW he;obtain⟨w,ew,Gy⟩:=r.get h2;have hl:=r.length;have hn:=yZ;have fin:EP X pins σ Q w s:=⟨z,H,I,Gy,q⟩;by_cases h0:0<=i
 ·have hj:i.toNat=j:=by
   rw[seqIndex_of h0 h5] at h1;exact aF h1
  exact item_listR pl.isList h0 (by lia) (by rw[hj]; simpa using ew) fin hs
 ·have hj:(i + (bY.toArray.size:Int)).toNat=j:=by
   rw[seqIndex_neg (by lia) h4] at h1;rw[bB,← hl];exact aF h1
  exact subscriptTail_builtinR (x:=w) pl.isList.typeIs slot_list_getitem.lookup
   (wpAny_getItem_list_neg (Q:=fun r s'=>r=w/\EP X pins σ Q r s') pl.isList (by lia) (by rw[List.size_toArray] <;> lia) (by lia) (by rw[hj]; simpa using ew) ⟨rfl,fin⟩) hs
def DD:IX X (Oy X.K):=by
 intro value slice pins s σ H x y v u Q I rx ry h hs;obtain⟨p,xs,i,z,rfl,rfl,hq,he,q⟩:=h;cases rx;obtain⟨t,rfl⟩:=ry;obtain⟨bY,r,pl,hz⟩:=I.tuple hq;obtain⟨j,h1,h2,h3,h4,h5⟩:=EW he;obtain⟨w,ew,Gy⟩:=r.get h2;have hl:=r.length;have hn:=yZ;have fin:EP X pins σ Q w s:=⟨z,H,I,Gy,q⟩;exact subscriptTail_builtinR (x:=w) pl.typeIs slot_tuple_getitem.lookup
  (getItem_tuple (j:=j) (Q:=fun r s'=>r=w/\EP X pins σ Q r s') pl (by lia) (by lia) (by rw[List.size_toArray,← hl]; exact h1) (by simpa using ew) ⟨rfl,fin⟩) hs
def DE (bY:List Value)(n j:Nat)(u:Value):Obj.mapSeq (·.setIfInBounds j u) {cls:= .type "list",data:= .seq bY.toArray n}={cls:= .type "list",data:= .seq (bY.set j u).toArray n}:=by
 simp[Obj.mapSeq]
def Inv.lst {pins:List (Addr×Obj)}{σ:St}{H:Hp}{s:Shared}{p:Addr}{xs:List V}(I:Inv X pins σ H s)(h:H p=some (.lst xs)):
  ∃(bY:List Value) (n:Nat),Vals xs bY/\s.heap.get? p=some {cls:= .type "list",data:= .seq bY.toArray n}/\xs.length<=sizeLine:=by
 obtain⟨z,bY,n,r,e⟩:=I.cq p _ h;exact⟨bY,n,r,e,z⟩
def Inv.Oz {pins:List (Addr×Obj)}{σ:St}{H:Hp}{s:Shared}{p:Addr}{xs ys:List V}{bY qu:List Value}{n n':Nat}{f:Obj->Obj}(I:Inv X pins σ H s)(h:H p=some (.lst xs))
  (ho:s.heap.get? p=some {cls:= .type "list",data:= .seq bY.toArray n}) (hf:f {cls:= .type "list",data:= .seq bY.toArray n}={cls:= .type "list",data:= .seq qu.toArray n'}) (r:Vals ys qu) (hz:ys.length<=sizeLine) (t:Nat):
  Inv X pins σ (upd H p (.lst ys)) {s with heap:=s.heap.update p f,toks:=t}:=by
 have e:(s.heap.update p f).get? p=some {cls:= .type "list",data:= .seq qu.toArray n'}:=by
  rw[Dm f ho (by rw[hf] <;> rfl),hf]
 refine I.write (x:=p) (e:=p) (by rw[h]; trivial) (.inl rfl) (fun b u hb q=>(mK _ _ (wC hb)).trans q) ⟨_,e⟩ ?_;exact⟨hz,qu,n',r,e⟩
def R0:V->V->V->Hp->(Hp->Prop)->Prop:=fun o i v H Q=> ∃p xs k j,o= .ref p/\i= .int k/\H p=some (.lst xs)/\LI xs.length k=some j/\Q (upd H p (.lst (xs.set j v)))
def set_list:RN X R0:=by
 intro pins s σ H o i v ov iv u Q I ro ri rv h;obtain⟨p,xs,k,j,rfl,rfl,hp,hj,q⟩:=h;cases ro;obtain⟨t,rfl⟩:=ri;obtain⟨bY,n,r,ho,hz⟩:=I.lst hp;obtain⟨h1,h2,h3,h4⟩:=EV hj;have hl:=r.length;have hn:=yZ;have I':Inv X pins σ (upd H p (.lst (xs.set j v))) {s with heap:=s.heap.update p (Obj.mapSeq (·.setIfInBounds j u))}:=
  I.Oz hp ho (DE bY n j u) (r.set rv j) (by rw[d8]; exact hz) s.toks
 by_cases h0:0<=k
 ·have hk:k.toNat=j:=by
   rw[seqIndex_of h0 h4] at h1;exact aF h1
  exact PySem.W.ki_setAt ho h0 (by lia) (by rw[bB,← hl]; exact h4) (by rw[hk]; exact⟨_,I',q⟩)
 ·have hk:(k + (bY.toArray.size:Int)).toNat=j:=by
   rw[seqIndex_neg (by lia) h3] at h1;rw[bB,← hl];exact aF h1
  exact PySem.W.ki_setBack ho (by lia) (by rw[bB,← hl]; exact h3) (by lia) (by rw[hk]; exact⟨_,I',q⟩)
def zd (lo hi:Option Int)(n:Nat):(sliceBounds lo hi none n).1=((HT.Bs n 0 lo:Nat):Int)/\(sliceBounds lo hi none n).2.1=((HT.Bs n n hi:Nat):Int)/\(sliceBounds lo hi none n).2.2=1:=by
 refine⟨?_,?_,rfl⟩
 ·cases lo with
  |none=>simp[sliceBounds,HT.Bs]
  |some i=>
   simp only[sliceBounds,HT.Bs,Option.getD_none,show(1:Int) > 0 by decide,if_true];by_cases h:i < 0
   ·simp only[h,if_true] <;> lia
   ·simp only[h,if_false] <;> lia
 ·cases hi with
  |none=>simp[sliceBounds,HT.Bs]
  |some i=>
   simp only[sliceBounds,HT.Bs,Option.getD_none,show(1:Int) > 0 by decide,if_true];by_cases h:i < 0
   ·simp only[h,if_true] <;> lia
   ·simp only[h,if_false] <;> lia
def wM (bY:List Value)(lo hi:Option Int):slicePick bY.toArray lo hi none=((bY.drop (HT.Bs bY.length 0 lo)).take (HT.Bs bY.length bY.length hi - HT.Bs bY.length 0 lo)).toArray:=by
 obtain⟨h1,h2,h3⟩:=zd lo hi bY.toArray.size;unfold slicePick;rw[h1,h2,h3];simp only[sliceRange_one,pick_run,List.size_toArray] <;> rfl
inductive ZI (K:Frag)(x:V)(lo hi:Option Int)(H:Hp)(Q:VK):Prop
 |mk (a:Addr)(xs:List V)(h1:x= .ref a)(h2:bA K H a xs)(q: ∀p,H p=none->Q (.ref p) (upd H p (.lst (qy xs lo hi)))):ZI K x lo hi H Q
def R3 (K:Frag):V->Option Int->Option Int->Hp->VK->Prop:=ZI K
def LJ:Nm X (R3 X.K):=by
 intro pins s σ H x v vl vu lo hi sl Q I rx hs pl pu h;obtain⟨a,xs,rfl,hx,q⟩:=h;cases rx;obtain⟨bY,r,ht,hz⟩:=I.list hx;have hlen:=r.length;refine⟨"list",_,slot_list_getitem.lookup,ht.isList.typeIs,?_⟩;refine wpAny_getItem_list_slice ht.isList hs pl pu .none (by simp) ?_ (by rw[List.size_toArray] <;> lia);rw[wM,← hlen];refine⟨.ref s.heap.objs.size,_,I.laid (t':=s.toks) (o:= .lst (qy xs lo hi)) (fun b ob q=>ax _ q) (aE _) ?_,rfl,q _ (I.cq.fresh (aE _))⟩;exact⟨aY (Bt xs lo hi) hz,_,0,(r.drop (HT.Bs xs.length 0 lo)).take (HT.Bs xs.length xs.length hi - HT.Bs xs.length 0 lo),bL _ rfl⟩
def sR:V->Bool
 | .eh=>true
 | .bl _=>true
 | .int _=>true
 | .str _=>true
 |_=>false
def LK:V->V->Bool
 | .eh,.eh=>true
 | .bl a,.bl b=>a == b
 | .bl a,.int b=>(if a then 1 else 0) == b
 | .int a,.bl b=>a == (if b then 1 else 0)
 | .int a,.int b=>a == b
 | .str a,.str b=>a == b
 |_,_=>false
def OA {A:Around}{s:Shared}{y x:V}{u v:Value}(ry:RelV y u)(rx:RelV x v)(fy:sR y=true)(fx:sR x=true):SeqAt.EqAt A s u v (LK y x):=by
 cases y with
 |eh=>
  cases ry;cases x with
  |eh=>cases rx; exact SeqAt.EqAt.same _
  |bl b=>cases rx; exact SeqAt.EqAt.none_bool b
  |int b=>obtain⟨t,rfl⟩:=rx; exact SeqAt.EqAt.none_int b t
  |str b=>obtain⟨t,rfl⟩:=rx; exact SeqAt.EqAt.none_str b t
  |_=>exact absurd (show false=true from fx) aW
 |bl a=>
  cases ry;cases x with
  |eh=>cases rx; exact SeqAt.EqAt.bool_none a
  |bl b=>cases rx; exact SeqAt.EqAt.bool_bool a b
  |int b=>obtain⟨t,rfl⟩:=rx; exact SeqAt.EqAt.bool_int a b t
  |str b=>obtain⟨t,rfl⟩:=rx; exact SeqAt.EqAt.bool_str a b t
  |_=>exact absurd (show false=true from fx) aW
 |int a=>
  obtain⟨t',rfl⟩:=ry;cases x with
  |eh=>cases rx; exact SeqAt.EqAt.int_none a t'
  |bl b=>cases rx; exact SeqAt.EqAt.int_bool a t' b
  |int b=>obtain⟨t,rfl⟩:=rx; exact SeqAt.EqAt.int_int a t' b t
  |str b=>obtain⟨t,rfl⟩:=rx; exact SeqAt.EqAt.int_str a t' b t
  |_=>exact absurd (show false=true from fx) aW
 |str a=>
  obtain⟨t',rfl⟩:=ry;cases x with
  |eh=>cases rx; exact SeqAt.EqAt.str_none a t'
  |bl b=>cases rx; exact SeqAt.EqAt.str_bool a t' b
  |int b=>obtain⟨t,rfl⟩:=rx; exact SeqAt.EqAt.str_int a t' b t
  |str b=>obtain⟨t,rfl⟩:=rx; exact SeqAt.EqAt.str_str a t' b t
  |_=>exact absurd (show false=true from fx) aW
 |_=>exact absurd (show false=true from fy) aW
def DF (x:V)(u:Value):Bool:=match u with
 | .none=>LK .eh x
 | .bool b=>LK (.bl b) x
 | .int i _=>LK (.int i) x
 | .str z _=>LK (.str z) x
 |_=>false
def IZ {x y:V}{u:Value}(r:RelV y u)(f:sR y=true):DF x u=LK y x:=by
 cases y with
 |eh=>cases r; rfl
 |bl b=>cases r; rfl
 |int i=>obtain⟨t,rfl⟩:=r; rfl
 |str z=>obtain⟨t,rfl⟩:=r; rfl
 |_=>exact absurd (show false=true from f) aW
def qz {x:V}: ∀{xs:List V} {us:List Value},Vals xs us->xs.all sR=true->us.any (DF x)=xs.any fun y=>LK y x
 |_,_,.nil,_=>rfl
 |y :: xs,u :: us,.cons r t,f=>by
  rw[List.all_cons,ug] at f;rw[tN,tN,IZ r f.1,qz t f.2]
def mR {A:Around}{s:Shared}{x:V}{v:Value}(rx:RelV x v)(fx:sR x=true): ∀{xs:List V} {us:List Value},Vals xs us->xs.all sR=true-> ∀u∈us,SeqAt.EqAt A s u v (DF x u)
 |_,_,.nil,_=>fun u hu=>by cases hu
 |y :: xs,u :: us,.cons r t,f=>fun u' hu=>by
  rw[List.all_cons,ug] at f;rcases aw.mp hu with rfl|hu
  ·rw[IZ r f.1]; exact OA r rx f.1 fx
  ·exact mR rx fx t f.2 u' hu
def wN (x:V)(xs:List V):Bool:=xs.any fun y=>LK y x
def ZJ (K:Frag)(neg:Bool):R2:=fun x y H Q=> ∃p xs,y= .ref p/\(bA K H p xs∨cf K H p xs)/\sR x=true/\xs.all sR=true/\Q (.bl (if neg then !wN x xs else wN x xs)) H
def oa:oA X (compareOp .In) (ZJ X.K false):=by
 intro pins s σ H x y v u Q I rx ry h;obtain⟨p,xs,rfl,hq,fx,fs,q⟩:=h;cases ry;rcases hq with hq|hq
 ·obtain⟨bY,r,pl,hz⟩:=I.list hq;refine SeqAt.in_listAt (DF x) pl.isList (fun w hw=>mR rx fx r fs w (by simpa using hw)) ⟨.bl _,H,I,rfl,?_⟩;rw[show bY.toArray.any (DF x)=bY.any (DF x) by simp,qz r fs];exact q
 ·obtain⟨bY,r,pl,hz⟩:=I.tuple hq;refine SeqAt.in_tupleAt (DF x) pl (fun w hw=>mR rx fx r fs w (by simpa using hw)) ⟨.bl _,H,I,rfl,?_⟩;rw[show bY.toArray.any (DF x)=bY.any (DF x) by simp,qz r fs];exact q
def ze:oA X (compareOp .NotIn) (ZJ X.K true):=by
 intro pins s σ H x y v u Q I rx ry h;obtain⟨p,xs,rfl,hq,fx,fs,q⟩:=h;cases ry;rcases hq with hq|hq
 ·obtain⟨bY,r,pl,hz⟩:=I.list hq;refine SeqAt.notIn_listAt (DF x) pl.isList (fun w hw=>mR rx fx r fs w (by simpa using hw)) ⟨.bl _,H,I,rfl,?_⟩;rw[show bY.toArray.any (DF x)=bY.any (DF x) by simp,qz r fs];exact q
 ·obtain⟨bY,r,pl,hz⟩:=I.tuple hq;refine SeqAt.notIn_tupleAt (DF x) pl (fun w hw=>mR rx fx r fs w (by simpa using hw)) ⟨.bl _,H,I,rfl,?_⟩;rw[show bY.toArray.any (DF x)=bY.any (DF x) by simp,qz r fs];exact q
def zf:gZ X (.builtin "len") (fun xs H Q=> ∃p ys,xs=[.ref p]/\(bA X.K H p ys∨cf X.K H p ys)/\Q (.int ys.length) H):=by
 intro pins s σ H xs us Q I r h;obtain⟨p,ys,rfl,hq,q⟩:=h;obtain⟨u,rfl,rx⟩:=vals1 r;cases rx;have hn:=yZ;rcases hq with hq|hq
 ·obtain⟨bY,r',pl,hz⟩:=I.list hq;have hlen:=r'.length;exact Calls.call_len_list pl.isList (by simp only[List.size_toArray] <;> lia) ⟨.int ys.length,H,I.tok _,⟨s.toks + 1,by rw[List.size_toArray,hlen]⟩,q⟩
 ·obtain⟨bY,r',pl,hz⟩:=I.tuple hq;have hlen:=r'.length;exact len_tuple pl (by simp only[List.size_toArray] <;> lia) ⟨.int ys.length,H,I.tok _,⟨s.toks + 1,by rw[List.size_toArray,hlen]⟩,q⟩
def zh:gZ X (.type "list") (fun xs H Q=> ∃p ys,xs=[.ref p]/\(bA X.K H p ys∨cf X.K H p ys)/\ ∀l,H l=none->Q (.ref l) (upd H l (.lst ys))):=by
 intro pins s σ H xs us Q I r h;obtain⟨p,ys,rfl,hq,q⟩:=h;obtain⟨u,rfl,rx⟩:=vals1 r;cases rx;have fin: ∀(bY:List Value),Vals ys bY->ys.length<=sizeLine-> ∀(h':Heap) (c':Nat),(∀b o',s.heap.get? b=some o'->h'.get? b=some o')->
   h'.get? s.heap.objs.size=some {cls:= .type "list",dict:=none,data:= .seq bY.toArray c',slots:= #[]}->EP X pins σ Q (.ref s.heap.objs.size) {s with heap:=h'}:=fun bY r' hz h' c' kp e=>
  ⟨.ref s.heap.objs.size,_,I.laid (t':=s.toks) kp (aE _) (show dv X.prog X.w _ h' _ (.lst ys) from⟨hz,bY,c',r',e⟩),rfl,q _ (I.cq.fresh (aE _))⟩
 rcases hq with hq|hq
 ·obtain⟨bY,r',pl,hz⟩:=I.list hq;have hlen:=r'.length;obtain⟨o,ho,hc,n,hd⟩:=pl.isList;exact call_list_seq p (.inl rfl) ho hc hd (fun h' c' kp e=>fin bY r' hz h' c' kp e) (by simp only[List.size_toArray] <;> lia)
 ·obtain⟨bY,r',pl,hz⟩:=I.tuple hq;have hlen:=r'.length;obtain⟨o,ho,hc,n,hd⟩:=pl;exact call_list_seq p (.inr rfl) ho hc hd (fun h' c' kp e=>fin bY r' hz h' c' kp e) (by simp only[List.size_toArray] <;> lia)
def wO:gZ X (.type "tuple") (fun xs H Q=> ∃p ys,xs=[.ref p]/\((bA X.K H p ys/\ ∀l,H l=none->Q (.ref l) (upd H l (.tup ys)))∨(cf X.K H p ys/\Q (.ref p) H))):=by
 intro pins s σ H xs us Q I r h;obtain⟨p,ys,rfl,h⟩:=h;obtain⟨u,rfl,rx⟩:=vals1 r;cases rx;rcases h with⟨hq,q⟩|⟨hq,q⟩
 ·obtain⟨bY,r',pl,hz⟩:=I.list hq;have hlen:=r'.length;refine call_tuple_list pl.isList (fun h' kp=>?_) (by simp only[List.size_toArray] <;> lia);have I1:Inv X pins σ H {s with heap:=h'}:=I.kept (t':=s.toks) kp;have I2:Inv X pins σ (upd H h'.objs.size (.tup ys)) {s with heap:=h'.push {cls:= .type "tuple",data:= .seq bY.toArray}}:=
   I1.laid (t':=s.toks) (fun b o e=>ax _ e) (aE _) (show dv X.prog X.w _ _ _ (.tup ys) from⟨hz,bY,r',IsTup.new _ _⟩)
  exact⟨.ref h'.objs.size,_,I2,rfl,q _ (I1.cq.fresh (aE _))⟩
 ·obtain⟨bY,r',pl,hz⟩:=I.tuple hq;exact call_tuple_same pl ⟨.ref p,H,I,rfl,q⟩
def WO (K:Frag)(T:String)(x:V)(H:Hp):Prop:=match x with
 | .str _=>T="str"
 | .int _=>T="int"
 | .ref p=>(T="list"/\ ∃xs,bA K H p xs)∨(T="tuple"/\ ∃o,K.lookup p=some o/\o.cls= .type "tuple"/\o.dict=none)∨
   (T="dict"/\((∃bc,H p=some (.dK bc))∨ ∃bc,H p=some (.dT bc)))∨(T="set"/\ ∃S n,H p=some (.set S n))
 |_=>False
def I9 {pins:List (Addr×Obj)}{σ:St}{H:Hp}{s:Shared}{T:String}{x:V}{v:Value}(I:Inv X pins σ H s)(r:RelV x v)(ty:WO X.K T x H):
  s.TypeIs v T/\ ∀a,v= .ref a-> ∃ob,s.heap.get? a=some ob/\ob.dict=none:=by
 cases x with
 |str z=>
  obtain⟨t,rfl⟩:=r;cases(show T="str" from ty);exact⟨typeIs_str s z t,fun _ e=>nomatch e⟩
 |int i=>
  obtain⟨t,rfl⟩:=r;cases(show T="int" from ty);exact⟨typeIs_int s i t,fun _ e=>nomatch e⟩
 |ref p=>
  cases r;rcases ty with⟨rfl,xs,hq⟩|⟨rfl,o,hk,hc,hd⟩|⟨rfl,hk⟩|⟨rfl,S,n,hk⟩
  ·obtain⟨bY,_,pl,_⟩:=I.list hq;refine⟨pl.isList.typeIs,fun a e=>?_⟩;cases e;obtain⟨o,n,e,c,hd,_⟩:=pl;exact⟨o,e,hd⟩
  ·refine⟨⟨o,I.gH p o hk,hc⟩,fun a e=>?_⟩;cases e;exact⟨o,I.gH _ o hk,hd⟩
  ·have z: ∃o,s.heap.get? p=some o/\o.ExactDict:=by
    rcases hk with⟨bc,hk⟩|⟨bc,hk⟩
    ·obtain⟨_,_,_,_,o,_,_,e,ex,_⟩:=I.cq p _ hk;exact⟨o,e,ex⟩
    ·obtain⟨_,_,_,_,o,_,_,e,ex,_⟩:=I.cq p _ hk;exact⟨o,e,ex⟩
   obtain⟨o,e,ex⟩:=z;refine⟨⟨o,e,ex.1⟩,fun a e2=>?_⟩;cases e2;exact⟨o,e,ex.2.1⟩
  ·obtain⟨o,_,_,_,e,ex,_⟩:=I.cq p _ hk;refine⟨⟨o,e,ex.1⟩,fun a e2=>?_⟩;cases e2;exact⟨o,e,ex.2.1⟩
 |_=>exact False.elim ty
def WQ (K:Frag)(T:String)(r:V->List V->Hp->VK->Prop)(to:TE):TE:=fun σ H Q=>to σ H fun x H1=>WO K T x H1/\r x [] H1 Q
def ZK (K:Frag)(T:String)(r:V->List V->Hp->VK->Prop)(to:TE)(t:TA):TE:=fun σ H Q=>to σ H fun x H1=>WO K T x H1/\t σ H1 fun xs H2=>r x xs H2 Q
variable {o e:Expr}{es:List Expr}{to:TE}{t:TA}{name:Str}{apos gy:Pos}{T id:String}{r:V->List V->Hp->VK->Prop}
def OB (pa:PlainAttrs T)(slot:Slot T name id)(Vm:typeOf (.builtin id)=pure (.type "method_descriptor"))(hm:ZH X id r)(ho:PE X o to)
  (qA:attributeBase o name X.env (eval o X.env)=eval o X.env:=by rfl) (uO:(apos.endLine == gy.line)=true:=by rfl):PE X (.Call (.Attribute o name apos) [] [] gy) (WQ X.K T r to):=by
 intro pins s σ H Q I h;refine wpAny_Call_method0_late qA uO (dO (ho pins s σ H _ I h) fun v s1 ⟨x,H1,I1,r1,ty,q1⟩=>?_);obtain⟨h1,h2⟩:=I9 I1 r1 ty;exact⟨T,id,pa,slot,Vm,h1,h2,iN rfl (PySem.evalArgs_none (hm pins s1 σ H1 x [] v [] Q I1 r1 .nil q1))⟩
def R4 (pa:PlainAttrs T)(slot:Slot T name id)(Vm:typeOf (.builtin id)=pure (.type "method_descriptor"))(hm:ZH X id r)(ho:PE X o to)(ha:PA X (e :: es) t)
  (qA:attributeBase o name X.env (eval o X.env)=eval o X.env:=by rfl)
  (OC:((backTo gy (starEach (e :: es) X.env)).all (fun x=> !x.1) && (backToKw gy (keywordEach [] X.env)).all (fun x=>x.1.isSome)
   && decide ((e :: es).length + ([]:List Keyword).length + (if([]:List Keyword).isEmpty then 0 else 1) < 30))=true:=by rfl)
  (uO:(apos.endLine == gy.line)=true:=by rfl) (hs:starEach (e :: es) X.env=(false,eval e X.env) :: starEach es X.env:=by rfl) (uP:(backTo gy (starEach es X.env)).any (·.1)=false:=by rfl):
  PE X (.Call (.Attribute o name apos) (e :: es) [] gy) (ZK X.K T r to t):=by
 intro pins s σ H Q I h;refine wpAny_Call_method_late qA OC uO rfl (dO (ho pins s σ H _ I h) fun v s1 ⟨x,H1,I1,r1,ty,q1⟩=>?_);obtain⟨h1,h2⟩:=I9 I1 r1 ty;refine⟨T,id,pa,slot,Vm,h1,h2,?_⟩;have hA:=ha gy pins s1 σ H1 _ I1 q1;rw[hs] at hA ⊢;refine iN (by show(false || (backTo gy (starEach es X.env)).any (·.1))=false; rw[uP] <;> rfl) (Ga ?_);exact dO hA fun us s2 ⟨vs,H2,I2,r2,q2⟩=>hm pins s2 σ H2 x vs v us Q I2 r1 r2 q2
end
def ZL (X:Cx)(id:String)(r:V->List V->Hp->VK->Prop):Prop:=
 ∀(pins:List (Addr×Obj)) (s:Shared) (σ:St) (H:Hp) (x:V) (xs:List V) (v:Value) (us:List Value) (Q:VK),Inv X pins σ H s->RelV x v->Vals xs us->r x xs H Q->
  wpAny (model X.prog X.w) X.A (call (.builtin id) (v :: us)) (EP X pins σ Q) X.xe s
def Vals.one: ∀{x:V} {us:List Value},Vals [x] us-> ∃u,us=[u]/\RelV x u
 |_,_,.cons r .nil=>⟨_,rfl,r⟩
def Vals.zero: ∀{us:List Value},Vals [] us->us=[]
 |_,.nil=>rfl
def Vals.dropLast {xs:List V}{us:List Value}(h:Vals xs us):Vals xs.dropLast us.dropLast:=by
 induction h with
 |nil=>exact .nil
 |cons r t ih=>
  cases t with
  |nil=>exact .nil
  |cons q t'=>exact .cons r ih
def Vals.rep {xs:List V}{us:List Value}(h:Vals xs us): ∀k:Nat,Vals (List.replicate k xs).flatten (List.replicate k us).flatten
 |0=> .nil
 |k + 1=>by
  rw[cK,cK,iO,iO];exact Vals.append h (Vals.rep h k)
def DG {α:Type}(l:List α):l.eraseIdx (l.length - 1)=l.dropLast:=by
 induction l with
 |nil=>rfl
 |cons a r ih=>
  cases r with
  |nil=>rfl
  |cons b r=>
   have e:(a :: b :: r).length - 1=((b :: r).length - 1) + 1:=by
    have h1:(a :: b :: r).length=r.length + 2:=rfl;have h2:(b :: r).length=r.length + 1:=rfl;lia
   rw[e,List.eraseIdx_cons_succ,ih]
   all_goals rfl
def foldl_rep (bY:List Value): ∀(k:Nat) (acc:List Value),
  List.foldl (fun x1 x2=>x1 ++ x2) acc.toArray (List.replicate k bY.toArray)=(acc ++ (List.replicate k bY).flatten).toArray
 |0,acc=>by simp
 |k + 1,acc=>by
  have e:acc.toArray ++ bY.toArray=(acc ++ bY).toArray:=by simp
  have e2:(acc ++ bY) ++ (List.replicate k bY).flatten=acc ++ (List.replicate (k + 1) bY).flatten:=by
   rw[cK,iO,eG]
  rw[← e2,← foldl_rep bY k (acc ++ bY),← e,cK,fL]
section
variable {X:Cx}{pins:List (Addr×Obj)}{σ:St}{H:Hp}{s:Shared}{l b:Addr}{xs ys zs:List V}
def Inv.R5 {bY qu:List Value}{n:Nat}{f:Array Value->Array Value}{t':Nat}(I:Inv X pins σ H s)(hH:H l=some (.lst xs))
  (e:s.heap.get? l=some {cls:= .type "list",data:= .seq bY.toArray n}) (hf:f bY.toArray=qu.toArray) (hv:Vals ys qu) (hz:ys.length<=sizeLine):
  Inv X pins σ (upd H l (.lst ys)) {s with heap:=s.heap.update l (Obj.mapSeq f),toks:=t'}:=by
 have q:=PySem.IsL.update e f;rw[hf] at q;refine I.write (x:=l) (e:=l) (by rw[hH]; exact trivial) (.inl rfl) (fun b' u hb hu=>(mK s.heap (Obj.mapSeq f) (wC hb)).trans hu) ⟨_,q⟩ ?_;exact⟨hz,qu,_,hv,q⟩
def Inv.OD {bY:List Value}{t':Nat}(I:Inv X pins σ H s)(hv:Vals ys bY)(hz:ys.length<=sizeLine):
  Inv X pins σ (upd H s.heap.objs.size (.lst ys)) {s with heap:=s.heap.push {cls:= .type "list",data:= .seq bY.toArray},toks:=t'}:=
 I.laid (fun _ _ q=>ax _ q) (aE _) ⟨hz,bY,0,hv,bL _ rfl⟩
def Inv.fresh (I:Inv X pins σ H s):H s.heap.objs.size=none:=I.cq.fresh (aE _)
def Inv.Ja (I:Inv X pins σ H s)(hH:H l=some (.lst xs)):xs.length<=sizeLine/\ ∃(bY:List Value) (n:Nat),Vals xs bY/\xs.length=bY.length/\s.heap.get? l=some {cls:= .type "list",data:= .seq bY.toArray n}:=by
 obtain⟨z,bY,n,r,e⟩:=I.cq l _ hH;exact⟨z,bY,n,r,r.length,e⟩
def Jb {n:Nat}(h:n<=sizeLine):Builtin.List.listTooLong n=false:=by
 unfold Builtin.List.listTooLong;exact bp (by lia)
end
section
variable {X:Cx}
inductive WR (x:V)(vs:List V)(H:Hp)(k:Addr->List V->V->Prop):Prop
 |mk (l:Addr)(xs:List V)(y:V)(h1:x= .ref l)(h2:vs=[y])(h3:H l=some (.lst xs))(h4:xs.length < sizeLine)(q:k l xs y):WR x vs H k
def EY:V->List V->Hp->VK->Prop:=fun x vs H Q=>WR x vs H fun l xs y=>Q .eh (upd H l (.lst (xs ++ [y])))
def yd:ZL X "list.append" EY:=by
 intro pins s σ H x vs v us Q I rx rv h;obtain⟨l,xs,y,rfl,rfl,hH,hz,q⟩:=h;cases rx;obtain⟨u,rfl,ru⟩:=rv.one;obtain⟨z,bY,n,r,hl,e⟩:=I.Ja hH;refine call_meets F.slot_list_append ⟨_,e,rfl⟩ F.entry_list_append (F.args_list_append_2 _ _) (PySem.list_append l bY.toArray n u (by rw[bB]; lia)) ⟨e,?_⟩;refine⟨.eh,_,I.R5 (qu:=bY ++ [u]) hH e (by simp) (r.append (.cons ru .nil)) ?_,rfl,q⟩;rw[aC,List.length_singleton];lia
def WS:V->List V->Hp->VK->Prop:=fun x vs H Q=> ∃l xs y,x= .ref l/\vs=[]/\H l=some (.lst xs)/\xs[xs.length - 1]? =some y/\Q y (upd H l (.lst xs.dropLast))
def OE:ZL X "list.pop" WS:=by
 intro pins s σ H x vs v us Q I rx rv h;obtain⟨l,xs,y,rfl,rfl,hH,hy,q⟩:=h;cases rx;have R6:=rv.zero;subst R6;obtain⟨z,bY,n,r,hl,e⟩:=I.Ja hH;obtain⟨u,hu,ru⟩:=r.get hy;have hy':bY.toArray[bY.toArray.size - 1]? =some u:=by
  show bY.toArray[bY.length - 1]? =some u;rw[← Array.getElem?_toList,← hl];exact hu
 refine call_meets F.slot_list_pop ⟨_,e,rfl⟩ F.entry_list_pop (F.args_list_pop_1 _) (MeetsSeq.list_pop_last l bY.toArray n u hy' (by rw[bB]; lia)) ⟨e,?_⟩;refine⟨y,_,I.R5 (qu:=bY.dropLast) hH e ?_ r.dropLast ?_,ru,q⟩
 ·show bY.toArray.eraseIdxIfInBounds (bY.toArray.size - 1)=bY.dropLast.toArray;rw[bB,List.eraseIdxIfInBounds_toArray,DG]
 ·rw[List.length_dropLast];lia
inductive ZM (x y:V)(H:Hp)(Q:VK):Prop
 |mk (l b:Addr)(xs zs:List V)(h1:x= .ref l)(h2:y= .ref b)(h3:H l=some (.lst xs))(h4:H b=some (.lst zs))(z:xs.length + zs.length<=sizeLine)(q: ∀p,H p=none->Q (.ref p) (upd H p (.lst (xs ++ zs)))):ZM x y H Q
def R7:R2:=ZM
def mS:oA X (binaryOp .Add) R7:=by
 intro pins s σ H x y v u Q I rx ry h;obtain⟨l,b,xs,zs,rfl,rfl,hH,hB,hz,q⟩:=h;cases rx;cases ry;obtain⟨z,bY,n,r,hl,e⟩:=I.Ja hH;obtain⟨z2,Gz,n2,r2,Vn,e2⟩:=I.Ja hB;refine PySem.P.add_list e e2 ?_ (by rw[bB,bB]; lia);have ea:bY.toArray ++ Gz.toArray=(bY ++ Gz).toArray:=by simp
 rw[ea];exact⟨.ref _,_,I.OD (t':=s.toks) (r.append r2) (by rw[aC]; lia),rfl,q _ I.fresh⟩
def R8:R2:=fun x y H Q=> ∃l k xs,x= .ref l/\y= .int k/\H l=some (.lst xs)/\ -(2 ^ 63)<=k/\k < 2 ^ 63/\xs.length * k.toNat<=sizeLine/\
 ∀p,H p=none->Q (.ref p) (upd H p (.lst (List.replicate k.toNat xs).flatten))
def len_rep {α:Type}(xs:List α)(k:Nat):(List.replicate k xs).flatten.length=k * xs.length:=by
 induction k with
 |zero=>simp
 |succ k ih=>rw[cK,iO,aC,ih,wF,Nat.add_comm]
def zi:oA X (binaryOp .Mult) R8:=by
 intro pins s σ H x y v u Q I rx ry h;obtain⟨l,k,xs,rfl,rfl,hH,h1,h2,hz,q⟩:=h;cases rx;obtain⟨t,rfl⟩:=ry;obtain⟨z,bY,n,r,hl,e⟩:=I.Ja hH;have hlen:bY.toArray.size * k.toNat<=sizeLine:=by rw[bB,← hl]; exact hz
 have WT: ¬ bY.toArray.size * k.toNat > (2 ^ 63 - 1) / 8:=by
  have:(sizeLine:Nat)<=(2 ^ 63 - 1) / 8:=by decide
  lia
 have WU: ¬ (!Builtin.List.listFitsIndex k)=true:=by
  rw[fitsIndex_both h1 h2];exact aW
 have R9: ¬ Builtin.List.listTooLong (bY.toArray.size * k.toNat)=true:=by
  rw[Jb hlen];exact aW
 have WV:List.foldl (fun x1 x2=>x1 ++ x2) #[] (List.replicate (if bY.toArray.isEmpty=true then 0 else k.toNat) bY.toArray)=(List.replicate k.toNat bY).flatten.toArray:=by
  have f0: ∀m:Nat,List.foldl (fun x1 x2=>x1 ++ x2) #[] (List.replicate m bY.toArray)=(List.replicate m bY).flatten.toArray:=fun m=>by
   have:=foldl_rep bY m [];rw[List.nil_append] at this;exact this
  rw[f0];cases bY with
  |nil=>simp
  |cons a r'=>rw[if_neg (by simp)]
 refine wpAny_binaryOp_repeat_ref (T:="list") (U:="int") (by decide) ⟨_,e,rfl⟩ (fun s'=>typeIs_int s' k t) noFill_list_mul F.fills_int_mul F.slot_int_rmul repeat_list F.slot_int_index.lookup
  (call_meets F.slot_int_rmul (typeIs_int s k t) F.entry_int_rmul (F.args_int_rmul_2 _ _) (int___rmul___int_list k t l bY.toArray n)
   ⟨e,rfl,⟨_,e,rfl⟩,call_meets F.slot_list_mul ⟨_,e,rfl⟩ F.entry_list_mul (F.args_list_mul_2 _ _) (AutoListH.list___mul___list_int_3 l bY.toArray n k t WU WT R9) ⟨e,?_⟩⟩)
 rw[WV];exact⟨.ref _,_,I.OD (t':=s.toks) (r.rep k.toNat) (by rw[len_rep,Nat.mul_comm]; exact hz),rfl,q _ I.fresh⟩
end
section
variable {prog:Program}{w:World}{A:Around}{E:Value->Shared->Prop}{s:Shared}
end
section
variable {X:Cx}
end
section
variable {κ:Type}[DecidableEq κ]
def fZ (bc:List (κ×V))(k:κ):Option V:=(bc.find? fun kv=>decide (kv.1=k)).map (·.2)
def putK (bc:List (κ×V))(k:κ)(v:V):List (κ×V):=
 if(bc.any fun kv=>decide (kv.1=k))=true then bc.map (fun kv=>if kv.1=k then(kv.1,v) else kv) else bc ++ [(k,v)]
def k9 (bc:List (κ×V))(k:κ):List (κ×V):=bc.filter fun kv=>decide (kv.1≠k)
def fE {p:κ×V}{r:List (κ×V)}{k:κ}(e:p.1=k):fZ (p :: r) k=some p.2:=by simp[fZ,List.find?_cons,e]
def fh {p:κ×V}{r:List (κ×V)}{k:κ}(e: ¬ p.1=k):fZ (p :: r) k=fZ r k:=by simp[fZ,List.find?_cons,e]
def mT (k:κ): ∀bc:List (κ×V),(bc.any fun kv=>decide (kv.1=k))=(fZ bc k).isSome
 |[]=>rfl
 |p :: r=>by
  rw[tN];by_cases e:p.1=k
  ·simp only[fE e,decide_eq_true e,Bool.true_or,Option.isSome_some]
  ·rw[fh e,bp e,Bool.false_or]; exact mT k r
def Bu (k j:κ)(y:V): ∀bc:List (κ×V),fZ (bc.map fun kv=>if kv.1=k then(kv.1,y) else kv) j=(fZ bc j).map fun x=>if j=k then y else x
 |[]=>rfl
 |p :: r=>by
  have ih:=Bu k j y r;rw[cZ];by_cases h:p.1=k
  ·rw[a8 h];by_cases e:p.1=j
   ·rw[fE (p:=(p.1,y)) e,fE e,ow,a8 (e.symm.trans h)]
   ·rw[fh (p:=(p.1,y)) e,fh e,ih]
  ·rw[aU h];by_cases e:p.1=j
   ·rw[fE (p:=p) e,fE e,ow,aU (fun z=>h (e.trans z))]
   ·rw[fh (p:=p) e,fh e,ih]
def ye (k j:κ)(y:V): ∀bc:List (κ×V),fZ bc k=none->fZ (bc ++ [(k,y)]) j=if j=k then some y else fZ bc j
 |[],_=>by
  by_cases e:k=j
  ·rw[a8 e.symm]; exact fE (p:=(k,y)) e
  ·rw[aU (fun z=>e z.symm)]; exact fh (p:=(k,y)) e
 |p :: r,hn=>by
  rw[List.cons_append];have hk: ¬ p.1=k:=fun z=>by rw[fE z] at hn; cases hn
  rw[fh hk] at hn;have ih:=ye k j y r hn;by_cases e:p.1=j
  ·rw[fE e,fE e,aU (fun z=>hk (e.trans z))]
  ·rw[fh e,fh e,ih]
def Jc (bc:List (κ×V))(k j:κ)(y:V):fZ (putK bc k y) j=if j=k then some y else fZ bc j:=by
 unfold putK;by_cases a:(bc.any fun kv=>decide (kv.1=k))=true
 ·rw[a8 a,Bu];rw[mT] at a;by_cases e:j=k
  ·obtain⟨x,hx⟩:=QM.mp a;rw[a8 e,e,hx,ow,a8 rfl]
  ·rw[aU e];cases fZ bc j with
   |none=>rfl
   |some x=>rw[ow,aU e]
 ·rw[aU a];refine ye k j y bc ?_;rw[mT] at a;cases q:fZ bc k with
  |none=>rfl
  |some x=>rw[q] at a; exact(a rfl).elim
def kq (bc:List (κ×V))(k:κ)(v:V):(putK bc k v).length<=bc.length + 1:=by
 unfold putK;split
 ·rw[ae]; lia
 ·rw[aC,bS,wG]; lia
def Jd {bc:List (κ×V)}{k:κ}(v:V)(h:fZ bc k=none):putK bc k v=bc ++ [(k,v)]:=by
 unfold putK;rw[mT,h];exact aU (by decide)
def k7.lg {o:Option V}{u:Option Value}(r:k7 o u):o.isSome=u.isSome:=by
 cases o with
 |none=>cases u with
  |none=>rfl
  |some _=>exact(show False from r).elim
 |some _=>cases u with
  |none=>exact(show False from r).elim
  |some _=>rfl
def KV.val {bc:List (κ×V)}{vs:List (κ×Value)}(r:KV bc vs)(k:κ):k7 (fZ bc k) (valueAt vs k):=by
 unfold KV at r
 induction r with
 |nil=>exact True.intro
 | @cons p q ps qs h t ih=>
  obtain⟨h1,h2⟩:=h;by_cases e:p.1=k
  ·have e':q.1=k:=h1.symm.trans e;have b:valueAt (q :: qs) k=some q.2:=by simp[valueAt,List.find?_cons,e']
   rw[fE e,b]; exact h2
  ·have e': ¬ q.1=k:=fun z=>e (h1.trans z);have b:valueAt (q :: qs) k=valueAt qs k:=by simp[valueAt,List.find?_cons,e']
   rw[fh e,b]; exact ih
def KV.any {bc:List (κ×V)}{vs:List (κ×Value)}(r:KV bc vs)(k:κ):(bc.any fun kv=>decide (kv.1=k))=vs.any fun kv=>decide (kv.1=k):=by
 unfold KV at r
 induction r with
 |nil=>rfl
 |cons h t ih=>rw[tN,tN,ih,h.1]
def KV.OF {bc:List (κ×V)}{vs:List (κ×Value)}(r:KV bc vs)(k:κ){y:V}{u:Value}(ry:RelV y u):
  KV (bc.map fun kv=>if kv.1=k then(kv.1,y) else kv) (vs.map fun kv=>if kv.1=k then(kv.1,u) else kv):=by
 unfold KV at r ⊢
 induction r with
 |nil=>exact .nil
 | @cons p q ps qs h t ih=>
  rw[cZ,cZ];refine .cons ?_ ih;obtain⟨h1,h2⟩:=h;by_cases e:p.1=k
  ·rw[a8 e,a8 (h1.symm.trans e)]; exact⟨h1,ry⟩
  ·rw[aU e,aU (fun z=>e (h1.trans z))]; exact⟨h1,h2⟩
def KV.put {bc:List (κ×V)}{vs:List (κ×Value)}(r:KV bc vs)(k:κ){y:V}{u:Value}(ry:RelV y u):KV (putK bc k y) (stored vs k u):=by
 unfold putK stored;rw[r.any k];by_cases e:(vs.any fun kv=>decide (kv.1=k))=true
 ·rw[a8 e,a8 e]; exact r.OF k ry
 ·rw[aU e,aU e]; exact cy r ⟨rfl,ry⟩
def KV.drop {bc:List (κ×V)}{vs:List (κ×Value)}(r:KV bc vs)(k:κ):KV (k9 bc k) (without vs k):=by
 unfold KV at r ⊢;unfold k9 without
 induction r with
 |nil=>exact .nil
 | @cons p q ps qs h t ih=>
  obtain⟨h1,h2⟩:=h;rw[List.filter_cons,List.filter_cons];by_cases e:p.1=k
  ·have a: ¬ decide (p.1≠k)=true:=by simp[e]
   have b: ¬ decide (q.1≠k)=true:=by simp[h1.symm.trans e]
   rw[aU a,aU b]; exact ih
  ·have e': ¬ q.1=k:=fun z=>e (h1.trans z);have a:decide (p.1≠k)=true:=by simp[e]
   have b:decide (q.1≠k)=true:=by simp[e']
   rw[a8 a,a8 b]; exact .cons ⟨h1,h2⟩ ih
def KV.length {bc:List (κ×V)}{vs:List (κ×Value)}(r:KV bc vs):bc.length=vs.length:=aL r
def Je (bc:List (κ×V))(k:κ):(k9 bc k).length<=bc.length:=aX _ _
end
def uQ {P:Program}{w:World}{k:Key}{u:Value}(r:RelV (kV k) u):(dP P w).is k u=true:=by
 cases k with
 |inl i=>obtain⟨t,e⟩:=(show ∃t,u=Value.int i t from r); subst e; exact Ba P w i t
 |inr x=>obtain⟨t,e⟩:=(show ∃t,u=Value.str x t from r); subst e; exact Bb P w x t
def yf {P:Program}{w:World}: ∀{ks:List Key} {us:List Value},Vals (ks.map kV) us->ItemsAre (dP P w) ks us
 |[],_,r=>by rw[qf] at r; cases r; exact .nil
 |k :: ks,_,r=>by
  rw[cZ] at r;cases r with
  |cons h t=>exact .cons (uQ h) (yf t)
abbrev KT (H:Hp):List (List Key×V)->List (List Key×Addr×Value)->Prop:=Paired fun p q=>p.1=q.1/\H q.2.1=some (.tup (p.1.map kV))/\RelV p.2 q.2.2
def KT.val {H:Hp}{bc:List (List Key×V)}{xs:List (List Key×Addr×Value)}(r:KT H bc xs)(k:List Key):k7 (fZ bc k) ((atKey xs k).map (·.2)):=by
 induction r with
 |nil=>exact True.intro
 | @cons p q ps qs h t ih=>
  obtain⟨h1,_,h2⟩:=h;by_cases e:p.1=k
  ·have e':q.1=k:=h1.symm.trans e;have b:atKey (q :: qs) k=some q.2:=by simp[atKey,List.find?_cons,e']
   rw[fE e,b]; exact h2
  ·have e': ¬ q.1=k:=fun z=>e (h1.trans z);have b:atKey (q :: qs) k=atKey qs k:=by simp[atKey,List.find?_cons,e']
   rw[fh e,b]; exact ih
def KT.OF {H:Hp}{bc:List (List Key×V)}{xs:List (List Key×Addr×Value)}(r:KT H bc xs)(k:List Key){y:V}{u:Value}(ry:RelV y u):
  KT H (bc.map fun kv=>if kv.1=k then(kv.1,y) else kv) (xs.map (putAt k u)):=by
 induction r with
 |nil=>exact .nil
 | @cons p q ps qs h t ih=>
  rw[cZ,cZ];refine .cons ?_ ih;obtain⟨h1,h2,h3⟩:=h;unfold putAt;by_cases e:p.1=k
  ·rw[a8 e,a8 (h1.symm.trans e)]; exact⟨h1,h2,ry⟩
  ·rw[aU e,aU (fun z=>e (h1.trans z))]; exact⟨h1,h2,h3⟩
def KT.put {H:Hp}{bc:List (List Key×V)}{xs:List (List Key×Addr×Value)}(r:KT H bc xs)(k:List Key){b:Addr}{y:V}{u:Value}(hb:H b=some (.tup (k.map kV)))(ry:RelV y u):
  KT H (putK bc k y) (storedH xs k b u):=by
 have e:(bc.any fun kv=>decide (kv.1=k))=(atKey xs k).isSome:=by
  rw[mT,(r.val k).lg,Gb]
 unfold putK storedH;rw[e];by_cases q:(atKey xs k).isSome=true
 ·rw[a8 q,a8 q]; exact r.OF k ry
 ·rw[aU q,aU q]; exact cy r ⟨rfl,hb,ry⟩
def KT.keeps {H H':Hp}{bc:List (List Key×V)}{xs:List (List Key×Addr×Value)}(r:KT H bc xs)(ht: ∀b ys,H b=some (.tup ys)->H' b=some (.tup ys)):KT H' bc xs:=
 Paired.gI r fun _ _ z=>⟨z.1,ht _ _ z.2.1,z.2.2⟩
section
variable {P:Program}{w:World}{H:Hp}{h:Heap}{a:Addr}
def Nn {u:HO}(ok:oz P w H h)(e:Rd H a u):dv P w H h a u:=e.ok ok
def uR {bc:List (Key×V)}(ok:oz P w H h)(e:Rd H a (.dK bc)):bc.length<=sizeLine/\(a == sysModules)=false/\ ∃vs,KV bc vs/\h.DictOf (dP P w) a vs:=
 show dv P w H h a (.dK bc) from Nn ok e
def EZ {bc:List (Key×V)}(ok:oz P w H h)(e:H a=some (.dK bc)):bc.length<=sizeLine/\(a == sysModules)=false/\ ∃vs,KV bc vs/\h.DictOf (dP P w) a vs:=uR ok (.inl e)
def uS {ks:List Key}(ok:oz P w H h)(e:H a=some (.tup (ks.map kV))):(tupleKind (dP P w)).is h ks a:=by
 obtain⟨_,bY,r,o,h1,h2,n,h3⟩:=(show dv P w H h a (.tup (ks.map kV)) from ok a _ e);exact⟨o,bY.toArray,n,h1,h2,h3,by simpa using yf r⟩
def yg {bc:List (List Key×V)}(ok:oz P w H h)(e:Rd H a (.dT bc)):bc.length<=sizeLine/\(a == sysModules)=false/\
  ∃xs,KT H bc xs/\h.DictOfH (tupleKind (dP P w)) a xs:=by
 obtain⟨z,y,xs,r,o,es,ep,h1,h2,h3,h4,h5⟩:=(show dv P w H h a (.dT bc) from Nn ok e);refine⟨z,y,xs,r,o,es,ep,h1,h2,h3,h4,fun x hx=>?_,h5⟩;have all: ∀{l:List (List Key×V)} {m:List (List Key×Addr×Value)},KT H l m-> ∀x∈m,(tupleKind (dP P w)).is h x.1 x.2.1:=by
  intro l m q
  induction q with
  |nil=>intro x hx; exact nomatch hx
  | @cons p q ps qs hq t ih=>
   intro x hx;rcases aw.mp hx with e|hx
   ·subst e;exact uS ok (by rw[← hq.1]; exact hq.2.1)
   ·exact ih x hx
 exact all r x hx
def Sa {bc:List (List Key×V)}(ok:oz P w H h)(e:H a=some (.dT bc)):bc.length<=sizeLine/\(a == sysModules)=false/\
  ∃xs,KT H bc xs/\h.DictOfH (tupleKind (dP P w)) a xs:=yg ok (.inl e)
end
def mG (H:Hp)(a:Addr)(y:V)(r:Option V):Prop:=
 (∃bc k,Rd H a (.dK bc)/\y=kV k/\r=fZ bc k)∨ ∃bc k b,Rd H a (.dT bc)/\y= .ref b/\H b=some (.tup (k.map kV))/\r=fZ bc k
def GA (H:Hp)(a:Addr)(y v:V)(H':Hp):Prop:=
 (∃bc k,H a=some (.dK bc)/\y=kV k/\bc.length < sizeLine/\H'=upd H a (.dK (putK bc k v)))∨
 ∃bc k b,H a=some (.dT bc)/\y= .ref b/\H b=some (.tup (k.map kV))/\bc.length < sizeLine/\H'=upd H a (.dT (putK bc k v))
def mG.k {H:Hp}{a:Addr}{bc:List (Key×V)}{k:Key}(e:H a=some (.dK bc)):mG H a (kV k) (fZ bc k):= .inl ⟨bc,k,.inl e,rfl,rfl⟩
def GA.k {H:Hp}{a:Addr}{bc:List (Key×V)}{k:Key}{v:V}(e:H a=some (.dK bc))(hl:bc.length < sizeLine):GA H a (kV k) v (upd H a (.dK (putK bc k v))):= .inl ⟨bc,k,e,rfl,hl,rfl⟩
section
variable {X:Cx}{pins:List (Addr×Obj)}{σ:St}{H:Hp}{s:Shared}{a:Addr}{y v:V}{u r:Value}{o:Option V}{A:Around}{E:Value->Shared->Prop}
def Inv.big (I:Inv X pins σ H s):sysModules < s.heap.objs.size:=by
 have h:mainGlobals < s.heap.objs.size:=(I.mod.glob.keeps I.bk).lt;exact Nat.lt_trans (by decide) h
def GB {Q:Value->Shared->Prop}(hu:A.units + 1 < cLine)(I:Inv X pins σ H s)(g:mG H a y (some v))(ry:RelV y u)(h: ∀w' s',Inv X pins σ H s'->RelV v w'->Q w' s'):
  wpAny (model X.prog X.w) A (getItem (.ref a) u) Q E s:=by
 rcases g with⟨bc,k,e,ey,l⟩|⟨bc,k,b,e,ey,eb,l⟩
 ·subst ey;obtain⟨z,hd,vs,rel,dd⟩:=uR I.cq e;obtain⟨w',hw,Gy⟩:=k7.some_of (v:=v) (o:=valueAt vs k) (by rw[l]; exact rel.val k);exact wpAny_getItem_of (uQ ry) dd.mapOf hw (h w' _ (I.tok _) Gy)
 ·subst ey;cases(show u=Value.ref b from ry);obtain⟨z,hd,xs,rel,dd⟩:=yg I.cq e;obtain⟨w',hw,Gy⟩:=k7.some_of (v:=v) (o:=(atKey xs k).map (·.2)) (by rw[l]; exact rel.val k);obtain⟨p,hp,tQ⟩:=bo.mp hw;refine wpAny_getItem_heap (uh hu) (uS I.cq eb) dd hp ?_;rw[tQ];exact h w' _ (I.tok _) Gy
def WW {Q:Value->Shared->Prop}(hu:A.units + 1 < cLine)(I:Inv X pins σ H s)(g:mG H a y o)(ry:RelV y u)(h: ∀s',Inv X pins σ H s'->Q (.bool o.isSome) s'):
  wpAny (model X.prog X.w) A (compareOp .In u (.ref a)) Q E s:=by
 rcases g with⟨bc,k,e,ey,l⟩|⟨bc,k,b,e,ey,eb,l⟩
 ·subst ey;obtain⟨z,hd,vs,rel,dd⟩:=uR I.cq e;refine wpAny_in_of (uQ ry) hd dd.mapOf ?_;rw[← (rel.val k).lg,← l];exact h _ (I.tok _)
 ·subst ey;cases(show u=Value.ref b from ry);obtain⟨z,hd,xs,rel,dd⟩:=yg I.cq e;refine wpAny_in_heap (uh hu) (uS I.cq eb) hd dd ?_;have q:=(rel.val k).lg;rw[Gb] at q;rw[← q,← l];exact h _ (I.tok _)
def LL {Q:Value->Shared->Prop}(hu:A.units + 1 < cLine)(I:Inv X pins σ H s)(g:mG H a y o)(ry:RelV y u)(h: ∀s',Inv X pins σ H s'->Q (.bool (!o.isSome)) s'):
  wpAny (model X.prog X.w) A (compareOp .NotIn u (.ref a)) Q E s:=by
 rcases g with⟨bc,k,e,ey,l⟩|⟨bc,k,b,e,ey,eb,l⟩
 ·subst ey;obtain⟨z,hd,vs,rel,dd⟩:=uR I.cq e;refine wpAny_notIn_of (uQ ry) hd dd.mapOf ?_;rw[← (rel.val k).lg,← l];exact h _ (I.tok _)
 ·subst ey;cases(show u=Value.ref b from ry);obtain⟨z,hd,xs,rel,dd⟩:=yg I.cq e;refine wpAny_notIn_heap (uh hu) (uS I.cq eb) hd dd ?_;have q:=(rel.val k).lg;rw[Gb] at q;rw[← q,← l];exact h _ (I.tok _)
def uk {h':Heap}{t':Nat}{ob:HO}(I:Inv X pins σ H s)(mu:RA (H a))(hs:Heap.SameBut a s.heap h')(he: ∃q,h'.get? a=some q)(new:dv X.prog X.w (upd H a ob) h' a ob):
  Inv X pins σ (upd H a ob) {s with heap:=h',toks:=t'}:=
 I.write (x:=a) (e:=a) mu (.inl rfl) (fun b q hb z=>(hs.2 b hb).trans z) he new
def zj {P:Program}{w:World}{H':Hp}{h':Heap}{bc:List (Key×V)}{vs:List (Key×Value)}(z:bc.length<=sizeLine)(hd:(a == sysModules)=false)(rel:KV bc vs)(dd:h'.DictOf (dP P w) a vs):
  dv P w H' h' a (.dK bc):=⟨z,hd,vs,rel,dd⟩
def GC {H':Hp}{Q:Unit->Shared->Prop}(hu:A.units + 1 < cLine)(I:Inv X pins σ H s)(g:GA H a y v H')(ry:RelV y u)(rv:RelV v r)(h: ∀s',Inv X pins σ H' s'->Q () s'):
  wpAny (model X.prog X.w) A (setItem (.ref a) u r) Q E s:=by
 rcases g with⟨bc,k,e,ey,l,eH⟩|⟨bc,k,b,e,ey,eb,l,eH⟩
 ·subst ey eH;obtain⟨z,hd,vs,rel,dd⟩:=EZ I.cq e;have hz:vs.length<=sizeLine:=by rw[← rel.length]; exact z
  have hl:(putK bc k v).length<=sizeLine:=by have:=kq bc k v; lia
  refine wpAny_setItem_pairs (hsz:=hz) (uQ ry) dd fun h' E1 hs=>h _ ?_;have he: ∃q,h'.get? a=some q:=let⟨q,_,_,hq,_⟩:=E1; ⟨q,hq⟩
  exact uk I (by rw[e]; exact True.intro) hs he (zj hl hd (rel.put k rv) E1)
 ·subst ey eH;cases(show u=Value.ref b from ry);obtain⟨z,hd,xs,rel,dd⟩:=Sa I.cq e;have hz:xs.length<=sizeLine:=by rw[← aL rel]; exact z
  have hl:(putK bc k v).length<=sizeLine:=by have:=kq bc k v; lia
  refine wpAny_setItem_heap (hsz:=hz) (uh hu) (uS I.cq eb) dd fun h' E1 hs=>h _ ?_;obtain⟨q,es,ep,hq,h2,h3,h4,_,h5⟩:=E1;refine uk I (by rw[e]; exact True.intro) hs ⟨q,hq⟩ ⟨hl,hd,_,(rel.put k eb rv).keeps fun c ys ec=>?_,q,es,ep,hq,h2,h3,h4,h5⟩;rw[az (mr ec e (fun z=>nomatch z))];exact ec
end
section
variable {X:Cx}{pins:List (Addr×Obj)}{σ:St}{H:Hp}{s:Shared}{a:Addr}{bc:List (Key×V)}{k:Key}{u:Value}{A:Around}{E:Value->Shared->Prop}
def Sb {v:V}{more:List Value}{Q:Value->Shared->Prop}(I:Inv X pins σ H s)(e:H a=some (.dK bc))(ry:RelV (kV k) u)(l:fZ bc k=some v)(hm:more=[]∨ ∃x,more=[x])
  (h: ∀w' s',Inv X pins σ (upd H a (.dK (k9 bc k))) s'->RelV v w'->Q w' s'):wpAny (model X.prog X.w) A (call (.builtin "dict.pop") (.ref a :: u :: more)) Q E s:=by
 obtain⟨z,hd,vs,rel,dd⟩:=EZ I.cq e;obtain⟨w',hw,Gy⟩:=k7.some_of (v:=v) (o:=valueAt vs k) (by rw[← l]; exact rel.val k);have hp:(keyPart u).isSome=true:=by
  cases k with
  |inl i=>obtain⟨t,q⟩:=(show ∃t,u=Value.int i t from ry); subst q; rfl
  |inr x=>obtain⟨t,q⟩:=(show ∃t,u=Value.str x t from ry); subst q; rfl
 have ha:argsOk "dict.pop" ⟨.ref a :: u :: more,[]⟩:=by
  rcases hm with q|⟨x,q⟩
  ·subst q; exact PySem.F.args_dict_pop_2 _ _
  ·subst q; exact PySem.F.args_dict_pop_3 _ _ _
 refine call_meetsIn PySem.F.slot_dict_pop dd.typeIs PySem.F.entry_dict_pop ha (meets_dict_pop_there (dP X.prog X.w) a (uQ ry) more hm hp)
  ⟨vs,w',dd,by rw[← rel.length]; exact z,hw,fun h' E1 hs=>h w' _ ?_ Gy⟩
 have he: ∃q,h'.get? a=some q:=let⟨q,_,_,hq,_⟩:=E1; ⟨q,hq⟩
 exact uk I (by rw[e]; exact True.intro) hs he (zj (aY (Je bc k) z) hd (rel.drop k) E1)
end
def Sd (i:Expr):Prop:= ∀ov iv,subscripted i false ov iv=operate [ov,iv] (getItem ov iv)
def LM {prog:Program}{w:World}{A:Around}{E:Value->Shared->Prop}{s:Shared}{env:Env}{value slice:Expr}{pos:Pos}{T id:String}{Q:Value->Shared->Prop}
  (hl:typeLookup (.type T) "__getitem__"=pure (some (.builtin id))) (hs:Sd slice)
  (h:wpAny (model prog w) A (eval value env) (fun o s₁=>wpAny (model prog w) A (eval slice env) (fun i s₂=>s₂.TypeIs o T/\wpAny (model prog w) A (getItem o i) Q E s₂) E s₁) E s):
  wpAny (model prog w) A (eval (.Subscript value slice pos) env) Q E s:=by
 refine Subscript_ (b9 h (fun o s₁ h₁=>b9 h₁ (fun i s₂ h₂=>?_) fun _ _ x=>x) fun _ _ x=>x);obtain⟨hT,h₂⟩:=h₂;unfold subscriptTail;refine aA ?_;rw[getitemInPython_of_ne hT.not_modules];refine aA (wpAny_specialOf hT hl ?_);have fin:wpAny (model prog w) A (subscripted slice false o i) (fun r s₃=>wpAny (model prog w) A (letTemporaryGo value o r >>=fun _=>pure r) Q E s₃) E s₂:=by
  rw[hs o i];exact wpAny_operating (b9 h₂ (fun r s₃ h₃=>aA (wpAny_letTemporaryGo (bE h₃))) fun _ _ x=>x)
 first
  |exact bE (aA fin)
  |exact aA (bE (aA fin))
  |exact aA fin
def Bv {X:Cx}{pins:List (Addr×Obj)}{σ:St}{H:Hp}{s:Shared}{a:Addr}{y:V}{o:Option V}(I:Inv X pins σ H s)(g:mG H a y o):s.TypeIs (.ref a) "dict":=by
 rcases g with⟨bc,k,e,_,_⟩|⟨bc,k,b,e,_,_,_⟩
 ·obtain⟨_,_,vs,_,dd⟩:=uR I.cq e;exact dd.typeIs
 ·obtain⟨_,_,xs,_,dd⟩:=yg I.cq e;exact dd.typeIs
inductive ZN (x y:V)(H:Hp)(k:V->Prop):Prop
 |mk (a:Addr)(v:V)(h1:x= .ref a)(h2:mG H a y (some v))(q:k v):ZN x y H k
def Se (td ty:TE):TE:=fun σ H Q=>td σ H fun x H1=>ty σ H1 fun y H2=>ZN x y H2 fun v=>Q v H2
def WX (ty td:TE):TE:=fun σ H Q=>ty σ H fun y H1=>td σ H1 fun x H2=> ∃a o,x= .ref a/\mG H2 a y o/\Q (.bl o.isSome) H2
def LN (ty td:TE):TE:=fun σ H Q=>ty σ H fun y H1=>td σ H1 fun x H2=> ∃a o,x= .ref a/\mG H2 a y o/\Q (.bl (!o.isSome)) H2
def Sf (td ty tv:TE):TS:=fun D σ H=>tv σ H fun v H1=>td σ H1 fun x H2=>ty σ H2 fun y H3=> ∃a H4,x= .ref a/\GA H3 a y v H4/\D.nx σ H4
section
variable {X:Cx}{o i e value:Expr}{pos pos' Ou:Pos}{td ty tv:TE}
def cA (hu:X.A.units + 1 < cLine)(ho:PE X o td)(hi:PE X i ty)(hs:Sd i):PE X (.Subscript o i pos) (Se td ty):=by
 intro pins s σ H Q I h;refine LM PySem.F.slot_dict_getitem.lookup hs (dO (ho pins s σ H _ I h) fun u s1 ⟨x,H1,I1,rx,q1⟩=>dO (hi pins s1 σ H1 _ I1 q1) fun iv s2 ⟨y,H2,I2,ry,a,v,ex,g,q2⟩=>?_);subst ex;obtain rfl:u=Value.ref a:=rx;exact⟨Bv I2 g,GB hu I2 g ry fun w' s3 I3 Gy=>⟨v,H2,I3,Gy,q2⟩⟩
def OG (hu:X.A.units + 1 < cLine)(hi:PE X i ty)(ho:PE X o td):PC X .In i o (WX ty td):=by
 intro pins s σ H Q I h;refine dO (hi pins s σ H _ I h) fun iv s1 ⟨y,H1,I1,ry,q1⟩=>dO (ho pins s1 σ H1 _ I1 q1) fun u s2 ⟨x,H2,I2,rx,a,ov,ex,g,q2⟩=>?_;subst ex;obtain rfl:u=Value.ref a:=rx;exact WW hu I2 g ry fun s3 I3=>⟨.bl ov.isSome,H2,I3,rfl,q2⟩
def GD (hu:X.A.units + 1 < cLine)(hi:PE X i ty)(ho:PE X o td):PC X .NotIn i o (LN ty td):=by
 intro pins s σ H Q I h;refine dO (hi pins s σ H _ I h) fun iv s1 ⟨y,H1,I1,ry,q1⟩=>dO (ho pins s1 σ H1 _ I1 q1) fun u s2 ⟨x,H2,I2,rx,a,ov,ex,g,q2⟩=>?_;subst ex;obtain rfl:u=Value.ref a:=rx;exact LL hu I2 g ry fun s3 I3=>⟨.bl (!ov.isSome),H2,I3,rfl,q2⟩
def E2 (hu:X.A.units + 1 < cLine)(ho:PE X o td)(hi:PE X i ty)(hv:PE X value tv)(hs:swapsWith value (some (.Subscript o i pos')) pos.line X.env=pure false):
  PS X (.Assign [.Subscript o i pos'] value pos) (Sf td ty tv):=by
 intro pins s σ H D I h;refine wpAny_Assign_Subscript (dO (hv pins s σ H _ I h) fun r s1 ⟨v,H1,I1,rv,q1⟩=>dO (ho pins s1 σ H1 _ I1 q1) fun u s2 ⟨x,H2,I2,rx,q2⟩=>dO (hi pins s2 σ H2 _ I2 q2) fun iv s3 ⟨y,H3,I3,ry,a,H4,ex,g,q3⟩=>?_) hs;subst ex;obtain rfl:u=Value.ref a:=rx;exact GC hu I3 g ry rv fun s4 I4=>⟨σ,H4,I4,q3⟩
end
def Bw {P:Program}{w:World}{H:Hp}(h:Heap)(hb:sysModules < h.objs.size):dv P w H (h.push {cls:= .type "dict",data:= .dict #[]}) h.objs.size (.dK []):=
 ⟨bh _,gJ.mpr (wC (a6 hb)),[],.nil,Heap.DictOf.new h⟩
def OH:TE:=fun _ H Q=> ∀p,H p=none->Q (.ref p) (upd H p (.dK []))
section
variable {X:Cx}{pos:Pos}
def Bx:PE X (.Dict [] [] pos) OH:=fun pins s σ H Q I h=>
 wpAny_Dict_empty ⟨.ref s.heap.objs.size,_,I.laid (a:=s.heap.objs.size) (o:= .dK []) (t':=s.toks) (fun _ _ q=>ax _ q) (aE _) (Bw s.heap I.big),rfl,h _ (I.cq.fresh (aE _))⟩
end
def DH:List (TE×TE)->St->Hp->(List (V×V)->Hp->Prop)->Prop
 |[],_,H,Q=>Q [] H
 |(tk,tv) :: r,σ,H,Q=>tk σ H fun x H1=>tv σ H1 fun y H2=>DH r σ H2 fun ps H3=>Q ((x,y) :: ps) H3
abbrev VV:List (V×V)->List (Value×Value)->Prop:=Paired fun p q=>RelV p.1 q.1/\RelV p.2 q.2
def LO (X:Cx)(pos:Pos)(keys:List (Option Expr))(values:List Expr)(LP:List (TE×TE)):Prop:=
 ∀(pins:List (Addr×Obj)) (s:Shared) (σ:St) (H:Hp) (Q:List (V×V)->Hp->Prop),Inv X pins σ H s->DH LP σ H Q->
  wpAny (model X.prog X.w) X.A (evalPairs (pairTrees keys values X.env pos)) (fun vs s'=> ∃ps H',Inv X pins σ H' s'/\VV ps vs/\Q ps H') X.xe s
def LQ {X:Cx}{pos:Pos}:LO X pos [] [] []:=fun pins s σ H Q I h=>pairTrees_nil_walk ⟨[],H,I,.nil,h⟩
def uT {X:Cx}{pos:Pos}{k v:Expr}{ks:List (Option Expr)}{vs:List Expr}{tk tv:TE}{LP:List (TE×TE)}(hk:PE X k tk)(hv:PE X v tv)(hr:LO X pos ks vs LP):
  LO X pos (some k :: ks) (v :: vs) ((tk,tv) :: LP):=fun pins s σ H Q I h=>
 pairTrees_cons_walk (dO (hk pins s σ H _ I h) fun u s1 ⟨x,H1,I1,rx,q1⟩=>dO (hv pins s1 σ H1 _ I1 q1) fun w2 s2 ⟨y,H2,I2,ry,q2⟩=>
  dO (hr pins s2 σ H2 _ I2 q2) fun ws s3 ⟨ps,H3,I3,rel,q3⟩=>⟨(x,y) :: ps,H3,I3,.cons ⟨rx,ry⟩ rel,q3⟩)
def pG (bc more:List (Key×V)):List (Key×V):=more.foldl (fun acc kv=>putK acc kv.1 kv.2) bc
def KV.merge: ∀{more:List (Key×V)} {rs:List (Key×Value)} {bc:List (Key×V)} {vs:List (Key×Value)},KV more rs->KV bc vs->KV (pG bc more) (merged vs rs):=by
 intro more rs bc vs r;unfold KV at r
 induction r generalizing bc vs with
 |nil=>intro q; exact q
 | @cons p q ps qs h t ih=>
  intro r0;have e:KV (putK bc p.1 p.2) (stored vs q.1 q.2):=by
   have:=r0.put p.1 h.2;rw[← h.1]; exact this
  exact ih e
def oR: ∀(more bc:List (Key×V)),(pG bc more).length<=bc.length + more.length
 |[],bc=>by show bc.length<=bc.length + 0; lia
 |p :: r,bc=>by
  have h1:=oR r (putK bc p.1 p.2);have h2:=kq bc p.1 p.2;show(pG (putK bc p.1 p.2) r).length<=_;rw[bS]; lia
def uU {P:Program}{w:World}: ∀{bc:List (Key×V)} {ws:List (Value×Value)},VV (bc.map fun kv=>(kV kv.1,kv.2)) ws-> ∃rs,Carries (dP P w) ws rs/\KV bc rs
 |[],_,r=>by rw[qf] at r; cases r; exact⟨[],True.intro,.nil⟩
 |p :: bc,_,r=>by
  rw[cZ] at r;cases r with
  | @cons a b as bs h t=>
   obtain⟨rs,c,q⟩:=uU (P:=P) (w:=w) t;obtain⟨b1,b2⟩:=b;exact⟨(p.1,b2) :: rs,⟨uQ h.1,rfl,c⟩,.cons ⟨rfl,h.2⟩ q⟩
def Sg (LP:List (TE×TE)):TE:=fun σ H Q=> ∀p,H p=none->DH LP σ (upd H p (.dK [])) fun ps H2=>H2 p=some (.dK [])/\ ∃bc:List (Key×V),ps=bc.map (fun kv=>(kV kv.1,kv.2))/\bc.length<=15/\Q (.ref p) (upd H2 p (.dK (pG [] bc)))
def LR {X:Cx}{pos:Pos}{keys:List (Option Expr)}{values:List Expr}{LP:List (TE×TE)}(h:LO X pos keys values LP)(OI:keys.all (·.isSome)=true)(hl:keys.length=values.length)(h0:keys≠[])
  (WY:keys.length<=15):PE X (.Dict keys values pos) (Sg LP):=by
 intro pins s σ H Q I q;have hn:=I.cq.fresh (aE s.heap.objs.size);have I1:=I.laid (a:=s.heap.objs.size) (o:= .dK []) (h':=s.heap.push {cls:= .type "dict",data:= .dict #[]}) (t':=s.toks) (fun _ _ q=>ax _ q) (aE _) (Bw s.heap I.big);refine wpAny_Dict_walk (knd:=dP X.prog X.w) OI hl h0 WY (dO (h pins _ σ _ _ I1 (q _ hn)) fun ws s2 ⟨ps,H2,I2,rel,e,bc,ep,lk,q2⟩=>?_);subst ep;obtain⟨rs,c,rk⟩:=uU (P:=X.prog) (w:=X.w) rel;obtain⟨z,hd,Sh,r0,dd⟩:=EZ I2.cq e;cases r0;refine⟨rs,c,dd,fun h' E1 hs=>⟨.ref s.heap.objs.size,_,?_,rfl,q2⟩⟩;have hz:(pG [] bc).length<=sizeLine:=by
  have h1:=oR bc [];rw[wG] at h1;rw[eD]; lia
 have he: ∃q,h'.get? s.heap.objs.size=some q:=let⟨q,_,_,hq,_⟩:=E1; ⟨q,hq⟩
 exact uk I2 (by rw[e]; exact True.intro) hs he (zj hz hd (rk.merge .nil) E1)
structure M1 (X:Cx)(o:Expr)(m:Str)(apos:Pos)(e:Expr)(gy:Pos):Prop where
 base:attributeBase o m X.env (eval o X.env)=eval o X.env
 few:((backTo gy (starEach [e] X.env)).all (fun x=> !x.1) && (backToKw gy (keywordEach [] X.env)).all (fun x=>x.1.isSome)
  && decide (([e]:List Expr).length + ([]:List Keyword).length + (if([]:List Keyword).isEmpty then 0 else 1) < 30))=true
 line:(apos.endLine == gy.line)=true
 trees:backTo gy (starEach [e] X.env)=[(false,eval e X.env)]
def ZO (H:Hp)(a:Addr):Prop:=(∃bc,Rd H a (.dK bc))∨ ∃bc,Rd H a (.dT bc)
def OJ {X:Cx}{pins:List (Addr×Obj)}{σ:St}{H:Hp}{s:Shared}{a:Addr}(I:Inv X pins σ H s)(d:ZO H a):
  s.TypeIs (.ref a) "dict"/\(∀b,Value.ref a= .ref b-> ∃ob,s.heap.get? b=some ob/\ob.dict=none)/\(a == sysModules)=false:=by
 rcases d with⟨bc,e⟩|⟨bc,e⟩
 ·obtain⟨_,hd,vs,_,dd⟩:=uR I.cq e;refine⟨dd.typeIs,fun b q=>?_,hd⟩;cases q;obtain⟨ob,_,_,h1,h2,_⟩:=dd;exact⟨ob,h1,h2.2.1⟩
 ·obtain⟨_,hd,xs,_,dd⟩:=yg I.cq e;refine⟨dd.typeIs,fun b q=>?_,hd⟩;cases q;obtain⟨ob,_,_,h1,h2,_⟩:=dd;exact⟨ob,h1,h2.2.1⟩
section
variable {X:Cx}{pins:List (Addr×Obj)}{σ:St}{H:Hp}{s:Shared}{a:Addr}{y d:V}{u r:Value}{o:Option V}{A:Around}{E:Value->Shared->Prop}
end
def OK (td ty:TE):TE:=fun σ H Q=>td σ H fun x H1=> ∃a,x= .ref a/\ZO H1 a/\ty σ H1 fun y H2=> ∃bc k v,H2 a=some (.dK bc)/\y=kV k/\fZ bc k=some v/\Q v (upd H2 a (.dK (k9 bc k)))
section
variable {X:Cx}{o e f:Expr}{apos gy:Pos}{td ty tx:TE}
def Jf (ho:PE X o td)(he:PE X e ty)(m:M1 X o "pop" apos e gy):PE X (.Call (.Attribute o "pop" apos) [e] [] gy) (OK td ty):=by
 intro pins s σ H Q I h;refine wpAny_Call_method m.base m.few m.line PySem.F.plainAttrs_dict PySem.F.slot_dict_pop PySem.F.type_dict_pop (dO (ho pins s σ H _ I h) fun u s1 ⟨x,H1,I1,rx,a,ex,d,q1⟩=>?_);subst ex;obtain rfl:u=Value.ref a:=rx;obtain⟨t1,t2,_⟩:=OJ I1 d;refine⟨t1,t2,?_⟩;rw[m.trees];refine iN rfl (Ga (Calls.spliced_cons (dO (he pins s1 σ H1 _ I1 q1) fun iv s2 ⟨y,H2,I2,ry,bc,k,v,ea,ey,l,q2⟩=>Calls.spliced_nil ?_)));subst ey;exact Sb I2 ea ry l (.inl rfl) fun w' s3 I3 Gy=>⟨v,_,I3,Gy,q2⟩
end
section
variable {X:Cx}{pins:List (Addr×Obj)}{σ:St}{H:Hp}{s:Shared}{a:Addr}{bc:List (Key×V)}{A:Around}{E:Value->Shared->Prop}
def Jg {Q:Value->Shared->Prop}(I:Inv X pins σ H s)(e:Rd H a (.dK bc))(h: ∀p s',H p=none->Inv X pins σ (upd H p (.dK bc)) s'->Q (.ref p) s'):wpAny (model X.prog X.w) A (call (.type "dict") [.ref a]) Q E s:=by
 obtain⟨z,hd,vs,rel,dd⟩:=uR I.cq e;refine kt_call_dict hd dd (by rw[← rel.length]; exact z) fun h' E1 hs=>?_;refine h _ _ (I.cq.fresh (aE _)) (I.laid (a:=s.heap.objs.size) (o:= .dK bc) (t':=s.toks) (fun b q hq=>?_) (aE _) (zj z (gJ.mpr (wC (a6 I.big))) rel E1));exact(hs.2 b (a6 (aM hq))).trans (ax _ hq)
end
section
variable {X:Cx}{pins:List (Addr×Obj)}{σ:St}{H:Hp}{s:Shared}{a:Addr}{y:V}{u:Value}{A:Around}{E:Value->Shared->Prop}
end
end L2
namespace ZP
open PySem PySem.W PySem.Calls PyProof.Rows
def tR {P:Params}{h:Heap}: ∀(ns:List Int) (vs:List Value),WellAll P h vs (ns.map WData.int)->IntsAre vs ns:=by
 intro ns
 induction ns with
 |nil=>
  intro vs w;rw[qf] at w;cases w;exact .nil
 |cons n ns ih=>
  intro vs w;rw[cZ] at w;cases w with
  |cons a b=>
   cases a;exact .cons _ _ (ih _ b)
def GF {l:OpenLaw}{n:Nat}(hn:l.most=some n){P:Params}{h:Heap}{args:List WData}{vals:List Value}
  (LS:l.row.toRowW.claim.pre args=true) (E3:WellAll P h vals args):
  ∃a vs ns,vals=[Value.ref a]/\args=[WData.list (ns.map WData.int)]/\h.get? a=some {cls:= .type "list",data:= .seq vs.toArray}/\IntsAre vs ns/\ns.length<=n:=by
 have hsh:WShape.hasAll [] args [.list .int]=true:=(pre_splitW LS).1;have hc:l.pre.holds [] {args:=args}=true:=(pre_splitW LS).2;obtain⟨d,r,rfl,h1,h2⟩:=hasAllW_cons hsh;obtain rfl:=hasAllW_nil h2;obtain⟨xs,rfl,h3⟩:=hasW_list h1;obtain⟨ns,rfl⟩:=items_int h3;have hlen:ns.length<=n:=by
  unfold OpenLaw.pre at hc;have h4:(WTm.not (.lt (.lit (.int (n:Int))) (.len (.arg 0)))).holds [] {args:=[.list (ns.map .int)]}=true:=by
   have h4:=(holds_andW hc).1;rw[hn] at h4;exact h4
  have h5:=condW_of h4 (w_not (w_lt w_lit (w_len_list (w_arg rfl))));rw[ae] at h5;refine Nat.le_of_not_lt fun q=>?_;have q':(n:Int) < ((ns.length:Nat):Int):=by lia
  first
   |(rw[aG q'] at h5; exact absurd h5 (by decide))
   |(simp at h5; lia)
 cases E3 with
 |cons w1 w2=>
  cases w2;cases w1 with
  |list ho OI=>exact⟨_,_,ns,rfl,rfl,ho,tR ns _ OI,hlen⟩
def GG (l:OpenLaw)(args:List WData):l.row.toRowW.claim.post args (.bool true) args=true:=
 postW_of (r:=l.row.toRowW) (X:=(true == true))
  (show WShape.has [] (.bool true) .bool=true by first|rfl|decide|simp[WShape.has,WShape.arms,WShape.armsAll])
  (show(WTm.eq .res (.lit (.bool true))).value [] {args:=args,res:=some (.bool true),after:=args}=some (.bool (true == true)) from w_eq_bool (w_res rfl) w_lit) rfl
def By {l:OpenLaw}{n:Nat}{q:Program}{loose:List Str}{XP:(Str->Option Value)->Heap->Prop}{YP:World->Heap->Prop}{d:DefRec}
  (hn:l.most=some n) (WZ:d.params.defaults=[])
  (call: ∀(w:World) (s₀ s₁:Shared) (mg mb:Str->Option Value) (fa:Addr) (o:Obj) (pm cd doc:Value) (a:Addr) (vs:List Value) (ns:List Int),
   Ground q loose [] XP w s₀ mg mb s₁.heap->YP w s₁.heap->
   s₁.heap.get? fa=some o->o.data= .func (docDef d.name d.params d.body d.scope pm cd doc)->s₁.heap.CodeRec cd d.name->mg d.name=some (.ref fa)->
   s₁.heap.get? a=some {cls:= .type "list",data:= .seq vs.toArray}->IntsAre vs ns->ns.length<=n->s₁.gens= #[]->
   codeAny (model l.prog w) callerA (.call (.ref fa) ⟨[.ref a],[]⟩) (fun r s'=>r= .ok (.ret (.bool true))/\OldK s₁.heap s'.heap/\s'.os=s₁.os/\AllBare s'.gens) s₁):
  WalkO q loose XP YP l.row.toRowW d [] (fun f vs=>PySem.call f vs):=by
 intro w s₀ s₁ mg mb G Y fa o pm cd doc dV kV ho hd rE hD Sk hg args vals as LS abG ZQ E3 hlo;obtain rfl:dV= .none:=Dflts.none hD WZ;obtain rfl:kV= .none:=Dflts.noKw hD;obtain⟨a,vs,ns,rfl,rfl,OL,hints,hlen⟩:=GF hn LS E3;refine enter_call (Dl (call w s₀ s₁ mg mb fa o pm cd doc a vs ns G Y ho (fd_plain hd) rE Sk OL hints hlen hg) fun r s' hq=>?_);obtain⟨rfl,h2,h3,h4⟩:=hq;exact⟨.inl ⟨.bool true,.bool true,[],rfl,fun _=>rfl,.bool true,GG l _,fun _=>⟨List.Pairwise.nil,fun _ hm=>(nomatch hm)⟩⟩,h2,h3,h4⟩
section
variable {prog:Program}{w:World}{A:Around}{E:Value->Shared->Prop}{s:Shared}{K:Frag}
end
end ZP
namespace L2
open PySem PySem.Spec PyProof.Rows
def yh: ∀{vs:List Value} {ns:List Int},IntsAre vs ns->Vals (ns.map V.int) vs
 |_,_,.nil=> .nil
 |_,_,.cons n t h=> .cons ⟨t,rfl⟩ (yh h)
def gz (s:Stmt):Arguments:=match s with
 | .FunctionDef _ a _ _ _ _ _ _ _ _=>a
 |_=>{posonlyargs:=[],args:=[],vararg:=none,kwonlyargs:=[],kw_defaults:=[],kwarg:=none,defaults:=[]}
def dz (s:Stmt):List Stmt:=match s with
 | .FunctionDef _ _ b _ _ _ _ _ _ _=>b
 |_=>[]
def ay (s:Stmt):Scope:=match s with
 | .FunctionDef _ _ _ _ _ _ sc _ _ _=>sc
 |_=>{kind:= .function,names:=[],isGenerator:=false,isCoroutine:=false}
abbrev rZ:ER:=fun _ _ _ _ _ _=>False
abbrev E0:XK:=fun _ _ _=>False
def mU {X:Cx}:Passes rZ X E0:=fun _ _ _ _ _ _ _ h=>h.elim
structure gf (K:Frag)(x qual:Str)(st:Stmt)(f:Addr)(fd:FuncData):Prop where
 ex: ∃(oc:Value) (od:Option Addr) (kV doc pm:Value) (an:Option Addr) (cO ct:Value) (Gx:Array (Option Value)),
  fd=fnOf x qual (gz st) (dz st) (ay st) .none kV doc pm an cO ct/\K.lookup f=some ⟨oc,od,.func fd,Gx⟩/\codeIn K cO qual=true
 kp:keepIn K (.ref f)=true
section
variable {P:Program}{w:World}{K:Frag}{mg:Str->Option Value}{base:Heap}
def gf.ok {x qual:Str}{st:Stmt}{f:Addr}{fd:FuncData}{N ps:List Str}{k:Nat}{sp:Sp}(F:gf K x qual st f fd)(S:aS N ps (ay st))(len: ∀vs H Q E,sp vs H Q E->vs.length=ps.length)
  (fS: ∀(cO:Value) (A:Around) (outer:List Env) (s:Shared) (H:Hp) (vs:List V) (Q:VK) (E:XK),eW k (A.deeper (envOfC qual (ay st) s.heap.objs.size f cO))->sp vs H Q E->
   ∃t,oO (kK rZ P w K mg base N qual (ay st) f cO A outer s H E).Dr (dz st) t/\t {nx:=fun _ H'=>Q .eh H',rt:=Q} (start N vs) H):lV P w K mg base rZ (k + 1) f fd ps sp:=by
 obtain⟨oc,od,kV,doc,pm,an,cO,ct,Gx,rfl,lk,rE⟩:=F.ex;refine IV lk rE S len fun A outer s H vs Q E hr y1=>?_;obtain⟨t,h,q⟩:=fS cO A outer s H vs Q E hr y1;exact⟨t,h.Dr,q⟩
def gf.binds {x qual:Str}{st:Stmt}{f:Addr}{fd:FuncData}{ps:List Str}(F:gf K x qual st f fd)
  (h: ∀(kV doc pm:Value) (an:Option Addr) (cO ct:Value) (us:List Value),us.length=ps.length->bindArgs (fnOf x qual (gz st) (dz st) (ay st) .none kV doc pm an cO ct) ⟨us,[]⟩=pure (ps.zip us)):Binds K fd ps []:=by
 obtain⟨oc,od,kV,doc,pm,an,cO,ct,Gx,rfl,lk,rE⟩:=F.ex;exact .all (h kV doc pm an cO ct)
def pH {x qual:Str}{st:Stmt}{f:Addr}{oc:Value}{od an:Option Addr}{Gx:Array (Option Value)}{kV doc pm cO ct:Value}(l:K.lookup f=some ⟨oc,od,.func (fnOf x qual (gz st) (dz st) (ay st) .none kV doc pm an cO ct),Gx⟩)
  (c:codeIn K cO qual=true) (k:keepIn K (.ref f)=true):gf K x qual st f (fnOf x qual (gz st) (dz st) (ay st) .none kV doc pm an cO ct):=⟨⟨oc,od,kV,doc,pm,an,cO,ct,Gx,rfl,l,c⟩,k⟩
end
def jG {A:Around}{k:Nat}(hr:eW k A):A.units + 1 < cLine:=qg (Nat.add_le_add_left (by decide:1<=64) _) hr.units
def a9 {n:Nat}(h:n<=1000):n < sizeLine:=qg h (by decide)
section
variable {X:Cx}
def pv (i:Nat){x:Str}{pos:Pos}(hN:X.N[i]? =some x:=by rfl)(hv:RC X.env.scope x:=by first|exact Or.inl rfl|exact Or.inr (Or.inl rfl)|exact Or.inr (Or.inr rfl))(hd:(x == ("__debug__":Str))=false:=by decide)
  (rE:(x == ("__classdict__":Str))=false:=by decide):PE X (.Name x pos) (RG i):=Dp hN hv hd rE
end
def bT {A B:Prop}(h:B):if false=true then A else B:=by
 rw[aU aW];exact h
def fB {A B:Prop}(h:A):if true=true then A else B:=by
 rw[a8 rfl];exact h
def ck {c A B:Prop}[Decidable c](h1:c->A)(h2: ¬ c->B):if c then A else B:=by
 by_cases h:c
 ·rw[a8 h];exact h1 h
 ·rw[aU h];exact h2 h
def Bz {c A B:Prop}[Decidable c](hc:c)(h:B):if(!decide c)=true then A else B:=by
 rw[aG hc];exact bT h
def aD (H H':Hp):Prop:= ∀b o,H b=some o->H' b=some o
def aD.refl (H:Hp):aD H H:=fun _ _ h=>h
def aD.trans {H H1 H2:Hp}(a:aD H H1)(b:aD H1 H2):aD H H2:=fun c o h=>b c o (a c o h)
def aD.free {H H':Hp}(e:aD H H'){l:Addr}(h:H' l=Option.none):H l=Option.none:=by
 cases q:H l with
 |none=>rfl
 |some o=>
  rw[e l o q] at h;cases h
def aD.seq {K:Frag}{H H':Hp}{a:Addr}{xs:List V}(e:aD H H')(h:bA K H a xs):bA K H' a xs:=by
 rcases h with(h|⟨o,h⟩)|h
 ·exact .inl (.inl (e _ _ h))
 ·exact .inl (.inr ⟨o,e _ _ h⟩)
 ·exact .inr h
section
variable {X:Cx}
end
section
variable {κ:Type}[DecidableEq κ]
end
def GH {prog:Program}{w:World}{A:Around}{R:Result->Shared->Prop}{s:Shared}{elt target iter:Expr}{ifs:List Expr}{scope:Scope}{pos:Pos}{it acc:Value}{env:Env}(I:Nat->Shared->Prop)
  (turn: ∀n s,I n s->wpAny (model prog w) A (pyNext it) (fun r s₁=>match r with
   |none=>R (.ok .next) s₁
   |some v=>wpAny (model prog w) A (letOwnedTupleGo target it v) (fun _ ZR=>wpAny (model prog w) A (assign target env v) (fun _ s₂=>
     wpAny (model prog w) A (forIn ifs true fun c r=>if r=true then do let ok ← isTrue c env (eval c env); pure (ForInStep.yield ok) else pure (ForInStep.yield r)) (fun ok s₃=>
      if ok=true then wpAny (model prog w) A (eval elt env) (fun x s₄=>
       wpAny (model prog w) A (call (.builtin "list.append") [acc,x]) (fun _ s₅=> ∃m,m < n/\I m s₅) (fun _ _=>False) s₄) (fun _ _=>False) s₃
      else ∃m,m < n/\I m s₃) (fun _ _=>False) s₂) (fun _ _=>False) ZR) (fun _ _=>False) s₁) (fun _ _=>False) s)
  (n:Nat) (h:I n s):
  codeAny (model prog w) A (.compLoop (.ListComp elt [⟨target,iter,ifs,0⟩] scope pos) 0 it acc env) R s:=by
 refine codeAny_loop rfl I (fun n s hI=>?_) n h;show wpAny _ A ((compTurn (.ListComp elt [⟨target,iter,ifs,0⟩] scope pos) 0 it acc env).onRaise (fun x=>do noteFrame x env; theTreesLotGoes x)) _ _ s;refine wpAny_noted ?_;rw[compTurn_list];refine aA (il (aA (b9 (turn n s hI) (fun r s₁ h₁=>?_) fun _ _ h'=>h'.elim)));cases r with
 |none=>exact bE h₁
 |some v=>
  refine aA (b9 h₁ (fun _ ZR h₁'=>?_) fun _ _ h'=>h'.elim);refine aA (b9 h₁' (fun _ s₂ h₂=>aA (b9 h₂ (fun ok s₃ h₃=>?_) fun _ _ h'=>h'.elim)) fun _ _ h'=>h'.elim);cases ok with
  |false=>exact bE ⟨rfl,h₃⟩
  |true=>
   exact aA (aA (b9 h₃ (fun x s₄ h₄=>aA (b9 h₄ (fun _ s₅ h₅=>bE (bE ⟨rfl,h₅⟩)) fun _ _ h'=>h'.elim)) fun _ _ h'=>h'.elim))
def BA (X:Cx)(N:List Str)(scope:Scope)(cl:List (Str×Addr))(C:Addr)(s3:Shared)(H3:Hp)(fp:List Addr):Cx:=
 {X with N:=N,s₀:=s3,H₀:=H3,env:=compEnvC scope cl C X.env,outer:=X.stack,stack:=X.stack,ex:=fp,fn:=fun _=>false,pn:=[],xe:=fun _ _=>False}
def K3 (X:Cx)(ifs:List Expr)(t:TT):Prop:=
 ∀(pins:List (Addr×Obj)) (s:Shared) (σ:St) (H:Hp) (Q:Bool->Hp->Prop),Inv X pins σ H s->t σ H Q->
  wpAny (model X.prog X.w) X.A (forIn ifs true fun c r=>if r=true then do let ok ← isTrue c X.env (eval c X.env); pure (ForInStep.yield ok) else pure (ForInStep.yield r)) (TP X pins σ Q) X.xe s
def W0:TT:=fun _ H Q=>Q true H
def kM {X:Cx}:K3 X [] W0:=fun pins s σ H Q I h=>wpAny_tests_nil ⟨H,I,h⟩
def mV {X:Cx}{c:Expr}{t:TT}(h:PT X c t):K3 X [c] t:=fun pins s σ H Q I hw=>wpAny_tests_one (h pins s σ H Q I hw)
def yi (J:It)(g:TG)(tc:TT)(te:TE)(σ0:St)(H2:Hp)(Q:VK):Prop:=
 ∀D,H2 D=none-> ∃W:Nat->Nat->St->Hp->Prop,(∃m,W 0 m σ0 (upd H2 D (.lst [])))/\ ∀i m σ' H',W i m σ' H'->
  (J.stop i H'/\Q (.ref D) H')∨(J.go i H'/\ ∃N:St->Hp->Prop,(∀LU r9,N LU r9-> ∃m',m' < m/\W (i + 1) m' LU r9)/\
   ∀x r9,J.Ol i H' x r9->g x σ' r9 fun σ2 H2=>tc σ2 H2 fun ok H3=>if ok=true then te σ2 H3 fun y H4=> ∃ys,H4 D=some (.lst ys)/\ys.length < sizeLine/\N σ2 (upd H4 D (.lst (ys ++ [y]))) else N σ2 H3)
structure se (X:Cx)(scope:Scope)(cl:List (Str×Addr))(cn:List Str)(cj:List Nat):Prop where
 GI:closureFor scope X.env=pure cl
 cell: ∀y∈scope.names,y.2≠ .cell
 kind:scope.kind= .function
 names: ∀x∈scope.names,x.2= .local->scope.names.lookup x.1=some .local
 sub: ∀x c,cl.lookup x=some c->X.env.cells.lookup x=some c
 all: ∀x,((relabel scope X.env).names.lookup x=some .cell∨(relabel scope X.env).names.lookup x=some .free)-> ∃c,cl.lookup x=some c
 ZS:Paired (fun x j=>X.N[j]? =some x/\(X.env.kindOf x=some .cell∨X.env.kindOf x=some .free)/\((relabel scope X.env).names.lookup x=some .cell∨(relabel scope X.env).names.lookup x=some .free)) cn cj
def bI {α β:Type}{F:α->β->Prop}: ∀{l₁:List α} {l₂:List β} {i:Nat} {a:α},Paired F l₁ l₂->l₁[i]? =some a-> ∃b,l₂[i]? =some b/\F a b
 |_,_,_,_,.nil,e=>by simp at e
 |_,_,0,_,.cons r _,e=>by simp at e; subst e; exact⟨_,rfl,r⟩
 |_,_,i + 1,a,.cons _ t,e=>by
  obtain⟨b,h1,h2⟩:=bI (i:=i) (a:=a) t (by simpa using e);exact⟨b,by simpa using h1,h2⟩
def uV (tn:List Str)(cj:List Nat)(σ:St):St:=tn.map (fun _=>none) ++ cj.map fun j=>(σ[j]?).join
def uW {X:Cx}{pins:List (Addr×Obj)}{σ:St}{H2:Hp}{s2:Shared}{elt tg iter:Expr}{ifs:List Expr}{scope:Scope}{pos:Pos}{cl:List (Str×Addr)}{tn cn:List Str}{cj:List Nat}{g:TG}{tc:TT}{te:TE}
  {it:Addr} {fp:List Addr} {OM:Nat->Heap->Prop} {J:It} {RR:Value->Addr->Result->Shared->Prop} {E:Value->Shared->Prop} {Q:VK}
  (yj:X.calm=true) (S:se X scope cl cn cj)
  (hg: ∀C s3 H3 fp,PG (BA X (tn ++ cn) scope cl C s3 H3 fp) tg g) (hc: ∀C s3 H3 fp,K3 (BA X (tn ++ cn) scope cl C s3 H3 fp) ifs tc) (he: ∀C s3 H3 fp,PE (BA X (tn ++ cn) scope cl C s3 H3 fp) elt te)
  (I2:Inv X pins σ H2 s2) (T:Turn X.prog X.w X.K tg J fp it OM) (Nj:OM 0 s2.heap) (f2: ∀b∈fp,uI X pins H2 b)
  (hw:yi J g tc te (uV tn cj σ) H2 Q)
  (hRR: ∀D C (s':Shared) H' m',Inv X pins σ H' s'->uI X pins H' C->s'.heap.Ns C m'->Q (.ref D) H'->RR (.ref D) C (.ok .next) s'):
  wpAny (model X.prog X.w) X.A (newList []) (fun acc s₃=>wpAny (model X.prog X.w) X.A (newFunctionEnv scope X.env.globals cl [] X.env.qual none .none (some X.env)) (fun Sl s₄=>
   codeAny (model X.prog X.w) X.A (.compStart (.ListComp elt [⟨tg,iter,ifs,0⟩] scope pos) 0 (.ref it) acc {Sl with scope:=relabel scope X.env}) (RR acc Sl.locals) s₄) E s₃) E s2:=by
 have hD0:H2 s2.heap.objs.size=none:=I2.cq.fresh (aE _);obtain⟨W,⟨m0,w0⟩,turn⟩:=hw _ hD0;refine wpAny_newObj_type (wpAny_newFunctionEnv S.cell (by intro y hy; simp at hy) (fun h₁ ON OO=>?_) S.kind);dsimp only at ON OO ⊢;have I3:Inv X pins σ (upd H2 s2.heap.objs.size (.lst [])) {s2 with heap:=s2.heap.push {cls:= .type "list",dict:=none,data:= .seq ([]:List Value).toArray}}:=I2.OD (t':=s2.toks) (ys:=[]) (bY:=[]) .nil (bh _);generalize Vo:s2.heap.push {cls:= .type "list",dict:=none,data:= .seq ([]:List Value).toArray}=HH at ON OO I3 ⊢;have hC:HH.objs.size=s2.heap.objs.size + 1:=by rw[← Vo,nY]
 have old: ∀b o,HH.get? b=some o->h₁.get? b=some o:=fun b o e=>OO.extBut b o (a6 (aM e)) (ax _ e);have W6: ∀b o,s2.heap.get? b=some o->HH.get? b=some o:=fun b o e=>Vo▸ax _ e;have Sm: ∀b∈fp,b < s2.heap.objs.size:=fun b hb=>by
  obtain⟨o,e,_⟩:=T.obj 0 _ Nj b hb;exact aM e
 have Vp:(BA X (tn ++ cn) scope cl HH.objs.size {s2 with heap:=HH} (upd H2 s2.heap.objs.size (.lst [])) fp).Ok:=by
  refine⟨I3.ok.mod,S.kind,I3.ok.glob,I3.ok.blt,aE _,fun x y c h1 h2=>I3.ok.inj x y c (S.sub x c h1) (S.sub y c h2),fun x hx=>S.all x hx,fun x c z=>absurd z aW,I3.ok.hd,I3.ok.frames,.inl rfl,fun b hb=>⟨?_,fun x c e z=>?_⟩,I3.bs,?_,fun b o e hb=>?_,fun b hb z=>?_,I3.stack,I3.qt⟩
  ·show b≠HH.objs.size;rw[hC];exact a6 (iP (Sm b hb))
  ·exact(f2 b hb).2.2.2.2.1 x c (S.sub x c e) z
  ·exact aY I3.ok.Bc I3.sz
  ·rcases(f2 b hb).2.2.2.1 with z|z
   ·exact I3.ok.wI b o e z
   ·have h1:b < X.base.objs.size:=aM e;exact absurd (bg h1 (aY I3.ok.Bc z)) (iM _)
  ·rcases aw.mp (I3.uF b z) with z|z
   ·exact(f2 b hb).2.1 z
   ·exact(f2 b hb).2.2.1 z
 have IY:Inv (BA X (tn ++ cn) scope cl HH.objs.size {s2 with heap:=HH} (upd H2 s2.heap.objs.size (.lst [])) fp) [] (uV tn cj σ) (upd H2 s2.heap.objs.size (.lst [])) {s2 with heap:=h₁,toks:=s2.toks + ([]:List (Str×Value)).length}:=by
  refine⟨Vp,rfl,I3.bare,Un.kept old,⟨_,ON,fun i x v e1 e2 e3=>?_⟩,fun x c e=>?_,?_,fun x c e=>I3.iJ x c (S.sub x c e),fun p hp=>absurd hp (by intro z; exact nomatch z),I3.cq.kept old,?_⟩
  ·have ZT:(tn ++ cn)[i]? =some x:=e1;by_cases hi:i < tn.length
   ·unfold uV at e2;rw[List.getElem?_append_left (by simpa using hi),List.getElem?_map] at e2;cases h:tn[i]? with
    |none=>rw[h] at e2; cases e2
    |some _=>rw[h] at e2; cases e2
   ·rw[iW (by lia)] at ZT;obtain⟨j,hj,hN,hk,Np⟩:=bI S.ZS ZT;unfold uV at e2;rw[List.getElem?_append_right (by simpa using hi),List.getElem?_map] at e2;simp only[List.length_map,hj,Option.map_some] at e2;have Sn:σ[j]? =some (some v):=by
     cases h:σ[j]? with
     |none=>rw[h] at e2; cases e2
     |some q=>
      rw[h] at e2;have Sn:q=some v:=aF e2;rw[Sn]
    obtain⟨m,hn,hl⟩:=I3.loc;have hv:RC X.env.scope x:=by
     rcases hk with hk|hk
     ·exact .inr (.inl hk)
     ·exact .inr (.inr hk)
    obtain⟨u,r,l⟩:=hl j x v hN Sn hv;refine⟨u,r,?_⟩;rcases l with⟨k,_⟩|⟨_,c,hc,mv⟩
    ·rcases hk with hk|hk <;> (rw[k] at hk; cases hk)
    ·obtain⟨c',RF⟩:=S.all x Np;have:=S.sub x c' RF;rw[hc] at this;cases this;obtain⟨o,ho,hd⟩:=mv;exact .inr ⟨Np,c,RF,⟨o,old _ _ ho,hd⟩⟩
  ·obtain⟨v,o,ho,hd⟩:=I3.cell x c (S.sub x c e);exact⟨v,o,old _ _ ho,hd⟩
  ·exact I3.cq.fresh (aE _)
  ·show(uV tn cj σ).length=(tn ++ cn).length;unfold uV;rw[aC,aC,ae,ae,S.ZS.length]
 have ZU:OM 0 h₁:=T.keep 0 _ _ Nj fun b _ o e=>old b o (W6 b o e);have rV: ∀{H':Hp},(∀b∈fp,H' b=none)-> ∀b∈fp,uI (BA X (tn ++ cn) scope cl HH.objs.size {s2 with heap:=HH} (upd H2 s2.heap.objs.size (.lst [])) fp) [] H' b:=fun hn b hb=>
  ⟨hn b hb,(Vp.Lr b hb).1,Vp.wJ b hb,.inl hb,(Vp.Lr b hb).2,fun p hp=>absurd hp (by intro z; exact nomatch z)⟩
 have fp1: ∀b∈fp,upd H2 s2.heap.objs.size (.lst []) b=none:=fun b hb=>by
  rw[az (a6 (Sm b hb))];exact(f2 b hb).1
 have loop:codeAny (model X.prog X.w) X.A (.compLoop (.ListComp elt [⟨tg,iter,ifs,0⟩] scope pos) 0 (.ref it) (.ref s2.heap.objs.size) (compEnvC scope cl HH.objs.size X.env))
    (RR (.ref s2.heap.objs.size) HH.objs.size) {s2 with heap:=h₁,toks:=s2.toks + ([]:List (Str×Value)).length}:=by
  refine GH (fun n s'=> ∃i σ' H',Inv (BA X (tn ++ cn) scope cl HH.objs.size {s2 with heap:=HH} (upd H2 s2.heap.objs.size (.lst [])) fp) [] σ' H' s'/\OM i s'.heap/\(∀b∈fp,H' b=none)/\W i n σ' H') ?_ m0 ⟨0,_,_,IY,ZU,fp1,w0⟩;rintro n s3 ⟨i,σ3,H3,J3,RS,LB,w3⟩;rcases turn i n σ3 H3 w3 with⟨stop,qn⟩|⟨go,N,hN,step⟩
  ·refine dO (T.done (BA X (tn ++ cn) scope cl HH.objs.size {s2 with heap:=HH} (upd H2 s2.heap.objs.size (.lst [])) fp) rfl rfl rfl yj i [] s3 σ3 H3 _ J3 (rV LB) RS stop) fun r s4 ⟨hr,J4⟩=>?_;subst hr;obtain⟨m',Wn,_⟩:=J4.loc;exact hRR _ _ s4 H3 m' (I3.EJ (ch:=fp) J4.os J4.base J4.cq J4.bare fun b hb=>⟨(f2 b hb).2.2.2.1,(f2 b hb).2.1,(f2 b hb).2.2.2.2.1,(f2 b hb).2.2.2.2.2⟩) (I3.Du (aE _) J4.free) Wn qn
  ·refine dO (T.item (BA X (tn ++ cn) scope cl HH.objs.size {s2 with heap:=HH} (upd H2 s2.heap.objs.size (.lst [])) fp) rfl rfl rfl yj i [] s3 σ3 H3 _ J3 (rV LB) RS go) fun r s4 ⟨u,hr,h4⟩=>?_;subst hr;refine dO h4 fun _ s5 ⟨x,H5,J5,r5,y5,Om,QR⟩=>?_;have J5':=J5.pinned (rV QR) (T.obj _ _ Om);refine dO (hg _ _ _ _ _ s5 σ3 H5 x u _ J5' r5 (step x H5 y5)) fun _ s6 ⟨σ6,H6,J6,q6⟩=>?_;have again: ∀{s7:Shared} {σ7:St} {H7:Hp},Inv (BA X (tn ++ cn) scope cl HH.objs.size {s2 with heap:=HH} (upd H2 s2.heap.objs.size (.lst [])) fp) ([] ++ pF fp s5.heap) σ7 H7 s7->N σ7 H7->
     ∃m,m < n/\ ∃i σ' H',Inv (BA X (tn ++ cn) scope cl HH.objs.size {s2 with heap:=HH} (upd H2 s2.heap.objs.size (.lst [])) fp) [] σ' H' s7/\OM i s7.heap/\(∀b∈fp,H' b=none)/\W i m σ' H':=fun{s7 σ7 H7} I7 n7=>by
    obtain⟨m',hm,w7⟩:=hN σ7 H7 n7;refine⟨m',hm,i + 1,σ7,H7,I7.i7,T.keep _ _ _ Om fun b hb o e=>(I7.pin (b,o) (bu _ (bu _ (jF hb e)))).1,fun b hb=>?_,w7⟩;obtain⟨o,e,d⟩:=T.obj _ _ Om b hb;exact(I7.pin (b,o) (bu _ (bu _ (jF hb e)))).2.1
   refine dO (hc _ _ _ _ _ s6 σ6 H6 _ J6 q6) fun ok s7 ⟨H7,J7,q7⟩=>?_;cases ok with
   |false=>exact again J7 q7
   |true=>
    refine dO (he _ _ _ _ _ s7 σ6 H7 _ J7 q7) fun y s8 ⟨yv,H8,J8,r8,ys,hD,hz,q8⟩=>?_;refine dO (yd _ s8 σ6 H8 (.ref s2.heap.objs.size) [yv] (.ref s2.heap.objs.size) [y] (fun _ H'=>N σ6 H') J8 rfl (.cons r8 .nil) ⟨_,ys,yv,rfl,rfl,hD,hz,q8⟩) fun _ s9 ⟨_,H9,J9,_,q9⟩=>?_;exact again J9 q9
 exact codeAny_compStart_list loop (T.self _ 0 _ _ _ ZU loop)
def Nq (wi:TI)(tn:List Str)(cj:List Nat)(g:TG)(tc:TT)(te:TE):TE:=fun σ H Q=>wi σ H fun J H2=>yi J g tc te (uV tn cj σ) H2 Q
def gg {X:Cx}{elt tg iter:Expr}{ifs:List Expr}{scope:Scope}{pos:Pos}{cl:List (Str×Addr)}{tn cn:List Str}{cj:List Nat}{wi:TI}{g:TG}{tc:TT}{te:TE}
  (yj:X.calm=true) (S:se X scope cl cn cj) (hi:PI X tg iter wi)
  (hg: ∀C s3 H3 fp,PG (BA X (tn ++ cn) scope cl C s3 H3 fp) tg g) (hc: ∀C s3 H3 fp,K3 (BA X (tn ++ cn) scope cl C s3 H3 fp) ifs tc) (he: ∀C s3 H3 fp,PE (BA X (tn ++ cn) scope cl C s3 H3 fp) elt te)
  (hs: ∀x,foldedSetIterable iter X.env x=pure x:=by intro _; rfl):
  PE X (.ListComp elt [⟨tg,iter,ifs,0⟩] scope pos) (Nq wi tn cj g tc te):=by
 intro pins s σ H Q I h;rw[eval_ListComp];refine wpAny_comprehension_free (use:=none) rfl hs S.GI S.kind S.names (dO (hi pins s σ H _ I h) fun v s1 h1=>dO h1 fun Vj s2 h2=>?_);obtain⟨it,fp,OM,J,H2,e,I2,T,Nj,f2,hw⟩:=h2;subst e;refine uW (RR:=fun acc C=>compPost (model X.prog X.w) X.A X.xe none (EP X pins σ Q) acc C) yj S hg hc he I2 T Nj f2 hw ?_;intro D C s' H' m' I' GJ hn q;exact⟨m',hn,fun h' LV=>⟨.ref D,H',I'.turned (t':=s'.toks) (fun b o hb e=>(LV.2 b hb).trans e) GJ.1 GJ.2.1 GJ.2.2.2.1 GJ.2.2.2.2.1 GJ.2.2.2.2.2,rfl,q⟩⟩
def jH {X:Cx}{i:Nat}{y:Str}{py So:Pos}{elt tg iter:Expr}{ifs:List Expr}{scope:Scope}{pos:Pos}{cl:List (Str×Addr)}{tn cn:List Str}{cj:List Nat}{wi:TI}{g:TG}{tc:TT}{te:TE}
  (hN:X.N.Nodup) (hy:X.N[i]? =some y) (hx:Loc X.env.scope y)
  (yj:X.calm=true) (S:se X scope cl cn cj) (hi:PI X tg iter wi)
  (hg: ∀C s3 H3 fp,PG (BA X (tn ++ cn) scope cl C s3 H3 fp) tg g) (hc: ∀C s3 H3 fp,K3 (BA X (tn ++ cn) scope cl C s3 H3 fp) ifs tc) (he: ∀C s3 H3 fp,PE (BA X (tn ++ cn) scope cl C s3 H3 fp) elt te)
  (W7:swapsWith (.ListComp elt [⟨tg,iter,ifs,0⟩] scope pos) (some (.Name y py)) So.line X.env=pure true:=by rfl)
  (hs: ∀x,foldedSetIterable iter X.env x=pure x:=by intro _; rfl)
  (hf:X.fn y=true∨X.env.scope.names.lookup y=some .local:=by first|exact .inl rfl|exact .inr rfl|assumption):
  PS X (.Assign [.Name y py] (.ListComp elt [⟨tg,iter,ifs,0⟩] scope pos) So) (Lx (Nq wi tn cj g tc te) (Bj i)):=by
 intro pins s σ H D I h;rw[exec_Assign_Name_used _ _ _ _ W7];refine aA (il (aA ?_));show wpAny _ X.A (do let _ ← comprehension (.ListComp elt [⟨tg,iter,ifs,0⟩] scope pos) scope X.env _ (newList []) false (eval iter X.env) (some (assign (.Name y py) X.env))) _ _ s;refine aA (b9 (wpAny_comprehension_free (use:=some (assign (.Name y py) X.env)) (Q:=fun _ s'=>SP X pins D .next s') rfl hs S.GI S.kind S.names
  (dO (hi pins s σ H _ I h) fun v s1 h1=>dO h1 fun Vj s2 h2=>?_)) (fun _ s' hq=>bE (bE hq)) fun _ _ e=>e)
 obtain⟨it,fp,OM,J,H2,e,I2,T,Nj,f2,hw⟩:=h2;subst e;refine uW (RR:=fun acc C=>compPost (model X.prog X.w) X.A X.xe (some (assign (.Name y py) X.env)) (fun _ s'=>SP X pins D .next s') acc C) yj S hg hc he I2 T Nj f2 hw ?_;intro D' C s' H' m' I' GJ hn q;show wpAny _ X.A (assign (.Name y py) X.env (.ref D')) _ _ _;refine wpAny_assign_Name (xV I' hN hy hx (v:= .ref D') rfl (fun EU I'' ⟨a,sb,ha⟩=>?_) hf);have hCa:C≠a:=by
  rcases ha with rfl|ha
  ·exact GJ.2.1
  ·exact fun z=>GJ.2.2.2.2.1 y a ha z.symm
 refine⟨m',hn.sameBut sb hCa,fun h3 Jh=>⟨_,H',I''.turned (t':=EU.toks) (fun b o hb e=>(Jh.2 b hb).trans e) GJ.1 GJ.2.1 GJ.2.2.2.1 GJ.2.2.2.2.1 GJ.2.2.2.2.2,q⟩⟩
def dJ {K:Frag}{a:Addr}{xs:List V}{g:TG}{tc:TT}{te:TE}{σ0:St}{H2:Hp}{Q:VK}(Pv:Addr->Nat->St->Hp->Prop)(h0: ∀D,H2 D=none->Pv D 0 σ0 (upd H2 D (.lst [])))
  (hl: ∀D i σ H,i<=xs.length->Pv D i σ H->bA K H a xs)
  (hs: ∀D i x σ H,xs[i]? =some x->Pv D i σ H->g x σ H fun σ2 H2=>tc σ2 H2 fun ok H3=>if ok=true then te σ2 H3 fun y H4=> ∃ys,H4 D=some (.lst ys)/\ys.length < sizeLine/\Pv D (i + 1) σ2 (upd H4 D (.lst (ys ++ [y]))) else Pv D (i + 1) σ2 H3)
  (hd: ∀D σ H,H2 D=none->Pv D xs.length σ H->Q (.ref D) H):yi (QQ K a) g tc te σ0 H2 Q:=by
 intro D hD;refine⟨fun i m σ H=>m=xs.length - i/\i<=xs.length/\Pv D i σ H,⟨xs.length,by simp,Nat.zero_le _,h0 D hD⟩,?_⟩;rintro i m σ H ⟨rfl,hi,p⟩;have q:=hl D i σ H hi p;by_cases ip:i < xs.length
 ·refine .inr ⟨⟨xs,xs[i],q,by simp[ip]⟩,Pv D (i + 1),fun σ' H' p'=>⟨xs.length - (i + 1),by lia,rfl,ip,p'⟩,fun x H' y=>?_⟩;obtain⟨e,y⟩:=y;subst e;exact hs D i x σ _ (y xs q) p
 ·have e:i=xs.length:=by lia
  subst e;exact .inl ⟨⟨xs,q,aE _⟩,hd D σ H hD p⟩
def BB {K:Frag}{a:Addr}{xs:List V}{g:TG}{tc:TT}{te:TE}{σ0:St}{H2:Hp}{Q:VK}(Pv:Addr->Nat->St->Hp->Prop)(h0: ∀D,H2 D=none->Pv D 0 σ0 (upd H2 D (.lst [])))
  (hl: ∀D i σ H,i<=xs.length->Pv D i σ H->cf K H a xs)
  (hs: ∀D i x σ H,xs[i]? =some x->Pv D i σ H->g x σ H fun σ2 H2=>tc σ2 H2 fun ok H3=>if ok=true then te σ2 H3 fun y H4=> ∃ys,H4 D=some (.lst ys)/\ys.length < sizeLine/\Pv D (i + 1) σ2 (upd H4 D (.lst (ys ++ [y]))) else Pv D (i + 1) σ2 H3)
  (hd: ∀D σ H,H2 D=none->Pv D xs.length σ H->Q (.ref D) H):yi (WA K a) g tc te σ0 H2 Q:=by
 intro D hD;refine⟨fun i m σ H=>m=xs.length - i/\i<=xs.length/\Pv D i σ H,⟨xs.length,by simp,Nat.zero_le _,h0 D hD⟩,?_⟩;rintro i m σ H ⟨rfl,hi,p⟩;have q:=hl D i σ H hi p;by_cases ip:i < xs.length
 ·refine .inr ⟨⟨xs,xs[i],q,by simp[ip]⟩,Pv D (i + 1),fun σ' H' p'=>⟨xs.length - (i + 1),by lia,rfl,ip,p'⟩,fun x H' y=>?_⟩;obtain⟨e,y⟩:=y;subst e;exact hs D i x σ _ (y xs q) p
 ·have e:i=xs.length:=by lia
  subst e;exact .inl ⟨⟨xs,q,aE _⟩,hd D σ H hD p⟩
def DI {lo:Int}{n:Nat}{g:TG}{tc:TT}{te:TE}{σ0:St}{H2:Hp}{Q:VK}(Pv:Addr->Nat->St->Hp->Prop)(h0: ∀D,H2 D=none->Pv D 0 σ0 (upd H2 D (.lst [])))
  (hs: ∀D i σ H,i < n->Pv D i σ H->g (.int (lo + i)) σ H fun σ2 H2=>tc σ2 H2 fun ok H3=>if ok=true then te σ2 H3 fun y H4=> ∃ys,H4 D=some (.lst ys)/\ys.length < sizeLine/\Pv D (i + 1) σ2 (upd H4 D (.lst (ys ++ [y]))) else Pv D (i + 1) σ2 H3)
  (hd: ∀D σ H,H2 D=none->Pv D n σ H->Q (.ref D) H):yi (Ly lo n) g tc te σ0 H2 Q:=by
 intro D hD;refine⟨fun i m σ H=>m=n - i/\i<=n/\Pv D i σ H,⟨n,by simp,Nat.zero_le _,h0 D hD⟩,?_⟩;rintro i m σ H ⟨rfl,hi,p⟩;by_cases ip:i < n
 ·refine .inr ⟨ip,Pv D (i + 1),fun σ' H' p'=>⟨n - (i + 1),by lia,rfl,ip,p'⟩,fun x H' y=>?_⟩;obtain⟨e,y⟩:=y;subst e y;exact hs D i σ _ ip p
 ·have e:i=n:=by lia
  subst e;exact .inl ⟨aE _,hd D σ H hD p⟩
def Inv.DJ {X:Cx}{pins:List (Addr×Obj)}{σ:St}{H:Hp}{s:Shared}{h':Heap}{a:Addr}{o:HO}{t':Nat}{ch:List Addr}(I:Inv X pins σ H s)(k: ∀b ob,b∉ch->s.heap.get? b=some ob->h'.get? b=some ob)
  (Bd: ∀b∈ch,uI X pins H b) (hp:s.heap.objs.size<=a) (new:dv X.prog X.w (upd H a o) h' a o):Inv X pins σ (upd H a o) {s with heap:=h',toks:=t'}:=by
 have hn:H a=none:=I.cq.fresh hp;have RE: ∀b u,H b=some u->b∉ch:=fun b u e z=>by rw[(Bd b z).1] at e; cases e
 refine I.step (g':=s.gens) (d':=s.drawn) (ch:=ch) (fun b hb=>⟨(Bd b hb).2.2.2.1,(Bd b hb).2.1,(Bd b hb).2.2.2.2.1,(Bd b hb).2.2.2.2.2⟩) (fun b ob _ _ hc e _=>k b ob hc e) (fun b ob _ _ hc e _=>⟨ob.slots,k b ob hc e⟩)
  (fun b ob _ e n=>by rw[az (a6 (bg (aM e) hp))]; exact n)
  (fun b ob hc e=>⟨ob,k b ob hc e⟩) (fun b xs e=>by rw[az (aJ e hn)]; exact e) (fun b ob u e=>by rw[az (aJ e hn)]; exact e) (fun b ps e=>⟨#[],by rw[az (aJ e hn),e]; simp⟩) (fun m hm=>?_) (fun b u e=>?_) I.bare
 ·obtain⟨ob,es,ep,ho,r⟩:=hm;exact⟨ob,es,ep,k _ ob (fun z=>(Bd _ z).2.1 rfl) ho,r⟩
 ·by_cases hb:b=a
  ·subst hb;rw[ag] at e;cases e;exact new
  ·rw[az hb] at e;refine(I.cq b u e).tP (fun c v hc q=>k c v ?_ q) (fun c q=>by rw[az (aJ q hn)]; exact q) fun c xs q=>by rw[az (aJ q hn)]; exact q
   rcases hc with z|z
   ·rw[z]; exact RE b u e
   ·exact RE c _ z
def Sq (K:Frag)(a:Addr):It:=
 ⟨fun i H=> ∃xs x,bA K H a xs/\xs[i]? =some x,fun i H x H'=> ∃p y,H p=none/\x= .ref p/\H'=upd H p (.tup [.int i,y])/\ ∀xs,bA K H a xs->xs[i]? =some y,fun i H=> ∃xs,bA K H a xs/\xs.length<=i⟩
def GK {P:Program}{w:World}{K:Frag}{elts:List Expr}{k1}{pos:Pos}(a e it:Addr)(i9:e≠it):Turn P w K (.Tuple elts k1 pos) (Sq K a) [e,it] e (fun i h=>(∃old,IsEnum h e it i old)/\h.IsListIter it a i) where
 mem:=by simp
 obj:=fun i h st b hb=>by
  obtain⟨⟨old,he⟩,hit⟩:=st;have e1:b=e∨b=it:=by simpa using hb
  rcases e1 with rfl|rfl
  ·exact⟨_,he,fun v z=>by have z':Data.fields _ =Data.cell v:=z; cases z'⟩
  ·obtain⟨o,e,c,d⟩:=hit;exact⟨o,e,fun v z=>by rw[d] at z; cases z⟩
 keep:=fun i h h' st k=>by
  obtain⟨⟨old,he⟩,hit⟩:=st;exact⟨⟨old,k e (by simp) _ he⟩,hit.at fun o e=>k it (by simp) o e⟩
 item:=by
  intro X hP hw hK hc i pins s σ H E I hf st hg;subst hP hw hK;obtain⟨⟨old,he⟩,hit⟩:=st;obtain⟨xs,x,hq,hx⟩:=hg;obtain⟨bY,rv,p,hz⟩:=I.list hq;obtain⟨u,hu,ru⟩:=rv.get hx;refine wpAny_pyNext_enum_item he hit p.isList (x:=u) (by simpa using hu) i9 fun h' ho W8 hT hsz hk=>⟨_,rfl,?_⟩;refine wpAny_letOwnedTupleGo_enum ho fun h2 W9 LA=>?_;have ip:e < s.heap.objs.size:=aM he;have GL:h2.get? s.heap.objs.size=some {cls:= .type "tuple",data:= .seq #[.int i s.toks,u]}:=(LA.2 _ (qe ip)).trans hT;have hn:H s.heap.objs.size=none:=I.cq.fresh (aE _);have I2:Inv X pins σ (upd H s.heap.objs.size (.tup [.int i,x])) {s with heap:=h2,toks:=s.toks + 1}:=by
   refine I.DJ (ch:=[e,it]) (fun b ob hb q=>?_) hf (aE _) ⟨by show 2<=sizeLine; decide,[.int i s.toks,u],.cons ⟨_,rfl⟩ (.cons ru .nil),⟨_,GL,rfl,_,rfl⟩⟩;have E4:b≠e/\b≠it:=⟨fun z=>hb (by simp[z]),fun z=>hb (by simp[z])⟩;exact(LA.2 b E4.1).trans (hk b ob E4.1 E4.2 q)
  refine⟨.ref s.heap.objs.size,_,I2,rfl,⟨_,x,hn,rfl,rfl,fun ys hy=>by rw[I.Bi hy hq]; exact hx⟩,⟨⟨u,by simpa using W9⟩,W8.at fun o q=>(LA.2 it i9.symm).trans q⟩,fun b hb=>?_⟩;have Vq:=hf b hb;rw[az]
  ·exact Vq.1
  ·have e1:b=e∨b=it:=by simpa using hb
   rcases e1 with rfl|rfl
   ·exact a6 ip
   ·obtain⟨o,q,_⟩:=hit;exact a6 (aM q)
 done:=by
  intro X hP hw hK hc i pins s σ H E I hf st hg;subst hP hw hK;obtain⟨⟨old,he⟩,hit⟩:=st;obtain⟨xs,hq,hx⟩:=hg;obtain⟨bY,rv,p,hz⟩:=I.list hq;obtain⟨f0,f1,f2,f3,f4,f5⟩:=hf it (by simp);have hl:=rv.length;exact wpAny_pyNext_enum_end (I.ok.hd hc) he hit p.isList (by simp; lia) fun h' eb=>⟨rfl,I.turned (t':=s.toks) (fun b o hb e=>eb b o hb e) f0 f1 f3 f4 f5⟩
 self:=fun _ _ _ _ _ st h=>by
  obtain⟨⟨old,he⟩,hit⟩:=st;exact wpAny_pyIter_enum he h
def Sr (K:Frag)(ta:TA):TI:=fun σ H R=>ta σ H fun vs H1=> ∃a,vs=[.ref a]/\(∃xs,bA K H1 a xs)/\R (Sq K a) H1
def qB {X:Cx}{elts:List Expr}{k1}{Ou:Pos}{l:Expr}{ta:TA}{p pos:Pos}(hg:Gl X "enumerate")(hm:X.mg "enumerate"=none)(ha:PA X [l] ta)(hs:starEach [l] X.env=[(false,eval l X.env)]:=by rfl):
  PI X (.Tuple elts k1 Ou) (.Call (.Name "enumerate" p) [l] [] pos) (Sr X.K ta):=by
 intro pins s σ H R I h;refine Call_ (lS I hg hm boot_enumerate (fI (dO (ha pos pins s σ H _ I h) fun us s1 ⟨vs,H1,I1,r1,q1⟩=>?_) hs rfl));obtain⟨a,e,⟨xs,hq⟩,q⟩:=q1;subst e;obtain⟨u,rfl,ru⟩:=vals1 r1;cases ru;obtain⟨bY,rv,pl,hz⟩:=I1.list hq;refine call_enumerate_list pl.isList fun h' he hit hsz kp=>?_;have I2:Inv X pins σ H1 {s1 with heap:=h'}:=I1.kept (t':=s1.toks) kp;refine wpAny_pyIter_enum he ⟨s1.heap.objs.size + 1,[s1.heap.objs.size + 1,s1.heap.objs.size],_,_,H1,rfl,I2,GK a _ _ (Nat.succ_ne_self _),⟨⟨_,he⟩,hit⟩,fun b hb=>?_,q⟩;have e1:b=s1.heap.objs.size + 1∨b=s1.heap.objs.size:=by simpa using hb
 have E4:s1.heap.objs.size<=b:=by
  rcases e1 with rfl|rfl
  ·exact dm _
  ·exact aE _
 exact I1.Du E4 (I1.cq.fresh E4)
def mW {K:Frag}{a:Addr}{xs:List V}{g:TG}{tb:TS}{D:Ends}{σ:St}{H:Hp}(Pv:Nat->St->Hp->Prop)(h0:Pv 0 σ H)(hl: ∀i σ H,i<=xs.length->Pv i σ H->bA K H a xs)
  (hs: ∀i x p σ H,xs[i]? =some x->H p=none->Pv i σ H->g (.ref p) σ (upd H p (.tup [.int i,x])) fun σ2 H2=>tb {D with nx:=Pv (i + 1),ct:=Pv (i + 1),bk:=D.nx} σ2 H2) (hd: ∀σ H,Pv xs.length σ H->D.nx σ H):
  ∃W:Nat->Nat->St->Hp->Prop,(∃m,W 0 m σ H)/\ ∀i m σ H,W i m σ H->
   ((Sq K a).stop i H/\D.nx σ H)∨((Sq K a).go i H/\ ∃N:St->Hp->Prop,(∀σ' H',N σ' H'-> ∃m',m' < m/\W (i + 1) m' σ' H')/\ ∀x H',(Sq K a).Ol i H x H'->g x σ H' fun σ2 H2=>tb {D with nx:=N,ct:=N,bk:=D.nx} σ2 H2):=by
 refine⟨fun i m σ H=>m=xs.length - i/\i<=xs.length/\Pv i σ H,⟨xs.length,by simp,Nat.zero_le _,h0⟩,?_⟩;rintro i m σ H ⟨rfl,hi,p⟩;have q:=hl i σ H hi p;by_cases ip:i < xs.length
 ·refine .inr ⟨⟨xs,xs[i],q,by simp[ip]⟩,Pv (i + 1),fun σ' H' p'=>⟨xs.length - (i + 1),by lia,rfl,ip,p'⟩,fun x H' y=>?_⟩;obtain⟨pp,y,h1,e1,e2,h2⟩:=y;subst e1 e2;exact hs i y pp σ _ (h2 xs q) h1 p
 ·have e:i=xs.length:=by lia
  subst e;exact .inl ⟨⟨xs,q,aE _⟩,hd σ H p⟩
structure eI (P:Program)(w:World)(K:Frag)(mg:Str->Option Value)(base:Heap)(x:Str)(k:Nat)(ps:List Str)(sp:Sp):Prop where
 ex: ∃(f:Addr) (fd:FuncData),lV P w K mg base rZ k f fd ps sp/\mg x=some (.ref f)/\keepIn K (.ref f)=true/\Binds K fd ps []
section
variable {X:Cx}{x:Str}{k:Nat}{ps:List Str}{sp:Sp}{e:Expr}{es:List Expr}{t:TA}{p pos:Pos}
def Ss (C:eI X.prog X.w X.K X.mg X.base x k ps sp)(hr:eW k X.A)(hg:Gl X x)(ha:PA X (e :: es) t)(qx:(x == ("__debug__":Str))=false:=by decide)
  (he:starEach (e :: es) X.env=(false,eval e X.env) :: starEach es X.env:=by rfl) (gw:(backTo pos (starEach es X.env)).any (·.1)=false:=by rfl):PE X (.Call (.Name x p) (e :: es) [] pos) (uM sp [] E0 t):=by
 obtain⟨f,fd,F,hm,hk,hb⟩:=C.ex;exact ET F hr hg hm hk hb .nil mU ha qx he gw
def Ji (C:eI X.prog X.w X.K X.mg X.base x k ps sp)(hr:eW k X.A)(hg:Gl X x)(qx:(x == ("__debug__":Str))=false:=by decide):PE X (.Call (.Name x p) [] [] pos) (uM sp [] E0 Bo):=by
 obtain⟨f,fd,F,hm,hk,hb⟩:=C.ex;exact IT F hr hg hm hk hb .nil mU qx
end
structure Df (K:Frag)(mg:Str->Option Value)(x:Str)(st:Stmt):Prop where
 ex: ∃(f:Addr) (fd:FuncData),gf K x x st f fd/\mg x=some (.ref f)
def Df.cal {P:Program}{w:World}{K:Frag}{mg:Str->Option Value}{base:Heap}{x:Str}{st:Stmt}{N ps:List Str}{k:Nat}{sp:Sp}(D:Df K mg x st)(S:aS N ps (ay st))
  (hb: ∀(kV doc pm:Value) (an:Option Addr) (cO ct:Value) (us:List Value),us.length=ps.length->bindArgs (fnOf x x (gz st) (dz st) (ay st) .none kV doc pm an cO ct) ⟨us,[]⟩=pure (ps.zip us))
  (len: ∀vs H Q E,sp vs H Q E->vs.length=ps.length)
  (fS: ∀(f:Addr) (cO:Value) (A:Around) (outer:List Env) (s:Shared) (H:Hp) (vs:List V) (Q:VK) (E:XK),eW k (A.deeper (envOfC x (ay st) s.heap.objs.size f cO))->sp vs H Q E->
   ∃t,oO (kK rZ P w K mg base N x (ay st) f cO A outer s H E).Dr (dz st) t/\t {nx:=fun _ H'=>Q .eh H',rt:=Q} (start N vs) H):eI P w K mg base x (k + 1) ps sp:=by
 obtain⟨f,fd,F,hm⟩:=D.ex;exact⟨f,fd,F.ok S len (fS f),hm,F.kp,F.binds hb⟩
def zk {X:Cx}{scope:Scope}(xW: ∀y∈scope.names,y.2≠ .free:=by decide +kernel)(mv: ∀y∈scope.names,y.2≠ .cell:=by decide +kernel)(mP:scope.kind= .function:=by rfl)(uX: ∀x∈scope.names,x.2= .local->scope.names.lookup x.1=some .local:=by decide +kernel):se X scope [] [] []:=by
 have e:(relabel scope X.env).names=scope.names:=map_eq_self (l:=scope.names) (fun x hx=>by
  obtain⟨n,k⟩:=x;have:(k == NameKind.free)=false:=by simpa using xW _ hx
  simp[this])
 refine⟨closureFor_none xW,mv,mP,uX,fun x c h=>by simp at h,fun x h=>?_,.nil⟩;rw[e] at h;rcases h with h|h
 ·exact absurd rfl (mv _ (b0 h))
 ·exact absurd rfl (xW _ (b0 h))
def gR {X:Cx}{scope:Scope}{x:Str}{c:Addr}{j:Nat}(GI:closureFor scope X.env=pure [(x,c)]:=by rfl)(mv: ∀y∈scope.names,y.2≠ .cell:=by decide +kernel)(mP:scope.kind= .function:=by rfl)(uX: ∀x∈scope.names,x.2= .local->scope.names.lookup x.1=some .local:=by decide +kernel)
  (hx:X.env.cells.lookup x=some c:=by rfl) (yk:List (Str×NameKind)) (Su:(relabel scope X.env).names=yk:=by rfl) (BC: ∀y∈yk,(y.2= .cell∨y.2= .free)->y.1=x:=by decide +kernel) (hN:X.N[j]? =some x:=by rfl) (hk:X.env.kindOf x=some .cell∨X.env.kindOf x=some .free:=by exact Or.inl rfl)
  (Np:(relabel scope X.env).names.lookup x=some .cell∨(relabel scope X.env).names.lookup x=some .free:=by exact Or.inl rfl):se X scope [(x,c)] [x] [j]:=by
 refine⟨GI,mv,mP,uX,fun y c' h=>?_,fun y h=>?_,.cons ⟨hN,hk,Np⟩ .nil⟩
 ·have h':=b0 h;have e:(y,c')=(x,c):=by simpa using h'
  cases e;exact hx
 ·have e:y=x:=by
   rcases h with h|h
   ·rw[Su] at h;exact BC _ (b0 h) (.inl rfl)
   ·rw[Su] at h;exact BC _ (b0 h) (.inr rfl)
  subst e;exact⟨c,by simp[List.lookup_cons]⟩
section
variable {X:Cx}
def Sv (i j:Int):Prop:=Builtin.Int.intBits i<=2 ^ 20/\Builtin.Int.intBits j<=2 ^ 20
def LW:oA X (binaryOp .Mult) (rI Sv fun i j=> .int (i * j)):=RT fun _ _ _ _ _ _ _ hc q=>mul_int q (.of_bits hc.1 hc.2)
end
section
variable {prog:Program}{w:World}{A:Around}{E:Value->Shared->Prop}{s:Shared}
end
section
variable {X:Cx}
def DK:gZ X (.builtin "isinstance") (fun xs H Q=> ∃x c t b,xs=[x,.ty c]/\mF X.K H x t/\PySem.W.kitOne X.K t (.type c)=some b/\Q (.bl b) H):=by
 intro pins s σ H xs us Q I r h;obtain⟨x,c,t,b,rfl,ty,e,q⟩:=h;obtain⟨u,u2,rfl,r1,r2⟩:=vals2 r;obtain rfl:u2=Value.type c:=r2;exact Gw I r1 ty e fun tk=>⟨.bl b,H,I.tok _,rfl,q⟩
def E5: ∀{cs:List String} {us:List Value},Vals (cs.map V.ty) us->us=cs.map Value.type
 |[],_,r=>by rw[qf] at r; cases r; rfl
 |c :: cs,_,r=>by
  rw[cZ] at r;cases r with
  |cons r1 r2=>
   have e1:_ =Value.type c:=r1;rw[e1,E5 r2,cZ]
def DM {pins:List (Addr×Obj)}{σ:St}{H:Hp}{s:Shared}{A:Around}{E:Value->Shared->Prop}{Q:Value->Shared->Prop}{x:V}{u t:Value}{tp:Addr}{cs:List String}{b:Bool}(I:Inv X pins σ H s)(rx:RelV x u)(ty:mF X.K H x t)
  (hp:H tp=some (.tup (cs.map V.ty))) (e:PySem.W.kitAny X.K t (cs.map Value.type)=some b) (h: ∀tk,Q (.bool b) {s with toks:=tk}):
  wpAny (model X.prog X.w) A (call (.builtin "isinstance") [u,.ref tp]) Q E s:=by
 obtain⟨_,bY,rv,⟨cl,dd,dt,sl⟩,hg,hc,n,hd⟩:=(show dv X.prog X.w H s.heap tp (.tup (cs.map V.ty)) from I.cq tp _ hp);have ei:=E5 rv;subst ei;simp only at hc hd;subst hc hd;cases ty with
 |eh=>cases(show u=Value.none from rx); exact d9 PySem.W.kitx_none I.gH True.intro hg e (fun z=>nomatch z) h
 |bl y=>cases(show u=Value.bool y from rx); exact d9 PySem.W.kitx_bool I.gH True.intro hg e (fun z=>nomatch z) h
 |int i=>obtain⟨t,q⟩:=(show ∃t,u=Value.int i t from rx); cases q; exact d9 PySem.W.kitx_int I.gH True.intro hg e (fun z=>nomatch z) h
 |str y=>obtain⟨t,q⟩:=(show ∃t,u=Value.str y t from rx); cases q; exact d9 PySem.W.kitx_str I.gH True.intro hg e (fun z=>nomatch z) h
 |Lo y=>obtain⟨t,q⟩:=(show ∃t,u=Value.float y t from rx); cases q; exact d9 PySem.W.kitx_float I.gH True.intro hg e (fun z=>nomatch z) h
 | @lst a xs ea=>
  cases(show u=Value.ref a from rx);obtain⟨_,_,n,_,h1⟩:=(show dv X.prog X.w H s.heap a (.lst xs) from I.cq a _ ea);exact d9 rL I.gH ⟨_,h1,rfl⟩ hg e (fun z=>nomatch z) h
 | @C8 a ob xs ea=>
  cases(show u=Value.ref a from rx);obtain⟨_,_,_,n,_,h1⟩:=(show dv X.prog X.w H s.heap a (.C8 ob (.lst xs)) from I.cq a _ ea);exact d9 rL I.gH ⟨_,h1,rfl⟩ hg e (fun z=>nomatch z) h
 | @tup a xs ea=>
  cases(show u=Value.ref a from rx);obtain⟨_,_,_,p⟩:=(show dv X.prog X.w H s.heap a (.tup xs) from I.cq a _ ea);obtain⟨o,h1,h2,_⟩:=p;exact d9 PySem.W.kitx_tuple I.gH ⟨o,h1,h2⟩ hg e (fun z=>nomatch z) h
 | @dK a bc ea=>
  cases(show u=Value.ref a from rx);obtain⟨_,_,vs,_,p⟩:=(show dv X.prog X.w H s.heap a (.dK bc) from I.cq a _ ea);obtain⟨o,es,ep,h1,h2,_⟩:=p;exact d9 rM I.gH ⟨o,h1,h2.1⟩ hg e (fun z=>nomatch z) h
 | @dT a bc ea=>
  cases(show u=Value.ref a from rx);obtain⟨_,_,xs,_,o,es,ep,h1,h2,_⟩:=(show dv X.prog X.w H s.heap a (.dT bc) from I.cq a _ ea);exact d9 rM I.gH ⟨o,h1,h2.1⟩ hg e (fun z=>nomatch z) h
 | @ins a C dx fs ea cl ha hn lO hm=>
  cases(show u=Value.ref a from rx);obtain⟨mA,O,_⟩:=qv I.cq ea;obtain⟨od,J,_⟩:=O.look;exact d9 (PySem.W.kitx_own (cl.get _) cl.hd ha hn lO hm) I.gH J hg e (fun z=>nomatch z) h
def DN:gZ X (.builtin "isinstance") (fun xs H Q=> ∃(x:V) (tp:Addr) (cs:List String) (t:Value) (b:Bool),xs=[x,.ref tp]/\H tp=some (.tup (cs.map V.ty))/\mF X.K H x t/\PySem.W.kitAny X.K t (cs.map Value.type)=some b/\Q (.bl b) H):=by
 intro pins s σ H xs us Q I r h;obtain⟨x,tp,cs,t,b,rfl,hp,ty,e,q⟩:=h;obtain⟨u,u2,rfl,r1,r2⟩:=vals2 r;obtain rfl:u2=Value.ref tp:=r2;exact DM I r1 ty hp e fun tk=>⟨.bl b,H,I.tok _,rfl,q⟩
def OP (K:Frag):R2:=fun x y H Q=> ∃a b xs,x= .ref a/\y= .ref b/\bA K H a xs/\bA K H b []/\Q (.bl (!xs.isEmpty)) H
def Jj {n:Nat}(hu:X.A.units + n < cLine):oA X (compareOp .NotEq) (OP X.K):=by
 intro pins s σ H x y v u Q I rx ry h;obtain⟨a,b,xs,rfl,rfl,ha,hb,q⟩:=h;cases rx;cases ry;obtain⟨bY,r1,p1,_⟩:=I.list ha;obtain⟨Gz,r2,p2,_⟩:=I.list hb;have e2:Gz=[]:=r2.zero;subst e2;cases xs with
 |nil=>
  have e1:bY=[]:=r1.zero;subst e1;exact SeqAt.RcNeAt.lists (e:=fun _=>true) p1.isList p2.isList rfl (by lia) (fun j h1 _=>absurd h1 (by simp)) X.prog X.w X.xe _ ⟨.bl false,H,I,rfl,q⟩
 |cons z zs=>
  have l1:=r1.length;exact SeqAt.RcNeAt.lists_lengths p1.isList p2.isList (by simp only[List.size_toArray,← l1]; simp) (by lia) X.prog X.w X.xe _ ⟨.bl true,H,I,rfl,q⟩
def Xa (K:Frag):R2:=fun x y H Q=> ∃p xs i v,x= .ref p/\y= .int i/\(bA K H p xs∨cf K H p xs)/\rY xs i=some v/\Q v H
def Nr:IX X (Xa X.K):=by
 intro value slice pins s σ H x y v u Q I rx ry h hs;obtain⟨p,xs,i,z,e1,e2,hq|hq,he,q⟩:=h
 ·exact y4 value slice pins s σ H x y v u Q I rx ry ⟨p,xs,i,z,e1,e2,hq,he,q⟩ hs
 ·exact DD value slice pins s σ H x y v u Q I rx ry ⟨p,xs,i,z,e1,e2,hq,he,q⟩ hs
end
def aD.new {H:Hp}{p:Addr}{o:HO}(h:H p=none):aD H (upd H p o):=fun b u e=>by rw[az (aJ e h)]; exact e
def Xb (t u:TS):TS:=fun D σ H=> ∃M:St->Hp->Prop,t {D with nx:=M} σ H/\ ∀σ' H',M σ' H'->u D σ' H'
def iq {X:Cx}{st:Stmt}{rest:List Stmt}{t u:TS}(h1:PS X st t)(h2:oO X rest u):oO X (st :: rest) (Xb t u):=by
 intro pins s σ H D I ⟨M,h,hM⟩;refine wpAny_execs_cons (dO (h1 pins s σ H {D with nx:=M} I h) fun f s1 q=>?_);cases f with
 |next=>
  obtain⟨σ',H',I',q⟩:=q;exact h2 pins s1 σ' H' D I' (hM _ _ q)
 |ret v=>exact q
 |brk=>exact q
 |cont=>exact q
section
variable {X:Cx}{K:Frag}
def lh (h:X.K=K):IX X (Ox K):=by subst h; exact y4
def lX (h:X.K=K):IX X (Oy K):=by subst h; exact DD
end
inductive Dt where
 |eh|bl (b:Bool)|int (i:Int)|str (x:Str)|tup (ds:List Dt)|lst (ds:List Dt)
mutual
def Rp (H:Hp):Dt->V->Prop
 | .eh,v=>v= .eh
 | .bl b,v=>v= .bl b
 | .int i,v=>v= .int i
 | .str x,v=>v= .str x
 | .tup ds,v=> ∃a xs,v= .ref a/\H a=some (.tup xs)/\g6 H ds xs
 | .lst ds,v=> ∃a xs,v= .ref a/\H a=some (.lst xs)/\g6 H ds xs
def g6 (H:Hp):List Dt->List V->Prop
 |[],vs=>vs=[]
 |d :: ds,vs=> ∃v r,vs=v :: r/\Rp H d v/\g6 H ds r
end
mutual
def Dt.size:Dt->Nat
 | .tup ds=>1 + Dt.fF ds
 | .lst ds=>1 + Dt.fF ds
 | .eh=>1
 | .bl _=>1
 | .int _=>1
 | .str _=>1
def Dt.fF:List Dt->Nat
 |[]=>0
 |d :: ds=>d.size + Dt.fF ds
end
def Dt.size_pos (d:Dt):1<=d.size:=by cases d <;> simp[Dt.size]
def Dt.ir (a b:List Dt):Dt.fF (a ++ b)=Dt.fF a + Dt.fF b:=by
 induction a with
 |nil=>simp[Dt.fF]
 |cons d ds ih=>simp[Dt.fF,ih]; lia
def Dt.qC (a:List Dt):a.length<=Dt.fF a:=by
 induction a with
 |nil=>simp[Dt.fF]
 |cons d ds ih=>
  have:=d.size_pos;simp[Dt.fF]; lia
def uY {H:Hp}{v:V}:Rp H .eh v↔v= .eh:=by unfold Rp; exact Iff.rfl
def qD {H:Hp}{v:V}{b:Bool}:Rp H (.bl b) v↔v= .bl b:=by unfold Rp; exact Iff.rfl
def di {H:Hp}{v:V}{i:Int}:Rp H (.int i) v↔v= .int i:=by unfold Rp; exact Iff.rfl
def fG {H:Hp}{v:V}{x:Str}:Rp H (.str x) v↔v= .str x:=by unfold Rp; exact Iff.rfl
def jI {H:Hp}{v:V}{ds:List Dt}:Rp H (.tup ds) v↔ ∃a xs,v= .ref a/\H a=some (.tup xs)/\g6 H ds xs:=by unfold Rp; exact Iff.rfl
def jJ {H:Hp}{v:V}{ds:List Dt}:Rp H (.lst ds) v↔ ∃a xs,v= .ref a/\H a=some (.lst xs)/\g6 H ds xs:=by unfold Rp; exact Iff.rfl
def cL {H:Hp}{vs:List V}:g6 H [] vs↔vs=[]:=by unfold g6; exact Iff.rfl
def bC {H:Hp}{d:Dt}{ds:List Dt}{vs:List V}:g6 H (d :: ds) vs↔ ∃v r,vs=v :: r/\Rp H d v/\g6 H ds r:=by
 conv=>lhs; unfold g6
mutual
def Rp.mono {H H':Hp}(s:aD H H'): ∀(d:Dt) {v:V},Rp H d v->Rp H' d v
 | .eh,_,h=>uY.mpr (uY.mp h)
 | .bl _,_,h=>qD.mpr (qD.mp h)
 | .int _,_,h=>di.mpr (di.mp h)
 | .str _,_,h=>fG.mpr (fG.mp h)
 | .tup ds,_,h=>by
  obtain⟨a,xs,e,h1,h2⟩:=jI.mp h;exact jI.mpr ⟨a,xs,e,s _ _ h1,g6.mono s ds h2⟩
 | .lst ds,_,h=>by
  obtain⟨a,xs,e,h1,h2⟩:=jJ.mp h;exact jJ.mpr ⟨a,xs,e,s _ _ h1,g6.mono s ds h2⟩
def g6.mono {H H':Hp}(s:aD H H'): ∀(ds:List Dt) {vs:List V},g6 H ds vs->g6 H' ds vs
 |[],_,h=>cL.mpr (cL.mp h)
 |d :: ds,_,h=>by
  obtain⟨v,r,e,h1,h2⟩:=bC.mp h;exact bC.mpr ⟨v,r,e,Rp.mono s d h1,g6.mono s ds h2⟩
end
def g6.length {H:Hp}: ∀{ds:List Dt} {vs:List V},g6 H ds vs->ds.length=vs.length
 |[],_,h=>by rw[cL.mp h]; rfl
 |d :: ds,_,h=>by
  obtain⟨v,r,e,_,h2⟩:=bC.mp h;rw[e,bS,bS,g6.length h2]
def g6.get {H:Hp}: ∀{ds:List Dt} {vs:List V} {i:Nat} {d:Dt},g6 H ds vs->ds[i]? =some d-> ∃v,vs[i]? =some v/\Rp H d v
 |[],_,_,_,_,e=>by simp at e
 |d :: ds,_,0,_,h,e=>by
  obtain⟨v,r,rfl,h1,_⟩:=bC.mp h;simp at e; subst e;exact⟨v,rfl,h1⟩
 |d :: ds,_,i + 1,_,h,e=>by
  obtain⟨v,r,rfl,_,h2⟩:=bC.mp h;obtain⟨u,h3,h4⟩:=g6.get (i:=i) h2 (by simpa using e);exact⟨u,by simpa using h3,h4⟩
def g6.append {H:Hp}: ∀{ds es:List Dt} {vs us:List V},g6 H ds vs->g6 H es us->g6 H (ds ++ es) (vs ++ us)
 |[],_,_,_,h,h'=>by rw[cL.mp h]; exact h'
 |d :: ds,_,_,_,h,h'=>by
  obtain⟨v,r,rfl,h1,h2⟩:=bC.mp h;exact bC.mpr ⟨v,r ++ _,rfl,h1,g6.append h2 h'⟩
def g6.one {H:Hp}{d:Dt}{v:V}(h:Rp H d v):g6 H [d] [v]:=bC.mpr ⟨v,[],rfl,h,cL.mpr rfl⟩
def g6.ints {H:Hp}: ∀(ns:List Int),g6 H (ns.map Dt.int) (ns.map V.int)
 |[]=>cL.mpr rfl
 |n :: ns=>bC.mpr ⟨_,_,rfl,di.mpr rfl,g6.ints ns⟩
def jt {H:Hp}{a:Addr}{xs:List V}{ds:List Dt}(h:H a=some (.lst xs))(r:g6 H ds xs):Rp H (.lst ds) (.ref a):=jJ.mpr ⟨a,xs,rfl,h,r⟩
def eA {H:Hp}{a:Addr}{xs:List V}{ds:List Dt}(h:H a=some (.tup xs))(r:g6 H ds xs):Rp H (.tup ds) (.ref a):=jI.mpr ⟨a,xs,rfl,h,r⟩
def OQ:Dt->String
 | .eh=>"NoneType"| .bl _=>"bool"| .int _=>"int"| .str _=>"str"| .tup _=>"tuple"| .lst _=>"list"
def Rp.ty {K:Frag}{H:Hp}{d:Dt}{v:V}(h:Rp H d v):mF K H v (.type (OQ d)):=by
 cases d with
 |eh=>rw[uY.mp h]; exact .eh
 |bl b=>rw[qD.mp h]; exact .bl b
 |int i=>rw[di.mp h]; exact .int i
 |str x=>rw[fG.mp h]; exact .str x
 |tup ds=>obtain⟨a,xs,e,h1,_⟩:=jI.mp h; rw[e]; exact .tup h1
 |lst ds=>obtain⟨a,xs,e,h1,_⟩:=jJ.mp h; rw[e]; exact .lst h1
def Xc:Dt->Bool| .lst _=>true|_=>false
def Xd:Dt->Bool| .tup _=>true|_=>false
def isLT:Dt->Bool| .lst _=>true| .tup _=>true|_=>false
def Vr:Dt->Bool| .str _=>true|_=>false
def isB:Dt->Bool| .bl _=>true|_=>false
def ZV:Dt->Bool| .int _=>true| .bl _=>true|_=>false
def isW:Dt->Bool| .int _=>true|_=>false
def E6 {K:Frag}(d:Dt):PySem.W.kitOne K (.type (OQ d)) (.type "list")=some (Xc d):=by cases d <;> (first|rfl|decide +kernel)
def Jk {K:Frag}(d:Dt):PySem.W.kitOne K (.type (OQ d)) (.type "tuple")=some (Xd d):=by cases d <;> (first|rfl|decide +kernel)
def yl {K:Frag}(d:Dt):PySem.W.kitOne K (.type (OQ d)) (.type "str")=some (Vr d):=by cases d <;> (first|rfl|decide +kernel)
def Nt {K:Frag}(d:Dt):PySem.W.kitOne K (.type (OQ d)) (.type "bool")=some (isB d):=by cases d <;> (first|rfl|decide +kernel)
def Sw {K:Frag}(d:Dt):PySem.W.kitOne K (.type (OQ d)) (.type "int")=some (ZV d):=by cases d <;> (first|rfl|decide +kernel)
def OR {K:Frag}(d:Dt):PySem.W.kitAny K (.type (OQ d)) [.type "list",.type "tuple"]=some (isLT d):=by
 unfold PySem.W.kitAny;rw[E6];cases d <;> (first|rfl|(show PySem.W.kitAny K _ [.type "tuple"]=_; unfold PySem.W.kitAny; rw[Jk]; rfl))
def sS {α β:Type}{F:α->β->Prop}: ∀{l₁:List α} {l₂:List β} {y:β},Paired F l₁ l₂->l₂[l₂.length - 1]? =some y-> ∃l d,l₁=l ++ [d]/\F d y/\Paired F l l₂.dropLast
 |_,_,_,.nil,e=>by simp at e
 |a :: l₁,b :: l₂,y,.cons r t,e=>by
  cases t with
  |nil=>
   simp at e; subst e;exact⟨[],a,rfl,r,.nil⟩
  |cons r' t'=>
   rename_i a' b' m₁ m₂;have e':(b' :: m₂)[(b' :: m₂).length - 1]? =some y:=by
    have h1:(b :: b' :: m₂).length - 1=((b' :: m₂).length - 1) + 1:=by simp
    rw[h1] at e;simpa using e
   obtain⟨l,d,e1,h1,h2⟩:=sS (.cons r' t') e';refine⟨a :: l,d,by rw[e1]; rfl,h1,?_⟩;rw[List.dropLast_cons_of_ne_nil (by simp)];exact .cons r h2
def lY (H H':Hp)(d:Dt)(v:V):Prop:= ∃t u1 u2,v= .ref t/\H' t=some (.tup [u1,u2])/\Rp H d u1/\Rp H d u2
def lY.mono {H H' H2:Hp}{d:Dt}{v:V}(h:lY H H' d v)(k: ∀b xs,H' b=some (.tup xs)->H2 b=some (.tup xs)):lY H H2 d v:=by
 obtain⟨t,u1,u2,e,h1,h2⟩:=h;exact⟨t,u1,u2,e,k _ _ h1,h2⟩
def Jl {H:Hp}{p:Addr}{o:HO}(h:H p=none): ∀b xs,H b=some (.tup xs)->upd H p o b=some (.tup xs):=fun b xs e=>aD.new h b _ e
def dA {H:Hp}{p:Addr}{o:HO}{ys:List V}(h:H p=some (.lst ys)): ∀b xs,H b=some (.tup xs)->upd H p o b=some (.tup xs):=fun b xs e=>by
 rw[az (mr e h (by intro z; cases z))]; exact e
def aD.cG {H0 H:Hp}{p:Addr}{o:HO}(s:aD H0 H)(h:H0 p=none):aD H0 (upd H p o):=fun b u e=>by
 rw[az (aJ e h)]; exact s b u e
def kids:Dt->List Dt
 | .tup ds=>ds
 | .lst ds=>ds
 |_=>[]
def E7 {H:Hp}{d:Dt}{v:V}(h:Rp H d v)(hd:isLT d=true): ∃a xs,v= .ref a/\(∀(K:Frag) (H':Hp),aD H H'->bA K H' a xs∨cf K H' a xs)/\g6 H (kids d) xs:=by
 cases d with
 |tup ds=>
  obtain⟨a,xs,e,h1,h2⟩:=jI.mp h;exact⟨a,xs,e,fun K H' s=> .inr (cf.of (s _ _ h1)),h2⟩
 |lst ds=>
  obtain⟨a,xs,e,h1,h2⟩:=jJ.mp h;exact⟨a,xs,e,fun K H' s=> .inl (bA.of (s _ _ h1)),h2⟩
 |_=>cases hd
def GN {d:Dt}(hd:isLT d=true):d.size=1 + Dt.fF (kids d):=by
 cases d with
 |tup ds=>simp[Dt.size,kids]
 |lst ds=>simp[Dt.size,kids]
 |_=>cases hd
mutual
def Dt.plain:Dt->Bool
 | .int _=>true
 | .str _=>true
 | .tup ds=>Dt.pI ds
 | .lst ds=>Dt.pI ds
 | .eh=>false
 | .bl _=>false
def Dt.pI:List Dt->Bool
 |[]=>true
 |d :: ds=>d.plain && Dt.pI ds
end
def Dt.pJ {ds:List Dt}:Dt.pI ds=true↔ ∀d∈ds,d.plain=true:=by
 induction ds with
 |nil=>simp[Dt.pI]
 |cons d ds ih=>simp[Dt.pI,ih]
def DO {d:Dt}(h:d.plain=true): ∀c∈kids d,c.plain=true:=by
 cases d with
 |tup ds=>exact Dt.pJ.mp (by simpa[Dt.plain,kids] using h)
 |lst ds=>exact Dt.pJ.mp (by simpa[Dt.plain,kids] using h)
 |_=>intro c hc; cases hc
def tS {ds:List Dt}{i:Nat}{d:Dt}(h:ds[i]? =some d):ds.take (i + 1)=ds.take i ++ [d]:=by rw[Gd,h]; rfl
def wQ (ds:List Dt)(i:Nat):Dt.fF (ds.take i)<=Dt.fF ds:=by
 have:=Dt.ir (ds.take i) (ds.drop i);rw[List.take_append_drop] at this;lia
def iY {n:Nat}(h:n<=1000000):n < sizeLine:=qg h (by rw[eD]; decide)
open PySem.W
def jK {α:Type}(key:Nat->Int)(n:Nat)(Po:α->Prop):KasT α->Prop
 | .ret a=>Po a
 | .ask i j k=>i < n/\j < n/\jK key n Po (k (decide (key i < key j)))
def gU {α:Type}{key:Nat->Int}{n:Nat}{Po ZW:α->Prop}(h: ∀a,Po a->ZW a): ∀(t:KasT α),jK key n Po t->jK key n ZW t
 | .ret a,q=>h a q
 | .ask i j k,q=>⟨q.1,q.2.1,gU h _ q.2.2⟩
def iS {α β:Type}{key:Nat->Int}{n:Nat}{Po:β->Prop}{f:α->KasT β}: ∀(t:KasT α),jK key n (fun a=>jK key n Po (f a)) t->jK key n Po (t.bind f)
 | .ret a,q=>q
 | .ask i j k,q=>⟨q.1,q.2.1,iS _ q.2.2⟩
def uZ {α:Type}{key:Nat->Int}{n:Nat}{Po:α->Prop}{cmp:Nat->Nat->(Bool->Shared->Prop)->Shared->Prop}{s:Shared}{Q:α->Shared->Prop}
  (hc: ∀i j (C:Bool->Shared->Prop),i < n->j < n->C (decide (key i < key j)) s->cmp i j C s) (hq: ∀a,Po a->Q a s): ∀(t:KasT α),jK key n Po t->t.kasWp cmp Q s
 | .ret a,q=>hq a q
 | .ask i j k,q=>hc i j _ q.1 q.2.1 (uZ hc hq _ q.2.2)
def kf (key:Nat->Int)(p:Array Nat)(i:Nat):Int:=key (p.getD i 0)
def qE (n:Nat)(p:Array Nat):Prop:=p.Perm (List.toArray (List.range n))
def qE.size {n:Nat}{p:Array Nat}(h:qE n p):p.size=n:=by
 have:=Array.Perm.size_eq h;simpa using this
def qE.lt {n:Nat}{p:Array Nat}(h:qE n p)(h0:0 < n)(i:Nat):p.getD i 0 < n:=by
 by_cases hi:i < p.size
 ·have e:p.getD i 0=p[i]:=by simp[Array.getD,hi]
  rw[e];have hm:p[i]∈p:=Array.getElem_mem hi;have:=(Array.Perm.mem_iff h).mp hm;simpa using this
 ·have e:p.getD i 0=0:=by simp[Array.getD,hi]
  rw[e]; exact h0
def qF {p q:Array Nat}{i j:Nat}(h:p[i]? =q[j]?):p.getD i 0=q.getD j 0:=by
 rw[Lk,Lk,h]
def pK {key:Nat->Int}{p:Array Nat}{i j:Nat}(hj:j<=p.size)(a:Nat):kf key (kas_rev p i j) a=if i<=a/\a < j then kf key p (i + j - 1 - a) else kf key p a:=by
 have:=getElem?_mirror_all (xs:=p) (i:=i) hj a;by_cases h:i<=a/\a < j
 ·rw[a8 h] at this ⊢;exact cJ key (qF this)
 ·rw[aU h] at this ⊢;exact cJ key (qF this)
def qE.rev {n:Nat}{p:Array Nat}(h:qE n p)(i j:Nat):qE n (kas_rev p i j):=(mirror_perm p i j _).trans h
def Jm {key:Nat->Int}{p:Array Nat}{src d:Nat}(hs:src < p.size)(hd:d<=src)(k:Nat):kf key (bubble p src d) k=if k=src - d then kf key p src else if src - d < k/\k<=src then kf key p (k - 1) else kf key p k:=by
 have:=getElem?_bubble (xs:=p) hs d hd k;by_cases h:k=src - d
 ·rw[a8 h] at this ⊢;exact cJ key (qF this)
 ·rw[aU h] at this ⊢;by_cases h2:src - d < k/\k<=src
  ·rw[a8 h2] at this ⊢;exact cJ key (qF this)
  ·rw[aU h2] at this ⊢;exact cJ key (qF this)
def lj (key:Nat->Int)(p:Array Nat)(m:Nat):Prop:= ∀a b,a<=b->b < m->kf key p a<=kf key p b
def Jn (key:Nat->Int)(p:Array Nat)(m:Nat):Prop:= ∀a b,a<=b->b < m->kf key p b<=kf key p a
section
variable {key:Nat->Int}{n:Nat}
def Jo {p:Array Nat}(hp:qE n p)(h0:0 < n): ∀(f m:Nat),1<=m->lj key p m->jK key n (fun r=>m<=r/\r<=m + f/\lj key p r/\(r=m + f∨kf key p r < kf key p (r - 1))) (kas_asc p f m)
 |0,m,h1,hs=>⟨aE _,aE _,hs,.inl rfl⟩
 |f + 1,m,h1,hs=>by
  unfold kas_asc;refine⟨hp.lt h0 _,hp.lt h0 _,?_⟩;by_cases c:key (p.getD m 0) < key (p.getD (m - 1) 0)
  ·rw[decide_eq_true c]; dsimp only; rw[if_pos rfl];exact⟨aE _,by lia,hs,.inr c⟩
  ·rw[decide_eq_false c]; dsimp only; rw[if_neg Bool.false_ne_true];have LV:lj key p (m + 1):=by
    intro a b Io hb;by_cases LX:b < m
    ·exact hs a b Io LX
    ·have e:b=m:=by lia
     subst e;by_cases OS:a=b
     ·rw[OS]; exact fM _
     ·have h2:=hs a (b - 1) (by lia) (by lia);have h3:kf key p (b - 1)<=kf key p b:=by unfold kf; lia
      lia
   refine gU (fun r ⟨q1,q2,q3,q4⟩=>⟨by lia,by lia,q3,?_⟩) _ (Jo hp h0 f (m + 1) (by lia) LV);rcases q4 with q4|q4
   ·exact .inl (by lia)
   ·exact .inr q4
def zl (h0:0 < n): ∀(f:Nat) (p:Array Nat) (m q:Nat),qE n p->m + f<=n->q + 1<=m->Jn key p m->(∀a,m - (q + 1)<=a->a < m->kf key p a=kf key p (m - 1))->
  jK key n (fun r=>qE n r.1/\1<=r.2.1/\r.2.1<=n/\r.2.2 + 1<=r.2.1/\Jn key r.1 r.2.1/\ ∀a,r.2.1 - (r.2.2 + 1)<=a->a < r.2.1->kf key r.1 a=kf key r.1 (r.2.1 - 1)) (kas_desc f p m q)
 |0,p,m,q,hp,hm,hq,hs,he=>⟨hp,(by show 1<=m; lia),(by show m<=n; lia),hq,hs,he⟩
 |f + 1,p,m,q,hp,hm,hq,hs,he=>by
  unfold kas_desc;have dn: ∀{r:Array Nat},(∀a,a < m->kf key r a=kf key p a)->kf key r m=kf key p m->kf key p m<=kf key p (m - 1)->Jn key r (m + 1):=by
   intro r hr Sx c a b Io hb;by_cases LX:b < m
   ·rw[hr a (by lia),hr b LX]; exact hs a b Io LX
   ·have e:b=m:=by lia
    subst e;by_cases OS:a=b
    ·rw[OS]; exact fM _
    ·rw[Sx,hr a (by lia)];have h2:=hs a (b - 1) (by lia) (by lia);lia
  refine⟨hp.lt h0 _,hp.lt h0 _,?_⟩;by_cases c:key (p.getD m 0) < key (p.getD (m - 1) 0)
  ·rw[decide_eq_true c]; dsimp only; rw[if_pos rfl];have c':kf key p m<=kf key p (m - 1):=by unfold kf; lia
   have last: ∀{r:Array Nat} (a:Nat),m + 1 - (0 + 1)<=a->a < m + 1->kf key r a=kf key r (m + 1 - 1):=fun{r} a h1 h2=>by
    have e:a=m + 1 - 1:=by lia
    rw[e]
   by_cases ZX:q > 0
   ·rw[a8 ZX];have hz:m<=p.size:=by rw[hp.size]; lia
    have hr: ∀a,a < m->kf key (kas_rev p (m - (q + 1)) m) a=kf key p a:=fun a ha=>by
     rw[pK hz];split
     ·rename_i h;rw[he a h.1 h.2,he _ (by lia) (by lia)]
     ·rfl
    have Sx:kf key (kas_rev p (m - (q + 1)) m) m=kf key p m:=by rw[pK hz,aU (by lia)]
    exact zl h0 f _ (m + 1) 0 (hp.rev _ _) (by lia) (by lia) (dn hr Sx c') last
   ·rw[aU ZX];exact zl h0 f p (m + 1) 0 hp (by lia) (by lia) (dn (fun _ _=>rfl) rfl c') last
  ·rw[decide_eq_false c]; dsimp only; rw[if_neg Bool.false_ne_true];refine⟨hp.lt h0 _,hp.lt h0 _,?_⟩;by_cases d:key (p.getD (m - 1) 0) < key (p.getD m 0)
   ·rw[decide_eq_true d]; dsimp only; rw[if_pos rfl];exact⟨hp,(by show 1<=m; lia),(by show m<=n; lia),hq,hs,he⟩
   ·rw[decide_eq_false d]; dsimp only; rw[if_neg Bool.false_ne_true];have e0:kf key p m=kf key p (m - 1):=by unfold kf; lia
    refine zl h0 f p (m + 1) (q + 1) hp (by lia) (by lia) (dn (fun _ _=>rfl) rfl (by lia)) (fun a h1 h2=>?_);have e1:m + 1 - 1=m:=by lia
    rw[e1];by_cases OS:a=m
    ·rw[OS]
    ·rw[e0]; exact he a (by lia) (by lia)
def E8 (h0:0 < n){p:Array Nat}{m:Nat}(hp:qE n p)(h1:1<=m)(hm:m<=n)(hs:Jn key p m):jK key n (fun r=>qE n r.2/\1<=r.1/\r.1<=n/\lj key r.2 r.1) (kas_tail3 m n p):=by
 unfold kas_tail3;have hz:m<=p.size:=by rw[hp.size]; lia
 have hu:lj key (kas_rev p 0 m) m:=by
  intro a b Io hb;rw[pK hz,pK hz,a8 ⟨bh _,by lia⟩,a8 ⟨bh _,hb⟩];exact hs _ _ (by lia) (by lia)
 refine iS _ (gU (fun r ⟨q1,q2,q3,_⟩=>?_) _ (Jo (hp.rev 0 m) h0 (n - m) m h1 hu));exact⟨hp.rev 0 m,by lia,by lia,q3⟩
def u0 (h0:0 < n){p:Array Nat}{m:Nat}(hp:qE n p)(hm:m + 1<=n)(hs:Jn key p (m + 1)):jK key n (fun r=>qE n r.2/\1<=r.1/\r.1<=n/\lj key r.2 r.1) (kas_descPart m n p):=by
 unfold kas_descPart;refine iS _ (gU (fun r ⟨q1,q2,q3,q4,q5,q6⟩=>?_) _ (zl h0 (n - (m + 1)) p (m + 1) 0 hp (by lia) (by lia) hs fun a h1 h2=>by
  have e:a=m + 1 - 1:=by lia
  rw[e]))
 by_cases hq:r.2.2 > 0
 ·rw[a8 hq];have hz:r.2.1<=r.1.size:=by rw[q1.size]; lia
  refine E8 h0 (q1.rev _ _) q2 q3 fun a b Io hb=>?_;have hr: ∀a,a < r.2.1->kf key (kas_rev r.1 (r.2.1 - (r.2.2 + 1)) r.2.1) a=kf key r.1 a:=fun a ha=>by
   rw[pK hz];split
   ·rename_i h;rw[q6 a h.1 h.2,q6 _ (by lia) (by lia)]
   ·rfl
  rw[hr a (by lia),hr b hb];exact q5 a b Io hb
 ·rw[aU hq];exact E8 h0 q1 q2 q3 q5
def LY (h0:0 < n){p:Array Nat}(hp:qE n p):jK key n (fun r=>qE n r.2/\1<=r.1/\r.1<=n/\lj key r.2 r.1) (kas_count n p):=by
 unfold kas_count;have hs1:lj key p 1:=fun a b Io hb=>by
  have e:a=b:=by lia
  rw[e]; exact fM _
 refine iS _ (gU (fun m ⟨q1,q2,q3,q4⟩=>?_) _ (Jo hp h0 (n - 1) 1 (aE _) hs1));by_cases Sy:(m == n)=true
 ·rw[a8 Sy];exact⟨hp,q1,by lia,q3⟩
 ·rw[aU Sy];have i9:m≠n:=fun z=>Sy (by simp[z]);have ip:kf key p m < kf key p (m - 1):=by
   rcases q4 with q4|q4
   ·exact absurd q4 (by lia)
   ·exact q4
  by_cases ZY:m > 1
  ·rw[a8 ZY];refine⟨hp.lt h0 _,hp.lt h0 _,?_⟩;by_cases c:key (p.getD 0 0) < key (p.getD (m - 1) 0)
   ·rw[decide_eq_true c]; dsimp only; rw[if_pos rfl];exact⟨hp,q1,by lia,q3⟩
   ·rw[decide_eq_false c]; dsimp only; rw[if_neg Bool.false_ne_true];have hz:m<=p.size:=by rw[hp.size]; lia
    have heq: ∀a,a < m->kf key p a=kf key p (m - 1):=fun a ha=>by
     have h1:=q3 0 a (bh _) ha;have h2:=q3 a (m - 1) (by lia) (by lia);have h3:kf key p (m - 1)<=kf key p 0:=by unfold kf; lia
     lia
    have hr: ∀a,a < m->kf key (kas_rev p 0 m) a=kf key p (m - 1):=fun a ha=>by
     rw[pK hz,a8 ⟨bh _,ha⟩];exact heq _ (by lia)
    refine u0 h0 (hp.rev _ _) (by lia) fun a b Io hb=>?_;by_cases LX:b < m
    ·rw[hr a (by lia),hr b LX]; exact fM _
    ·have e:b=m:=by lia
     subst e;by_cases OS:a=b
     ·rw[OS]; exact fM _
     ·rw[hr a (by lia),pK hz,aU (by lia)];lia
  ·rw[aU ZY];have e:m=1:=by lia
   subst e;refine u0 h0 hp (by lia) fun a b Io hb=>?_;by_cases Xe:a=b
   ·rw[Xe]; exact fM _
   ·have e1:a=0:=by lia
    have e2:b=1:=by lia
    subst e1 e2;have e3:(1:Nat) - 1=0:=rfl;rw[e3] at ip;lia
def zo (h0:0 < n){p:Array Nat}{k:Nat}(hp:qE n p)(hs:lj key p k): ∀(f l r:Nat),l<=r->r<=k->r - l<=f->(∀i,i < l->kf key p i<=kf key p k)->(∀i,r<=i->i < k->kf key p k < kf key p i)->
  jK key n (fun m=>m<=k/\(∀i,i < m->kf key p i<=kf key p k)/\ ∀i,m<=i->i < k->kf key p k < kf key p i) (kas_place p k f l r)
 |0,l,r,hlr,Vs,hf,h1,h2=>by
  have e:l=r:=by lia
  subst e;exact⟨Vs,h1,h2⟩
 |f + 1,l,r,hlr,Vs,hf,h1,h2=>by
  unfold kas_place;by_cases OT:l≥r
  ·rw[a8 OT];have e:l=r:=by lia
   subst e;exact⟨Vs,h1,h2⟩
  ·rw[aU OT];refine⟨hp.lt h0 _,hp.lt h0 _,?_⟩;by_cases c:key (p.getD k 0) < key (p.getD ((l + r) / 2) 0)
   ·rw[decide_eq_true c]; dsimp only; rw[if_pos rfl];refine zo h0 hp hs f l ((l + r) / 2) (by lia) (by lia) (by lia) h1 fun i hi Xf=>?_;have:=hs ((l + r) / 2) i hi Xf;have c':kf key p k < kf key p ((l + r) / 2):=c;lia
   ·rw[decide_eq_false c]; dsimp only; rw[if_neg Bool.false_ne_true];refine zo h0 hp hs f ((l + r) / 2 + 1) r (by lia) Vs (by lia) (fun i hi=>?_) h2;have:=hs i ((l + r) / 2) (by lia) (by lia);have c': ¬ kf key p k < kf key p ((l + r) / 2):=c;lia
def Nu (h0:0 < n): ∀(f:Nat) (p:Array Nat) (k:Nat),qE n p->k + f=n->lj key p k->jK key n (fun r=>qE n r/\lj key r n) (kas_bin f p k)
 |0,p,k,hp,hk,hs=>⟨hp,by rw[← hk]; exact hs⟩
 |f + 1,p,k,hp,hk,hs=>by
  unfold kas_bin;refine iS _ (gU (fun l ⟨q1,q2,q3⟩=>?_) _ (zo h0 hp hs k 0 k (bh _) (aE _) (by lia) (fun i hi=>absurd hi (iF _)) fun i h1 h2=>by lia));have hz:k < p.size:=by rw[hp.size]; lia
  refine Nu h0 f _ (k + 1) ((bubble_perm p k _).trans hp) (by lia) fun a b Io hb=>?_;rw[Jm hz (by lia),Jm hz (by lia)];have el:k - (k - l)=l:=by lia
  rw[el];by_cases ha:a=l
  ·rw[a8 ha];by_cases E4:b=l
   ·rw[a8 E4]; exact fM _
   ·rw[aU E4,a8 ⟨by lia,by lia⟩];have:=q3 (b - 1) (by lia) (by lia);lia
  ·rw[aU ha];by_cases ZZ:l < a/\a<=k
   ·rw[a8 ZZ,aU (by lia),a8 ⟨by lia,by lia⟩];exact hs _ _ (by lia) (by lia)
   ·rw[aU ZZ];have Xg:a < l:=by lia
    by_cases E4:b=l
    ·rw[a8 E4]; exact q2 a Xg
    ·rw[aU E4];by_cases Vq:l < b/\b<=k
     ·rw[a8 Vq];exact hs _ _ (by lia) (by lia)
     ·rw[aU Vq];exact hs _ _ Io (by lia)
def Jp (h0:0 < n):jK key n (fun r=>qE n r/\lj key r n) (kas_sort n):=by
 unfold kas_sort;refine iS _ (gU (fun r ⟨q1,q2,q3,q4⟩=>?_) _ (LY h0 (Ll _)));by_cases h:r.1 < n
 ·rw[a8 h];have e:max r.1 1=r.1:=by lia
  rw[e];exact Nu h0 _ _ _ q1 (by lia) q4
 ·rw[aU h];have e:r.1=n:=by lia
  rw[e] at q4;exact⟨q1,q4⟩
end
section
variable {prog:Program}{w:World}{A:Around}{E:Value->Shared->Prop}{s:Shared}
def zp {a:Addr}{vs:List Value}{n:Nat}{P:PySem.Fin->Shared->Prop}{key:Nat->Int}{κ:SortKind}(ho:s.heap.get? a=some (seqObj "list" vs.toArray n))(C9:vs.length < 64)
  (hk:2<=vs.length-> ∀(s':Shared) (Q:SortKind->Shared->Prop),(∀b o,b≠a->s.heap.get? b=some o->s'.heap.get? b=some o)->Q κ s'->wpAny (model prog w) A (keyKind' vs.toArray) Q (fun _ _=>False) s')
  (hc: ∀(s':Shared) (i j:Nat) (C:Bool->Shared->Prop),(∀b o,b≠a->s.heap.get? b=some o->s'.heap.get? b=some o)->i < vs.length->j < vs.length->C (decide (key i < key j)) s'->
   wpAny (model prog w) A (keyLt' κ (vs.getD i Value.none) (vs.getD j Value.none)) C (fun _ _=>False) s')
  (h: ∀p:Array Nat,qE vs.length p->lj key p vs.length->P (.done (.ret .none)) {s with heap:=sortedHeap s.heap a vs (p.toList.map fun i=>vs.getD i Value.none).toArray}):
  wpAny (model prog w) A (Builtin.«list.sort» ⟨[.ref a],[]⟩) P E s:=by
 rw[list_sort_plain];have ha:a < s.heap.objs.size:=aM ho;have hl:sizeLine=16777216:=eD;refine aA (listItems_at ho rfl ?_);refine aA (wA ho rfl ?_ (by rw[bB]; lia) (bh _));obtain⟨e1,GO⟩: ∃e1,(s.heap.update a (Obj.mapSeq fun _=>(#[]:Array Value))).get? a=some (seqObj "list" #[] e1):=⟨_,Ng ho (fun _=> #[])⟩;refine aA (seqEpoch_at GO rfl ?_);refine aA (wpAny_newTuple ?_ (by show vs.length<=_; lia));refine aA (Lm ?_ (bh _));refine ij ?_;have Vt:(((s.heap.update a (Obj.mapSeq fun _=>(#[]:Array Value))).push (seqObj "tuple" vs.toArray 0)).push (seqObj "list" #[] 0)).get? a=some (seqObj "list" #[] e1):=by
  rw[mM _ _ _ (by rw[size_push',pz]; exact a6 (iP ha)),mM _ _ _ (by rw[pz]; exact a6 ha)];exact GO
 show wpAny (model prog w) A _ P E {s with heap:=((s.heap.update a (Obj.mapSeq fun _=>(#[]:Array Value))).push (seqObj "tuple" vs.toArray 0)).push (seqObj "list" #[] 0)};dsimp only;have keep: ∀b o,b≠a->s.heap.get? b=some o->(((s.heap.update a (Obj.mapSeq fun _=>(#[]:Array Value))).push (seqObj "tuple" vs.toArray 0)).push (seqObj "list" #[] 0)).get? b=some o:=fun b o hb e=>
  ax _ (ax _ ((mK s.heap _ (wC hb)).trans e))
 have hsz:vs.toArray.size=vs.length:=by simp
 by_cases h2:vs.toArray.size < 2
 ·rw[a8 h2,a8 h2];refine aA (bE ?_);rw[StateT.run_pure];refine aA (bE ?_);dsimp only;have DP:(arrOf (SortSt.mk' general' (vs.toArray.zip vs.toArray) #[] 7 none)).map (·.2)=((List.toArray (List.range vs.length)).toList.map fun i=>vs.getD i Value.none).toArray:=by
   show(vs.toArray.zip vs.toArray).map (·.2)=_;apply Array.toList_inj.mp;apply Ge;intro i;simp only[Array.toList_map,Array.toList_zip,List.getElem?_map,List.getElem?_zip_eq_some,List.getElem?_range];by_cases hi:i < vs.length
   ·simp[hi,List.getElem?_zip_eq_some,List.zip]
   ·simp[hi]
  refine aA (seqEpoch_at Vt rfl ?_);rw[DP];refine wpAny_bind (listUpdate_at Vt rfl ?_ (Nat.zero_le _) (by simp; lia));simp only[bne_self_eq_false,Bool.false_eq_true,if_false];refine bE (h _ (Ll _) ?_);intro i j Z0 hj;have:i=j:=by lia
  subst this; exact fM _
 ·rw[aU h2,aU h2];have Sz:2<=vs.length:=by lia
  refine aA (b9 (hk Sz _ (fun κ' s'=>κ'=κ/\s'={s with heap:=((s.heap.update a (Obj.mapSeq fun _=>(#[]:Array Value))).push (seqObj "tuple" vs.toArray 0)).push (seqObj "list" #[] 0)}) keep ⟨rfl,rfl⟩) (fun κ' s' K4=>?_) fun _ _ x=>x.elim);obtain⟨rfl,rfl⟩:=K4;refine aA (b9 (kat_run (Q:=fun wK s'=>s'={s with heap:=((s.heap.update a (Obj.mapSeq fun _=>(#[]:Array Value))).push (seqObj "tuple" vs.toArray 0)).push (seqObj "list" #[] 0)}/\ ∃p:Array Nat,p.size=vs.length/\arrOf wK=p.map (kas_item (vs.toArray.zip vs.toArray))/\failedOf wK=none/\qE vs.length p/\lj key p vs.length)
   (G:=fun p s'=>s'={s with heap:=((s.heap.update a (Obj.mapSeq fun _=>(#[]:Array Value))).push (seqObj "tuple" vs.toArray 0)).push (seqObj "list" #[] 0)}/\qE vs.length p/\lj key p vs.length)
   (κ:=κ') rfl Sz C9 (fun p' wK s' a1 a2 a3 a4=>⟨a4.1,p',a1,a2,a3,a4.2⟩) (uZ (fun i j C hi hj q=>hc _ i j C keep hi hj q) (fun p q=>⟨rfl,q⟩) _ (Jp (by lia)))) ?_ fun _ _ e=>e)
  rintro⟨⟨⟩,wK⟩ s' ⟨rfl,p,hp,Xh,hf,q1,q2⟩;dsimp only;have DP:=kat_snds (ks:=vs) (vs:=vs) rfl Xh;rw[DP];refine aA (seqEpoch_at Vt rfl ?_);refine aA (wA Vt rfl ?_ (bh _) (by rw[bB,ae,ox,hp]; lia));rw[hf];simp only[bne_self_eq_false,Bool.false_eq_true,if_false];exact bE (h p q1 q2)
def GQ {l:Addr}{vs:List Value}{Q:Value->Shared->Prop}{key:Nat->Int}{κ:SortKind}(hl:s.heap.IsList l vs.toArray)(C9:vs.length < 64)
  (hk:2<=vs.length-> ∀(s':Shared) (Q:SortKind->Shared->Prop),(∀b o,s.heap.get? b=some o->s'.heap.get? b=some o)->Q κ s'->wpAny (model prog w) A.in1.in1 (keyKind' vs.toArray) Q (fun _ _=>False) s')
  (hc: ∀(s':Shared) (i j:Nat) (C:Bool->Shared->Prop),(∀b o,s.heap.get? b=some o->s'.heap.get? b=some o)->i < vs.length->j < vs.length->C (decide (key i < key j)) s'->
   wpAny (model prog w) A.in1.in1 (keyLt' κ (vs.getD i Value.none) (vs.getD j Value.none)) C (fun _ _=>False) s')
  (h: ∀p:Array Nat,qE vs.length p->lj key p vs.length->Q (.ref (s.heap.objs.size + 1)) {s with heap:=sortedAll s.heap vs (p.toList.map fun i=>vs.getD i Value.none).toArray}):
  wpAny (model prog w) A (call (.builtin "sorted") [.ref l]) Q E s:=by
 have Vu:sizeLine=16777216:=eD;refine Calls.call_function_entry kind_sorted plain_sorted entry_sorted (args_sorted1 _) ?_;unfold Builtin.«sorted»;refine aA (m:=checkCount "sorted" 1 1 _) (bE ?_);refine aA (collect_list hl ?_ (by lia));refine aA (Lm ?_ (by show vs.length<=_; lia));have hsz:((s.heap.push (seqObj "list" #[] 0)).update s.heap.objs.size (Obj.mapSeq (· ++ vs.toArray))).objs.size=s.heap.objs.size + 1:=by
  rw[pz,size_push']
 have Od:(((s.heap.push (seqObj "list" #[] 0)).update s.heap.objs.size (Obj.mapSeq (· ++ vs.toArray))).push (seqObj "list" vs.toArray 0)).get? (s.heap.objs.size + 1)=some (seqObj "list" vs.toArray 0):=by
  rw[← hsz]; exact bL _ rfl
 have keep: ∀b o,s.heap.get? b=some o->b≠s.heap.objs.size + 1/\(((s.heap.push (seqObj "list" #[] 0)).update s.heap.objs.size (Obj.mapSeq (· ++ vs.toArray))).push (seqObj "list" vs.toArray 0)).get? b=some o:=fun b o q=>by
  have ip:b < s.heap.objs.size:=aM q;refine⟨a6 (iP ip),?_⟩;rw[mM _ _ _ (by rw[hsz]; exact a6 (iP ip)),Iz _ _ _ _ (a6 ip),mM _ _ _ (a6 ip)];exact q
 show wpAny _ _ _ _ _ {s with heap:=((s.heap.push (seqObj "list" #[] 0)).update s.heap.objs.size (Obj.mapSeq (· ++ vs.toArray))).push (seqObj "list" vs.toArray 0)};rw[hsz];refine aA (ij (wpAny_call_entry slot_list_sort ⟨_,Od,rfl⟩ entry_list_sort (zp (key:=key) (κ:=κ) Od C9
  (fun h2 s' Q' kp q=>hk h2 s' Q' (fun b o e=>kp b o (keep b o e).1 (keep b o e).2) q) (fun s' i j C kp hi hj q=>hc s' i j C (fun b o e=>kp b o (keep b o e).1 (keep b o e).2) hi hj q) fun p a1 a2=>⟨_,rfl,?_⟩) (args_list_sort _)))
 exact bE ⟨_,rfl,h p a1 a2⟩
def mX {b:Bool}{Q:Bool->Shared->Prop}: ∀{ts us:List Int} {vs ws:List Value} (i:Nat),IntsAre vs ts->IntsAre ws us->Q (HT.lexLt ts us) s->
  KatLex prog w A b (decide (ts.length < us.length)) Q (vs.zip ws) i s
 |_,_,_,_,i,.nil,.nil,q=>q
 |_,_,_,_,i,.nil,.cons _ _ _,q=>by
  show Q (decide _) s;rw[decide_eq_true (by simp)]; exact q
 |_,_,_,_,i,.cons _ _ _,.nil,q=>by
  show Q (decide _) s;rw[decide_eq_false (by simp)]; exact q
 |_,_,_,_,i,.cons x t r,.cons y u r',q=>by
  refine kat_cons ?_;have he:=SeqAt.EqAt.int_int (A:=A) (s:=s) x t y u;refine he prog w _ _ ?_;rw[HT.lW] at q;by_cases e:x=y
  ·rw[a8 e] at q;have eb:(x == y)=true:=by simp[e]
   rw[eb];refine kat_yes ?_;have hd: ∀(a b:Nat),decide (a + 1 < b + 1)=decide (a < b):=fun a b=>by
    rw[Bool.eq_iff_iff]; simp
   rw[bS,bS,hd];exact mX (i + 1) r r' q
  ·rw[aU e] at q;have eb:(x == y)=false:=by simpa using e
   rw[eb];refine kat_no ?_;cases hb:(b && i == 0) with
   |true=>exact oneLt_int q
   |false=>exact kat_one _ _ (PyProof.Rows.lt_int q)
end
def gh (H:Hp)(ts:List (List Int))(xs:List V):Prop:=Paired (fun(t:List Int) v=> ∃p,v= .ref p/\H p=some (.tup (t.map V.int))) ts xs
def gh.mono {H H':Hp}{ts:List (List Int)}{xs:List V}(h:gh H ts xs)(k: ∀b xs,H b=some (.tup xs)->H' b=some (.tup xs)):gh H' ts xs:=
 Paired.gI h fun _ _ ⟨p,e,q⟩=>⟨p,e,k _ _ q⟩
def gh.get {H:Hp}{ts:List (List Int)}{xs:List V}(h:gh H ts xs){i:Nat}(hi:i < ts.length): ∃p,xs.getD i .eh= .ref p/\H p=some (.tup ((ts.getD i []).map V.int)):=by
 have g:ts[i]? =some ts[i]:=af hi;obtain⟨v,hv,p,e,q⟩:=bI h g;refine⟨p,?_,?_⟩
 ·rw[aj,hv,e]; rfl
 ·rw[aj,g]; exact q
def jy {xs:List V}{us:List Value}(r:Vals xs us)(i:Nat):RelV (xs.getD i .eh) (us.getD i .none):=by
 by_cases hi:i < xs.length
 ·have g:xs[i]? =some xs[i]:=af hi;obtain⟨u,h1,h2⟩:=r.get g;rw[aj,aj,g,h1];exact h2
 ·have h1:xs[i]? =none:=lP (by lia);rw[aj,aj,h1,r.none_of h1];rfl
def sf {xs:List V}{us:List Value}(r:Vals xs us): ∀l:List Nat,Vals (l.map fun i=>xs.getD i .eh) (l.map fun i=>us.getD i .none)
 |[]=> .nil
 |i :: l=> .cons (jy r i) (sf r l)
def ym {H:Hp}{ts:List (List Int)}{xs:List V}(h:gh H ts xs): ∀l:List Nat,(∀i∈l,i < ts.length)->gh H (l.map fun i=>ts.getD i []) (l.map fun i=>xs.getD i .eh)
 |[],_=> .nil
 |i :: l,hl=> .cons (by
   obtain⟨p,e,q⟩:=h.get (hl i bJ);exact⟨p,e,q⟩) (ym h l fun j hj=>hl j (ba _ hj))
def range_getD {α:Type}(ts:List α)(d:α):(List.range ts.length).map (fun i=>ts.getD i d)=ts:=by
 apply Ge;intro i;rw[aB];by_cases hi:i < ts.length
 ·rw[List.getElem?_range hi,ow,aj,af hi]; rfl
 ·rw[List.getElem?_eq_none (by simpa using hi),List.getElem?_eq_none (by lia)]; rfl
def qE.list {n:Nat}{p:Array Nat}(h:qE n p):p.toList.Perm (List.range n):=by
 have:=Array.perm_iff_toList_perm.mp h;simpa using this
def sT {p:Array Nat}{n:Nat}{key:Nat->Int}(hp:p.size=n)(h:lj key p n):p.toList.Pairwise (fun i j=>key i<=key j):=by
 rw[List.pairwise_iff_getElem];intro i j hi hj Z0;have wR:i < p.size:=by simpa using hi
 have Vv:j < p.size:=by simpa using hj
 have:=h i j (by lia) (by lia);unfold kf at this;have e1:p.getD i 0=p.toList[i]:=by simp[Array.getD,wR]
 have e2:p.getD j 0=p.toList[j]:=by simp[Array.getD,Vv]
 rw[e1,e2] at this;exact this
section
variable {X:Cx}
def Inv.tupI {pins:List (Addr×Obj)}{σ:St}{H:Hp}{s:Shared}(I:Inv X pins σ H s){p:Addr}{t:List Int}(h:H p=some (.tup (t.map V.int))):
  ∃(o:Obj) (bY:List Value) (n:Nat),s.heap.get? p=some o/\o.cls= .type "tuple"/\o.data= .seq bY.toArray n/\IntsAre bY t:=by
 obtain⟨_,bY,rv,o,ho,hc,n,hd⟩:=(show dv X.prog X.w H s.heap p (.tup (t.map V.int)) from I.cq p _ h);exact⟨o,bY,n,ho,hc,hd,intsAre_of rv⟩
def sh {pins:List (Addr×Obj)}{σ:St}{H:Hp}{s:Shared}(I:Inv X pins σ H s){h':Heap}(kp: ∀b o,s.heap.get? b=some o->h'.get? b=some o): ∀{ts:List (List Int)} {xs:List V} {us:List Value},gh H ts xs->Vals xs us->(∀t∈ts,t≠[])->
  ∃fs:List Value,KatTups h' us fs/\fs.length=us.length/\ ∀v∈fs,∃n t,v= .int n t
 |[],_,us,.nil,r,_=>by
  have e:us=[]:=r.zero;subst e;exact⟨[],trivial,rfl,fun v hv=>by cases hv⟩
 |t :: ts,_,_,.cons ⟨p,e,q⟩ rest,.cons r1 r2,i9=>by
  subst e;obtain⟨fs,h1,h2,h3⟩:=sh I kp rest r2 fun t ht=>i9 t (ba _ ht);obtain⟨o,bY,n,ho,hc,hd,hi⟩:=I.tupI q;have ht:t≠[]:=i9 t bJ;cases hi with
  |nil=>exact absurd rfl ht
  |cons z tk wR=>
   cases r1;refine⟨.int z tk :: fs,⟨⟨p,o,_,n,rfl,kp _ _ ho,hc,hd,by simp⟩,h1⟩,by rw[List.length_cons,List.length_cons,h2],fun v hv=>?_⟩;rcases aw.mp hv with rfl|hv
   ·exact⟨z,tk,rfl⟩
   ·exact h3 v hv
def OU (K:Frag):List V->Hp->VK->Prop:=fun vs H Q=> ∃a xs ts,∃key:List Int->Int,vs=[V.ref a]/\bA K H a xs/\xs.length < 64/\gh H ts xs/\(∀t∈ts,t≠[])/\(∀t∈ts,∀u∈ts,HT.lexLt t u=decide (key t < key u))/\
 ∀D ys us,H D=none->gh H us ys->us.Perm ts->us.Pairwise (fun t u=>key t<=key u)->Q (V.ref D) (upd H D (.lst ys))
def qG:gZ X (.builtin "sorted") (OU X.K):=by
 intro pins s σ H xs us Q I r h;obtain⟨a,xs,ts,key,rfl,hq,C9,hT,i9,IL,q⟩:=h;obtain⟨u,rfl,ru⟩:=vals1 r;cases ru;obtain⟨bY,rv,pl,hz⟩:=I.list hq;have hl:=rv.length;have ip:ts.length=xs.length:=hT.length;refine GQ (κ:=tuples' true) (key:=fun i=>key (ts.getD i [])) pl.isList (by lia) (fun h2 s' Q' kp q'=>?_) (fun s' i j C kp hi hj q'=>?_) fun p hp hup=>?_
 ·obtain⟨fs,f1,f2,f3⟩:=sh I kp hT rv i9;refine kat_kind (T:= .type "int") f1 (by lia) (fun v hv=>?_) rfl q';obtain⟨n,t,rfl⟩:=f3 v hv;exact Looks.of_pure rfl
 ·obtain⟨p1,e1,g1⟩:=hT.get (i:=i) (by lia);obtain⟨p2,e2,g2⟩:=hT.get (i:=j) (by lia);have w1:=jy rv i;have w2:=jy rv j;rw[e1] at w1;rw[e2] at w2;have w1':bY.getD i Value.none= .ref p1:=w1;have w2':bY.getD j Value.none= .ref p2:=w2;rw[w1',w2'];obtain⟨o1,Xi,n1,GO,hc1,lZ,SA⟩:=I.tupI g1;obtain⟨o2,Gz,n2,QT,LZ,hd2,SD⟩:=I.tupI g2;refine kat_lt (kp _ _ GO) lZ (kp _ _ QT) hd2 ?_;have l1:=SA.length;have l2:=SD.length;have m1:ts.getD i []∈ts:=by rw[aj,af (show i < ts.length by lia)]; exact bG _
  have m2:ts.getD j []∈ts:=by rw[aj,af (show j < ts.length by lia)]; exact bG _
  have k:=mX (prog:=X.prog) (w:=X.w) (A:=X.A.in1.in1) (b:=true) (Q:=C) (s:=s') 0 SA SD (by rw[IL _ m1 _ m2]; exact q');rw[bB,bB,l1,l2];exact k
 ·have lp:=hp.size;have hD:H (s.heap.objs.size + 1)=none:=I.cq.fresh (dm _);obtain⟨e,he⟩:=sortedAll_at s.heap bY (p.toList.map fun i=>bY.getD i Value.none).toArray;refine⟨.ref (s.heap.objs.size + 1),_,I.laid (t':=s.toks) (a:=s.heap.objs.size + 1) (o:= .lst (p.toList.map fun i=>xs.getD i .eh)) (fun b o q=>sortedAll_old q) (dm _) ⟨?_,_,e,sf rv p.toList,he⟩,rfl,q _ _ (p.toList.map fun i=>ts.getD i []) hD ?_ ?_ ?_⟩
  ·rw[ae,ox,lp];exact aY (iE hl.symm) hz
  ·refine ym hT p.toList fun i hi=>?_;have:=(hp.list.mem_iff).mp hi;rw[dh] at this;lia
  ·have e1:=hp.list.map (fun i=>ts.getD i []);rw[← hl,← ip,range_getD] at e1;exact e1
  ·rw[rN];exact sT lp hup
def sU (ns:List Int): ∀n,n<=ns.length->preSum (fun i=>ns.getD i 0) n=(ns.take n).sum
 |0,_=>by simp[preSum]
 |n + 1,h=>by
  rw[preSum,sU ns n (by lia),A2,List.sum_append,af (by lia),aj,af (by lia)];simp
def SE (K:Frag):List V->Hp->VK->Prop:=fun xs H Q=> ∃(p:Addr) (ns:List Int),xs=[V.ref p]/\bA K H p (ns.map V.int)/\Q (.int ns.sum) H
def lu (hc:X.calm=true):gZ X (.builtin "sum") (SE X.K):=by
 intro pins s σ H xs us Q I r h;obtain⟨p,ns,rfl,hq,q⟩:=h;obtain⟨u,rfl,ru⟩:=vals1 r;cases ru;obtain⟨bY,rv,pl,hz⟩:=I.list hq;have hI:IntsAre bY ns:=intsAre_of rv;have hl:=hI.length;have hh:=I.ok.hd hc;have hT:s.heap.IsList p bY.toArray:=pl.isList;have hp:p < s.heap.objs.size:=by
  obtain⟨o,ho,_⟩:=hT;exact aM ho
 have Xj:p≠s.heap.objs.size:=a6 hp;refine call_sum_walkG (wpAny_pyIter_list hT ?_);refine⟨_,[_,p],[_],_,_,_,fun i=>ns.getD i 0,rfl,Walks.list (A:=X.A.in1) hh _ p Xj bY.toArray,
  ⟨⟨_,Heap.get?_push_size _ rfl,rfl,rfl⟩,hT.push _⟩,fun c hc=>?_,(fun i v hv=>IntsAre.int_at hI i v (by simpa using hv)),fun h' tk t' hk=>?_⟩
 ·show c < (s.heap.push _).objs.size;rw[nY];rcases aw.mp hc with rfl|hc
  ·exact fV _
  ·rcases aw.mp hc with rfl|hc
   ·exact iP hp
   ·cases hc
 ·refine⟨.int _,H,I.kept (t':=tk) (fun b o e=>hk b o (fun hm=>?_) (ax _ e)),⟨_,rfl⟩,?_⟩
  ·rw[ao] at hm;exact absurd hm (a6 (aM e))
  ·rw[bB,hl,sU ns ns.length (aE _),a7];exact q
def yn (a:Array Nat): ∀(n:Nat) (acc:Array Nat),((List.replicate n a).foldl (· ++ ·) acc).size=acc.size + n * a.size
 |0,acc=>by simp
 |n + 1,acc=>by
  rw[cK,fL,yn a n,Array.size_append,wF];lia
def SG:R2:=fun x y H Q=> ∃(z:Str) (n:Int),x= .str z/\y= .int n/\z.length=1/\0<=n/\n<=1000/\ ∀z':Str,z'.length<=1000->Q (.str z') H
def zq:oA X (binaryOp .Mult) SG:=by
 intro pins s σ H x y v u Q I rx ry h;obtain⟨z,n,rfl,rfl,hz,h0,h1,q⟩:=h;obtain⟨t,rfl⟩:=rx;obtain⟨t',rfl⟩:=ry;refine P.mul_str ?_ (fun _ _=>?_) (fun _ _=>?_) ?_
 ·rw[bp (by lia),bp (by lia)]; rfl
 ·rw[hz];intro L0;have:(2 ^ 63 - 1:Int) / n≥1:=by
   have hn:0 < n:=by
    by_cases c:0 < n
    ·exact c
    ·have e:n=0:=by lia
     subst e;simp at L0;lia
   exact Int.le_ediv_of_mul_le hn (by lia)
  lia
 ·rw[hz];unfold Builtin.Str.tooLong;simp;rw[eD];lia
 ·by_cases c:n < 1
  ·rw[a8 c];exact⟨by decide,⟨.str Str.empty,H,I.tok _,⟨_,rfl⟩,q _ (by show 0<=1000; lia)⟩⟩
  ·rw[aU c];by_cases c2:(n == 1 || z.length == 0)=true
   ·rw[a8 c2];exact⟨.str z,H,I,⟨_,rfl⟩,q _ (by lia)⟩
   ·rw[aU c2];have hsz:((List.replicate n.toNat z.cps).foldl (· ++ ·) #[]).size<=1000:=by
     rw[yn];have:z.cps.size=1:=hz;rw[this];simp;lia
    refine⟨?_,⟨.str _,H,I.tok _,⟨_,rfl⟩,q _ hsz⟩⟩;show _<=_;refine aY hsz ?_;rw[eD]; lia
end
inductive br where
 |dR (aH:Str) (day A3 dF:Int)
 |rG (aH:Str) (day dF:Int)
 |note (b day dF:Int)
 |set (c b dF:Int)
 |fT (aH:Str)
 |ie (n:Int)
 |ask (aR:Bool) (aH:Str) (day:Int)
 |fN (aH:Str) (day:Int) (bO:List Int)
structure Rw where
 aH:Str
 a:Int
 b:Int
 c:Int
 d:Int
instance:Inhabited Rw:=⟨⟨"",0,0,0,0⟩⟩
structure Bk where
 aI:List Rw
 credits:List Rw
 made:List (Nat×Nat×Int)
def Bk.new:Bk:=⟨[],[],[]⟩
def Bk.cr (S:Bk)(c:Nat):Rw:=S.credits.getD c default
def Bk.bl (S:Bk)(b:Nat):Rw:=S.aI.getD b default
def Bk.eF (S:Bk)(c b:Nat):Bool:=decide ((S.cr c).aH=(S.bl b).aH) && (decide ((S.cr c).c= -1) || decide ((S.cr c).c=(b:Int)))
def Rw.less (r:Rw)(x:Int):Rw:={r with d:=r.d - x}
def Bk.put (S:Bk)(c b:Nat)(x:Int):Bk:=⟨S.aI.set b ((S.bl b).less x),S.credits.set c ((S.cr c).less x),S.made ++ [(c,b,x)]⟩
def iH (a b:Int):Int:=if b < a then b else a
def tT (x:Int×Nat):Int:=x.1 * 1000 + (x.2:Int)
def ins (x:Int×Nat):List (Int×Nat)->List (Int×Nat)
 |[]=>[x]
 |y :: l=>if tT x<=tT y then x :: y :: l else y :: ins x l
def ej:List (Int×Nat)->List (Int×Nat)
 |[]=>[]
 |x :: l=>ins x (ej l)
def BD (x y:Int×Nat)(l:List (Int×Nat)):ins x (y :: l)=if tT x<=tT y then x :: y :: l else y :: ins x l:=rfl
def u5 (x:Int×Nat): ∀l,(ins x l).Perm (x :: l)
 |[]=>N3 _
 |y :: l=>by
  unfold ins;split
  ·exact N3 _
  ·exact(List.Perm.cons y (u5 x l)).trans (List.Perm.swap x y l)
def c9: ∀l,(ej l).Perm l
 |[]=>N3 _
 |x :: l=>(u5 x (ej l)).trans (List.Perm.cons x (c9 l))
def Jq (x:Int×Nat): ∀l,l.Pairwise (fun a b=>tT a<=tT b)->(ins x l).Pairwise (fun a b=>tT a<=tT b)
 |[],_=>kb _ _
 |y :: l,h=>by
  rw[ee] at h;unfold ins;split
  ·rename_i c;rw[ee];refine⟨fun z hz=>?_,ee.mpr h⟩;rcases aw.mp hz with rfl|hz
   ·exact c
   ·exact lQ c (h.1 z hz)
  ·rename_i c;rw[ee];refine⟨fun z hz=>?_,Jq x l h.2⟩;rcases aw.mp ((u5 x l).mem_iff.mp hz) with rfl|hz
   ·lia
   ·exact h.1 z hz
def u6: ∀l,(ej l).Pairwise (fun a b=>tT a<=tT b)
 |[]=>List.Pairwise.nil
 |x :: l=>Jq x _ (u6 l)
def GR (x:Int×Nat): ∀l,(∀y∈l,tT x<=tT y)->ins x l=x :: l
 |[],_=>rfl
 |y :: l,h=>by
  unfold ins;rw[a8 (h y bJ)]
def va (p:Int×Nat->Bool)(x:Int×Nat): ∀l,l.Pairwise (fun a b=>tT a<=tT b)->(ins x l).filter p=if p x then ins x (l.filter p) else l.filter p
 |[],_=>by
  unfold ins;cases h:p x <;> simp[h,ins]
 |y :: l,hs=>by
  rw[ee] at hs;rw[BD];by_cases c:tT x<=tT y
  ·rw[a8 c];cases h:p x
   ·rw[List.filter_cons_of_neg (by simp[h])];simp
   ·rw[cu h];simp only[if_true];rw[GR x];intro z hz;rcases aw.mp (eU.mp hz).1 with rfl|hz'
    ·exact c
    ·exact lQ c (hs.1 z hz')
  ·rw[aU c];have ih:=va p x l hs.2;cases hy:p y
   ·rw[List.filter_cons_of_neg (by simp[hy]),ih,List.filter_cons_of_neg (by simp[hy])]
   ·rw[cu hy,ih,cu hy];cases h:p x
    ·simp
    ·simp only[if_true];rw[BD,aU c]
def l0 (p:Int×Nat->Bool): ∀l,ej (l.filter p)=(ej l).filter p
 |[]=>rfl
 |x :: l=>by
  show _ =(ins x (ej l)).filter p;rw[va p x _ (u6 l),← l0 p l];cases h:p x
  ·rw[List.filter_cons_of_neg (by simp[h])];simp
  ·rw[cu h];simp[ej]
def gi (rows:List Rw)(aH:Str)(key:Rw->Int):List (Int×Nat):=((List.range rows.length).filter fun k=>decide ((rows.getD k default).aH=aH)).map fun k=>(key (rows.getD k default),k)
def inOrder (rows:List Rw)(aH:Str)(key:Rw->Int):List Nat:=(ej (gi rows aH key)).map (·.2)
def vb (rows:List Rw)(aH:Str)(key:Rw->Int):List (Int×Nat):=
 ((List.range rows.length).filter fun k=>decide ((rows.getD k default).aH=aH) && decide (0 < (rows.getD k default).d)).map fun k=>(key (rows.getD k default),k)
def inTurn (rows:List Rw)(aH:Str)(key:Rw->Int):List Nat:=(ej (vb rows aH key)).map (·.2)
def BE (rows:List Rw)(aH:Str)(key:Rw->Int):vb rows aH key=(gi rows aH key).filter fun x=>decide (0 < (rows.getD x.2 default).d):=by
 unfold vb gi;rw[Ln,qh]
 congr 1
 apply rO;intro k _;simp[Bool.and_comm]
def sV {α β:Type}(f:α->β)(p:β->Bool)(l:List α):(l.filter fun x=>p (f x)).map f=(l.map f).filter p:=by
 rw[Ln]; rfl
def g8 (rows:List Rw)(aH:Str)(key:Rw->Int):inTurn rows aH key=(inOrder rows aH key).filter fun k=>decide (0 < (rows.getD k default).d):=by
 unfold inTurn inOrder;rw[BE,l0];exact sV (fun x:Int×Nat=>x.2) (fun k=>decide (0 < (rows.getD k default).d)) _
def kr {rows:List Rw}{aH:Str}{key:Rw->Int}{k:Nat}:k∈inOrder rows aH key↔k < rows.length/\(rows.getD k default).aH=aH:=by
 unfold inOrder gi;rw[bF];constructor
 ·rintro⟨x,hx,rfl⟩;obtain⟨j,hj,rfl⟩:=bF.mp ((c9 _).mem_iff.mp hx);simpa using hj
 ·rintro⟨h1,h2⟩;refine⟨(key (rows.getD k default),k),(c9 _).mem_iff.mpr (bF.mpr ⟨k,?_,rfl⟩),rfl⟩;exact List.mem_filter.mpr ⟨List.mem_range.mpr h1,by simpa using h2⟩
def eN {rows:List Rw}{aH:Str}{key:Rw->Int}{k:Nat}:k∈inTurn rows aH key↔k < rows.length/\(rows.getD k default).aH=aH/\0 < (rows.getD k default).d:=by
 rw[g8,eU,kr];simp[and_assoc]
def wU (rows:List Rw)(aH:Str)(key:Rw->Int):(inOrder rows aH key).Nodup:=by
 have h:((ej (gi rows aH key)).map (·.2)).Perm ((gi rows aH key).map (·.2)):=(c9 _).map _;refine h.nodup_iff.mpr ?_;unfold gi;rw[eu];have e:((fun x:Int×Nat=>x.2) ∘ fun k=>(key (rows.getD k default),k))=id:=rfl;rw[e,A8];exact mD.filter _
def l4 (rows:List Rw)(aH:Str)(key:Rw->Int):(inTurn rows aH key).Nodup:=by
 rw[g8];exact(wU rows aH key).filter _
def oB (r r':Rw):Prop:=r'.aH=r.aH/\r'.a=r.a/\r'.b=r.b/\r'.c=r.c
def oB.refl (r:Rw):oB r r:=⟨rfl,rfl,rfl,rfl⟩
def oB.trans {r s t:Rw}(h:oB r s)(k:oB s t):oB r t:=⟨k.1.trans h.1,k.2.1.trans h.2.1,k.2.2.1.trans h.2.2.1,k.2.2.2.trans h.2.2.2⟩
def BF {rows iu:List Rw}{aH:Str}{key:Rw->Int}(hk: ∀r r',oB r r'->key r'=key r)(hl:iu.length=rows.length)(h: ∀k,oB (rows.getD k default) (iu.getD k default)):gi iu aH key=gi rows aH key:=by
 unfold gi;rw[hl];have e:(fun k=>decide ((iu.getD k default).aH=aH))=fun k=>decide ((rows.getD k default).aH=aH):=by
  funext k
  rw[(h k).1]
 rw[e];apply gK;intro k _;rw[hk _ _ (h k)]
def zr {rows iu:List Rw}{aH:Str}{key:Rw->Int}(hk: ∀r r',oB r r'->key r'=key r)(hl:iu.length=rows.length)(h: ∀k,oB (rows.getD k default) (iu.getD k default)):inOrder iu aH key=inOrder rows aH key:=by
 unfold inOrder;rw[BF hk hl h]
def zt {rows iu:List Rw}{aH:Str}{key:Rw->Int}(hk: ∀r r',oB r r'->key r'=key r)(hl:iu.length=rows.length)(h: ∀k,oB (rows.getD k default) (iu.getD k default))(hd: ∀k,(iu.getD k default).d<=(rows.getD k default).d):
  inTurn iu aH key=(inTurn rows aH key).filter fun k=>decide (0 < (iu.getD k default).d):=by
 rw[g8,g8,zr hk hl h,qh];apply rO;intro k _;have:=hd k;by_cases c:0 < (iu.getD k default).d
 ·have c2:0 < (rows.getD k default).d:=by lia
  rw[aG c,aG c2];rfl
 ·rw[bp c];rfl
def cm (exact:Bool)(c:Nat)(S:Bk)(b:Nat):Bk:=
 if 0 < (S.cr c).d/\S.eF c b=true/\((S.cr c).d=(S.bl b).d∨exact=false) then S.put c b (iH (S.cr c).d (S.bl b).d) else S
def cQ (aH:Str)(exact:Bool)(S:Bk)(c:Nat):Bk:=(inTurn S.aI aH (·.b)).foldl (cm exact c) S
def bQ (aH:Str)(S:Bk)(exact:Bool):Bk:=(inTurn S.credits aH (·.a)).foldl (cQ aH exact) S
def Bk.jL (S:Bk)(aH:Str):Bk:=bQ aH (bQ aH S true) false
def BG {α:Type}{l:List α}{i k:Nat}{v d:α}(h:i < l.length):(l.set i v).getD k d=if k=i then v else l.getD k d:=by
 rw[aj,aj];by_cases c:k=i
 ·subst c;rw[a8 rfl,k4 h];rfl
 ·rw[aU c,mJ (fun z=>c z.symm)]
def vc {S:Bk}{c b k:Nat}{x:Int}(h:b < S.aI.length):(S.put c b x).bl k=if k=b then(S.bl b).less x else S.bl k:=BG h
def sj {S:Bk}{c b k:Nat}{x:Int}(h:c < S.credits.length):(S.put c b x).cr k=if k=c then(S.cr c).less x else S.cr k:=BG h
def kh (S:Bk)(l:List (Nat×Nat×Int)):Bk:=l.foldl (fun S t=>S.put t.1 t.2.1 t.2.2) S
def mY (S:Bk)(l m:List (Nat×Nat×Int)):kh S (l ++ m)=kh (kh S l) m:=by
 unfold kh; rw[List.foldl_append]
def jz (S:Bk): ∀l,(kh S l).made=S.made ++ l
 |[]=>by simp[kh]
 |t :: l=>by
  show(kh (S.put t.1 t.2.1 t.2.2) l).made=_;rw[jz _ l];simp[Bk.put]
structure Later (S S':Bk):Prop where
 bl:S'.aI.length=S.aI.length
 cl:S'.credits.length=S.credits.length
 b: ∀k,oB (S.bl k) (S'.bl k)/\(S'.bl k).d<=(S.bl k).d
 c: ∀k,oB (S.cr k) (S'.cr k)/\(S'.cr k).d<=(S.cr k).d
def Later.refl (S:Bk):Later S S:=⟨rfl,rfl,fun k=>⟨oB.refl _,fM _⟩,fun k=>⟨oB.refl _,fM _⟩⟩
def Later.trans {S T U:Bk}(h:Later S T)(k:Later T U):Later S U:=
 ⟨k.bl.trans h.bl,k.cl.trans h.cl,fun i=>⟨(h.b i).1.trans (k.b i).1,lQ (k.b i).2 (h.b i).2⟩,fun i=>⟨(h.c i).1.trans (k.c i).1,lQ (k.c i).2 (h.c i).2⟩⟩
def Later.put {S:Bk}{c b:Nat}{x:Int}(hb:b < S.aI.length)(hc:c < S.credits.length)(hx:0<=x):Later S (S.put c b x):=by
 refine⟨d8,d8,fun k=>?_,fun k=>?_⟩
 ·rw[vc hb];split
  ·rename_i e;subst e;exact⟨oB.refl _,by show(S.bl k).d - x<=_; lia⟩
  ·exact⟨oB.refl _,fM _⟩
 ·rw[sj hc];split
  ·rename_i e;subst e;exact⟨oB.refl _,by show(S.cr k).d - x<=_; lia⟩
  ·exact⟨oB.refl _,fM _⟩
def Later.eF {S T:Bk}(h:Later S T)(c b:Nat):T.eF c b=S.eF c b:=by
 unfold Bk.eF;rw[(h.c c).1.1,(h.b b).1.1,(h.c c).1.2.2.2]
def Later.Nv {S T:Bk}(h:Later S T)(aH:Str):inTurn T.aI aH (·.b)=(inTurn S.aI aH (·.b)).filter fun k=>decide (0 < (T.bl k).d):=
 zt (fun r r' z=>z.2.2.1) h.bl (fun k=>(h.b k).1) (fun k=>(h.b k).2)
def gW (f:Int)(ls:List Int)(row:List Bool)(tk:Nat->Bool):Option Nat:=(List.range ls.length).find? fun j=>row.getD j false && decide (ls.getD j 0=f) && !tk j
def bU (fs ls:List Int)(al:List (List Bool)):Nat->(Nat->Bool)×List (Nat×Nat×Int)
 |0=>(fun _=>false,[])
 |i + 1=>match gW (fs.getD i 0) ls (al.getD i []) (bU fs ls al i).1 with
  |none=>bU fs ls al i
  |some j=>(fun x=>x == j || (bU fs ls al i).1 x,(bU fs ls al i).2 ++ [(i,j,fs.getD i 0)])
def l5 (gs ts:List Nat)(t:Nat×Nat×Int):Nat×Nat×Int:=(gs.getD t.1 0,ts.getD t.2.1 0,t.2.2)
def yo {α:Type}(l:List α)(d:α):(List.range l.length).map (fun j=>l.getD j d)=l:=by
 apply List.ext_getElem
 ·rw[ae,dj]
 ·intro i h1 h2;rw[List.getElem_map,List.getElem_range,aj,af h2];rfl
def DQ {α:Type}(l:List α)(d:α)(p:α->Bool):l.find? p=((List.range l.length).find? fun j=>p (l.getD j d)).map fun j=>l.getD j d:=by
 have e:l.find? p=((List.range l.length).map (fun j=>l.getD j d)).find? p:=by rw[yo]
 rw[e,List.find?_map];rfl
def jM {l:List Nat}{i:Nat}(h:i < l.length):l.getD i 0∈l:=by
 rw[aj,af h];exact bG _
def getD_map {α β:Type}(f:α->β)(l:List α)(i:Nat)(d:α)(e:β)(h:i < l.length):(l.map f).getD i e=f (l.getD i d):=by
 rw[aj,aj,aB,af h];rfl
def getD_inj {l:List Nat}(nd:l.Nodup){i j:Nat}(hi:i < l.length)(hj:j < l.length)(h:l.getD i 0=l.getD j 0):i=j:=by
 rw[aj,aj,af hi,af hj] at h;exact(List.getElem_inj nd).mp h
def idle {ex:Bool}{c:Nat}: ∀{l:List Nat} {S:Bk},(S.cr c).d<=0->l.foldl (cm ex c) S=S
 |[],_,_=>rfl
 |b :: l,S,h=>by
  rw[fL];have e:cm ex c S b=S:=by
   unfold cm;rw[aU (fun z=>by lia)]
  rw[e];exact idle h
def E9 {c:Nat}{S:Bk}(hc:c < S.credits.length): ∀{l:List Nat},(∀b∈l,b < S.aI.length)->0 < (S.cr c).d->l.foldl (cm true c) S=match l.find? (fun b=>S.eF c b && decide ((S.bl b).d=(S.cr c).d)) with
  |none=>S
  |some b=>S.put c b (S.cr c).d
 |[],_,_=>rfl
 |b :: l,hl,h=>by
  rw[fL];by_cases z:(S.eF c b && decide ((S.bl b).d=(S.cr c).d))=true
  ·rw[List.find?_cons_of_pos (p:=fun b=>S.eF c b && decide ((S.bl b).d=(S.cr c).d)) z];have z':S.eF c b=true/\(S.bl b).d=(S.cr c).d:=by simpa using z
   have e:cm true c S b=S.put c b (S.cr c).d:=by
    unfold cm;rw[a8 ⟨h,z'.1,.inl z'.2.symm⟩,z'.2]
    congr 1
    unfold iH;split <;> rfl
   rw[e];refine idle ?_;rw[sj hc,a8 rfl];show(S.cr c).d - (S.cr c).d<=0;lia
  ·rw[List.find?_cons_of_neg (p:=fun b=>S.eF c b && decide ((S.bl b).d=(S.cr c).d)) z];have e:cm true c S b=S:=by
    unfold cm;rw[aU];rintro⟨_,z1,z2⟩;rcases z2 with z2|z2
    ·exact z (by simp[z1,z2])
    ·cases z2
   rw[e];exact E9 hc (fun x hx=>hl x (ba _ hx)) h
structure vd (S:Bk)(aH:Str)(gs ts:List Nat)(fs ls:List Int)(al:List (List Bool)):Prop where
 eg:gs=inTurn S.credits aH (·.a)
 et:ts=inTurn S.aI aH (·.b)
 ef:fs=gs.map fun g=>(S.cr g).d
 el:ls=ts.map fun t=>(S.bl t).d
 ea:al=gs.map fun g=>ts.map fun t=>S.eF g t
section
variable {S:Bk}{aH:Str}{gs ts:List Nat}{fs ls:List Int}{al:List (List Bool)}
def vd.g (R:vd S aH gs ts fs ls al){i:Nat}(h:i < gs.length):gs.getD i 0 < S.credits.length/\0 < (S.cr (gs.getD i 0)).d/\fs.getD i 0=(S.cr (gs.getD i 0)).d:=by
 have m:=jM h;rw[R.eg] at m;obtain⟨m1,_,m3⟩:=eN.mp m;rw[← R.eg] at m1 m3;exact⟨m1,m3,by rw[R.ef,getD_map _ gs i 0 0 h]⟩
def vd.t (R:vd S aH gs ts fs ls al){i:Nat}(h:i < ts.length):ts.getD i 0 < S.aI.length/\0 < (S.bl (ts.getD i 0)).d/\ls.getD i 0=(S.bl (ts.getD i 0)).d:=by
 have m:=jM h;rw[R.et] at m;obtain⟨m1,_,m3⟩:=eN.mp m;rw[← R.et] at m1 m3;exact⟨m1,m3,by rw[R.el,getD_map _ ts i 0 0 h]⟩
def vd.a (R:vd S aH gs ts fs ls al){i j:Nat}(hi:i < gs.length)(hj:j < ts.length):(al.getD i []).getD j false=S.eF (gs.getD i 0) (ts.getD j 0):=by
 rw[R.ea,getD_map _ gs i 0 [] hi,getD_map _ ts j 0 false hj]
def vd.gn (R:vd S aH gs ts fs ls al):gs.Nodup:=by rw[R.eg]; exact l4 _ _ _
def vd.tn (R:vd S aH gs ts fs ls al):ts.Nodup:=by rw[R.et]; exact l4 _ _ _
def vd.ll (R:vd S aH gs ts fs ls al):ls.length=ts.length:=by rw[R.el,ae]
def vd.tm (R:vd S aH gs ts fs ls al){b:Nat}(h:b∈ts):b < S.aI.length:=by
 rw[R.et] at h;exact(eN.mp h).1
def pL {l:List Nat}{i:Nat}(h:i < l.length):l.take (i + 1)=l.take i ++ [l.getD i 0]:=by
 rw[A2,af h,aj,af h];rfl
structure Xk (S:Bk)(aH:Str)(gs ts:List Nat)(fs ls:List Int)(i:Nat)(st:(Nat->Bool)×List (Nat×Nat×Int))(Si:Bk):Prop where
 run:(gs.take i).foldl (cQ aH true) S=Si
 eq:Si=kh S (st.2.map (l5 gs ts))
 later:Later S Si
 b: ∀j,j < ts.length->(Si.bl (ts.getD j 0)).d=if st.1 j=true then 0 else ls.getD j 0
 c: ∀k,i<=k->k < gs.length->(Si.cr (gs.getD k 0)).d=fs.getD k 0
def BH (R:vd S aH gs ts fs ls al){i:Nat}{Si:Bk}(hi:i < gs.length)(J:Xk S aH gs ts fs ls i (bU fs ls al i) Si): ∃S',Xk S aH gs ts fs ls (i + 1) (bU fs ls al (i + 1)) S':=by
 obtain⟨g1,g2,g3⟩:=R.g hi;have gc:gs.getD i 0 < Si.credits.length:=by rw[J.later.cl]; exact g1
 have fr:(Si.cr (gs.getD i 0)).d=fs.getD i 0:=J.c i (aE _) hi;have fp:0 < (Si.cr (gs.getD i 0)).d:=by rw[fr,g3]; exact g2
 have find:((inTurn Si.aI aH (·.b)).find? fun b=>Si.eF (gs.getD i 0) b && decide ((Si.bl b).d=(Si.cr (gs.getD i 0)).d))=(gW (fs.getD i 0) ls (al.getD i []) (bU fs ls al i).1).map fun j=>ts.getD j 0:=by
  rw[J.later.Nv,← R.et,List.find?_filter,DQ ts 0];unfold gW;rw[R.ll]
  congr 1
  have q: ∀j∈List.range ts.length,(decide (0 < (Si.bl (ts.getD j 0)).d) && (Si.eF (gs.getD i 0) (ts.getD j 0) && decide ((Si.bl (ts.getD j 0)).d=(Si.cr (gs.getD i 0)).d)))=((al.getD i []).getD j false && decide (ls.getD j 0=fs.getD i 0) && !(bU fs ls al i).1 j):=by
   intro j hj;have hj:=dh.mp hj;rw[R.a hi hj,J.later.eF,J.b j hj,fr];obtain⟨_,t2,t3⟩:=R.t hj;cases h:(bU fs ls al i).1 j
   ·simp only[Bool.false_eq_true,if_false,Bool.not_false,Bool.and_true];rw[t3,aG t2];simp
   ·simp
  have key: ∀(l:List Nat) (p q:Nat->Bool),(∀j∈l,p j=q j)->l.find? p=l.find? q:=by
   intro l p q h
   induction l with
   |nil=>rfl
   |cons x l ih=>
    rw[List.find?_cons,List.find?_cons,h x bJ,ih fun j hj=>h j (ba _ hj)]
  refine key _ _ _ fun j hj=>?_;rw[← q j hj];simp
 have run:(gs.take (i + 1)).foldl (cQ aH true) S=match(gW (fs.getD i 0) ls (al.getD i []) (bU fs ls al i).1).map (fun j=>ts.getD j 0) with
   |none=>Si
   |some b=>Si.put (gs.getD i 0) b (Si.cr (gs.getD i 0)).d:=by
  rw[pL hi,rP,J.run];show cQ aH true Si (gs.getD i 0)=_;unfold cQ;rw[E9 gc (fun b hb=>(eN.mp hb).1) fp,find]
 cases h:gW (fs.getD i 0) ls (al.getD i []) (bU fs ls al i).1 with
 |none=>
  rw[h] at run;have e:bU fs ls al (i + 1)=bU fs ls al i:=by rw[bU,h]
  rw[e];exact⟨Si,run,J.eq,J.later,J.b,fun k h1 h2=>J.c k (by lia) h2⟩
 |some j=>
  rw[h] at run;have e:bU fs ls al (i + 1)=(fun x=>x == j || (bU fs ls al i).1 x,(bU fs ls al i).2 ++ [(i,j,fs.getD i 0)]):=by rw[bU,h]
  have hj:j < ts.length:=by
   unfold gW at h;have:=N4 h;rw[R.ll] at this;exact dh.mp this
  have Z1:(al.getD i []).getD j false=true/\ls.getD j 0=fs.getD i 0/\(bU fs ls al i).1 j=false:=by
   unfold gW at h;have:=List.find?_some h;simpa[and_assoc] using this
  obtain⟨t1,t2,t3⟩:=R.t hj;have tb:ts.getD j 0 < Si.aI.length:=by rw[J.later.bl]; exact t1
  have f0:0<=fs.getD i 0:=by rw[g3]; lia
  have run':(gs.take (i + 1)).foldl (cQ aH true) S=Si.put (gs.getD i 0) (ts.getD j 0) (fs.getD i 0):=by
   rw[run,← fr];rfl
  rw[e];refine⟨Si.put (gs.getD i 0) (ts.getD j 0) (fs.getD i 0),run',?_,J.later.trans (Later.put tb gc f0),fun j' Vv=>?_,fun k h1 h2=>?_⟩
  ·rw[aK,mY,← J.eq];rfl
  ·rw[vc tb];by_cases q:j'=j
   ·subst q;rw[a8 rfl];simp only[beq_self_eq_true,Bool.true_or,if_true];show(Si.bl (ts.getD j' 0)).d - fs.getD i 0=0;rw[J.b j' hj,Z1.2.2,aU (by decide),Z1.2.1];lia
   ·rw[aU fun z=>q (getD_inj R.tn Vv hj z),J.b j' Vv];have:(j' == j)=false:=by simpa using q
    show _ =if(j' == j || (bU fs ls al i).1 j')=true then 0 else _;rw[this,Bool.false_or]
  ·rw[sj gc,aU fun z=>by have:=getD_inj R.gn h2 hi z; lia];exact J.c k (by lia) h2
def ve (R:vd S aH gs ts fs ls al): ∀i,i<=gs.length-> ∃Si,Xk S aH gs ts fs ls i (bU fs ls al i) Si
 |0,_=>⟨S,rfl,rfl,Later.refl S,fun j hj=>by
   obtain⟨_,_,t3⟩:=R.t hj;show _ =if false=true then 0 else _;rw[aU (by decide),t3],fun k _ h2=>by
   obtain⟨_,_,g3⟩:=R.g h2;exact g3.symm⟩
 |i + 1,h=>by
  obtain⟨Si,J⟩:=ve R i (by lia);exact BH R (by lia) J
def Jr (R:vd S aH gs ts fs ls al):bQ aH S true=kh S ((bU fs ls al gs.length).2.map (l5 gs ts))/\Later S (bQ aH S true):=by
 obtain⟨Si,J⟩:=ve R gs.length (aE _);have e:bQ aH S true=Si:=by
  unfold bQ;rw[← R.eg,← J.run,a7]
 rw[e];exact⟨J.eq,J.later⟩
end
def Fb {l:List Int}{i j:Nat}{v:Int}(h:i≠j):(l.set i v).getD j 0=l.getD j 0:=by
 rw[aj,aj,mJ h]
def L1 {l:List Int}{i:Nat}{v:Int}(h:i < l.length):(l.set i v).getD i 0=v:=by
 rw[aj,k4 h]; rfl
def dE (l:List Int)(ps:List (Nat×Int)):List Int:=ps.foldl (fun l x=>l.set x.1 (l.getD x.1 0 - x.2)) l
def sW (l:List Int)(ps:List (Nat×Int))(x:Nat×Int):dE l (ps ++ [x])=(dE l ps).set x.1 ((dE l ps).getD x.1 0 - x.2):=by
 unfold dE; rw[List.foldl_append]; rfl
def pM (ps:List (Nat×Int)): ∀l:List Int,(dE l ps).length=l.length:=by
 induction ps with
 |nil=>intro l; rfl
 |cons x ps ih=>
  intro l;show(dE (l.set x.1 _) ps).length=_;rw[ih,d8]
def bD (f:Int)(l:List Int)(row:List Bool):Nat->Int×List (Nat×Int)
 |0=>(f,[])
 |j + 1=>if row.getD j false=true/\0 < iH (bD f l row j).1 (l.getD j 0) then((bD f l row j).1 - iH (bD f l row j).1 (l.getD j 0),(bD f l row j).2 ++ [(j,iH (bD f l row j).1 (l.getD j 0))]) else bD f l row j
def cg (fs ls:List Int)(al:List (List Bool)):Nat->List Int×List (Nat×Nat×Int)
 |0=>(ls,[])
 |i + 1=>(dE (cg fs ls al i).1 (bD (fs.getD i 0) (cg fs ls al i).1 (al.getD i []) (cg fs ls al i).1.length).2,
   (cg fs ls al i).2 ++ (bD (fs.getD i 0) (cg fs ls al i).1 (al.getD i []) (cg fs ls al i).1.length).2.map fun x=>(i,x.1,x.2))
def jA (fs ls:List Int)(al:List (List Bool)): ∀i,(cg fs ls al i).1.length=ls.length
 |0=>rfl
 |i + 1=>by
  show(dE _ _).length=_;rw[pM,jA fs ls al i]
def fY (c:Nat)(S:Bk)(b:Nat):Bk:=if 0 < (S.bl b).d then cm false c S b else S
def Js {c b:Nat}{S:Bk}(hc:c < S.credits.length)(hb:b < S.aI.length):Later S (fY c S b)/\ ∀k,k≠b->((fY c S b).bl k).d=(S.bl k).d:=by
 unfold fY cm;split
 ·rename_i h1;split
  ·rename_i h2;refine⟨Later.put hb hc ?_,fun k hk=>by rw[vc hb,aU hk]⟩;unfold iH;split <;> lia
  ·exact⟨Later.refl S,fun _ _=>rfl⟩
 ·exact⟨Later.refl S,fun _ _=>rfl⟩
def Fc {c:Nat}{S0:Bk}: ∀{l:List Nat} {S:Bk},l.Nodup->c < S.credits.length->(∀b∈l,b < S.aI.length)->(∀b∈l,(S.bl b).d=(S0.bl b).d)->
  (l.filter fun b=>decide (0 < (S0.bl b).d)).foldl (cm false c) S=l.foldl (fY c) S
 |[],_,_,_,_,_=>rfl
 |b :: l,S,nd,hc,hl,hd=>by
  rw[fJ] at nd;obtain⟨lt,ot⟩:=Js (S:=S) hc (hl b bJ);have ih:=Fc (S:=fY c S b) (S0:=S0) (l:=l) nd.2 (by rw[lt.cl]; exact hc) (fun x hx=>by rw[lt.bl]; exact hl x (ba _ hx)) (fun x hx=>by
   rw[ot x (fun z=>nd.1 (z▸hx))];exact hd x (ba _ hx))
  rw[fL,← ih];have e:=hd b bJ;by_cases z:0 < (S0.bl b).d
  ·rw[List.filter_cons_of_pos (by simpa using z),List.foldl_cons]
   congr 1
   unfold fY;rw[a8 (by lia)]
  ·rw[List.filter_cons_of_neg (by simpa using z)]
   congr 1
   unfold fY;rw[aU (by lia)]
section
variable {S:Bk}{aH:Str}{gs ts:List Nat}{fs ls:List Int}{al:List (List Bool)}
structure OV (S:Bk)(ts:List Nat)(c:Nat)(L:List Int)(j:Nat)(st:Int×List (Nat×Int))(Sj:Bk):Prop where
 run:(ts.take j).foldl (fY c) S=Sj
 eq:Sj=kh S (st.2.map fun x=>(c,ts.getD x.1 0,x.2))
 later:Later S Sj
 f:(Sj.cr c).d=st.1
 b: ∀k,k < ts.length->(Sj.bl (ts.getD k 0)).d=(dE L st.2).getD k 0
 lt: ∀x∈st.2,x.1 < j
 oc: ∀k,k≠c->Sj.cr k=S.cr k
def zu {c:Nat}{L:List Int}{row:List Bool}(nd:ts.Nodup)(hc:c < S.credits.length)(ht: ∀b∈ts,b < S.aI.length)(hL:L.length=ts.length)(hb: ∀k,k < ts.length->(S.bl (ts.getD k 0)).d=L.getD k 0)
  (hr: ∀k,k < ts.length->row.getD k false=S.eF c (ts.getD k 0)) {j:Nat} (hj:j < ts.length) {Sj:Bk} (J:OV S ts c L j (bD (S.cr c).d L row j) Sj): ∃S',OV S ts c L (j + 1) (bD (S.cr c).d L row (j + 1)) S':=by
 have ap:(dE L (bD (S.cr c).d L row j).2).getD j 0=L.getD j 0:=by
  have other: ∀(ps:List (Nat×Int)) (l:List Int),(∀x∈ps,x.1≠j)->(dE l ps).getD j 0=l.getD j 0:=by
   intro ps
   induction ps with
   |nil=>intro l h; rfl
   |cons x ps ih=>
    intro l h;show(dE (l.set x.1 _) ps).getD j 0=_;rw[ih _ fun y hy=>h y (ba _ hy),Fb (h x bJ)]
  exact other _ _ fun x hx=>a6 (J.lt x hx)
 have bd:(Sj.bl (ts.getD j 0)).d=L.getD j 0:=by rw[J.b j hj,ap]
 have cj:c < Sj.credits.length:=by rw[J.later.cl]; exact hc
 have bj:ts.getD j 0 < Sj.aI.length:=by rw[J.later.bl]; exact ht _ (jM hj)
 have run:(ts.take (j + 1)).foldl (fY c) S=fY c Sj (ts.getD j 0):=by
  rw[pL hj,rP,J.run];rfl
 have g:Sj.eF c (ts.getD j 0)=row.getD j false:=by rw[J.later.eF,hr j hj]
 by_cases z:row.getD j false=true/\0 < iH (bD (S.cr c).d L row j).1 (L.getD j 0)
 ·have e:bD (S.cr c).d L row (j + 1)=((bD (S.cr c).d L row j).1 - iH (bD (S.cr c).d L row j).1 (L.getD j 0),(bD (S.cr c).d L row j).2 ++ [(j,iH (bD (S.cr c).d L row j).1 (L.getD j 0))]):=by
   rw[bD,a8 z]
  have z1:0 < (Sj.bl (ts.getD j 0)).d/\0 < (Sj.cr c).d:=by
   rw[bd,J.f];have:=z.2;unfold iH at this;split at this <;> lia
  have e2:fY c Sj (ts.getD j 0)=Sj.put c (ts.getD j 0) (iH (bD (S.cr c).d L row j).1 (L.getD j 0)):=by
   unfold fY cm;rw[a8 z1.1,a8 ⟨z1.2,by rw[g]; exact z.1,.inr rfl⟩,J.f,bd]
  rw[e];refine⟨_,run.trans e2,?_,J.later.trans (Later.put bj cj (by lia)),?_,fun k hk=>?_,fun x hx=>?_,fun k hk=>?_⟩
  ·rw[aK,mY,← J.eq];rfl
  ·rw[sj cj,a8 rfl];show(Sj.cr c).d - _ =_;rw[J.f]
  ·rw[vc bj,sW];have len:(dE L (bD (S.cr c).d L row j).2).length=ts.length:=by rw[pM,hL]
   by_cases q:k=j
   ·subst q;rw[a8 rfl,L1 (by rw[len]; exact hk)];show(Sj.bl (ts.getD k 0)).d - _ =(dE L _).getD k 0 - _;rw[J.b k hk]
   ·rw[aU fun w=>q (getD_inj nd hk hj w),J.b k hk,Fb (wC q)]
  ·rcases bq.mp hx with hx|hx
   ·have:=J.lt x hx;lia
   ·rw[ao.mp hx];exact fV _
  ·rw[sj cj,aU hk];exact J.oc k hk
 ·have e:bD (S.cr c).d L row (j + 1)=bD (S.cr c).d L row j:=by rw[bD,aU z]
  have e2:fY c Sj (ts.getD j 0)=Sj:=by
   unfold fY cm;split
   ·rename_i h1;rw[aU];rintro⟨h2,h3,_⟩;refine z ⟨by rw[← g]; exact h3,?_⟩;rw[bd] at h1;rw[J.f] at h2;unfold iH;split <;> assumption
   ·rfl
  rw[e];exact⟨Sj,run.trans e2,J.eq,J.later,J.f,J.b,fun x hx=>by have:=J.lt x hx; lia,J.oc⟩
def Fd {c:Nat}{L:List Int}{row:List Bool}(nd:ts.Nodup)(hc:c < S.credits.length)(ht: ∀b∈ts,b < S.aI.length)(hL:L.length=ts.length)(hb: ∀k,k < ts.length->(S.bl (ts.getD k 0)).d=L.getD k 0)
  (hr: ∀k,k < ts.length->row.getD k false=S.eF c (ts.getD k 0)): ∀j,j<=ts.length-> ∃Sj,OV S ts c L j (bD (S.cr c).d L row j) Sj
 |0,_=>⟨S,rfl,rfl,Later.refl S,rfl,hb,(fun _ h=>by cases h),fun _ _=>rfl⟩
 |j + 1,h=>by
  obtain⟨Sj,J⟩:=Fd nd hc ht hL hb hr j (by lia);exact zu nd hc ht hL hb hr (by lia) J
structure Xl (S:Bk)(aH:Str)(gs ts:List Nat)(fs:List Int)(i:Nat)(st:List Int×List (Nat×Nat×Int))(Si:Bk):Prop where
 run:(gs.take i).foldl (cQ aH false) S=Si
 eq:Si=kh S (st.2.map (l5 gs ts))
 later:Later S Si
 b: ∀j,j < ts.length->(Si.bl (ts.getD j 0)).d=st.1.getD j 0
 c: ∀k,i<=k->k < gs.length->(Si.cr (gs.getD k 0)).d=fs.getD k 0
def BI (R:vd S aH gs ts fs ls al){i:Nat}{Si:Bk}(hi:i < gs.length)(J:Xl S aH gs ts fs i (cg fs ls al i) Si): ∃S',Xl S aH gs ts fs (i + 1) (cg fs ls al (i + 1)) S':=by
 obtain⟨g1,g2,g3⟩:=R.g hi;have gc:gs.getD i 0 < Si.credits.length:=by rw[J.later.cl]; exact g1
 have fr:(Si.cr (gs.getD i 0)).d=fs.getD i 0:=J.c i (aE _) hi;have tl:(cg fs ls al i).1.length=ts.length:=by rw[jA,R.ll]
 have tb: ∀b∈ts,b < Si.aI.length:=fun b hb=>by rw[J.later.bl]; exact R.tm hb
 obtain⟨S',K⟩:=Fd (S:=Si) (ts:=ts) (c:=gs.getD i 0) (L:=(cg fs ls al i).1) (row:=al.getD i []) R.tn gc tb tl J.b (fun k hk=>by rw[R.a hi hk,J.later.eF]) ts.length (aE _);have e:(gs.take (i + 1)).foldl (cQ aH false) S=S':=by
  rw[pL hi,rP,J.run];show cQ aH false Si (gs.getD i 0)=_;unfold cQ;rw[J.later.Nv,← R.et,Fc R.tn gc tb (fun _ _=>rfl),← K.run,a7]
 rw[fr] at K;have pe:bD (fs.getD i 0) (cg fs ls al i).1 (al.getD i []) ts.length=bD (fs.getD i 0) (cg fs ls al i).1 (al.getD i []) (cg fs ls al i).1.length:=by rw[tl]
 rw[pe] at K;refine⟨S',e,?_,J.later.trans K.later,K.b,fun k h1 h2=>?_⟩
 ·show S'=kh S (((cg fs ls al i).2 ++ _).map (l5 gs ts));rw[aK,mY,← J.eq,K.eq,eu];rfl
 ·rw[K.oc _ fun z=>by have:=getD_inj R.gn h2 hi z; lia];exact J.c k (by lia) h2
def vf (R:vd S aH gs ts fs ls al): ∀i,i<=gs.length-> ∃Si,Xl S aH gs ts fs i (cg fs ls al i) Si
 |0,_=>⟨S,rfl,rfl,Later.refl S,fun j hj=>by
   obtain⟨_,_,t3⟩:=R.t hj;exact t3.symm,fun k _ h2=>by
   obtain⟨_,_,g3⟩:=R.g h2;exact g3.symm⟩
 |i + 1,h=>by
  obtain⟨Si,J⟩:=vf R i (by lia);exact BI R (by lia) J
def Jt (R:vd S aH gs ts fs ls al):bQ aH S false=kh S ((cg fs ls al gs.length).2.map (l5 gs ts))/\Later S (bQ aH S false):=by
 obtain⟨Si,J⟩:=vf R gs.length (aE _);have e:bQ aH S false=Si:=by
  unfold bQ;rw[← R.eg,← J.run,a7]
 rw[e];exact⟨J.eq,J.later⟩
end
inductive Dc where
 |int (i:Int)
 |txt (s:Str)
 |sets (l:List (Nat×Nat×Int))
 |pairs (l:List (Nat×Int))
 |ints (l:List Int)
def br.isSet:br->Bool
 | .set _ _ _=>true
 | .fT _=>true
 |_=>false
def br.tells:br->Bool
 | .dR _ _ _ _=>true
 | .rG _ _ _=>true
 | .note _ _ _=>true
 | .set _ _ _=>true
 | .fT _=>true
 |_=>false
def qk (x:Int)(n:Nat):Prop:=0<=x/\x < (n:Int)
instance (x:Int) (n:Nat):Decidable (qk x n):=inferInstanceAs (Decidable (_/\_))
def Bk.bar (S:Bk):br->Str
 | .dR _ day A3 dF=>if dF < 1 then "no amount" else if A3 < day then "too early" else ""
 | .rG _ _ dF=>if dF < 1 then "no amount" else ""
 | .note b _ dF=>if ¬ qk b S.aI.length then "no bill" else if dF < 1 then "no amount" else ""
 | .set c b dF=>if ¬ qk c S.credits.length then "no credit" else if ¬ qk b S.aI.length then "no bill" else if S.eF c.toNat b.toNat=false then "not theirs" else
   if dF < 1 then "no amount" else if iH (S.cr c.toNat).d (S.bl b.toNat).d < dF then "too much" else ""
 |_=>""
def vg (S:Bk)(b d a:Int):S.bar (.note b d a)=(if ¬ qk b S.aI.length then("no bill":Str) else if a < 1 then("no amount":Str) else("":Str)):=rfl
def zv (S:Bk)(c b a:Int):S.bar (.set c b a)=(if ¬ qk c S.credits.length then("no credit":Str) else if ¬ qk b S.aI.length then("no bill":Str) else if S.eF c.toNat b.toNat=false then("not theirs":Str) else
   if a < 1 then("no amount":Str) else if iH (S.cr c.toNat).d (S.bl b.toNat).d < a then("too much":Str) else("":Str)):=rfl
def n1:("no credit":Str)≠"":=by decide +kernel
def n2:("no bill":Str)≠"":=by decide +kernel
def n3:("not theirs":Str)≠"":=by decide +kernel
def n4:("no amount":Str)≠"":=by decide +kernel
def n6:("too much":Str)≠"":=by decide +kernel
def sk {S:Bk}{b d a:Int}(h:S.bar (.note b d a)=""):qk b S.aI.length/\1<=a:=by
 rw[vg] at h;split at h
 ·exact absurd h n2
 ·rename_i q;split at h
  ·exact absurd h n4
  ·exact⟨Gf.mp q,by lia⟩
def qH {S:Bk}{c b a:Int}(h:S.bar (.set c b a)=""):qk c S.credits.length/\qk b S.aI.length/\S.eF c.toNat b.toNat=true/\1<=a/\a<=(S.cr c.toNat).d/\a<=(S.bl b.toNat).d:=by
 rw[zv] at h;split at h
 ·exact absurd h n1
 rename_i q1;split at h
 ·exact absurd h n2
 rename_i q2;split at h
 ·exact absurd h n3
 rename_i q3;split at h
 ·exact absurd h n4
 rename_i q4;split at h
 ·exact absurd h n6
 rename_i q5;refine⟨Classical.not_not.mp q1,Classical.not_not.mp q2,by simpa using q3,by lia,?_⟩;unfold iH at q5;split at q5 <;> lia
def Bk.kj (S:Bk)(r:Rw):Bk:={S with aI:=S.aI ++ [r]}
def Bk.ig (S:Bk)(r:Rw):Bk:={S with credits:=S.credits ++ [r]}
def Bk.enter (S:Bk):br->Bk
 | .dR w d u a=>S.kj ⟨w,d,u,a,a⟩
 | .rG w d a=>S.ig ⟨w,d,a,-1,a⟩
 | .note b d a=>S.ig ⟨(S.bl b.toNat).aH,d,a,b,a⟩
 | .set c b a=>S.put c.toNat b.toNat a
 | .fT w=>S.jL w
 |_=>S
def Bk.L3 (S:Bk):br->Dc
 | .dR _ _ _ _=> .int S.aI.length
 | .rG _ _ _=> .int S.credits.length
 | .note _ _ _=> .int S.credits.length
 | .set _ _ a=> .int a
 | .fT w=> .sets ((S.jL w).made.drop S.made.length)
 |_=> .int 0
def cW:List (Int×br)->Bk->Option Bk
 |[],S=>some S
 |(_,d) :: l,S=>if S.bar d="" then cW l (S.enter d) else none
def iw:List (Int×br)->Bk->Str
 |[],_=>""
 |(_,d) :: l,S=>if S.bar d="" then iw l (S.enter d) else S.bar d
def Bk.fO (S:Bk)(t:Nat×Nat×Int):Int:=if(S.bl t.2.1).a > (S.cr t.1).a then(S.bl t.2.1).a else(S.cr t.1).a
def spotOf (aR:Bool)(t:Nat×Nat×Int):Nat:=if aR then t.2.1 else t.1
def Bk.cnt (S:Bk)(aR:Bool)(k:Nat)(day:Int)(t:Nat×Nat×Int):Bool:=decide (spotOf aR t=k) && decide (S.fO t<=day)
def Bk.rows (S:Bk)(aR:Bool):List Rw:=if aR then S.aI else S.credits
def sX (aR:Bool)(r:Rw):Int:=if aR then r.c else r.b
def keyOf (aR:Bool)(r:Rw):Int:=if aR then r.b else r.a
def Bk.rest (S:Bk)(aR:Bool)(k:Nat)(day:Int):Int:=sX aR ((S.rows aR).getD k default) - ((S.made.filter (S.cnt aR k day)).map (·.2.2)).sum
def Bk.fj (S:Bk)(aR:Bool)(aH:Str)(day:Int):List (Nat×Int):=
 ((inOrder (S.rows aR) aH (keyOf aR)).filter fun k=>decide (((S.rows aR).getD k default).a<=day) && decide (0 < S.rest aR k day)).map fun k=>(k,S.rest aR k day)
def placeOf (fO:Int)(bO:List Int):Nat:=if fO<=0 then 0 else 1 + (bO.filter fun l=>decide (l < fO)).length
def iL (l:List Int)(i:Nat)(x:Int):List Int:=l.set i (l.getD i 0 + x)
def Bk.tU (S:Bk)(aH:Str)(day:Int)(bO:List Int):List Int:=
 (S.fj true aH day).foldl (fun l t=>iL l (placeOf (day - (S.bl t.1).b) bO) t.2) (List.replicate (bO.length + 2) 0)
structure gS where
 steps:List (Int×br)
 bk:Bk
def gS.new:gS:=⟨[],Bk.new⟩
def cS (m:Int)(st:Int×br):Bool:= !(decide (st.1=m) && st.2.isSet)
def cE (T:gS)(n:Int):br->Dc×gS
 | .ie m=>if(T.steps.filter (cS m)).length=T.steps.length then(.txt "no setting",T) else
   match cW (T.steps.filter (cS m)) Bk.new with
   |none=>(.txt "needed",T)
   |some S=>(.txt "undone",⟨T.steps.filter (cS m),S⟩)
 | .ask o w d=>(.pairs (T.bk.fj o w d),T)
 | .fN w d l=>(.ints (T.bk.tU w d l),T)
 |d=>if T.bk.bar d="" then(T.bk.L3 d,⟨T.steps ++ [(n,d)],T.bk.enter d⟩) else(.txt (T.bk.bar d),T)
def dM:List br->gS->Nat->List Dc×gS
 |[],T,_=>([],T)
 |d :: l,T,n=>((cE T n d).1 :: (dM l (cE T n d).2 (n + 1)).1,(dM l (cE T n d).2 (n + 1)).2)
structure WF (S:Bk)(n:Nat):Prop where
 m: ∀t∈S.made,t.1 < S.credits.length/\t.2.1 < S.aI.length
 o: ∀c,c < S.credits.length->(S.cr c).c= -1∨ ∃b:Nat,(S.cr c).c=(b:Int)/\b < S.aI.length/\(S.cr c).aH=(S.bl b).aH
 lb:S.aI.length<=n
 lc:S.credits.length<=n
 lm:S.made.length<=8000 * n
def WF.new:WF Bk.new 0:=⟨(fun t h=>by cases h),fun c h=>absurd h (iF _),aE _,aE _,aE _⟩
def WF.mono {S:Bk}{n m:Nat}(h:WF S n)(k:n<=m):WF S m:=⟨h.m,h.o,aY h.lb k,aY h.lc k,aY h.lm (Nat.mul_le_mul_left _ k)⟩
def getD_snoc {α:Type}{l:List α}{x d:α}{k:Nat}(h:k < l.length):(l ++ [x]).getD k d=l.getD k d:=by
 rw[aj,aj,qp h]
def getD_last {α:Type}{l:List α}{x d:α}:(l ++ [x]).getD l.length d=x:=by
 rw[aj,iW (aE _)];simp
def WF.kj {S:Bk}{n:Nat}(h:WF S n)(r:Rw):WF (S.kj r) (n + 1):=by
 have len:(S.kj r).aI.length=S.aI.length + 1:=by simp[Bk.kj]
 refine⟨fun t ht=>⟨(h.m t ht).1,by rw[len]; have:=(h.m t ht).2; lia⟩,fun c hc=>?_,by rw[len]; have:=h.lb; lia,by have:=h.lc; exact Gg this,by have:=h.lm; show S.made.length<=_; lia⟩;rcases h.o c hc with z|⟨b,z1,z2,z3⟩
 ·exact .inl z
 ·refine .inr ⟨b,z1,by rw[len]; lia,?_⟩;show(S.cr c).aH=((S.aI ++ [r]).getD b default).aH;rw[getD_snoc z2];exact z3
def WF.ig {S:Bk}{n:Nat}(h:WF S n)(r:Rw)(hr:r.c= -1∨ ∃b:Nat,r.c=(b:Int)/\b < S.aI.length/\r.aH=(S.bl b).aH):WF (S.ig r) (n + 1):=by
 have len:(S.ig r).credits.length=S.credits.length + 1:=by simp[Bk.ig]
 refine⟨fun t ht=>⟨by rw[len]; have:=(h.m t ht).1; lia,(h.m t ht).2⟩,fun c hc=>?_,by have:=h.lb; exact Gg this,by rw[len]; have:=h.lc; lia,by have:=h.lm; show S.made.length<=_; lia⟩;by_cases q:c < S.credits.length
 ·have e:(S.ig r).cr c=S.cr c:=getD_snoc q;rw[e];exact h.o c q
 ·have q':c=S.credits.length:=by lia
  have e:(S.ig r).cr c=r:=by rw[q']; exact getD_last
  rw[e];exact hr
def WF.later {S S':Bk}{n m:Nat}(h:WF S n)(l:Later S S')(hm: ∀t∈S'.made,t.1 < S.credits.length/\t.2.1 < S.aI.length)(hn:n<=m)(hl:S'.made.length<=8000 * m):WF S' m:=by
 refine⟨fun t ht=>by rw[l.cl,l.bl]; exact hm t ht,fun c hc=>?_,by rw[l.bl]; exact aY h.lb hn,by rw[l.cl]; exact aY h.lc hn,hl⟩;rw[l.cl] at hc;rw[(l.c c).1.2.2.2,(l.c c).1.1];rcases h.o c hc with z|⟨b,z1,z2,z3⟩
 ·exact .inl z
 ·exact .inr ⟨b,z1,by rw[l.bl]; exact z2,by rw[(l.b b).1.1]; exact z3⟩
def vh: ∀{n:Nat} {l:List Nat},l.Nodup->(∀x∈l,x < n)->l.length<=n
 |0,l,_,h=>by
  cases l with
  |nil=>exact aE _
  |cons x l=>exact absurd (h x bJ) (iF _)
 |n + 1,l,nd,h=>by
  by_cases q:n∈l
  ·have h1:=vh (n:=n) (l:=l.erase n) (nd.erase n) (fun x hx=>by
    have h2:=h x (List.mem_of_mem_erase hx);have h3:x≠n:=fun z=>(List.Nodup.mem_erase_iff nd).mp hx |>.1 z;lia)
   rw[List.length_erase_of_mem q] at h1;lia
  ·have:=vh (n:=n) nd (fun x hx=>by
    have h2:=h x hx;have h3:x≠n:=fun z=>q (z▸hx);lia)
   lia
def jN (rows:List Rw)(aH:Str)(key:Rw->Int):(inTurn rows aH key).length<=rows.length:=vh (l4 _ _ _) fun _ h=>(eN.mp h).1
def g9 (fs ls:List Int)(al:List (List Bool)): ∀i,(bU fs ls al i).2.length<=i
 |0=>aE _
 |i + 1=>by
  have:=g9 fs ls al i;unfold bU;split
  ·lia
  ·rw[aC];show _ + 1<=_;lia
def gj (f:Int)(l:List Int)(row:List Bool): ∀j,(bD f l row j).2.length<=j
 |0=>aE _
 |j + 1=>by
  have:=gj f l row j;rw[bD];split
  ·rw[aC];show _ + 1<=_;lia
  ·lia
def pN (fs ls:List Int)(al:List (List Bool)): ∀i,(cg fs ls al i).2.length<=i * ls.length
 |0=>by simp[cg]
 |i + 1=>by
  have h1:=pN fs ls al i;have h2:=gj (fs.getD i 0) (cg fs ls al i).1 (al.getD i []) (cg fs ls al i).1.length;show((cg fs ls al i).2 ++ _).length<=_;rw[aC,ae,wF];rw[jA] at h2 ⊢;lia
def l6 (fs ls:List Int)(al:List (List Bool)): ∀i,∀t∈(bU fs ls al i).2,t.1 < i/\t.2.1 < ls.length
 |0,t,h=>by cases h
 |i + 1,t,h=>by
  rw[bU] at h;split at h
  ·have:=l6 fs ls al i t h;lia
  ·rename_i j hj;rcases bq.mp h with h|h
   ·have:=l6 fs ls al i t h;lia
   ·rw[ao.mp h];unfold gW at hj;have:=dh.mp (N4 hj);exact⟨fV _,this⟩
def pO (f:Int)(l:List Int)(row:List Bool): ∀j,∀x∈(bD f l row j).2,x.1 < j
 |0,x,h=>by cases h
 |j + 1,x,h=>by
  rw[bD] at h;split at h
  ·rcases bq.mp h with h|h
   ·have:=pO f l row j x h;lia
   ·rw[ao.mp h];exact fV _
  ·have:=pO f l row j x h;lia
def vi (fs ls:List Int)(al:List (List Bool)): ∀i,∀t∈(cg fs ls al i).2,t.1 < i/\t.2.1 < ls.length
 |0,t,h=>by cases h
 |i + 1,t,h=>by
  rcases bq.mp (show t∈(cg fs ls al i).2 ++ _ from h) with h|h
  ·have:=vi fs ls al i t h;lia
  ·obtain⟨x,hx,rfl⟩:=bF.mp h;have:=pO _ _ _ _ x hx;rw[jA] at this;exact⟨fV _,this⟩
def Z2 (S:Bk)(aH:Str):vd S aH (inTurn S.credits aH (·.a)) (inTurn S.aI aH (·.b)) ((inTurn S.credits aH (·.a)).map fun g=>(S.cr g).d) ((inTurn S.aI aH (·.b)).map fun t=>(S.bl t).d)
  ((inTurn S.credits aH (·.a)).map fun g=>(inTurn S.aI aH (·.b)).map fun t=>S.eF g t):=⟨rfl,rfl,rfl,rfl,rfl⟩
def Fe {S:Bk}{gs ts:List Nat}{l:List (Nat×Nat×Int)}(hl: ∀t∈l,t.1 < gs.length/\t.2.1 < ts.length)(hg: ∀g∈gs,g < S.credits.length)(ht: ∀t∈ts,t < S.aI.length): ∀t∈l.map (l5 gs ts),t.1 < S.credits.length/\t.2.1 < S.aI.length:=by
 intro t h;obtain⟨x,hx,rfl⟩:=bF.mp h;obtain⟨h1,h2⟩:=hl x hx;exact⟨hg _ (jM h1),ht _ (jM h2)⟩
def vj (S:Bk)(aH:Str)(ex:Bool):Later S (bQ aH S ex)/\ ∃l,(bQ aH S ex).made=S.made ++ l/\(∀t∈l,t.1 < S.credits.length/\t.2.1 < S.aI.length)/\l.length<=S.credits.length + S.credits.length * S.aI.length:=by
 have gl:=jN S.credits aH (·.a);have tl:=jN S.aI aH (·.b);have hg: ∀g∈inTurn S.credits aH (·.a),g < S.credits.length:=fun g h=>(eN.mp h).1;have ht: ∀t∈inTurn S.aI aH (·.b),t < S.aI.length:=fun g h=>(eN.mp h).1;have mul:(inTurn S.credits aH (·.a)).length * (inTurn S.aI aH (·.b)).length<=S.credits.length * S.aI.length:=qq gl tl;cases ex with
 |true=>
  obtain⟨e,l⟩:=Jr (Z2 S aH);refine⟨l,_,by rw[e]; exact jz _ _,Fe (fun t h=>?_) hg ht,?_⟩
  ·have:=l6 _ _ _ _ t h;rwa [ae] at this
  ·rw[ae];have:=g9 ((inTurn S.credits aH (·.a)).map fun g=>(S.cr g).d) ((inTurn S.aI aH (·.b)).map fun t=>(S.bl t).d) ((inTurn S.credits aH (·.a)).map fun g=>(inTurn S.aI aH (·.b)).map fun t=>S.eF g t) (inTurn S.credits aH (·.a)).length;lia
 |false=>
  obtain⟨e,l⟩:=Jt (Z2 S aH);refine⟨l,_,by rw[e]; exact jz _ _,Fe (fun t h=>?_) hg ht,?_⟩
  ·have:=vi _ _ _ _ t h;rwa [ae] at this
  ·rw[ae];have:=pN ((inTurn S.credits aH (·.a)).map fun g=>(S.cr g).d) ((inTurn S.aI aH (·.b)).map fun t=>(S.bl t).d) ((inTurn S.credits aH (·.a)).map fun g=>(inTurn S.aI aH (·.b)).map fun t=>S.eF g t) (inTurn S.credits aH (·.a)).length;rw[ae] at this;lia
def qI (S:Bk)(aH:Str):Later S (S.jL aH)/\ ∃l,(S.jL aH).made=S.made ++ l/\(∀t∈l,t.1 < S.credits.length/\t.2.1 < S.aI.length)/\l.length<=2 * (S.credits.length + S.credits.length * S.aI.length):=by
 obtain⟨l1,m1,e1,h1,n1⟩:=vj S aH true;obtain⟨l2,m2,e2,h2,n2⟩:=vj (bQ aH S true) aH false;refine⟨l1.trans l2,m1 ++ m2,by show(bQ aH (bQ aH S true) false).made=_; rw[e2,e1,eG],fun t ht=>?_,?_⟩
 ·rcases bq.mp ht with ht|ht
  ·exact h1 t ht
  ·have:=h2 t ht;rwa [l1.cl,l1.bl] at this
 ·rw[l1.cl,l1.bl] at n2;rw[aC];lia
def WF.enter {S:Bk}{n:Nat}{d:br}(h:WF S n)(hn:n < 60)(hb:S.bar d=""):WF (S.enter d) (n + 1):=by
 cases d with
 |dR w d u a=>exact h.kj _
 |rG w d a=>exact h.ig _ (.inl rfl)
 |note b d a=>
  refine h.ig _ (.inr ⟨b.toNat,?_⟩);have z:=(sk hb).1;obtain⟨z1,z2⟩:=z;refine⟨?_,?_,rfl⟩
  ·show b=(b.toNat:Int);lia
  ·lia
 |set c b a=>
  obtain⟨zc,zb,_,za,_⟩:=qH hb;obtain⟨c1,c2⟩:=zc;obtain⟨b1,b2⟩:=zb;have l:Later S (S.put c.toNat b.toNat a):=Later.put (by lia) (by lia) (by lia);refine h.later l (fun t ht=>?_) (dm _) ?_
  ·rcases bq.mp ht with ht|ht
   ·exact h.m t ht
   ·rw[ao.mp ht];show c.toNat < _/\b.toNat < _;lia
  ·show(S.made ++ [_]).length<=_;rw[aC];have:=h.lm;show _ + 1<=_;lia
 |fT w=>
  obtain⟨l,m,e,h1,h2⟩:=qI S w;refine h.later l (fun t ht=>?_) (dm _) ?_
  ·rw[show(S.enter (.fT w)).made=S.made ++ m from e] at ht;rcases bq.mp ht with ht|ht
   ·exact h.m t ht
   ·exact h1 t ht
  ·show(S.jL w).made.length<=_;rw[e,aC];have h3:=h.lm;have h4:=h.lb;have h5:=h.lc;have:S.credits.length * S.aI.length<=60 * 60:=qq (by lia) (by lia);lia
 |ie m=>exact h.mono (dm _)
 |ask o w d=>exact h.mono (dm _)
 |fN w d l=>exact h.mono (dm _)
structure mZ (S T:Bk):Prop where
 bl:T.aI.length=S.aI.length
 cl:T.credits.length=S.credits.length
 b: ∀k,oB (S.bl k) (T.bl k)
 c: ∀k,oB (S.cr k) (T.cr k)
def oB.symm {r s:Rw}(h:oB r s):oB s r:=⟨h.1.symm,h.2.1.symm,h.2.2.1.symm,h.2.2.2.symm⟩
def mZ.refl (S:Bk):mZ S S:=⟨rfl,rfl,fun _=>oB.refl _,fun _=>oB.refl _⟩
def mZ.symm {S T:Bk}(h:mZ S T):mZ T S:=⟨h.bl.symm,h.cl.symm,fun k=>(h.b k).symm,fun k=>(h.c k).symm⟩
def mZ.trans {S T U:Bk}(h:mZ S T)(k:mZ T U):mZ S U:=⟨k.bl.trans h.bl,k.cl.trans h.cl,fun i=>(h.b i).trans (k.b i),fun i=>(h.c i).trans (k.c i)⟩
def Later.rV {S T:Bk}(h:Later S T):mZ S T:=⟨h.bl,h.cl,fun k=>(h.b k).1,fun k=>(h.c k).1⟩
def mZ.eF {S T:Bk}(h:mZ S T)(c b:Nat):T.eF c b=S.eF c b:=by
 unfold Bk.eF;rw[(h.c c).1,(h.b b).1,(h.c c).2.2.2]
def sm {l m:List Rw}{r s:Rw}(hl:m.length=l.length)(h: ∀k,oB (l.getD k default) (m.getD k default))(hr:oB r s)(k:Nat):oB ((l ++ [r]).getD k default) ((m ++ [s]).getD k default):=by
 by_cases q:k < l.length
 ·rw[getD_snoc q,getD_snoc (by rw[hl]; exact q)];exact h k
 ·by_cases e:k=l.length
  ·subst e;rw[getD_last,← hl,getD_last];exact hr
  ·have o1:(l ++ [r]).getD k default=default:=by
    rw[aj,lP (by rw[aC]; show l.length + 1<=k; lia)];rfl
   have o2:(m ++ [s]).getD k default=default:=by
    rw[aj,lP (by rw[aC]; show m.length + 1<=k; lia)];rfl
   rw[o1,o2];exact oB.refl _
def Ju {S T:Bk}(h:mZ S T){d:br}(hb:S.bar d=""):T.bar d=""∨T.bar d="too much":=by
 cases d with
 |note b d a=>
  obtain⟨z1,z2⟩:=sk hb;left;rw[vg,h.bl,aU (fun z=>z z1),aU (by lia)]
 |set c b a=>
  obtain⟨z1,z2,z3,z4,_⟩:=qH hb;rw[zv,h.bl,h.cl,h.eF,aU (fun z=>z z1),aU (fun z=>z z2),aU (by rw[z3]; decide),aU (by lia)];split
  ·exact .inr rfl
  ·exact .inl rfl
 |dR w d u a=>exact .inl hb
 |rG w d a=>exact .inl hb
 |fT w=>exact .inl rfl
 |ie m=>exact .inl rfl
 |ask o w d=>exact .inl rfl
 |fN w d l=>exact .inl rfl
def lx {S:Bk}{d:br}(hs:d.isSet=true)(hb:S.bar d=""):Later S (S.enter d):=by
 cases d with
 |set c b a=>
  obtain⟨⟨_,_⟩,⟨_,_⟩,_,_,_⟩:=qH hb;exact Later.put (by lia) (by lia) (by lia)
 |fT w=>exact(qI S w).1
 |dR w d u a=>cases hs
 |rG w d a=>cases hs
 |note b d a=>cases hs
 |ie m=>cases hs
 |ask o w d=>cases hs
 |fN w d l=>cases hs
def DR {S T:Bk}(h:mZ S T){d:br}(hs:S.bar d="")(ht:T.bar d=""):mZ (S.enter d) (T.enter d):=by
 cases d with
 |dR w d u a=>exact⟨by simp[Bk.enter,Bk.kj,h.bl],h.cl,sm h.bl h.b (oB.refl _),h.c⟩
 |rG w d a=>exact⟨h.bl,by simp[Bk.enter,Bk.ig,h.cl],h.b,sm h.cl h.c (oB.refl _)⟩
 |note b d a=>exact⟨h.bl,by simp[Bk.enter,Bk.ig,h.cl],h.b,sm h.cl h.c ⟨(h.b _).1,rfl,rfl,rfl⟩⟩
 |set c b a=>exact(lx rfl hs).rV.symm.trans (h.trans (lx rfl ht).rV)
 |fT w=>exact(lx (d:= .fT w) rfl hs).rV.symm.trans (h.trans (lx (d:= .fT w) rfl ht).rV)
 |ie m=>exact h
 |ask o w d=>exact h
 |fN w d l=>exact h
def OW (m:Int): ∀(l:List (Int×br)) {S T:Bk},mZ S T->(cW l S).isSome=true->iw (l.filter (cS m)) T=""∨iw (l.filter (cS m)) T="too much"
 |[],_,_,_,_=> .inl rfl
 |(n,d) :: l,S,T,h,hw=>by
  unfold cW at hw;split at hw
  ·rename_i hb;by_cases k:cS m (n,d)=true
   ·rw[cu k];unfold iw;split
    ·rename_i ht;exact OW m l (DR h hb ht) hw
    ·rename_i ht;exact .inr ((Ju h hb).resolve_left ht)
   ·rw[gN k];have ds:d.isSet=true:=by
     unfold cS at k;simp at k;exact k.2
    exact OW m l ((lx ds hb).rV.symm.trans h) hw
  ·cases hw
def sq: ∀(l:List (Int×br)) {S T:Bk} {n:Nat},WF S n->cW l S=some T->n + l.length<=60->WF T (n + l.length)
 |[],S,T,n,h,e,_=>by
  cases e;exact h
 |(k,d) :: l,S,T,n,h,e,hl=>by
  unfold cW at e;split at e
  ·rename_i hb;have len:((k,d) :: l).length=l.length + 1:=rfl;rw[len] at hl ⊢;have:=sq l (h.enter (by lia) hb) e (by lia);rwa [show n + (l.length + 1)=n + 1 + l.length by lia]
  ·cases e
def kN: ∀(l m:List (Int×br)) (S:Bk),cW (l ++ m) S=(cW l S).bind (cW m)
 |[],m,S=>rfl
 |(k,d) :: l,m,S=>by
  show(if S.bar d="" then cW (l ++ m) (S.enter d) else none)=(if S.bar d="" then cW l (S.enter d) else none).bind (cW m);split
  ·exact kN l m _
  ·rfl
structure Good (T:gS)(n:Nat):Prop where
 w:cW T.steps Bk.new=some T.bk
 lt: ∀st∈T.steps,0<=st.1/\st.1 < (n:Int)
 inc:T.steps.Pairwise fun a b=>a.1 < b.1
 tl: ∀st∈T.steps,st.2.tells=true
 len:T.steps.length<=n
def Good.new:Good gS.new 0:=⟨rfl,(fun _ h=>by cases h),List.Pairwise.nil,(fun _ h=>by cases h),aE _⟩
def Good.mono {T:gS}{n m:Nat}(h:Good T n)(k:n<=m):Good T m:=⟨h.w,fun st hs=>⟨(h.lt st hs).1,by have:=(h.lt st hs).2; lia⟩,h.inc,h.tl,aY h.len k⟩
def Good.wf {T:gS}{n:Nat}(h:Good T n)(hn:n<=60):WF T.bk n:=by
 have z:=sq T.steps WF.new h.w (by have:=h.len; lia);rw[Nat.zero_add] at z;exact z.mono h.len
def Good.add {T:gS}{n:Nat}(h:Good T n){d:br}(ht:d.tells=true)(hb:T.bk.bar d=""):Good ⟨T.steps ++ [((n:Int),d)],T.bk.enter d⟩ (n + 1):=by
 refine⟨?_,fun st hs=>?_,?_,fun st hs=>?_,?_⟩
 ·show cW (T.steps ++ [((n:Int),d)]) Bk.new=_;rw[kN,h.w];show(if T.bk.bar d="" then some (T.bk.enter d) else none)=_;rw[a8 hb]
 ·rcases bq.mp hs with hs|hs
  ·have:=h.lt st hs;lia
  ·rw[ao.mp hs];show(0:Int)<=(n:Int)/\(n:Int) < _;lia
 ·rw[List.pairwise_append];refine⟨h.inc,kb _ _,fun a ha b hb=>?_⟩;rw[ao.mp hb];exact(h.lt a ha).2
 ·rcases bq.mp hs with hs|hs
  ·exact h.tl st hs
  ·rw[ao.mp hs];exact ht
 ·show(T.steps ++ [_]).length<=_;rw[aC];have:=h.len;show _ + 1<=_;lia
def Good.ie {T:gS}{n:Nat}(h:Good T n)(m k:Int):Good (cE T k (.ie m)).2 n/\ ∃s,(cE T k (.ie m)).1= .txt s:=by
 rw[cE];split
 ·exact⟨h,_,rfl⟩
 ·cases e:cW (T.steps.filter (cS m)) Bk.new with
  |none=>exact⟨h,_,rfl⟩
  |some S=>exact⟨⟨e,fun st hs=>h.lt st (eU.mp hs).1,h.inc.filter _,fun st hs=>h.tl st (eU.mp hs).1,aY (aX _ _) h.len⟩,_,rfl⟩
def Good.step {T:gS}{n:Nat}(h:Good T n)(d:br):Good (cE T n d).2 (n + 1):=by
 have keep:=h.mono (dm n);have dflt: ∀d:br,d.tells=true->Good (if T.bk.bar d="" then(T.bk.L3 d,(⟨T.steps ++ [((n:Int),d)],T.bk.enter d⟩:gS)) else(.txt (T.bk.bar d),T)).2 (n + 1):=fun d ht=>by
  split
  ·rename_i hb;exact h.add ht hb
  ·exact keep
 cases d with
 |ie m=>exact(h.ie m n).1.mono (dm n)
 |ask o w d=>exact keep
 |fN w d l=>exact keep
 |dR w d u a=>exact dflt _ rfl
 |rG w d a=>exact dflt _ rfl
 |note b d a=>exact dflt _ rfl
 |set c b a=>exact dflt _ rfl
 |fT w=>exact dflt _ rfl
def kz: ∀(l:List br) (T:gS) (n:Nat),(dM l T n).1.length=l.length
 |[],_,_=>rfl
 |d :: l,T,n=>by
  show(dM l _ _).1.length + 1=_;rw[kz l];rfl
def br.dt:br->Dt
 | .dR w d u a=> .tup [.str "bill",.str w,.int d,.int u,.int a]
 | .rG w d a=> .tup [.str "pay",.str w,.int d,.int a]
 | .note b d a=> .tup [.str "note",.int b,.int d,.int a]
 | .set c b a=> .tup [.str "set",.int c,.int b,.int a]
 | .fT w=> .tup [.str "sweep",.str w]
 | .ie n=> .tup [.str "undo",.int n]
 | .ask o w d=> .tup [.str (if o then "owed" else "free"),.str w,.int d]
 | .fN w d l=> .tup [.str "ages",.str w,.int d,.tup (l.map Dt.int)]
def vk:Int:=10 ^ 62
def Ff {x:Int}(h:x<=10 ^ 60):x<=vk:=lQ h (by decide +kernel)
def br.ok:br->Prop
 | .dR _ d _ _=>d<=vk
 | .rG _ d _=>d<=vk
 | .note _ d _=>d<=vk
 | .fN _ _ l=>l.length<=11/\l.Pairwise (· < ·)/\ ∀x∈l,1<=x
 |_=>True
mutual
def Dt.K5:Dt->Bool
 | .lst _=>false
 | .tup ds=>Dt.wV ds
 | .eh=>true
 | .bl _=>true
 | .int _=>true
 | .str _=>true
def Dt.wV:List Dt->Bool
 |[]=>true
 |d :: ds=>d.K5 && Dt.wV ds
end
def cF (H H':Hp):Prop:= ∀b xs,H b=some (.tup xs)->H' b=some (.tup xs)
def cF.trans {H1 H2 H3:Hp}(a:cF H1 H2)(b:cF H2 H3):cF H1 H3:=fun x xs e=>b x xs (a x xs e)
def aD.tk {H H':Hp}(s:aD H H'):cF H H':=fun b xs e=>s _ _ e
def dN {H:Hp}{p:Addr}{o:HO}{ys:List V}(h:H p=some (.lst ys)):cF H (upd H p o):=dA h
mutual
def Rp.BJ {H H':Hp}(k:cF H H'): ∀(d:Dt) {v:V},d.K5=true->Rp H d v->Rp H' d v
 | .eh,_,_,h=>uY.mpr (uY.mp h)
 | .bl _,_,_,h=>qD.mpr (qD.mp h)
 | .int _,_,_,h=>di.mpr (di.mp h)
 | .str _,_,_,h=>fG.mpr (fG.mp h)
 | .tup ds,_,n,h=>by
  obtain⟨a,xs,e,h1,h2⟩:=jI.mp h;exact jI.mpr ⟨a,xs,e,k _ _ h1,g6.BJ k ds (by simpa[Dt.K5] using n) h2⟩
 | .lst ds,_,n,h=>by simp[Dt.K5] at n
def g6.BJ {H H':Hp}(k:cF H H'): ∀(ds:List Dt) {vs:List V},Dt.wV ds=true->g6 H ds vs->g6 H' ds vs
 |[],_,_,h=>cL.mpr (cL.mp h)
 |d :: ds,_,n,h=>by
  obtain⟨v,r,e,h1,h2⟩:=bC.mp h;have n':d.K5=true/\Dt.wV ds=true:=by simpa[Dt.wV] using n
  exact bC.mpr ⟨v,r,e,Rp.BJ k d n'.1 h1,g6.BJ k ds n'.2 h2⟩
end
def GS (l:List Int):Dt.wV (l.map Dt.int)=true:=by
 induction l with
 |nil=>rfl
 |cons x l ih=>simp[Dt.wV,Dt.K5,ih]
def br.K5 (d:br):d.dt.K5=true:=by
 cases d <;> simp[br.dt,Dt.K5,Dt.wV,GS]
def GU (ds:List br):Dt.wV (ds.map br.dt)=true:=by
 induction ds with
 |nil=>rfl
 |cons d ds ih=>simp[Dt.wV,br.K5,ih]
def eO (H:Hp)(ds:List br)(ms:List V):Prop:=g6 H (ds.map br.dt) ms
def eO.mono {H H':Hp}{ds:List br}{ms:List V}(h:eO H ds ms)(k:cF H H'):eO H' ds ms:=g6.BJ k _ (GU ds) h
def eO.snoc {H:Hp}{ds:List br}{ms:List V}{d:br}{v:V}(h:eO H ds ms)(hd:Rp H d.dt v):eO H (ds ++ [d]) (ms ++ [v]):=by
 unfold eO;rw[aK];exact g6.append h (g6.one hd)
def eO.length {H:Hp}{ds:List br}{ms:List V}(h:eO H ds ms):ds.length=ms.length:=by
 have:=g6.length h;rwa [ae] at this
def L4 (n:Nat)(b:Str):(List.replicate n [V.str b]).flatten=(List.replicate n b).map V.str:=by
 induction n with
 |zero=>rfl
 |succ n ih=>rw[cK,iO,ih,cK]; rfl
def Rw.vs (r:Rw):List V:=[.str r.aH,.int r.a,.int r.b,.int r.c,.int r.d]
structure fu where
 pb:Addr
 pc:Addr
 pm:Addr
 ix:List Addr
 cps:List Addr
def fu.fp (f:fu):List Addr:=f.pb :: f.pc :: f.pm :: (f.ix ++ f.cps)
def bk3 (f:fu):List (Key×V):=[(Sum.inr "bills",.ref f.pb),(Sum.inr "credits",.ref f.pc),(Sum.inr "made",.ref f.pm)]
def eP (H:Hp)(rs:List Rw)(ps:List Addr):Prop:=Paired (fun(r:Rw) p=>H p=some (.lst r.vs)) rs ps
def hJ (H:Hp)(ms:List (Nat×Nat×Int))(vs:List V):Prop:=Paired (fun(t:Nat×Nat×Int) v=> ∃p,v= .ref p/\H p=some (.tup [.int t.1,.int t.2.1,.int t.2.2])) ms vs
def hJ.mono {H H':Hp}{ms:List (Nat×Nat×Int)}{vs:List V}(h:hJ H ms vs)(k:cF H H'):hJ H' ms vs:=
 Paired.gI h fun _ _ ⟨p,e,q⟩=>⟨p,e,k _ _ q⟩
structure df (H:Hp)(sd:Addr)(S:Bk)(f:fu):Prop where
 dict:H sd=some (.dK (bk3 f))
 hb:H f.pb=some (.lst (f.ix.map V.ref))
 hc:H f.pc=some (.lst (f.cps.map V.ref))
 hm: ∃ms,H f.pm=some (.lst ms)/\hJ H S.made ms
 rb:eP H S.aI f.ix
 rc:eP H S.credits f.cps
 nd:f.fp.Nodup
 ns:sd∉f.fp
def eP.keep {H H':Hp}{rs:List Rw}{ps:List Addr}(h:eP H rs ps)(k: ∀p∈ps,∀o,H p=some o->H' p=some o):eP H' rs ps:=by
 induction h with
 |nil=>exact .nil
 | @cons r p rs ps hr t ih=>exact .cons (k p bJ _ hr) (ih fun q hq=>k q (ba _ hq))
def df.keep {H H':Hp}{sd:Addr}{S:Bk}{f:fu}(h:df H sd S f)(k: ∀b o,(b=sd∨b∈f.fp)->H b=some o->H' b=some o)(t:cF H H'):df H' sd S f:=by
 obtain⟨ms,m1,m2⟩:=h.hm;refine⟨k _ _ (.inl rfl) h.dict,k _ _ (.inr (by simp[fu.fp])) h.hb,k _ _ (.inr (by simp[fu.fp])) h.hc,⟨ms,k _ _ (.inr (by simp[fu.fp])) m1,m2.mono t⟩,h.rb.keep fun p hp o e=>k p o (.inr (by simp[fu.fp,hp])) e,h.rc.keep fun p hp o e=>k p o (.inr (by simp[fu.fp,hp])) e,h.nd,h.ns⟩
def df.same {H H':Hp}{sd:Addr}{S:Bk}{f:fu}(h:df H sd S f)(s:aD H H'):df H' sd S f:=h.keep (fun b o _ e=>s _ _ e) s.tk
def Frame (fp:List Addr)(H H':Hp):Prop:= ∀b o,b∉fp->H b=some o->H' b=some o
def Frame.refl {fp:List Addr}{H:Hp}:Frame fp H H:=fun _ _ _ e=>e
def Frame.trans {fp SH:List Addr}{H1 H2 H3:Hp}(a:Frame fp H1 H2)(b:Frame SH H2 H3)(h: ∀x∈SH,x∈fp∨H1 x=none):Frame fp H1 H3:=fun x o hx e=>
 b x o (fun hx'=>by
  rcases h x hx' with h|h
  ·exact hx h
  ·rw[h] at e; cases e) (a x o hx e)
def aD.frame {fp:List Addr}{H H':Hp}(s:aD H H'):Frame fp H H':=fun b o _ e=>s _ _ e
def Frame.upd {fp:List Addr}{H:Hp}{p:Addr}{o:HO}(h:p∈fp):Frame fp H (upd H p o):=fun b u hb e=>by
 have i9:b≠p:=fun z=>hb (by rw[z]; exact h);rw[az i9]; exact e
def Frame.same {fp:List Addr}{H0 H H':Hp}(a:Frame fp H H')(s:aD H0 H)(h: ∀x∈fp,H0 x=none):aD H0 H':=fun b o e=>a b o (fun hb=>by rw[h b hb] at e; cases e) (s b o e)
def eP.length {H:Hp}{rs:List Rw}{ps:List Addr}(h:eP H rs ps):rs.length=ps.length:=aL h
def eP.at {H:Hp}{rs:List Rw}{ps:List Addr}(h:eP H rs ps){i:Nat}(hi:i < rs.length): ∃p,ps[i]? =some p/\H p=some (.lst (rs.getD i default).vs):=by
 obtain⟨p,e,q⟩:=bI h (af hi);refine⟨p,e,?_⟩;rw[aj,af hi];exact q
def eP.set {H:Hp}: ∀{rs:List Rw} {ps:List Addr} {i:Nat} {p:Addr} {r:Rw},eP H rs ps->ps.Nodup->ps[i]? =some p->eP (upd H p (.lst r.vs)) (rs.set i r) ps
 |_,_,i,p,r,.nil,_,h=>by simp at h
 |_,_,0,p,r,.cons (b:=q) hr t,nd,h=>by
  injection h with h;subst h;rw[fJ] at nd;refine .cons ag (eP.keep t fun x hx o e=>?_);have i9:x≠q:=fun z=>nd.1 (by rw[← z]; exact hx);rw[az i9]; exact e
 |_,_,i + 1,p,r,.cons (b:=q) hr t,nd,h=>by
  rw[fJ] at nd;rw[List.getElem?_cons_succ] at h;have i9:q≠p:=fun z=>nd.1 (by rw[z]; exact fq h);refine .cons ?_ (eP.set t nd.2 h);rw[az i9]; exact hr
def eP.hV {H:Hp}{rs:List Rw}{ps:List Addr}{p:Addr}{o:HO}(h:eP H rs ps)(hp:p∉ps):eP (upd H p o) rs ps:=
 h.keep fun q hq u e=>by
  have i9:q≠p:=fun z=>hp (by rw[← z]; exact hq);rw[az i9]; exact e
def fu.SI {f:fu}(h:f.fp.Nodup):f.pb≠f.pc/\f.pb≠f.pm/\f.pc≠f.pm/\(∀p∈f.ix,p≠f.pb/\p≠f.pc/\p≠f.pm/\p∉f.cps)/\(∀p∈f.cps,p≠f.pb/\p≠f.pc/\p≠f.pm/\p∉f.ix)/\f.ix.Nodup/\f.cps.Nodup:=by
 unfold fu.fp at h;simp only[List.nodup_cons,List.mem_cons,List.mem_append,not_or,List.nodup_append] at h;obtain⟨⟨h1,h2,h3,h4⟩,⟨h5,h6,h7⟩,⟨h8,h9⟩,K6,Xm,QU⟩:=h;refine⟨h1,h2,h5,fun p hp=>⟨fun e=>h3 (e▸hp),fun e=>h6 (e▸hp),fun e=>h8 (e▸hp),fun hc=>QU p hp p hc rfl⟩,fun p hp=>⟨fun e=>h4 (e▸hp),fun e=>h7 (e▸hp),fun e=>h9 (e▸hp),fun hb=>QU p hb p hp rfl⟩,K6,Xm⟩
def df.setB {H:Hp}{sd:Addr}{S:Bk}{f:fu}(h:df H sd S f){i:Nat}{p:Addr}{r:Rw}(hp:f.ix[i]? =some p)(hl: ∃xs,H p=some (.lst xs)):df (upd H p (.lst r.vs)) sd {S with aI:=S.aI.set i r} f:=by
 obtain⟨d1,d2,d3,d4,d5,d6,d7⟩:=fu.SI h.nd;have hm:=fq hp;obtain⟨e1,e2,e3,e4⟩:=d4 p hm;obtain⟨ms,m1,m2⟩:=h.hm;obtain⟨xs,hx⟩:=hl;have es:sd≠p:=fun z=>h.ns (by rw[z]; simp[fu.fp,hm]);exact⟨by rw[az es]; exact h.dict,by rw[az e1.symm]; exact h.hb,by rw[az e2.symm]; exact h.hc,⟨ms,by rw[az e3.symm]; exact m1,m2.mono (dN hx)⟩,h.rb.set d6 hp,h.rc.hV e4,h.nd,h.ns⟩
def df.setC {H:Hp}{sd:Addr}{S:Bk}{f:fu}(h:df H sd S f){i:Nat}{p:Addr}{r:Rw}(hp:f.cps[i]? =some p)(hl: ∃xs,H p=some (.lst xs)):df (upd H p (.lst r.vs)) sd {S with credits:=S.credits.set i r} f:=by
 obtain⟨d1,d2,d3,d4,d5,d6,d7⟩:=fu.SI h.nd;have hm:=fq hp;obtain⟨e1,e2,e3,e4⟩:=d5 p hm;obtain⟨ms,m1,m2⟩:=h.hm;obtain⟨xs,hx⟩:=hl;have es:sd≠p:=fun z=>h.ns (by rw[z]; simp[fu.fp,hm]);exact⟨by rw[az es]; exact h.dict,by rw[az e1.symm]; exact h.hb,by rw[az e2.symm]; exact h.hc,⟨ms,by rw[az e3.symm]; exact m1,m2.mono (dN hx)⟩,h.rb.hV e4,h.rc.set d7 hp,h.nd,h.ns⟩
def df.Xn {H:Hp}{sd:Addr}{S:Bk}{f:fu}(h:df H sd S f){ms:List V}{t:Nat×Nat×Int}{p:Addr}(hm:H f.pm=some (.lst ms))(hms:hJ H S.made ms)(hp:H p=some (.tup [.int t.1,.int t.2.1,.int t.2.2])):
  df (upd H f.pm (.lst (ms ++ [.ref p]))) sd {S with made:=S.made ++ [t]} f:=by
 obtain⟨d1,d2,d3,d4,d5,d6,d7⟩:=fu.SI h.nd;have es:sd≠f.pm:=fun z=>h.ns (by rw[z]; simp[fu.fp]);exact⟨by rw[az es]; exact h.dict,by rw[az d2]; exact h.hb,by rw[az d3]; exact h.hc,⟨_,ag,cy (hms.mono (dN hm)) ⟨p,rfl,dA hm _ _ hp⟩⟩,h.rb.hV fun z=>(d4 _ z).2.2.1 rfl,h.rc.hV fun z=>(d5 _ z).2.2.1 rfl,h.nd,h.ns⟩
def SJ:("bills":Str)≠"credits":=by decide +kernel
def SK:("bills":Str)≠"made":=by decide +kernel
def SM:("credits":Str)≠"made":=by decide +kernel
def SN (a b c:V):fZ [((Sum.inr "bills":Key),a),(Sum.inr "credits",b),(Sum.inr "made",c)] (Sum.inr "bills")=some a:=by
 unfold fZ;rw[List.find?_cons_of_pos (by simp)]; rfl
def SO (a b c:V):fZ [((Sum.inr "bills":Key),a),(Sum.inr "credits",b),(Sum.inr "made",c)] (Sum.inr "credits")=some b:=by
 unfold fZ;rw[List.find?_cons_of_neg (by simpa using SJ),List.find?_cons_of_pos (by simp)]; rfl
def SQ (a b c:V):fZ [((Sum.inr "bills":Key),a),(Sum.inr "credits",b),(Sum.inr "made",c)] (Sum.inr "made")=some c:=by
 unfold fZ;rw[List.find?_cons_of_neg (by simpa using SK),List.find?_cons_of_neg (by simpa using SM),List.find?_cons_of_pos (by simp)]; rfl
def OX (a b c:V):pG [] [((Sum.inr "bills":Key),a),(Sum.inr "credits",b),(Sum.inr "made",c)]=[((Sum.inr "bills":Key),a),(Sum.inr "credits",b),(Sum.inr "made",c)]:=by
 unfold pG;rw[fL,fL,fL,List.foldl_nil];have h1:putK ([]:List (Key×V)) (Sum.inr "bills") a=[((Sum.inr "bills":Key),a)]:=by
  unfold putK; rw[if_neg (by simp)]; rfl
 have h2:putK [((Sum.inr "bills":Key),a)] (Sum.inr "credits") b=[((Sum.inr "bills":Key),a),(Sum.inr "credits",b)]:=by
  unfold putK; rw[if_neg (by simpa using SJ)]; rfl
 have h3:putK [((Sum.inr "bills":Key),a),(Sum.inr "credits",b)] (Sum.inr "made") c=[((Sum.inr "bills":Key),a),(Sum.inr "credits",b),(Sum.inr "made",c)]:=by
  unfold putK; rw[if_neg (by simpa using⟨SK,SM⟩)]; rfl
 dsimp only;rw[h1,h2,h3]
def df.gB {H:Hp}{sd:Addr}{S:Bk}{f:fu}(h:df H sd S f):mG H sd (.str "bills") (some (.ref f.pb)):=SN (.ref f.pb) (.ref f.pc) (.ref f.pm)▸mG.k (k:=Sum.inr "bills") h.dict
def df.gC {H:Hp}{sd:Addr}{S:Bk}{f:fu}(h:df H sd S f):mG H sd (.str "credits") (some (.ref f.pc)):=SO (.ref f.pb) (.ref f.pc) (.ref f.pm)▸mG.k (k:=Sum.inr "credits") h.dict
def df.gM {H:Hp}{sd:Addr}{S:Bk}{f:fu}(h:df H sd S f):mG H sd (.str "made") (some (.ref f.pm)):=SQ (.ref f.pb) (.ref f.pc) (.ref f.pm)▸mG.k (k:=Sum.inr "made") h.dict
def df.lb {H:Hp}{sd:Addr}{S:Bk}{f:fu}(h:df H sd S f){b:Nat}(hb:b < S.aI.length): ∃p,f.ix[b]? =some p/\rY (f.ix.map V.ref) (b:Int)=some (.ref p)/\H p=some (.lst (S.bl b).vs):=by
 obtain⟨p,e,q⟩:=h.rb.at hb;exact⟨p,e,cw (by rw[aB,e]; rfl),q⟩
def df.lc {H:Hp}{sd:Addr}{S:Bk}{f:fu}(h:df H sd S f){b:Nat}(hb:b < S.credits.length): ∃p,f.cps[b]? =some p/\rY (f.cps.map V.ref) (b:Int)=some (.ref p)/\H p=some (.lst (S.cr b).vs):=by
 obtain⟨p,e,q⟩:=h.rc.at hb;exact⟨p,e,cw (by rw[aB,e]; rfl),q⟩
section
variable {prog:Program}{w:World}{A:Around}{E:Value->Shared->Prop}
def sY (prog:Program)(w:World)(A:Around)(kS:Addr)(f:Value)(Fi:List Value->Shared->Prop):List Value->List Value->Shared->Prop
 |[],ks,s=>Fi ks s
 |v :: r,ks,s=>wpAny (model prog w) A (call f [v]) (fun k s'=> ∃e,s'.heap.get? kS=some (seqObj "list" ks.toArray e)/\ ∀h' c,Heap.SameBut kS s'.heap h'->h'.get? kS=some (seqObj "list" (ks ++ [k]).toArray c)->sY prog w A kS f Fi r (ks ++ [k]) {s' with heap:=h'}) (fun _ _=>False) s
def GV (prog:Program)(w:World)(A:Around)(D kS:Addr)(e1:Nat)(vs:List Value)(Q:Shared->Prop)(ks:List Value)(s:Shared):Prop:=
 ∃(κ:SortKind) (key:Nat->Int),D≠kS/\s.heap.get? D=some (seqObj "list" #[] e1)/\(2<=vs.length-> ∀Q':SortKind->Shared->Prop,Q' κ s->wpAny (model prog w) A (keyKind' ks.toArray) Q' (fun _ _=>False) s)/\
  (∀(i j:Nat) (C:Bool->Shared->Prop),i < vs.length->j < vs.length->C (decide (key i < key j)) s->wpAny (model prog w) A (keyLt' κ (ks.getD i Value.none) (ks.getD j Value.none)) C (fun _ _=>False) s)/\
  ∀(p:Array Nat) (h':Heap) (n:Nat),qE vs.length p->lj key p vs.length->h'.objs.size=s.heap.objs.size->h'.get? D=some (seqObj "list" (p.toList.map fun i=>vs.getD i Value.none).toArray n)->(∀b,b≠D->b≠kS->h'.get? b=s.heap.get? b)->Q {s with heap:=h'}
def Fg {f:Value}{kS:Addr}{Fi:List Value->Shared->Prop}{n:Nat}{body:Value->PUnit->Sem (ForInStep PUnit)}(hn:n < 64)
  (hb: ∀x ks (s:Shared) (C:Value->Shared->Prop),List.length ks < 64->wpAny (model prog w) A (call f [x]) (fun k s'=> ∃e,s'.heap.get? kS=some (seqObj "list" ks.toArray e)/\ ∀h' c,Heap.SameBut kS s'.heap h'->h'.get? kS=some (seqObj "list" (ks ++ [k]).toArray c)->C k {s' with heap:=h'}) (fun _ _=>False) s->
   wpAny (model prog w) A (body x ⟨⟩) (fun r s'=>r= .yield ⟨⟩/\ ∃k c,s'.heap.get? kS=some (seqObj "list" (ks ++ [k]).toArray c)/\C k s') E s): ∀(r ks:List Value) (e:Nat) (s:Shared),ks.length + r.length=n->
   s.heap.get? kS=some (seqObj "list" ks.toArray e)->sY prog w A kS f Fi r ks s->
   wpAny (model prog w) A (forIn r PUnit.unit body) (fun _ s'=> ∃ks e,s'.heap.get? kS=some (seqObj "list" ks.toArray e)/\ks.length=n/\Fi ks s') E s
 |[],ks,e,s,hl,hk,h=>by
  rw[List.forIn_nil];exact wpAny_pure ⟨ks,e,hk,by simpa using hl,h⟩
 |x :: r,ks,e,s,hl,hk,h=>by
  rw[bS] at hl;rw[List.forIn_cons];refine aA (b9 (hb x ks s (fun k s'=>sY prog w A kS f Fi r (ks ++ [k]) s') (by lia) h) (fun q s' hq=>?_) fun _ _ x=>x);obtain⟨rfl,k,c,K4,h2⟩:=hq;show wpAny (model prog w) A (forIn r PUnit.unit body) _ E s';exact Fg hn hb r (ks ++ [k]) c s' (by rw[aC,List.length_singleton]; lia) K4 h2
variable {s:Shared}
def Fh {D kS:Addr}{e e1:Nat}{ks out:List Value}{st:SortSt}{P:PySem.Fin->Shared->Prop}(hD:s.heap.get? D=some (seqObj "list" #[] e1))(hk:s.heap.get? kS=some (seqObj "list" ks.toArray e))(ne:D≠kS)
  (DP:(arrOf st).map (·.2)=out.toArray) (hz:out.length < 64) (hkz:ks.length < 64) (hf:failedOf st=none)
  (h: ∀(h':Heap) (n:Nat),h'.objs.size=s.heap.objs.size->h'.get? D=some (seqObj "list" out.toArray n)->(∀b,b≠D->b≠kS->h'.get? b=s.heap.get? b)->P (.done (.ret .none)) {s with heap:=h'}):
  wpAny (model prog w) A (ksk_tail D false e1 (.ref kS) st) P E s:=by
 have hl:sizeLine=16777216:=eD;unfold ksk_tail
 try dsimp only
 rw[DP];have s1:=rQ s.heap kS (Obj.mapSeq fun _=>(#[]:Array Value));have d1:(s.heap.update kS (Obj.mapSeq fun _=>(#[]:Array Value))).get? D=some (seqObj "list" #[] e1):=(s1.2 D ne).trans hD;have s2:=rQ (s.heap.update kS (Obj.mapSeq fun _=>(#[]:Array Value))) D (Obj.mapSeq fun _=>out.toArray);obtain⟨c2,LZ⟩: ∃c2,((s.heap.update kS (Obj.mapSeq fun _=>(#[]:Array Value))).update D (Obj.mapSeq fun _=>out.toArray)).get? D=some (seqObj "list" out.toArray c2):=⟨_,Ng d1 fun _=>out.toArray⟩;refine aA (wA hk rfl ?_ (by rw[bB]; lia) (bh _));refine aA (wpAny_letGo ?_);refine aA (seqEpoch_at d1 rfl ?_);simp only[Bool.false_eq_true,if_false];refine aA (wA d1 rfl ?_ (bh _) (by rw[bB]; lia));rw[hf];simp only[bne_self_eq_false,Bool.false_eq_true,if_false];refine bE (h _ c2 (s2.1.trans s1.1) LZ fun b n1 n2=>(s2.2 b n1).trans (s1.2 b n2))
def OY {D kS:Addr}{e e1:Nat}{ks vs:List Value}{P:PySem.Fin->Shared->Prop}(hk:s.heap.get? kS=some (seqObj "list" ks.toArray e))(hl:ks.length=vs.length)(C9:vs.length < 64)
  (h:GV prog w A D kS e1 vs (fun s'=>P (.done (.ret .none)) s') ks s):wpAny (model prog w) A (ksk_end D false vs.toArray e1 (.ref kS) ks.toArray) P E s:=by
 obtain⟨κ,key,ne,hD,kind,cmp,fin⟩:=h;have hsz:vs.toArray.size=vs.length:=by simp
 unfold ksk_end
 try dsimp only
 simp only[Bool.false_eq_true,if_false];by_cases h2:vs.toArray.size < 2
 ·rw[a8 h2,a8 h2];refine aA (bE ?_);rw[StateT.run_pure];refine aA (bE ?_);dsimp only;have DP:(arrOf (SortSt.mk' general' (ks.toArray.zip vs.toArray) #[] 7 none)).map (·.2)=((List.toArray (List.range vs.length)).toList.map fun i=>vs.getD i Value.none).toArray:=by
   show(ks.toArray.zip vs.toArray).map (·.2)=_;apply Array.toList_inj.mp;have e1:((ks.toArray.zip vs.toArray).map (·.2)).toList=vs:=by
    rw[Array.toList_map,Array.toList_zip];exact List.map_snd_zip (by rw[A9,A9]; lia)
   rw[e1];show vs=(List.range vs.length).map fun i=>vs.getD i Value.none;exact(range_getD vs Value.none).symm
  refine Fh hD hk ne DP (by rw[ae,A9,dj]; exact C9) (by lia) rfl fun h' n z1 z2 z3=>?_;refine fin (List.toArray (List.range vs.length)) h' n (Ll _) (fun i j Z0 hj=>?_) z1 z2 z3;have:i=j:=by lia
  subst this;exact fM _
 ·rw[aU h2,aU h2];have Sz:2<=vs.length:=by lia
  refine aA (b9 (kind Sz (fun κ' s'=>κ'=κ/\s'=s) ⟨rfl,rfl⟩) (fun κ' s' K4=>?_) fun _ _ x=>x.elim);obtain⟨rfl,rfl⟩:=K4;refine aA (b9 (kat_run (Q:=fun wK EU=>EU=s'/\ ∃p:Array Nat,p.size=vs.length/\arrOf wK=p.map (kas_item (ks.toArray.zip vs.toArray))/\failedOf wK=none/\qE vs.length p/\lj key p vs.length)
   (G:=fun p EU=>EU=s'/\qE vs.length p/\lj key p vs.length) (κ:=κ') hl Sz C9 (fun p' wK EU a1 a2 a3 a4=>⟨a4.1,p',a1,a2,a3,a4.2⟩) (uZ (fun i j C hi hj q=>cmp i j C hi hj q) (fun p q=>⟨rfl,q⟩) _ (Jp (by lia)))) ?_ fun _ _ e=>e)
  rintro⟨⟨⟩,wK⟩ EU ⟨rfl,p,hp,Xh,hf,q1,q2⟩;dsimp only;exact Fh hD hk ne (kat_snds hl Xh) (by rw[ae,ox,hp]; exact C9) (by lia) hf fun h' n z1 z2 z3=>fin p h' n q1 q2 z1 z2 z3
def L5 {D:Addr}{n:Nat}{vs:List Value}{f:Value}{P:PySem.Fin->Shared->Prop}(ho:s.heap.get? D=some (seqObj "list" vs.toArray n))(C9:vs.length < 64)
  (h: ∀(kS:Addr) (e1:Nat) (h':Heap),(∀b o,b≠D->s.heap.get? b=some o->h'.get? b=some o)->h'.get? D=some (seqObj "list" #[] e1)->h'.get? kS=some (seqObj "list" #[] 0)->D≠kS->s.heap.objs.size<=kS->
   sY prog w A kS f (GV prog w A D kS e1 vs (fun s'=>P (.done (.ret .none)) s')) vs [] {s with heap:=h'}):wpAny (model prog w) A (ksk_tree D f false) P E s:=by
 have ha:D < s.heap.objs.size:=aM ho;have hl:sizeLine=16777216:=eD;have s1:=rQ s.heap D (Obj.mapSeq fun _=>(#[]:Array Value));obtain⟨e1,GO⟩: ∃e1,(s.heap.update D (Obj.mapSeq fun _=>(#[]:Array Value))).get? D=some (seqObj "list" #[] e1):=⟨_,Ng ho fun _=> #[]⟩;have Xo:((s.heap.update D (Obj.mapSeq fun _=>(#[]:Array Value))).push (seqObj "tuple" vs.toArray 0)).objs.size=s.heap.objs.size + 1:=by rw[size_push',pz]
 unfold ksk_tree;refine aA (listItems_at ho rfl ?_);refine aA (wA ho rfl ?_ (by rw[bB]; lia) (bh _));refine aA (seqEpoch_at GO rfl ?_);refine aA (wpAny_newTuple ?_ (by show vs.length<=_; lia));refine aA (Lm ?_ (bh _));refine ij ?_;generalize hU:((s.heap.update D (Obj.mapSeq fun _=>(#[]:Array Value))).push (seqObj "tuple" vs.toArray 0))=U at Xo;have kU: ∀b o,(s.heap.update D (Obj.mapSeq fun _=>(#[]:Array Value))).get? b=some o->U.get? b=some o:=fun b o z=>by
  rw[← hU];exact ax _ z
 have QV:(U.push (seqObj "list" #[] 0)).get? U.objs.size=some (seqObj "list" #[] 0):=bL _ rfl;have start:=h U.objs.size e1 (U.push (seqObj "list" #[] 0)) (fun b o n z=>ax _ (kU b o ((s1.2 b n).trans z))) (ax _ (kU D _ GO)) QV (by rw[Xo]; exact a6 (iP ha)) (by rw[Xo]; exact dm _);show wpAny (model prog w) A (ksk_rest D f false vs.toArray e1 (.ref U.objs.size)) P E {s with heap:=U.push (seqObj "list" #[] 0)};unfold ksk_rest;refine aA (wpAny_rule ?_)
 first
  |rw[List.forIn_toArray]
  |(rw[← Array.forIn_toList]; simp only[List.toList_toArray])
 refine wpAny_bind (wpAny_mono (Fg C9 (fun x ks s' C hz hx=>?_) vs [] 0 _ (by simp) QV start) (fun _ s' hd=>?_) fun _ _ x=>x)
 ·refine aA (wpAny_attempt (b9 hx (fun k EU hk=>?_) fun _ _ hF=>hF.elim));obtain⟨e,nk,c⟩:=hk;have s2:=rQ EU.heap U.objs.size (Obj.mapSeq (·.push k));have ea:ks.toArray.push k=(ks ++ [k]).toArray:=by simp
  obtain⟨c2,LZ⟩: ∃c2,(EU.heap.update U.objs.size (Obj.mapSeq (·.push k))).get? U.objs.size=some (seqObj "list" (ks ++ [k]).toArray c2):=⟨_,by rw[← ea]; exact Ng nk (·.push k)⟩
  try dsimp only
  refine aA (wA nk rfl ?_ (by rw[bB]; lia) (aY (iE (Array.size_push ..)) (by rw[bB]; lia)));exact bE ⟨rfl,k,c2,LZ,c _ c2 s2 LZ⟩
 ·obtain⟨ks,e,K4,hl',fin⟩:=hd
  try dsimp only
  refine aA (listItems_at K4 rfl ?_);exact OY K4 hl' C9 fin
def sortedK {l q:Addr}{vs:List Value}{Q:Value->Shared->Prop}(hl:s.heap.IsList l vs.toArray)(C9:vs.length < 64)
  (h: ∀(D kS:Addr) (e1:Nat) (h':Heap),(∀b o,s.heap.get? b=some o->h'.get? b=some o)->h'.get? D=some (seqObj "list" #[] e1)->h'.get? kS=some (seqObj "list" #[] 0)->D≠kS->s.heap.objs.size<=D->s.heap.objs.size<=kS->
   sY prog w A.in1.in1 kS (.ref q) (GV prog w A.in1.in1 D kS e1 vs (fun s'=>Q (.ref D) s')) vs [] {s with heap:=h'}):
  wpAny (model prog w) A (call (.builtin "sorted") [.ref l] [(Str.ofString "key",.ref q)]) Q E s:=by
 have Vu:sizeLine=16777216:=eD;refine call_function_entry_kw kind_sorted plain_sorted entry_sorted (ksk_s1 _ _) ?_;unfold Builtin.«sorted»;refine aA (m:=checkCount "sorted" 1 1 _) (bE ?_);refine aA (collect_list hl ?_ (by lia));refine aA (Lm ?_ (by show vs.length<=_; lia));have hsz:((s.heap.push (seqObj "list" #[] 0)).update s.heap.objs.size (Obj.mapSeq (· ++ vs.toArray))).objs.size=s.heap.objs.size + 1:=by
  rw[pz,size_push']
 generalize hU:((s.heap.push (seqObj "list" #[] 0)).update s.heap.objs.size (Obj.mapSeq (· ++ vs.toArray)))=U at hsz;have keep: ∀b o,s.heap.get? b=some o->U.get? b=some o:=fun b o z=>by
  have lt:b < s.heap.objs.size:=aM z;rw[← hU,Iz _ _ _ _ (a6 lt),mM _ _ _ (a6 lt)];exact z
 have Od:(U.push (seqObj "list" vs.toArray 0)).get? U.objs.size=some (seqObj "list" vs.toArray 0):=bL _ rfl;show wpAny _ _ _ _ _ {s with heap:=U.push (seqObj "list" vs.toArray 0)};refine aA (ij (wpAny_call_entry_kw slot_list_sort ⟨_,Od,rfl⟩ entry_list_sort ?body (ksk_l1 _ _)))
 case body=>
  show wpAny (model prog w) A.in1.in1 (Builtin.«list.sort» ⟨[.ref U.objs.size],[(Str.ofString "key",.ref q)]⟩) _ _ _;rw[ksk_t1];refine L5 (s:={s with heap:=U.push (seqObj "list" vs.toArray 0)}) Od C9 fun kS e1 h' kp d1 k1 ne le=>?_;have z:=h U.objs.size kS e1 h' (fun b o w=>kp b o (fun w2=>by rw[w2] at w; exact absurd (aM w) (by rw[hsz]; exact xT.mpr (dm _))) (ax _ (keep b o w))) d1 k1 ne (by rw[hsz]; exact dm _) (by
   have Z3:(U.push (seqObj "list" vs.toArray 0)).objs.size<=kS:=le;rw[size_push',hsz] at Z3;exact aY (Gg (dm _)) Z3)
  have mono: ∀(r ks:List Value) (s':Shared),sY prog w A.in1.in1 kS (.ref q) (GV prog w A.in1.in1 U.objs.size kS e1 vs (fun s'=>Q (.ref U.objs.size) s')) r ks s'->
    sY prog w A.in1.in1 kS (.ref q) (GV prog w A.in1.in1 U.objs.size kS e1 vs (fun s'=> ∃v,PySem.Fin.done (.ret .none)= .done (.ret v)/\wpAny (model prog w) A.in1 (ret (.ref U.objs.size)) (fun fin s'=> ∃v,fin=PySem.Fin.done (Flow.ret v)/\Q v s') E s')) r ks s':=by
   intro r
   induction r with
   |nil=>
    rintro ks s' ⟨κ,key,a1,a2,a3,a4,a5⟩;exact⟨κ,key,a1,a2,a3,a4,fun p h2 n b1 b2 b3 b4 b5=>⟨_,rfl,bE ⟨_,rfl,a5 p h2 n b1 b2 b3 b4 b5⟩⟩⟩
   |cons v r ih=>
    intro ks s' hh;exact b9 hh (fun k s2 ⟨e,z1,z2⟩=>⟨e,z1,fun h2 c w1 w2=>ih _ _ (z2 h2 c w1 w2)⟩) fun _ _ x=>x
  exact mono vs [] _ z
end
end L2
namespace K7
open PySem
def GW (f:Array Value->Array Value)(o:Obj):(Obj.mapFields f o).dict=o.dict:=by
 obtain⟨c,d,dt,sl⟩:=o;cases dt <;> rfl
def iT (h:Heap)(e:Addr)(cls:Value)(iI:Option Addr)(vs:Array Value):Prop:= ∃oe,h.get? e=some oe/\oe.cls=cls/\oe.dict=iI/\oe.data= .fields vs
def iT.set {h:Heap}{e:Addr}{cls:Value}{iI:Option Addr}{vs:Array Value}(x:iT h e cls iI vs)(i:Nat)(v:Value):
  iT (h.update e (Obj.mapFields (·.setIfInBounds i v))) e cls iI (vs.setIfInBounds i v):=by
 obtain⟨oe,he,hc,hd,hv⟩:=x;have q:=Obj.data_mapFields hv (·.setIfInBounds i v);exact⟨_,Dm _ he (Obj.isFreed_of_fields q),(Obj.cls_mapFields _ _).trans hc,(GW _ _).trans hd,q⟩
def iT.same {h h':Heap}{e:Addr}{cls:Value}{iI:Option Addr}{vs:Array Value}(x:iT h e cls iI vs)(k: ∀o,h.get? e=some o->h'.get? e=some o):iT h' e cls iI vs:=
 let⟨oe,he,r⟩:=x
 ⟨oe,k _ he,r⟩
def m8 (fr own:List Addr)(h h':Heap):Prop:= ∀b o,h.get? b=some o->b∉own->(b∉fr->h'.get? b=some o)/\ ∃sl,h'.get? b=some {o with slots:=sl}
def m8.trans {fr o1 o2:List Addr}{h h1 h2:Heap}(a:m8 fr o1 h h1)(b:m8 fr o2 h1 h2):m8 fr (o1 ++ o2) h h2:=fun c ob q n=>by
 obtain⟨k,sl,e⟩:=a c ob q (fun z=>n (cX _ z));obtain⟨_,Vw,e2⟩:=b c _ e (fun z=>n (bu _ z));exact⟨fun hn=>(b c ob (k hn) (fun z=>n (bu _ z))).1 hn,Vw,e2⟩
def m8.mono {fr QW o1 o2:List Addr}{h h1:Heap}(a:m8 fr o1 h h1)(hf: ∀b∈fr,b∈QW)(ho: ∀b∈o1,b∈o2):m8 QW o2 h h1:=fun c ob q n=>
 let⟨k,sl,e⟩:=a c ob q (fun z=>n (ho c z))
 ⟨fun hn=>k (fun z=>hn (hf c z)),sl,e⟩
def zw {fr:List Addr}{h:Heap}{a:Addr}(f:Obj->Obj):m8 fr [a] h (h.update a f):=fun b o q n=>by
 have z:(h.update a f).get? b=some o:=(mK _ _ (fun(e:a=b)=>n (ao.mpr e.symm))).trans q;exact⟨fun _=>z,o.slots,z⟩
def vm {fr own:List Addr}{h:Heap}(o':Obj):m8 fr own h (h.push o'):=fun b o q _=>⟨fun _=>ax _ q,o.slots,ax _ q⟩
def iT.but {fr own:List Addr}{h h':Heap}{e:Addr}{cls:Value}{iI:Option Addr}{vs:Array Value}(x:iT h e cls iI vs)(b:m8 fr own h h')(n:e∉own):iT h' e cls iI vs:=by
 obtain⟨oe,he,hc,hd,hv⟩:=x;obtain⟨_,sl,q⟩:=b e oe he n;exact⟨_,q,hc,hd,hv⟩
def K8 (h:Heap)(T:Addr)(fl:Value):Prop:= ∃c d ts,iT h T c d ts/\ts[3]? =some fl
def fb {ts:Array Value}{i:Nat}{v:Value}(h:ts[i]? =some v):i < ts.size:=(Array.getElem?_eq_some_iff.mp h).1
def pP {ts:Array Value}{i:Nat}{v:Value}(h:i < ts.size):(ts.setIfInBounds i v)[i]? =some v:=by
 rw[Array.getElem?_setIfInBounds_self_of_lt h]
def qJ {ts:Array Value}{i j:Nat}{v:Value}(h:i≠j):(ts.setIfInBounds i v)[j]? =ts[j]? :=by
 rw[Array.getElem?_setIfInBounds_ne h]
section
variable {M:Model}{A:Around}{E:Value->Shared->Prop}{s:Shared}{env:Env}{outer:List Env}{base:Heap}{L e T:Addr}{cls:Value}{iI:Option Addr}{vs:Array Value}{Q:Unit->Shared->Prop}
def qK {a:Addr}{i:Nat}{v:Value}{R:Value->Shared->Prop}(x:iT s.heap a cls iI vs)(h:vs[i]? =some v)(q:R v s):wpAny M A (field (.ref a) i) R E s:=by
 obtain⟨oe,he,_,_,hv⟩:=x;exact IA he hv h q
def og {a:Addr}{i:Nat}{v:Value}(x:iT s.heap a cls iI vs)(h:i < vs.size)
  (q: ∀h',m8 [] [a] s.heap h'->iT h' a cls iI (vs.setIfInBounds i v)->h'.objs.size=s.heap.objs.size->Q () {s with heap:=h'}):wpAny M A (setField (.ref a) i v) Q E s:=by
 obtain⟨oe,he,hc,hd,hv⟩:=id x;exact wpAny_setField he hv h (q _ (zw _) (x.set i v) (Heap.size_after_update ..))
def vn {fl:Value}(x:iT s.heap e cls iI vs)(h1:vs[1]? =some (.ref T))(ht:K8 s.heap T fl)
  (q: ∀h',m8 [] [T] s.heap h'->K8 h' T .none->h'.objs.size=s.heap.objs.size->Q () {s with heap:=h'}):wpAny M A (setFlight (.ref e) none) Q E s:=by
 obtain⟨c,d,ts,xt,h3⟩:=ht;unfold setFlight;refine aA (qK x h1 ?_);rw[if_pos (show(Value.ref T != Value.none)=true from by simp)];exact og xt (fb h3) fun h' b x' z=>q h' b ⟨c,d,_,x',pP (fb h3)⟩ z
def entry {head:Value}{had:Bool}(Dd:A.frames=some (env :: outer))(hl:s.heap.FunFrames base (env :: outer))(hf:env.frame=some L)(x:iT s.heap e cls iI vs)(hsz:1 < vs.size)
  (q: ∀h' T,m8 ((env :: outer).filterMap (·.frame)) [e] s.heap h'->iT h' e cls iI (vs.setIfInBounds 1 (.ref T))->T=s.heap.objs.size->K8 h' T (rawInt L)->Q () {s with heap:=h'}):
  wpAny M A (do let a ← frameOf env; let pl ← entryPlaceOf L had; let b ← EntryCells.newEntry head a .none (rawInt L) .none pl; setField (.ref e) 1 b) Q E s:=by
 refine aA (wpAny_frameOf_fun Dd hl hf fun h1 so=>?_);refine aA (wpAny_entryPlaceOf fun pl gw=>?_);unfold EntryCells.newEntry newFields;refine aA (wpAny_newObj_type ?_ (gw.sizeOk5 _ _ _ _ _));have b1:m8 ((env :: outer).filterMap (·.frame)) [] s.heap h1:=fun b o z _=>⟨fun n=>(so.2.1 b n).trans z,so.2.2 b o z⟩;have x1:iT h1 e cls iI vs:=x.but b1 (by simp);generalize Vx:({cls:= .type "traceback",dict:=none,data:= .fields ([head,.ref L,.none,rawInt L,.none] ++ (if pl.isEmpty then List.replicate 6 Value.none else pl)).toArray}:Obj)=ob;have x2:iT (h1.push ob) e cls iI vs:=x1.same fun o z=>ax _ z;have ne:h1.objs.size≠e:=by
  obtain⟨_,z,_⟩:=x1;exact qe (aM z)
 have xt:iT (h1.push ob) h1.objs.size ob.cls ob.dict ([head,.ref L,.none,rawInt L,.none] ++ (if pl.isEmpty then List.replicate 6 Value.none else pl)).toArray:=by
  subst Vx;exact⟨_,bL _ rfl,rfl,rfl,rfl⟩
 refine og (s:={s with heap:=h1.push ob}) x2 hsz fun h' b x' _=>q h' h1.objs.size ?_ x' so.1 ⟨_,_,_,xt.but b (by simpa using ne),?_⟩
 ·exact((b1.trans (vm ob (own:=[]))).trans (b.mono (by simp) (fun _ z=>z))).mono (fun _ z=>z) (by simp)
 ·simp
def OZ (Dd:A.frames=some (env :: outer))(hl:s.heap.FunFrames base (env :: outer))(hf:env.frame=some L)(x:iT s.heap e cls iI vs)(h1:vs[1]? =some .none)
  (q: ∀h' T,m8 ((env :: outer).filterMap (·.frame)) [e] s.heap h'->iT h' e cls iI (vs.setIfInBounds 1 (.ref T))->T=s.heap.objs.size->K8 h' T .none->Q () {s with heap:=h'}):
  wpAny M A (leaving env (.ref e)) Q E s:=by
 have ne:s.heap.objs.size≠e:=by
  obtain⟨_,z,_⟩:=x;exact qe (aM z)
 unfold leaving noteFrame;simp only[hf];refine aA (aA (qK x h1 ?_));rw[aU (by decide)];refine entry Dd hl hf x (fb h1) fun h' T b x' hT t=>?_;refine vn x' (pP (fb h1)) t fun h2 b2 t2 _=>q h2 T ?_ (x'.but b2 (by rw[hT]; simpa using ne.symm)) hT t2;intro c o z n;have hc:c≠T:=fun w=>by rw[w,hT] at z; exact absurd (aM z) (iM _)
 exact(b.trans (b2.mono (by simp) (fun _ z=>z))) c o z (by simpa using⟨by simpa using n,hc⟩)
def Nw (Dd:A.frames=some (env :: outer))(hl:s.heap.FunFrames base (env :: outer))(hf:env.frame=some L)(x:iT s.heap e cls iI vs)(h1:vs[1]? =some (.ref T))(ht:K8 s.heap T .none)(Xp:T≠e)
  (q: ∀h' T',m8 ((env :: outer).filterMap (·.frame)) [T,e] s.heap h'->iT h' e cls iI (vs.setIfInBounds 1 (.ref T'))->T'=s.heap.objs.size->K8 h' T' (rawInt L)->Q () {s with heap:=h'}):
  wpAny M A (noteFrame (.ref e) env) Q E s:=by
 obtain⟨c,d,ts,xt,h3⟩:=ht;unfold noteFrame;simp only[hf];refine aA (qK x h1 ?_);rw[if_pos (show(Value.ref T != Value.none)=true from by simp)];refine aA (qK xt h3 ?_);rw[if_neg (show ¬ ((Value.none == rawInt L)=true) from by simp[rawInt])];refine aA (og xt (fb h3) fun h' b xt' sz=>?_);refine entry (s:={s with heap:=h'}) Dd (hl.of_keeps fun a o z nf=>?_) hf (x.but b (by simpa using Xp.symm)) (fb h1) fun h2 T' b2 x2 hT t2=>q h2 T' ?_ x2 (hT.trans sz) t2
 ·have na:a≠T:=fun w=>by
   obtain⟨_,z',_,_,hd⟩:=xt;rw[w,z'] at z;cases z;exact nf _ hd
  obtain⟨_,sl,z'⟩:=b a o z (by simpa using na);exact⟨_,z',rfl⟩
 ·exact((b.mono (fun _ z=>absurd z (by simp)) (fun _ z=>z)).trans b2).mono (fun _ z=>z) (by simp)
def O0 (Dd:A.frames=some (env :: outer))(hl:s.heap.FunFrames base (env :: outer))(hf:env.frame=some L)(x:iT s.heap e cls iI vs)(h1:vs[1]? =some (.ref T))(ht:K8 s.heap T .none)(Xp:T≠e)
  (q: ∀h' T',m8 ((env :: outer).filterMap (·.frame)) [T,e] s.heap h'->iT h' e cls iI (vs.setIfInBounds 1 (.ref T'))->T'=s.heap.objs.size->K8 h' T' .none->Q () {s with heap:=h'}):
  wpAny M A (leaving env (.ref e)) Q E s:=by
 have ne:s.heap.objs.size≠e:=by
  obtain⟨_,z,_⟩:=x;exact qe (aM z)
 unfold leaving;refine aA (Nw Dd hl hf x h1 ht Xp fun h' T' b x' hT t=>?_);refine vn (s:={s with heap:=h'}) x' (pP (fb h1)) t fun h2 b2 t2 _=>q h2 T' ?_ (x'.but b2 (by rw[hT]; simpa using ne.symm)) hT t2;intro c o z n;have hc:c≠T':=fun w=>by rw[w,hT] at z; exact absurd (aM z) (iM _)
 have n': ¬ (c=T∨c=e):=by simpa using n
 exact(b.trans (b2.mono (by simp) (fun _ z=>z))) c o z (by simp; exact⟨fun w=>n' (.inl w),fun w=>n' (.inr w),hc⟩)
end
def K9 {α:Type}(M:Model)(h:Heap)(t:Sem α)(r:α):Prop:=
 ∀(A:Around) (Q:α->Shared->Prop) (E:Value->Shared->Prop) (s:Shared),(∀b o,h.get? b=some o->s.heap.get? b=some o)->Q r s->wpAny M A t Q E s
section
variable {M:Model}{A:Around}{E:Value->Shared->Prop}{h:Heap}{g:Array GenState}{d:Drawn}{t:Nat}{os:OsState}
variable {nm q:Str}{C N:Addr}{bs bm Fj:List Value}{oC:Bool}{sn:List Str}{sub:List Value}{ab:Bool}{col:Option Bool}{dd:Option Addr}{k0 k1 k2 k3 k5:Option Value}{B newId kO:String}
def iy {X:String}{r:Bool}(hb:bm.contains (.type X)=r):(Value.ref C :: bm).contains (.type X)=r:=by
 rw[List.contains_cons,hb];rfl
def L6 (F:ExcBaseFacts B newId kO Fj)(hB:bm.contains (.type B)=true){rest:List Value}{Q:Unit->Shared->Prop}
  (hC:h.get? C=some (excClassObj nm q C N bs bm oC sn sub ab col dd k0 k1 k2 k3 k5 newId)) (hq:Q () ⟨h,g,d,t,os⟩):wpAny M A (checkBuiltinCall newId ⟨.ref C :: rest,[]⟩) Q E ⟨h,g,d,t,os⟩:=by
 have jO:=iy (C:=C) hB; have st:=F.noStar;simp only[checkBuiltinCall,F.newKind,F.newSplit,F.newRow]
 repeat (first
  |refine bz hC ?_
  |(refine cV hC ?_; rw[jO])
  |refine wpAny_staticBase_exc hC ?_
  |refine wpAny_madeBy_exc hC ?_
  |simp only[bne_self_eq_false,Bool.false_eq_true,if_false]
  |wp_step)
 exact hq
end
section
variable {prog:Program}{w:World}{A:Around}{E:Value->Shared->Prop}{R:Result->Shared->Prop}{h:Heap}{g:Array GenState}{d:Drawn}{t:Nat}{os:OsState}
variable {nm q:Str}{C N f:Addr}{bs bm Fj:List Value}{oC:Bool}{sn:List Str}{sub:List Value}{ab:Bool}{col:Option Bool}{dd:Option Addr}{k0 k1 k2 k3 k5:Option Value}{B newId kO:String}
abbrev l7 (C t:Addr):Obj:={cls:= .ref C,data:= .fields #[.ref t,.none,.none,.none,.bool false,.none]}
abbrev jj (l:List Value):Obj:={cls:= .type "tuple",data:= .seq l.toArray}
def L8 (F:ExcBaseFacts B newId kO Fj)(hB:bm.contains (.type B)=true)(hA:bm.contains (.type "AttributeError")=false)(hN:bm.contains (.type "NameError")=false)
  (hC:h.get? C=some (excClassObj nm q C N bs bm oC sn sub ab col dd k0 k1 k2 k3 k5 newId)) (hq:R (.ok (.ret (.ref (h.objs.size + 1)))) ⟨(h.push (jj [])).push (l7 C h.objs.size),g,d,t,os⟩):
  codeAny (model prog w) A (.builtin newId ⟨[.ref C],[]⟩) R ⟨h,g,d,t,os⟩:=by
 have he:=F.ends;have h1:=iy (C:=C) hB; have h2:=iy (C:=C) hA; have h3:=iy (C:=C) hN;refine codeAny_builtinAt F.entry ?_;unfold Builtin.«BaseException.__new__»;refine wpAt_bind ?_;show wpAt _ _ _ (stack >>=_) _ _ _;refine wpAt_bind (wpAt_stack fun p below=>wpAt_of_wpAny ?_)
 wp_walk
 refine wpAt_of_wpAny ?_;rw[F.owner]
 repeat (first
  |with_reducible refine wpAny_madeHere_exc F.canon hC ?_
  |with_reducible refine bz hC ?_
  |(with_reducible refine cV hC ?_; first|rw[h1]|rw[h2]|rw[h3])
  |wp_step)
 show R _ _;rw[nY];exact hq
def GX (F:ExcBaseFacts B newId kO Fj)(hB:bm.contains (.type B)=true)(hA:bm.contains (.type "AttributeError")=false)(hN:bm.contains (.type "NameError")=false){oI:Obj}{Q:Fin->Shared->Prop}
  (hC:h.get? C=some (excClassObj nm q C N bs bm oC sn sub ab col dd k0 k1 k2 k3 k5 newId)) (hi:K9 (model prog w) h (typeLookup (.ref C) "__init__") (some (.ref f))) (hf:h.get? f=some oI) (SR:oI.cls= .type "function")
  (hq:wpAny (model prog w) A (call (.ref f) [.ref (h.objs.size + 1)]) (fun r s'=>r= .none/\Q (.done (.ret (.ref (h.objs.size + 1)))) s') E ⟨(h.push (jj [])).push (l7 C h.objs.size),g,d,t,os⟩):
  wpAny (model prog w) A (Builtin.«type.__call__» ⟨[.ref C],[]⟩) Q E ⟨h,g,d,t,os⟩:=by
 repeat (first
  |with_reducible refine bz hC ?_
  |with_reducible refine wpAny_madeBy_exc hC ?_
  |wp_step)
 refine codeAny_call_builtin_code (Code.quiet_builtin _ F.quiet) (L6 F hB hC ?_);refine L8 F hB hA hN hC ?_;show wpAny _ _ _ _ _ _;have kp: ∀b o,h.get? b=some o->((h.push (jj [])).push (l7 C h.objs.size)).get? b=some o:=fun b o z=>ax _ (ax _ z);have Jv:=kp _ _ hC;have hg:((h.push (jj [])).push (l7 C h.objs.size)).get? (h.objs.size + 1)=some (l7 C h.objs.size):=by heap_get
 have SS:(Value.ref C :: bm).contains (.ref C)=true:=by simp
 unfold isInstance
 repeat (first
  |with_reducible refine bz hg ?_
  |(with_reducible refine cV Jv ?_; rw[SS])
  |wp_step)
 show wpAny _ _ (typeLookup (.ref C) _) _ _ _;refine hi _ _ _ _ kp ?_;refine ij (aA ?_);unfold bindSpecial;refine aA (wpAny_typeOf (T:="function") ⟨_,kp _ _ hf,SR⟩ ?_);rw[a8 (by decide)];refine bE (aA (b9 hq (fun r s' hr=>?_) fun _ _ x=>x));obtain⟨rfl,z⟩:=hr
 wp_walk
 exact z
def call_exc (F:ExcBaseFacts B newId kO Fj)(hB:bm.contains (.type B)=true)(hA:bm.contains (.type "AttributeError")=false)(hN:bm.contains (.type "NameError")=false){oI:Obj}{Q:Value->Shared->Prop}
  (hC:h.get? C=some (excClassObj nm q C N bs bm oC sn sub ab col dd k0 k1 k2 k3 k5 newId)) (hi:K9 (model prog w) h (typeLookup (.ref C) "__init__") (some (.ref f))) (hf:h.get? f=some oI) (SR:oI.cls= .type "function")
  (hq:wpAny (model prog w) (A.under (.builtin "type.__call__" ⟨[.ref C],[]⟩)) (call (.ref f) [.ref (h.objs.size + 1)]) (fun r s'=>r= .none/\Q (.ref (h.objs.size + 1)) s') E ⟨(h.push (jj [])).push (l7 C h.objs.size),g,d,t,os⟩):
  wpAny (model prog w) A (call (.ref C) []) Q E ⟨h,g,d,t,os⟩:=by
 have f1:=tc_lookup; have f2:=tc_bind (.ref C);have hT:(⟨h,g,d,t,os⟩:Shared).TypeIs (.ref C) "type":=⟨_,hC,rfl⟩;refine EH (codeAny_of_tree ?_);show wpAny _ _ (callAny (.ref C) _) _ _ _
 repeat (any_goals (first
  |assumption
  |with_reducible refine bz hC ?_
  |wp_step))
 refine⟨rfl,?_⟩;exact codeAny_call_builtin_at (Code.quiet_builtin _ (by decide +kernel)) entry_typeCall (wpAny_check_type_call_sub hC (GX F hB hA hN hC hi hf SR hq))
end
def Stop (P:Prop):Prop:=P
def Stop.out {P:Prop}(h:Stop P):P:=h
def Stop.in {P:Prop}(h:P):Stop P:=h
section
variable {prog:Program}{w:World}{A:Around}{E:Value->Shared->Prop}{R:Result->Shared->Prop}{h:Heap}{g:Array GenState}{d:Drawn}{t:Nat}{os:OsState}
variable {nm q:Str}{C N e:Addr}{bs bm Fj:List Value}{oC:Bool}{sn:List Str}{sub:List Value}{ab:Bool}{col:Option Bool}{dd iI:Option Addr}{k0 k1 k2 k3 k5:Option Value}{B newId Z4 kO:String}{vs:Array Value}
def Jw {M:Model}(F:ExcBaseFacts B Z4 kO Fj)(hB:bm.contains (.type B)=true){oe:Obj}{rest:List Value}{Q:Unit->Shared->Prop}
  (hC:h.get? C=some (excClassObj nm q C N bs bm oC sn sub ab col dd k0 k1 k2 k3 k5 newId)) (he:h.get? e=some oe) (hc:oe.cls= .ref C) (hq:Q () ⟨h,g,d,t,os⟩):
  wpAny M A (checkBuiltinCall kO ⟨.ref e :: rest,[]⟩) Q E ⟨h,g,d,t,os⟩:=by
 have h1:=iy (C:=C) hB; have h2:=F.noStar;simp only[checkBuiltinCall,F.initKind,F.initSplit,F.initRow]
 repeat (first
  |(with_reducible refine bz he ?_; rw[hc])
  |with_reducible refine bz hC ?_
  |(with_reducible refine cV hC ?_; rw[h1])
  |wp_step)
 refine wpAny_onRaise ?_;rw[show ∀(a b:String) (n:Nat),Bind.check ⟨.positional,"*",B,.self,[⟨"args",.varPos,false⟩]⟩ a b n (List.map (fun x=>x.fst) ({pos:=Value.ref e :: rest}:Args).kw)=pure () from fun a b n=>
  check_star_args _ _ _ _ _ _]
 exact bE hq
def GY (F:ExcBaseFacts B Z4 kO Fj)(hB:bm.contains (.type B)=true){v:Value}{Q:Value->Shared->Prop}
  (hC:h.get? C=some (excClassObj nm q C N bs bm oC sn sub ab col dd k0 k1 k2 k3 k5 newId)) (x:iT h e (.ref C) iI vs) {t0:Addr} (h0:vs[0]? =some (.ref t0))
  (hq: ∀h',m8 [] [e] h h'->iT h' e (.ref C) iI (vs.setIfInBounds 0 (.ref h.objs.size))->Q .none ⟨h',g,d,t,os⟩):
  wpAny (model prog w) A (call (.builtin kO) [.ref e,v]) Q E ⟨h,g,d,t,os⟩:=by
 obtain⟨oe,he,hc,O1,hv⟩:=id x;refine EH (Gh F.init.plain F.initEntry (Jw F hB hC he hc ?_));unfold Builtin.«BaseException.__init__»;have Xq:(h.push (jj [v])).get? e=some oe:=ax _ he;have x1:iT (h.push (jj [v])) e (.ref C) iI vs:=⟨oe,Xq,hc,O1,hv⟩;have hs:=fb h0
 repeat (first
  |with_reducible refine IA Xq hv h0 ?_
  |with_reducible refine wpAny_setField Xq hv hs ?_
  |wp_step)
 have bt:m8 [] [e] h ((h.push (jj [v])).update e (Obj.mapFields (·.setIfInBounds 0 (Value.ref h.objs.size)))):=(vm (fr:=[]) (own:=[]) (jj [v])).trans (zw _);exact hq _ bt (x1.set 0 _)
end
section
variable {M:Model}{A:Around}{E:Value->Shared->Prop}{s:Shared}{env:Env}
variable {nm q:Str}{C N e:Addr}{bs bm Fj:List Value}{oC:Bool}{sn:List Str}{sub:List Value}{ab:Bool}{col:Option Bool}{dd iI:Option Addr}{k0 k1 k2 k3 k5:Option Value}{newId:String}{vs:Array Value}
def DS {x:Sem Value}{Q:Flow->Shared->Prop}(hB:bm.contains (.type "BaseException")=true)(hh:A.handled=none)
  (h:wpAny M A x (fun v s1=> ∃e iI vs,v= .ref e/\s1.heap.get? C=some (excClassObj nm q C N bs bm oC sn sub ab col dd k0 k1 k2 k3 k5 newId)/\iT s1.heap e (.ref C) iI vs/\vs[1]? =some .none/\E (.ref e) s1) E s):
  wpAny M A (raiseStmt env (some x) none) Q E s:=by
 have h1:=iy (C:=C) hB;unfold raiseStmt;refine aA (b9 h (fun v s1 z=>?_) fun _ _ x=>x);obtain⟨e,iI,vs,rfl,hC,⟨oe,he,hc,O1,hv⟩,v1,hE⟩:=z;obtain⟨hp,g,d,tk,os⟩:=s1
 repeat (first
  |(with_reducible refine bz he ?_; rw[hc])
  |with_reducible refine bz hC ?_
  |(with_reducible refine cV hC ?_; rw[h1])
  |with_reducible refine IA he hv v1 ?_
  |wp_step)
 exact wpAny_raiseNew_none hh hE
def L9 {a:Addr}{cls:Value}{i:Nat}{v:Value}{Q:Unit->Shared->Prop}(x:iT s.heap a cls iI vs)(h:i < vs.size)
  (q: ∀h',m8 [] [a] s.heap h'->iT h' a cls iI (vs.setIfInBounds i v)->Q () {s with heap:=h'}):wpAny M A (updateField a i v) Q E s:=
 og (i:=i) (v:=v) x h fun h' b x' _=>q h' b x'
def wW:entryFor table "proto.unchain"=some Builtin.«proto.unchain»:=entryFor_of_tree (by kernel_rfl)
end
section
variable {prog:Program}{w:World}{A:Around}{E:Value->Shared->Prop}{s:Shared}{env:Env}
variable {nm q:Str}{C N e:Addr}{bs bm Fj:List Value}{oC:Bool}{sn:List Str}{sub:List Value}{ab:Bool}{col:Option Bool}{dd iI:Option Addr}{k0 k1 k2 k3 k5:Option Value}{newId:String}{vs:Array Value}
def DT {x c:Sem Value}{Q:Flow->Shared->Prop}{e0:Addr}(hB:bm.contains (.type "BaseException")=true)(hh:A.handled=some (.ref e0))(hc: ∀(R:Value->Shared->Prop) (s:Shared),R .none s->wpAny (model prog w) A c R E s)
  (h:wpAny (model prog w) A x (fun v s1=> ∃e iI vs c0 d0 Sh,v= .ref e/\e≠e0/\s1.heap.get? C=some (excClassObj nm q C N bs bm oC sn sub ab col dd k0 k1 k2 k3 k5 newId)/\iT s1.heap e (.ref C) iI vs/\vs[1]? =some .none/\vs.size=6/\
   iT s1.heap e0 c0 d0 Sh/\Sh[2]? =some .none/\ ∀h',m8 [] [e] s1.heap h'->iT h' e (.ref C) iI (((vs.setIfInBounds 3 .none).setIfInBounds 4 (.bool true)).setIfInBounds 2 (.ref e0))->E (.ref e) {s1 with heap:=h'}) E s):
  wpAny (model prog w) A (raiseStmt env (some x) (some c)) Q E s:=by
 have h1:=iy (C:=C) hB;unfold raiseStmt;refine aA (b9 h (fun v s1 z=>?_) fun _ _ x=>x);obtain⟨e,iI,vs,c0,d0,Sh,rfl,ne,hC,xe,v1,sz,x0,c2,hE⟩:=z;obtain⟨oe,he,qL,O1,hv⟩:=id xe;obtain⟨hp,g,d,tk,os⟩:=s1;have eC:e≠C:=fun q=>by
  rw[q] at he;rw[hC] at he;cases he;cases hv
 repeat (first
  |(with_reducible refine bz he ?_; rw[qL])
  |with_reducible refine bz hC ?_
  |(with_reducible refine cV hC ?_; rw[h1])
  |with_reducible refine og xe (by rw[sz]; decide) fun h2 b2 x2 _=>Stop.out ?_
  |with_reducible refine hc _ _ ?_
  |wp_step)
 have b2':m8 [] [e] hp h2:=b2;refine Stop.in ?_;refine aA (og (s:=⟨h2,g,d,tk,os⟩) x2 (by rw[rR,sz]; decide) fun h3 b3 x3 _=>?_);have b3':m8 [] [e] h2 h3:=b3;have Xr:m8 [] [e] hp h3:=(b2'.trans b3').mono (fun _ z=>z) (by simp);have Z5:h3.get? C=_:=(Xr C _ hC (by simpa using eC.symm)).1 (by simp);have x03:iT h3 e0 c0 d0 Sh:=iT.but x0 Xr (by simpa using ne.symm);obtain⟨o3,Z6,hc3,_,hv3⟩:=id x3;obtain⟨o0,he0,_,_,QX⟩:=id x03;have v31:((vs.setIfInBounds 3 Value.none).setIfInBounds 4 (Value.bool true))[1]? =some Value.none:=by rw[qJ (by decide),qJ (by decide)]; exact v1
 repeat (first
  |(with_reducible refine bz Z6 ?_; rw[hc3])
  |with_reducible refine bz Z5 ?_
  |(with_reducible refine cV Z5 ?_; rw[h1])
  |with_reducible refine IA Z6 hv3 v31 ?_
  |wp_step)
 have sz3:((vs.setIfInBounds 3 Value.none).setIfInBounds 4 (Value.bool true)).size=6:=by rw[rR,rR,sz]
 unfold raiseNew;refine aA (wpAny_handled ?_);rw[hh];dsimp only;rw[if_pos (show(Value.ref e0 != Value.ref e)=true from by simpa using ne.symm)];refine aA (ij (wpAny_runValue (codeAny_builtin wW ?_)));unfold Builtin.«proto.unchain»
 repeat (first
  |with_reducible refine IA he0 QX c2 ?_
  |with_reducible refine aA (L9 (s:=⟨h3,g,d,tk,os⟩) x3 (by rw[sz3]; decide) fun h4 b4 x4=>Stop.out ?_)
  |wp_step)
 refine Stop.in ?_;refine wpAny_throw (hE h4 ?_ x4);have b4':m8 [] [e] h3 h4:=b4;exact(Xr.trans b4').mono (fun _ z=>z) (by simp)
end
open PySem.Builtin PySem.Builtin.ObjectAttr
section
variable {prog:Program}{w:World}{A:Around}{E:Value->Shared->Prop}{h:Heap}{g:Array GenState}{d:Drawn}{t:Nat}{os:OsState}
variable {nm q:Str}{C N e:Addr}{bs bm:List Value}{sn:List Str}{sub:List Value}{ab:Bool}{col:Option Bool}{dd:Option Addr}{k0 k1 k2 k3 k5:Option Value}{newId:String}{vs:Array Value}{name:Str}{v:Value}
def GZ {tk:Tok}{Q:Fin->Shared->Prop}(hC:h.get? C=some (excClassObj nm q C N bs bm true sn sub ab col dd k0 k1 k2 k3 k5 newId))(hp: ∀self:Value,refuseLoop self "__setattr__" (.ref C :: bm)=pure ())
  (tx:K9 (model prog w) h (typeLookup (.ref C) name) none) (x:iT h e (.ref C) none vs)
  (hq: ∀h' O2,m8 [] [e] h h'->iT h' e (.ref C) (some h.objs.size) vs->h'.Ns1 h.objs.size (fun y=>if y=name then some v else none)->Q (.done (.ret .none)) ⟨h',g,d,O2,os⟩):
  wpAny (model prog w) A (Builtin.«object.__setattr__» ⟨[.ref e,.str name tk,v],[]⟩) Q E ⟨h,g,d,t,os⟩:=by
 obtain⟨o,hx,hc,Xs,hv⟩:=id x;have SU:=hp (.ref e);have Xt: ∀{A':Around} {Q':Option Value->Shared->Prop} {E':Value->Shared->Prop},Q' none ⟨h,g,d,t,os⟩->wpAny (model prog w) A' (typeLookup (.ref C) name) Q' E' ⟨h,g,d,t,os⟩:=fun z=>tx _ _ _ _ (fun _ _ y=>y) z;have hnc: ∀c,o.data≠ .cls c:=fun c z=>by rw[hv] at z; cases z
 unfold Builtin.«object.__setattr__»
 repeat (first
  |rw[refuse_eq]
  |rw[SU]
  |(with_reducible refine bz hx ?_; rw[hc])
  |with_reducible refine wpAny_mroOf_exc hC ?_
  |with_reducible refine Xt ?_
  |wp_step)
 rw[Xs,if_neg (by simp[typeHasDict])];rw[hv];dsimp only;have lt:=aM hx;have ne:e≠h.objs.size:=a6 lt;generalize hD:({cls:= .type "dict",data:= .dict #[]}:Obj)=D;have yp:(h.push D).get? e=some o:=ax _ hx;refine aA (wpAny_alloc' (aA (wpAny_update' yp (bE ?_))));generalize hU:(h.push D).update e (fun o=>{cls:=o.cls,dict:=some h.objs.size,data:=o.data,slots:=o.slots})=U;have b1:m8 [] [e] h U:=by
  rw[← hU];exact(vm (fr:=[]) (own:=[]) D).trans (zw _)
 have x1:iT U e (.ref C) (some h.objs.size) vs:=by
  refine⟨{cls:=o.cls,dict:=some h.objs.size,data:=o.data,slots:=o.slots},?_,hc,rfl,hv⟩;rw[← hU];exact Dm _ yp (Obj.isFreed_of_fields (vs:=vs) hv)
 have gd:U.get? h.objs.size=some {cls:= .type "dict",data:= .dict #[]}:=by
  rw[← hU,← hD];exact(Iz _ _ _ _ ne.symm).trans (Heap.get?_push_at rfl rfl)
 have nd:U.Ns h.objs.size (fun _=>none):=⟨_,#[],_,gd,rfl,fun _ he=>absurd he (by simp),fun _=>rfl⟩;show wpAny _ _ (storeInDict h.objs.size (.str name tk) name v) _ _ _;unfold storeInDict newKeyGuard;refine aA (bE (aA (wpAny_nsSet1 (s:=⟨U,g,d,t,os⟩) (Heap.Ns1.of_empty nd) fun h' hn hs=>?_)));obtain⟨oD,esD,epD,WH,WI,WJ⟩:=hn.count (Within.cons name v Within.nil);refine aA (wpAny_lookBehind WH (by rw[WI]; exact pastItsLine_dict (aY WJ (by rw[bS,wG,eD]; lia))) ?_)
 wp_walk
 have lt': ∀b o',h.get? b=some o'->h'.get? b=U.get? b:=fun b o' z=>hs.2 b (a6 (aM z));refine hq h' _ (fun b ob z n=>?_) (x1.same fun ob z=>(hs.2 e ne).trans z) hn;obtain⟨z1,sl,z2⟩:=b1 b ob z n;exact⟨fun n'=>(lt' b ob z).trans (z1 n'),sl,(lt' b ob z).trans z2⟩
def O3 {M:Model}{B sa owner:String}{Fj:List Value}{o:Obj}{vo:Value}{Q:Unit->Shared->Prop}(SF:StoreFacts B Fj sa owner)(ho:bm.contains (.type owner)=true)
  (hC:h.get? C=some (excClassObj nm q C N bs bm true sn sub ab col dd k0 k1 k2 k3 k5 newId)) (hx:h.get? e=some o) (hc:o.cls= .ref C) (hq:Q () ⟨h,g,d,t,os⟩):
  wpAny M A (checkBuiltinCall sa ⟨[.ref e,vo,v],[]⟩) Q E ⟨h,g,d,t,os⟩:=by
 have h1:=iy (C:=C) ho; have ha:=SF.args (.ref e) vo v;simp only[checkBuiltinCall,SF.kind,SF.split];refine aA ?_;unfold isInstance
 repeat (first
  |(with_reducible refine bz hx ?_; rw[hc])
  |(with_reducible refine cV hC ?_; rw[h1])
  |wp_step)
 cases hs:Manifest.signature? sa with
 |none=>exact bE hq
 |some sg=>
  simp only[argsOk,hs] at ha;have h2:Bind.checkArgs sa sg ⟨[.ref e,vo,v],[]⟩=pure ():=ha;show wpAny M A (Bind.checkArgs sa sg ⟨[.ref e,vo,v],[]⟩) Q E _;rw[h2];exact bE hq
def Ma {B sa owner:String}{Fj:List Value}{Q:Unit->Shared->Prop}(SF:StoreFacts B Fj sa owner)(ho:bm.contains (.type owner)=true)(hC:h.get? C=some (excClassObj nm q C N bs bm true sn sub ab col dd k0 k1 k2 k3 k5 newId))
  (hp: ∀self:Value,refuseLoop self "__setattr__" (.ref C :: bm)=pure ()) (sL:K9 (model prog w) h (typeLookup (.ref C) "__setattr__") (some (.builtin sa))) (tx:K9 (model prog w) h (typeLookup (.ref C) name) none) (x:iT h e (.ref C) none vs)
  (hq: ∀h' O2,m8 [] [e] h h'->iT h' e (.ref C) (some h.objs.size) vs->h'.Ns1 h.objs.size (fun y=>if y=name then some v else none)->Q () ⟨h',g,d,O2,os⟩):
  wpAny (model prog w) A (setAttr (.ref e) name v) Q E ⟨h,g,d,t,os⟩:=by
 obtain⟨o,hx,hc,_⟩:=id x;have f3:=SF.slot.bind (.ref e);have sL': ∀{tk:Nat} {A':Around} {Q':Option Value->Shared->Prop} {E':Value->Shared->Prop},Q' (some (.builtin sa)) ⟨h,g,d,tk,os⟩->wpAny (model prog w) A' (typeLookup (.ref C) "__setattr__") Q' E' ⟨h,g,d,tk,os⟩:=fun z=>sL _ _ _ _ (fun _ _ y=>y) z;unfold setAttr callSpecial? specialOf
 repeat (any_goals (first
  |assumption
  |(with_reducible refine bz hx ?_; rw[hc])
  |with_reducible refine sL' ?_
  |wp_step))
 refine Gh SF.slot.plain SF.entry (O3 SF ho hC hx hc (GZ hC hp tx x fun h' O2 b x' n=>?_))
 repeat (any_goals (first
  |assumption
  |wp_step))
 exact hq h' O2 b x' n
end
section
variable {prog:Program}{w:World}{A:Around}{E:Value->Shared->Prop}{h:Heap}{g:Array GenState}{d:Drawn}{t:Nat}{os:OsState}
variable {nm q:Str}{C N e dx:Addr}{bs bm:List Value}{sn:List Str}{sub:List Value}{ab:Bool}{col:Option Bool}{dd:Option Addr}{k0 k1 k2 k3 k5:Option Value}{newId:String}{vs:Array Value}{name:Str}{v:Value}{mA:Str->Option Value}
def G0 {tk:Tok}{Q:Fin->Shared->Prop}(hC:h.get? C=some (excClassObj nm q C N bs bm true sn sub ab col dd k0 k1 k2 k3 k5 newId))(tx:K9 (model prog w) h (typeLookup (.ref C) name) none)(x:iT h e (.ref C) (some dx) vs)
  (n:h.Ns dx mA) (hm:mA name=some v) (hq:Q (.done (.ret v)) ⟨h,g,d,t,os⟩):wpAny (model prog w) A (Builtin.«object.__getattribute__» ⟨[.ref e,.str name tk],[]⟩) Q E ⟨h,g,d,t,os⟩:=by
 obtain⟨o,hx,hc,Xs,hv⟩:=id x;have Xt: ∀{A':Around} {Q':Option Value->Shared->Prop} {E':Value->Shared->Prop},Q' none ⟨h,g,d,t,os⟩->wpAny (model prog w) A' (typeLookup (.ref C) name) Q' E' ⟨h,g,d,t,os⟩:=fun z=>tx _ _ _ _ (fun _ _ y=>y) z
 repeat (any_goals (first
  |assumption
  |(with_reducible refine bz hx ?_; rw[hc])
  |with_reducible refine Xt ?_
  |wp_step))
 rw[hv];show wpAny _ _ (instanceDict e false) _ _ _;unfold instanceDict;refine aA (bz hx ?_);rw[hc];dsimp only;unfold classData;refine aA (aA (bz hC (bE ?_)));rw[if_neg (by simp)];rw[Xs];refine bE ?_;show wpAny _ _ (nsGet dx name) _ _ _;refine wpAny_nsGet n ?_;rw[hm]
 repeat (first
  |exact hq
  |wp_step)
def O4 {M:Model}{vo:Value}{o:Obj}{Q:Unit->Shared->Prop}(hB:bm.contains (.type "BaseException")=true)(hC:h.get? C=some (excClassObj nm q C N bs bm true sn sub ab col dd k0 k1 k2 k3 k5 newId))
  (hx:h.get? e=some o) (hc:o.cls= .ref C) (hq:Q () ⟨h,g,d,t,os⟩):wpAny M A (checkBuiltinCall "BaseException.__getattribute__" ⟨[.ref e,vo],[]⟩) Q E ⟨h,g,d,t,os⟩:=by
 have hk:builtinKind "BaseException.__getattribute__"=some .slot:=by decide +kernel
 have hs:splitId "BaseException.__getattribute__"=some ("BaseException","__getattribute__"):=by decide +kernel
 have h1:=iy (C:=C) hB; have ha:=F.args_bexc_ga (.ref e) vo;simp only[checkBuiltinCall,hk,hs];refine aA ?_;unfold isInstance
 repeat (first
  |(with_reducible refine bz hx ?_; rw[hc])
  |(with_reducible refine cV hC ?_; rw[h1])
  |wp_step)
 exact hq
def Mb {T:String}{expr:Bool}{Q:Value->Shared->Prop}(FB:Slot T "__getattribute__" "BaseException.__getattribute__")(hB:bm.contains (.type "BaseException")=true)(hC:h.get? C=some (excClassObj nm q C N bs bm true sn sub ab col dd k0 k1 k2 k3 k5 newId))
  (gL:K9 (model prog w) h (typeLookup (.ref C) "__getattribute__") (some (.builtin "BaseException.__getattribute__"))) (kL:K9 (model prog w) h (typeLookup (.ref C) "__getattr__") none) (tx:K9 (model prog w) h (typeLookup (.ref C) name) none)
  (x:iT h e (.ref C) (some dx) vs) (n:h.Ns dx mA) (hm:mA name=some v) (hv:handedOut v=pure v) (hq:Q v ⟨h,g,d,t + 1,os⟩):wpAny (model prog w) A (getAttr (.ref e) name expr) Q E ⟨h,g,d,t,os⟩:=by
 obtain⟨o,hx,hc,_⟩:=id x;have f3:=FB.bind (.ref e);have x0:(expr && onTheHeap (Value.builtin "BaseException.__getattribute__"))=false:=by cases expr <;> rfl
 have x2:(Value.builtin "BaseException.__getattribute__" == Value.builtin "object.__getattribute__")=false:=by decide +kernel
 have x1:(onTheHeap (Value.ref C) && Value.builtin "BaseException.__getattribute__" == Value.builtin "object.__getattribute__")=false:=by rw[x2]; rfl
 have gL': ∀{tk:Nat} {A':Around} {Q':Option Value->Shared->Prop} {E':Value->Shared->Prop},Q' (some (.builtin "BaseException.__getattribute__")) ⟨h,g,d,tk,os⟩->wpAny (model prog w) A' (typeLookup (.ref C) "__getattribute__") Q' E' ⟨h,g,d,tk,os⟩:=
  fun z=>gL _ _ _ _ (fun _ _ y=>y) z
 have kL': ∀{tk:Nat} {A':Around} {Q':Option Value->Shared->Prop} {E':Value->Shared->Prop},Q' none ⟨h,g,d,tk,os⟩->wpAny (model prog w) A' (typeLookup (.ref C) "__getattr__") Q' E' ⟨h,g,d,tk,os⟩:=fun z=>kL _ _ _ _ (fun _ _ y=>y) z;unfold getAttr
 repeat (any_goals (first
  |assumption
  |(with_reducible refine bz hx ?_; rw[hc])
  |with_reducible refine gL' ?_
  |with_reducible refine kL' ?_
  |wp_step))
 refine Gh FB.plain F.entry_bexc_ga (O4 hB hC hx hc (G0 hC tx x n hm ?_))
 repeat (any_goals (first
  |assumption
  |wp_step))
end
section
variable {M:Model}{A:Around}{E:Value->Shared->Prop}
variable {nm q:Str}{C N:Addr}{bs bm:List Value}{oC:Bool}{sn:List Str}{sub:List Value}{ab:Bool}{col:Option Bool}{dd:Option Addr}{k0 k1 k2 k3 k5:Option Value}{newId:String}
variable {nm' q':Str}{R N':Addr}{bs' Xu:List Value}{SV:Bool}{sn':List Str}{Xv:List Value}{ab':Bool}{Xw:Option Bool}{E1:Option Addr}{j0 j1 j2 j3 j5:Option Value}{O5:String}
def yq {h:Heap}{g:Array GenState}{d:Drawn}{t:Nat}{os:OsState}{e:Addr}{iI:Option Addr}{vs:Array Value}{b:Bool}{Q:Bool->Shared->Prop}
  (hC:h.get? C=some (excClassObj nm q C N bs bm oC sn sub ab col dd k0 k1 k2 k3 k5 newId)) (hR:h.get? R=some (excClassObj nm' q' R N' bs' Xu SV sn' Xv ab' Xw E1 j0 j1 j2 j3 j5 O5))
  (x:iT h e (.ref C) iI vs) (qA:Xu.contains (.type "BaseException")=true) (up:(Value.ref C :: bm).contains (.ref R)=b)
  (hq:Q b ⟨h,g,d,t,os⟩):wpAny M A (excMatches (.ref e) (.ref R)) Q E ⟨h,g,d,t,os⟩:=by
 obtain⟨oe,he,Oc,_⟩:=x;have Xx:(Value.ref R :: Xu).contains (.type "BaseException")=true:=by rw[List.contains_cons,qA,Bool.or_true]
 have f:=tc_notTuple;unfold excMatches
 repeat (first|(with_reducible refine cV hR ?_; rw[Xx])|(with_reducible refine cV hC ?_; rw[up])|(with_reducible refine bz he ?_; rw[Oc])|with_reducible refine bz hR ?_|wp_step)
 cases b <;> (wp_walk; exact hq)
end
end K7
namespace L2
open PySem PySem.Spec PyProof.Rows K7
structure gO (K:Frag)(C R:Addr):Prop where
 obj: ∃(nm q:Str) (N:Addr) (bs bm:List Value) (sn:List Str) (sub:List Value) (ab:Bool) (col:Option Bool) (dd:Option Addr) (k0 k1 k2 k3 k5:Option Value),
  K.lookup C=some (excClassObj nm q C N bs bm true sn sub ab col dd k0 k1 k2 k3 k5 "Exception.__new__")/\
   (bm=[.type "Exception",.type "BaseException",.type "object"]/\C=R∨bm=[.ref R,.type "Exception",.type "BaseException",.type "object"])
 sa:findIn K (.ref C) "__setattr__"=some (some (.builtin "object.__setattr__"))
 ga:findIn K (.ref C) "__getattribute__"=some (some (.builtin "BaseException.__getattribute__"))
 gk:findIn K (.ref C) "__getattr__"=some none
 tx:findIn K (.ref C) "text"=some none
structure Xy (h:Heap)(C R:Addr)(nm q:Str)(N:Addr)(bs bm:List Value)(sn:List Str)(sub:List Value)(ab:Bool)(col:Option Bool)(dd:Option Addr)(k0 k1 k2 k3 k5:Option Value):Prop where
 at_:h.get? C=some (excClassObj nm q C N bs bm true sn sub ab col dd k0 k1 k2 k3 k5 "Exception.__new__")
 e:bm.contains (.type "Exception")=true
 b:bm.contains (.type "BaseException")=true
 o:bm.contains (.type "object")=true
 na:bm.contains (.type "AttributeError")=false
 nn:bm.contains (.type "NameError")=false
 rf: ∀self:Value,refuseLoop self "__setattr__" (.ref C :: bm)=pure ()
 up:(Value.ref C :: bm).contains (.ref R)=true
def gO.on {K:Frag}{C R:Addr}(k:gO K C R): ∃nm q N bs bm sn sub ab col dd k0 k1 k2 k3 k5,∀h:Heap,K.In h->Xy h C R nm q N bs bm sn sub ab col dd k0 k1 k2 k3 k5:=by
 obtain⟨nm,q,N,bs,bm,sn,sub,ab,col,dd,k0,k1,k2,k3,k5,l,hb⟩:=k.obj;have pass: ∀self:Value,refuseLoop self "__setattr__" [.type "Exception",.type "BaseException",.type "object"]=pure ():=F.store_Exception.passes;refine⟨nm,q,N,bs,bm,sn,sub,ab,col,dd,k0,k1,k2,k3,k5,fun h X=>?_⟩;rcases hb with⟨rfl,rfl⟩|rfl
 ·exact⟨X _ _ l,by decide +kernel,by decide +kernel,by decide +kernel,by decide +kernel,by decide +kernel,fun self=>by rw[refuseLoop_ref]; exact pass self,by simp⟩
 ·exact⟨X _ _ l,iy (by decide +kernel),iy (by decide +kernel),iy (by decide +kernel),iy (by decide +kernel),iy (by decide +kernel),fun self=>by rw[refuseLoop_ref,refuseLoop_ref]; exact pass self,by simp⟩
def ly {K:Frag}{M:Model}{h:Heap}(X:K.In h){t:Value}{name:Str}{r:Option Value}(e:findIn K t name=some r):K9 M h (typeLookup t name) r:=PySem.W.looks_findIn X e
abbrev xo (e C:Addr)(iI:Option Addr)(vs:Array Value):HO:= .ext fun h=>iT h e (.ref C) iI vs
def Jx {P:Program}{w:World}{H:Hp}{h:Heap}{e C:Addr}{iI:Option Addr}{vs:Array Value}(x:iT h e (.ref C) iI vs):dv P w H h e (xo e C iI vs):=by
 refine⟨x,?_,fun h1 h2 z k=>iT.same z k⟩;obtain⟨o,z,_⟩:=x;exact⟨o,z⟩
abbrev v0 (t:Addr):Array Value:= #[.ref t,.none,.none,.none,.bool false,.none]
section
variable {X:Cx}{pins:List (Addr×Obj)}{σ:St}{H:Hp}{s:Shared}{e C R dx:Addr}{iI:Option Addr}{vs Xz:Array Value}{h':Heap}{t':Nat}
def Inv.DU (I:Inv X pins σ H s)(h:H e=some (xo e C iI vs)):iT s.heap e (.ref C) iI vs:=(I.cq e _ h).1
def Inv.O6 (I:Inv X pins σ H s)(h:H e=some (xo e C iI vs))(b:m8 [] [e] s.heap h')(x:iT h' e (.ref C) iI Xz):Inv X pins σ (upd H e (xo e C iI Xz)) {s with heap:=h',toks:=t'}:=by
 refine I.write (x:=e) (e:=e) (by rw[h]; exact True.intro) (.inl rfl) (fun c u n z=>(b c u z (by simpa using n)).1 (by simp)) ?_ (Jx x);obtain⟨o,z,_⟩:=x;exact⟨o,z⟩
def Inv.Mc {f:Str}{y:V}{u:Value}(I:Inv X pins σ H s)(h:H e=some (xo e C none vs))(b:m8 [] [e] s.heap h')(x:iT h' e (.ref C) (some s.heap.objs.size) vs)(n:h'.Ns1 s.heap.objs.size (fun z=>if z=f then some u else none))(r:RelV y u):
  Inv X pins σ (upd (upd H s.heap.objs.size (.xd [(f,y)])) e (xo e C (some s.heap.objs.size) vs)) {s with heap:=h',toks:=t'}:=by
 have hn:H s.heap.objs.size=none:=I.cq.fresh (aE _);have ne:e≠s.heap.objs.size:=aJ h hn;have off: ∀c u,H c=some u->c≠s.heap.objs.size:=fun c u z=>aJ z hn;have kp: ∀c o,c≠e->s.heap.get? c=some o->h'.get? c=some o:=fun c o n z=>(b c o z (by simpa using n)).1 (by simp);have low: ∀c o,s.heap.get? c=some o->c≠s.heap.objs.size:=fun c o z=>a6 (aM z);have same: ∀c,c≠e->c≠s.heap.objs.size->upd (upd H s.heap.objs.size (.xd [(f,y)])) e (xo e C (some s.heap.objs.size) vs) c=H c:=fun c n1 n2=>by rw[az n1,az n2]
 refine I.un ⟨fun c o z hc _ _=>kp c o (fun w=>by rw[w,h] at hc; cases hc) z,fun c o z hc _ _=>⟨o.slots,kp c o (fun w=>by rw[w,h] at hc; cases hc) z⟩,fun c o z hc _=>?_,fun c o z _=>?_,fun c xs z=>?_,fun c o u z=>?_,fun c ps z=>?_⟩ fun c u z=>?_
 ·rw[same c (fun w=>by rw[w,h] at hc; cases hc) (low c o z)];exact hc
 ·by_cases q:c=e
  ·rw[q];obtain⟨oe,w,_⟩:=x;exact⟨oe,w⟩
  ·exact⟨o,kp c o q z⟩
 ·rw[same c (fun w=>by rw[w,h] at z; cases z) (off c _ z)];exact z
 ·rw[same c (fun w=>by rw[w,h] at z; cases z) (off c _ z)];exact z
 ·refine⟨#[],?_⟩;rw[same c (fun w=>by rw[w,h] at z; cases z) (off c _ z),z];simp
 ·by_cases q:c=e
  ·subst q;rw[ag] at z;cases z;exact Jx x
  ·rw[az q] at z;by_cases q2:c=s.heap.objs.size
   ·subst q2;rw[ag] at z;cases z;refine⟨_,n,fun g=>?_⟩;show k7 (List.lookup g [(f,y)]) (if g=f then some u else none);by_cases w:g=f
    ·subst w;rw[a8 rfl];simpa[List.lookup,k7] using r
    ·rw[aU w];have:(g == f)=false:=by simpa using w
     simp[List.lookup,this,k7]
   ·rw[az q2] at z;refine(I.cq c u z).tP (fun d o hd w=>?_) (fun d w=>?_) fun d xs w=>?_
    ·refine kp d o (fun w2=>?_) w;rcases hd with hd|hd
     ·exact q (hd▸w2)
     ·rw[w2,h] at hd;cases hd
    ·rw[same d (fun w2=>by rw[w2,h] at w; cases w) (off d _ w)];exact w
    ·rw[same d (fun w2=>by rw[w2,h] at w; cases w) (off d _ w)];exact w
def gone (H:Hp)(a:Addr):Hp:=fun b=>if b=a then none else H b
def yr {a:Addr}:gone H a a=none:=by unfold gone; rw[if_pos rfl]
def iz {a b:Addr}(h:b≠a):gone H a b=H b:=by unfold gone; rw[if_neg h]
def Inv.drop {H0:Hp}{s0:Shared}{φ:Heap->Prop}(I0:Inv X pins σ H0 s0)(h0:H0 e=none)(I:Inv X pins σ H s)(h:H e=some (.ext φ)):Inv X pins σ (gone H e) s:=by
 have off: ∀c u,H c=some u->u≠ .ext φ->c≠e:=fun c u z n w=>by
  rw[w,h] at z;cases z;exact n rfl
 refine⟨I.ok,I.os,I.bare,⟨I.base.keep,I.base.slot,fun c o z hc hx=>?_,I.base.there,fun c xs z=>?_,fun c o u z=>?_,fun c ps z=>?_⟩,I.loc,I.cell,?_,fun x c z=>?_,fun p hp=>?_,fun c u z=>?_,I.len⟩
 ·have w:=I.base.free c o z hc hx;rw[iz (fun q=>by rw[q,h] at w; cases w)];exact w
 ·rw[iz (aJ (I0.base.qr c xs z) h0)];exact I.base.qr c xs z
 ·rw[iz (aJ (I0.base.pA c o u z) h0)];exact I.base.pA c o u z
 ·obtain⟨m,w⟩:=I0.base.pB c ps z;obtain⟨m',w'⟩:=I.base.pB c ps z;exact⟨m',by rw[iz (aJ w h0)]; exact w'⟩
 ·rw[iz (fun q=>by have w:=I.free; rw[q,h] at w; cases w)];exact I.free
 ·have w:=I.iJ x c z;rw[iz (fun q=>by rw[q,h] at w; cases w)];exact w
 ·obtain⟨w1,w2,w3⟩:=I.pin p hp;refine⟨w1,?_,w3⟩;rw[iz (fun q=>by rw[q,h] at w2; cases w2)];exact w2
 ·by_cases q:c=e
  ·rw[q,yr] at z;cases z
  ·rw[iz q] at z;refine(I.cq c u z).tP (fun d o _ w=>w) (fun d w=>?_) fun d xs w=>?_
   ·rw[iz (off d _ w (by intro z; cases z))];exact w
   ·rw[iz (off d _ w (by intro z; cases z))];exact w
end
structure hX (k:Nat)(A:Around):Prop where
 dp:A.depth + 3 * k + 5 < recursionLimit
 un:A.units + 16 * k + 200 < cLine
def eW.h {k:Nat}{A:Around}(r:eW k A):hX k A:=⟨r.dp,r.un⟩
def hX.mono {j k:Nat}{A:Around}(r:hX k A)(h:j<=k):hX j A:=⟨by have:=r.dp; lia,by have:=r.un; lia⟩
def hX.deeper {k:Nat}{A:Around}(r:hX (k + 1) A)(env:Env):hX k (A.deeper env):=
 ⟨by have:=r.dp; show A.depth + 1 + 3 * k + 5 < _; lia,by have:=r.un; show A.units + 3 + 16 * k + 200 < _; lia⟩
def hX.make {k:Nat}{A:Around}(r:hX (k + 1) A)(C:Addr)(us:List Value)(kw:List (Str×Value)):hX k (A.under (.builtin "type.__call__" ⟨.ref C :: us,kw⟩)):=
 ⟨by have:=r.dp; rw[uK]; lia,by have:=r.un; rw[uL]; lia⟩
def hX.mark {k:Nat}{A:Around}(r:hX k A)(e:Option Value):hX k (A.mark e):=⟨r.dp,r.un⟩
structure SW (P:Program)(w:World)(K:Frag)(mg:Str->Option Value)(base:Heap)(k:Nat)(f:Addr)(fd:FuncData)(ps:List Str)(sp:Sp):Prop where
 len: ∀vs H Q E,sp vs H Q E->vs.length=ps.length
 run: ∀(A:Around) (outer:List Env) (s:Shared) (H:Hp) (args:Args) (us:List Value) (vs:List V) (Q:VK) (E:XK),hX k A->qw P w K mg base A outer s H->BindsTo s fd args (ps.zip us)->Vals vs us->sp vs H Q E->
  codeAny (model P w) A (.call (.ref f) args) (CR rZ outer P w H s Q E) s
abbrev vp (P:Program)(w:World)(K:Frag)(mg:Str->Option Value)(base:Heap)(N:List Str)(qual:Str)(scope:Scope)(f:Addr)(cd:Value)(A:Around)(outer:List Env)(s:Shared)(H:Hp)(E:XK):Cx:=
 {kK rZ P w K mg base N qual scope f cd A outer s H E with calm:=false}
def vq {P:Program}{w:World}{K:Frag}{mg:Str->Option Value}{base:Heap}{N ps:List Str}{qual:Str}{scope:Scope}{f:Addr}{cd:Value}{A:Around}{outer:List Env}{s s1:Shared}{H:Hp}{E:XK}{us:List Value}{vs:List V}
  (S:aS N ps scope) (e0:qw P w K mg base A outer s H) (hl:vs.length=ps.length) (r:Vals vs us)
  (x:InCallC s s.heap.objs.size (bindL (envOfC qual scope s.heap.objs.size f cd).kindOf (ps.zip us) fun _=>none) (cellsFrom (s.heap.objs.size + 1) scope.names []) (bindC (envOfC qual scope s.heap.objs.size f cd).kindOf (ps.zip us) fun _=>none) s1):
  Inv (vp P w K mg base N qual scope f cd A outer s H E) [] (start N vs) H s1:=by
 have I:=yc (CX:=rZ) (E:=E) (A:={A with handled:=none}) (K:=K) (base:=base) (P:=P) (w:=w) (mg:=mg) (N:=N) S rfl ⟨e0.frames,e0.mod,e0.bs,e0.Bc,e0.lR,e0.EI,e0.cq,e0.bare⟩ hl r x;have ok:=I.ok;exact⟨⟨ok.mod,ok.kind,ok.glob,ok.blt,ok.above,ok.inj,ok.has,ok.K1,(fun z=>by cases z),Around.frames_deeper e0.frames,ok.Ik,ok.Lr,ok.bs,ok.Bc,ok.wI,ok.wJ,ok.lR,ok.EI⟩,I.os,I.bare,I.base,I.loc,I.cell,I.free,I.iJ,I.pin,I.cq,I.len⟩
def l8 {P:Program}{w:World}{K:Frag}{mg:Str->Option Value}{base:Heap}{k:Nat}{f:Addr}{x qual:Str}{st:Stmt}{fd:FuncData}{N ps:List Str}{sp:Sp}(F:gf K x qual st f fd)(S:aS N ps (ay st))
  (len: ∀vs H Q E,sp vs H Q E->vs.length=ps.length)
  (fS: ∀(cO:Value) (A:Around) (outer:List Env) (s:Shared) (H:Hp) (vs:List V) (Q:VK) (E:XK),hX k (A.deeper (envOfC qual (ay st) s.heap.objs.size f cO))->sp vs H Q E->
   ∃t,oO (vp P w K mg base N qual (ay st) f cO A outer s H E).Dr (dz st) t/\t {nx:=fun _ H'=>Q .eh H',rt:=Q} (start N vs) H):SW P w K mg base (k + 1) f fd ps sp:=by
 obtain⟨oc,od,kV,doc,pm,an,cO,ct,Gx,rfl,lk,rE⟩:=F.ex;refine⟨len,fun A outer s H args us vs Q E hr e0 hb r y1=>?_⟩;have hl:=len _ _ _ _ y1;have KX:K.In s.heap:=e0.mod.Lq.keeps fun b o e=>(e0.bs b o e).1;have lim:s.heap.NoLimit:=e0.mod.nolimit.keeps fun b o e=>(e0.bs b o e).1;have mP: ∀y∈ps.zip us,(ay st).names.lookup y.1=some .local∨((ay st).names.lookup y.1=some .cell/\((cellsFrom (s.heap.objs.size + 1) (ay st).names []).lookup y.1).isSome=true):=fun⟨n,v⟩ hy=>by
  rcases S.par n (ou hy).1 with q|q
  ·exact .inl q
  ·exact .inr ⟨q,k6 _ _ _ (.inl q)⟩
 have dp:A.depth < recursionLimit:=by have:=hr.dp; lia
 refine codeAny_call_function dp (KX _ _ lk) rfl S.co S.gen rfl (PySem.W.codeRec_of KX rE) (hb _ _ _ _ ?_);refine tM S.kind mP fun env he s1 y=>?_;subst he;refine⟨lim.keeps y.toInCall.keep,codeAny_func ?_⟩;obtain⟨t,ht,hq⟩:=fS cO A outer s H vs Q E (hr.deeper _) y1;have I:Inv (vp P w K mg base N qual (ay st) f cO A outer s H E) [] (start N vs) H s1:=vq S e0 hl r y;refine b9 (ht.Dr [] s1 (start N vs) H _ I hq) (fun fl s' hs=>?_) fun e s' hs=>hs;have fin: ∀{σ':St} {H':Hp} {v:V} {u:Value},Inv (vp P w K mg base N qual (ay st) f cO A outer s H E) [] σ' H' s'->RelV v u->Q v H'->CE outer P w H s Q u s':=
  fun{σ' H' v u} J rv q=>⟨v,H',J.os,J.bare,J.base,J.cq,rv,q⟩
 cases fl with
 |ret u=>
  obtain⟨v,σ',H',J,rv,q⟩:=hs;exact fin J rv q
 |next=>
  obtain⟨σ',H',J,q⟩:=hs;exact fin (v:=V.eh) (u:=Value.none) J rfl q
 |brk=>
  obtain⟨_,_,_,q⟩:=hs;exact False.elim q
 |cont=>
  obtain⟨_,_,_,q⟩:=hs;exact False.elim q
section
variable {X:Cx}{k:Nat}{f C R:Addr}{fd:FuncData}{ps:List Str}{sp:Sp}{x:Str}{p pos apos pos':Pos}{a b o value e:Expr}{es:List Expr}{ta tb tv:TE}{t:TA}
def Fl {A:Around}{xe:Value->Shared->Prop}{pins:List (Addr×Obj)}{σ:St}{H:Hp}{s:Shared}{Q:VK}{us:List Value}{vs:List V}(F:SW X.prog X.w X.K X.mg X.base k f fd ps sp)(hr:hX k A)(e0:qw X.prog X.w X.K X.mg X.base A X.stack s H)(hb:Binds X.K fd ps [])
  (I:Inv X pins σ H s) (r:Vals vs us) (h:sp vs H Q E0):wpAny (model X.prog X.w) A (call (.ref f) us) (EP X pins σ Q) xe s:=by
 have hl:(us ++ []).length=ps.length:=by rw[bR,← r.length]; exact F.len _ _ _ _ h
 have bd:=hb s us I.gH hl;rw[bR] at bd;refine EH (Dl (F.run A X.stack s H ⟨us,[]⟩ us vs Q E0 hr e0 bd r h) fun r s' hq=>?_);cases r with
 |error e=>exact False.elim hq
 |ok fl=>
  cases fl with
  |ret u=>exact I.after hq
  |next=>exact False.elim hq
  |brk=>exact False.elim hq
  |cont=>exact False.elim hq
def O7 (K:Frag)(t:TA):TE:=fun σ H Q=>t σ H fun xs H2=> ∃(e C R t0:Addr) (iI:Option Addr) (vs:Array Value) (y:V),xs=[.ref e,y]/\H2 e=some (xo e C iI vs)/\gO K C R/\vs[0]? =some (.ref t0)/\ ∀t',Q .eh (upd H2 e (xo e C iI (vs.setIfInBounds 0 (.ref t'))))
def Jy {pl:Sem Bool}(hg:Gl X "Exception")(hm:X.mg "Exception"=none)(ha:PA X (e :: es) t)
  (hs:starEach (e :: es) X.env=(false,eval e X.env) :: starEach es X.env:=by rfl) (gw:(backTo pos (starEach es X.env)).any (·.1)=false:=by rfl)
  (ht:eval (.Call (.Attribute (.Name "Exception" p) "__init__" apos) (e :: es) [] pos) X.env=(do
   let ov ← eval (.Name "Exception" p) X.env
   standAt apos.atName
   let(f,first) ← holding [ov] (getMethod ov "__init__" pl)
   callWith pos f first (backTo pos (starEach (e :: es) X.env)) (backToKw pos (keywordEach [] X.env))):=by rfl):
  PE X (.Call (.Attribute (.Name "Exception" p) "__init__" apos) (e :: es) [] pos) (O7 X.K t):=by
 intro pins s σ H Q I h;obtain⟨m,F⟩:=I.fr;refine wD (pl:=pl) (lS I hg hm (u:= .type "Exception") (by rfl) ?_) ht;refine PySem.W.method_type (v:= .builtin "Exception.__init__") F I.mod.Lq (by rfl) (by decide +kernel) (by rfl) (by rfl) ?_;have hA:=ha pos pins {s with toks:=s.toks + 1} σ H _ (I.tok _) h;rw[hs] at hA ⊢;refine iN (by show(false || (backTo pos (starEach es X.env)).any (·.1))=false; rw[gw] <;> rfl) (Ga ?_);refine dO hA fun us s2 ⟨vs,H2,I2,r2,e,C,R,t0,iI,ws,y,e1,e2,k,e3,q⟩=>?_;subst e1;obtain⟨u1,u2,rfl,ru,_⟩:=vals2 r2;obtain rfl:u1=Value.ref e:=ru;obtain⟨nm,qn,N,bs,bm,sn,sub,ab,col,dd,k0,k1,k2,k3,k5,c⟩:=k.on;have c:=c _ I2.gH;obtain⟨hp,g,d,tk,os⟩:=s2;exact GY N5 c.e c.at_ (I2.DU e2) e3 fun h' b x'=>⟨.eh,_,I2.O6 (t':=tk) e2 b x',rfl,q _⟩
def SX (K:Frag)(ta tv:TE):TS:=fun D σ H=>tv σ H fun y H1=>ta σ H1 fun x H2=> ∃(e C R:Addr) (vs:Array Value),x= .ref e/\H2 e=some (xo e C none vs)/\gO K C R/\
 ∀dx,H2 dx=none->D.nx σ (upd (upd H2 dx (.xd [("text",y)])) e (xo e C (some dx) vs))
def Md (ha:PE X o ta)(hv:PE X value tv)(hs:swapsWith value (some (.Attribute o "text" pos')) pos.line X.env=pure false):PS X (.Assign [.Attribute o "text" pos'] value pos) (SX X.K ta tv):=by
 intro pins s σ H D I h;refine N2 (dO (hv pins s σ H _ I h) fun u s1 ⟨y,H1,I1,ry,q⟩=>dO (ha pins s1 σ H1 _ I1 q) fun ov s2 ⟨x,H2,I2,rx,e,C,R,vs,e1,e2,k,q2⟩=>?_) hs;subst e1;obtain rfl:ov=Value.ref e:=rx;obtain⟨nm,qn,N,bs,bm,sn,sub,ab,col,dd,k0,k1,k2,k3,k5,c⟩:=k.on;have c:=c _ I2.gH;have hn:=I2.cq.fresh (aE s2.heap.objs.size);obtain⟨hp,g,d,tk,os⟩:=s2;refine Ma PySem.F.store_Exception c.o c.at_ c.rf (ly I2.gH k.sa) (ly I2.gH k.tx) (I2.DU e2) fun h' O2 b x' n=>?_;exact⟨σ,_,I2.Mc (t':=O2) e2 b x' n ry,q2 _ hn⟩
structure Fm (K:Frag)(R f:Addr):Prop where
 rd:readsIn K R (.type "type")=true
 sp:specialIn K (.ref R) "__getattribute__"=some (some (.builtin "type.__getattribute__"))
 fd:findCls K (.ref R) (.type "type") "__init__"=some (.val (.ref f))
 kp:keepIn K (.ref f)=true
def ja {pl:Sem Bool}(i:Fm X.K R f)(F:SW X.prog X.w X.K X.mg X.base k f fd ps sp)(hr:hX k X.A)(hb:Binds X.K fd ps [])(hg:Gl X x)(hm:X.mg x=some (.ref R))(ha:PA X (e :: es) t)(qx:(x == ("__debug__":Str))=false:=by decide)
  (hs:starEach (e :: es) X.env=(false,eval e X.env) :: starEach es X.env:=by rfl) (gw:(backTo pos (starEach es X.env)).any (·.1)=false:=by rfl)
  (ht:eval (.Call (.Attribute (.Name x p) "__init__" apos) (e :: es) [] pos) X.env=(do
   let ov ← eval (.Name x p) X.env
   standAt apos.atName
   let(f,first) ← holding [ov] (getMethod ov "__init__" pl)
   callWith pos f first (backTo pos (starEach (e :: es) X.env)) (backToKw pos (keywordEach [] X.env))):=by rfl):
  PE X (.Call (.Attribute (.Name x p) "__init__" apos) (e :: es) [] pos) (uM sp [] E0 t):=by
 intro pins s σ H Q I h;refine wD (pl:=pl) (js I hg hm ?_ qx) ht;refine PySem.W.method_cls I.gH i.sp (PySem.W.cls_value I.gH i.rd i.fd rfl ?_);refine ka (h₀:=X.base) I.ok.mod.Lq i.kp (dO (ha pos pins _ σ H _ (I.tok _) h) fun us s1 ⟨vs,H1,I1,r,q⟩=>⟨I1.gH,?_⟩) hs gw;have q2:sp (vs ++ []) H1 Q E0:=q;rw[bR] at q2;exact Fl F hr I1.IS hb I1 r q2
end
def Fly (mg:Str->Option Value)(n0:Nat)(H:Hp)(h:Heap)(a C dx:Addr):Prop:=
 ∃(vs:Array Value) (T:Addr),iT h a (.ref C) (some dx) vs/\vs[1]? =some (.ref T)/\K8 h T .none/\T≠a/\n0<=a/\n0<=T/\H a=none/\H T=none/\(vs[2]? =some .none∨mg "Needed"=some (.ref C))
def mH (P:Program)(w:World)(mg:Str->Option Value):ER:=fun outer H s E e s'=>
 ∃(a C dx:Addr) (H':Hp),e= .ref a/\s'.os=s.os/\AllBare s'.gens/\Un (Dn outer) [] H H' s.heap s'.heap/\oz P w H' s'.heap/\Fly mg s.heap.objs.size H' s'.heap a C dx/\E (.ref C) (some dx) H'
def Fn {fs fr own:List Addr}{H H2:Hp}{h h2 h3:Heap}(u:Un fs [] H H2 h h2)(b:m8 fr own h2 h3)(ho: ∀c∈own,h.objs.size<=c)(hf: ∀c∈fr,c∈fs∨h.objs.size<=c):Un fs [] H H2 h h3 where
 keep:=fun c o z n hc hx=>(b c o (u.keep c o z n hc hx) (fun w=>absurd (aM z) (xT.mpr (ho c w)))).1 (fun w=>(hf c w).elim hc (fun q=>absurd (aM z) (xT.mpr q)))
 slot:=fun c o z n hc hx=>by
  obtain⟨sl,e⟩:=u.slot c o z n hc hx;obtain⟨_,Vw,e2⟩:=b c _ e (fun w=>absurd (aM z) (xT.mpr (ho c w)));exact⟨Vw,e2⟩
 free:=u.free
 there:=fun c o z hx=>by
  obtain⟨o',e⟩:=u.there c o z hx;obtain⟨_,Vw,e2⟩:=b c _ e (fun w=>absurd (aM z) (xT.mpr (ho c w)));exact⟨_,e2⟩
 qr:=u.qr
 pA:=u.pA
 pB:=u.pB
def zx {P:Program}{w:World}{fr own:List Addr}{H:Hp}{h h':Heap}(k:oz P w H h)(b:m8 fr own h h')(hf: ∀c∈fr,H c=none)(ho: ∀c∈own,H c=none):oz P w H h':=fun c u z=>by
 refine(k c u z).tP (fun d o hd w=>?_) (fun _ q=>q) fun _ _ q=>q;have t: ∃u',H d=some u':=hd.elim (fun q=>⟨u,by rw[q]; exact z⟩) (fun q=>⟨_,q⟩);obtain⟨u',y⟩:=t;exact(b d o w (fun q=>by rw[ho d q] at y; cases y)).1 (fun q=>by rw[hf d q] at y; cases y)
section
variable {X:Cx}{pins:List (Addr×Obj)}{σ:St}{H:Hp}{s:Shared}{h':Heap}{own:List Addr}
def Inv.jP {c:Addr}(I:Inv X pins σ H s)(h:s.heap.objs.size<=c):(c∈X.ex∨X.s₀.heap.objs.size<=c)/\c≠X.env.locals/\(∀x k,X.env.cells.lookup x=some k->k≠c)/\ ∀p∈X.pn ++ pins,p.1≠c:=by
 refine⟨.inr (aY I.sz h),(a6 (bg I.lt h)).symm,fun x k z=>?_,fun p hp=>?_⟩
 ·obtain⟨v,w⟩:=I.cell x k z;exact a6 (bg w.lt h)
 ·exact a6 (bg (aM (I.pin p hp).1) h)
def Inv.but (I:Inv X pins σ H s)(b:m8 (Dn X.stack) own s.heap h')
  (ho: ∀c∈own,H c=none/\(c∈X.ex∨X.s₀.heap.objs.size<=c)/\c≠X.env.locals/\(∀x k,X.env.cells.lookup x=some k->k≠c)/\ ∀p∈X.pn ++ pins,p.1≠c):Inv X pins σ H {s with heap:=h'}:=by
 refine I.EJ (s':={s with heap:=h'}) (ch:=own) rfl ⟨fun c o z n hc hx=>(b c o z hx).1 hc,fun c o z n hc hx=>(b c o z hx).2,fun c o z n hx=>n,fun c o z hx=>?_,fun _ _ z=>z,fun _ _ _ z=>z,fun c ps z=>⟨#[],by rw[z]; simp⟩⟩ ?_ I.bare fun c hc=>(ho c hc).2
 ·obtain⟨_,sl,e⟩:=b c o z hx;exact⟨_,e⟩
 ·exact zx I.cq b I.qt fun c hc=>(ho c hc).1
end
structure QY (X:Cx)(E:XK):Prop where
 pass:Passes (mH X.prog X.w X.mg) X E
 mx: ∀{pins:List (Addr×Obj)} {σ:St} {H:Hp} {s:Shared} {a C dx:Addr} {vs:Array Value},Inv X pins σ H s->iT s.heap a (.ref C) (some dx) vs->vs[1]? =some .none->(vs[2]? =some .none∨X.mg "Needed"=some (.ref C))->
  X.s₀.heap.objs.size<=a->H a=none->E (.ref C) (some dx) H->X.xe (.ref a) s
 own:PassesOwn (model X.prog X.w) X.A X.env X.xe
 ownAt: ∀hd:Option Value,PassesOwnAt (model X.prog X.w) (X.A.mark hd) X.A X.env X.xe
 Ik:X.stack=X.env :: X.outer
 Z7:X.env.frame=some X.env.locals
section
variable {P:Program}{w:World}{K:Frag}{mg:Str->Option Value}{base:Heap}{N:List Str}{qual:Str}{scope:Scope}{f:Addr}{cd:Value}{A:Around}{outer:List Env}{s:Shared}{H:Hp}{E:XK}
def SY:Passes (mH P w mg) (kK (mH P w mg) P w K mg base N qual scope f cd A outer s H E) E:=by
 rintro pins σ H1 s1 e s2 I ⟨a,C,dx,H2,rfl,ho,hg,u,cq,⟨vs,T,x,h1,ft,ne,na,nT,Ha,HT,h2⟩,q⟩;have I2:=I.EJ (ch:=[]) ho u cq hg (fun b z=>absurd z (by simp));have sz:s.heap.objs.size<=s1.heap.objs.size:=I.sz;have QZ:a < s2.heap.objs.size:=by
  obtain⟨o,z,_⟩:=x;exact aM z
 show wpAny _ _ (leaving (envOfC qual scope s.heap.objs.size f cd) (.ref a)) _ _ s2;refine O0 (base:=base) (outer:=outer) (L:=s.heap.objs.size) I.ok.frames I2.stack rfl x h1 ft ne fun h3 T' b x' hT t'=>?_;have Q0:T'≠a:=by
  rw[hT];exact(a6 QZ).symm
 refine⟨a,C,dx,H2,rfl,I2.os,I2.bare,Fn I2.base b ?_ ?_,zx cq b I2.qt ?_,⟨_,T',x',pP (fb h1),t',Q0,aY sz na,?_,Ha,I2.cq.fresh (iE hT.symm),?_⟩,q⟩
 ·intro c hc;rcases aw.mp hc with rfl|hc
  ·exact aY sz nT
  ·rw[ao.mp hc];exact aY sz na
 ·intro c hc;rcases aw.mp (I2.uF c hc) with hc|hc
  ·rw[hc];exact .inr (aE _)
  ·exact .inl hc
 ·intro c hc;rcases aw.mp hc with rfl|hc
  ·exact HT
  ·rw[ao.mp hc];exact Ha
 ·rw[hT];exact I2.sz
 ·rw[qJ (by decide)];exact h2
def O8:QY (kK (mH P w mg) P w K mg base N qual scope f cd A outer s H E) E where
 pass:=SY
 mx:=by
  intro pins σ H1 s1 a C dx vs I x h1 h2 na Ha q;have QZ:a < s1.heap.objs.size:=by
   obtain⟨o,z,_⟩:=x;exact aM z
  show wpAny _ _ (leaving (envOfC qual scope s.heap.objs.size f cd) (.ref a)) _ _ s1;refine OZ (base:=base) (outer:=outer) (L:=s.heap.objs.size) I.ok.frames I.stack rfl x h1 fun h3 T' b x' hT t'=>?_;have Q0:T'≠a:=by
   rw[hT];exact(a6 QZ).symm
  refine⟨a,C,dx,H1,rfl,I.os,I.bare,Fn I.base b ?_ ?_,zx I.cq b I.qt ?_,⟨_,T',x',pP (fb h1),t',Q0,na,?_,Ha,I.cq.fresh (iE hT.symm),?_⟩,q⟩
  ·intro c hc;rw[ao.mp hc];exact na
  ·intro c hc;rcases aw.mp (I.uF c hc) with hc|hc
   ·rw[hc];exact .inr (aE _)
   ·exact .inl hc
  ·intro c hc;rw[ao.mp hc];exact Ha
  ·rw[hT];exact I.sz
  ·rw[qJ (by decide)];exact h2
 own:=PassesOwn.leaving
 ownAt:=fun _=>PassesOwnAt.leaving
 Ik:=rfl
 Z7:=rfl
def gf.Z8 {x qual:Str}{st:Stmt}{f:Addr}{fd:FuncData}{N ps:List Str}{k:Nat}{sp:Sp}(F:gf K x qual st f fd)(S:aS N ps (ay st))(len: ∀vs H Q E,sp vs H Q E->vs.length=ps.length)
  (fS: ∀(cO:Value) (A:Around) (outer:List Env) (s:Shared) (H:Hp) (vs:List V) (Q:VK) (E:XK),eW k (A.deeper (envOfC qual (ay st) s.heap.objs.size f cO))->QY (kK (mH P w mg) P w K mg base N qual (ay st) f cO A outer s H E) E->sp vs H Q E->
   ∃t,oO (kK (mH P w mg) P w K mg base N qual (ay st) f cO A outer s H E) (dz st) t/\t {nx:=fun _ H'=>Q .eh H',rt:=Q} (start N vs) H):lV P w K mg base (mH P w mg) (k + 1) f fd ps sp:=by
 obtain⟨oc,od,kV,doc,pm,an,cO,ct,Gx,rfl,lk,rE⟩:=F.ex;exact IV lk rE S len fun A outer s H vs Q E hr y1=>fS cO A outer s H vs Q E hr O8 y1
end
def O9 (K:Frag)(txt:Str):Sp:=fun vs H Q _=> ∃(e C R t0:Addr),vs=[.ref e]/\H e=some (xo e C none (v0 t0))/\gO K C R/\ ∀dx t',H dx=none->Q .eh (upd (upd H dx (.xd [("text",.str txt)])) e (xo e C (some dx) (v0 t')))
def Pa (E:XK)(C:Addr)(txt:Str):TS:=fun _ _ H=> ∀dx,H dx=none->E (.ref C) (some dx) (upd H dx (.xd [("text",.str txt)]))
structure Jz (P:Program)(w:World)(K:Frag)(mg:Str->Option Value)(base:Heap)(k:Nat)(x:Str)(C R:Addr)(txt:Str):Prop where
 Z9:mg x=some (.ref C)
 ek:gO K C R
 kp:keepIn K (.ref C)=true
 init: ∃(f:Addr) (fd:FuncData),findIn K (.ref C) "__init__"=some (some (.ref f))/\typeIn K (.ref f)=some (.type "function")/\SW P w K mg base k f fd ["self"] (O9 K txt)/\Binds K fd ["self"] []
section
variable {X:Cx}{k:Nat}{C R:Addr}{x txt:Str}{p pos gy:Pos}{E:XK}
def JA (M:Jz X.prog X.w X.K X.mg X.base k x C R txt)(hr:hX (k + 1) X.A)(hg:Gl X x)(qx:(x == ("__debug__":Str))=false){pins:List (Addr×Obj)}{σ:St}{H:Hp}{s:Shared}{Q:Value->Shared->Prop}{xe:Value->Shared->Prop}(I:Inv X pins σ H s)
  (q: ∀(s2:Shared) (e dx t':Addr),s.heap.objs.size<=e->H dx=none->H e=none->dx≠e->Inv X pins σ (upd H dx (.xd [("text",.str txt)])) s2->iT s2.heap e (.ref C) (some dx) (v0 t')->Q (.ref e) s2):
  wpAny (model X.prog X.w) X.A (eval (.Call (.Name x p) [] [] gy) X.env) Q xe s:=by
 obtain⟨f,fd,hi,hf,F,hb⟩:=M.init;refine eE (js I hg M.Z9 ?_ qx);refine A7 I.gH M.kp ?_;obtain⟨nm,qn,N,bs,bm,sn,sub,ab,col,dd,k0,k1,k2,k3,k5,c⟩:=M.ek.on;have c:=c _ I.gH;have hz:=I.cq.fresh (dm s.heap.objs.size);have I1:=I.kept (t':=s.toks) (h':=s.heap.push (jj [])) (fun b u z=>ax _ z);have ex:iT ((s.heap.push (jj [])).push (l7 C s.heap.objs.size)) (s.heap.objs.size + 1) (.ref C) none (v0 s.heap.objs.size):=⟨l7 C s.heap.objs.size,by heap_get,rfl,rfl,rfl⟩;have I2:=I1.laid (a:=s.heap.objs.size + 1) (o:=xo (s.heap.objs.size + 1) C none (v0 s.heap.objs.size)) (t':=s.toks) (h':=(s.heap.push (jj [])).push (l7 C s.heap.objs.size)) (fun b u z=>ax _ z) (iE (nY _ _)) (Jx ex);have Vm:=PySem.W.looks_typeIn (M:=model X.prog X.w) I.gH hf;have Pb: ∃oI,s.heap.get? f=some oI/\oI.cls= .type "function":=by
  have z:=hf;unfold typeIn at z;dsimp only at z;cases w:X.K.lookup f with
  |none=>rw[w] at z; cases z
  |some o=>
   rw[w] at z;exact⟨o,I.gH _ _ w,aF z⟩
 obtain⟨oI,Pb,SR⟩:=Pb;have e0:=I2.IS.make C [] [];obtain⟨hp,g,d,tk,os⟩:=s;refine call_exc N5 c.e c.na c.nn c.at_ (ly I.gH hi) Pb SR ?_;refine dO (Fl (X:=X) F (hr.make C [] []) e0 hb I2 (us:=[.ref (hp.objs.size + 1)]) (vs:=[.ref (hp.objs.size + 1)]) (Q:=fun v H'=>v= .eh/\ ∃dx t',H dx=none/\dx≠hp.objs.size + 1/\H'=upd (upd (upd H (hp.objs.size + 1) (xo (hp.objs.size + 1) C none (v0 hp.objs.size))) dx (.xd [("text",.str txt)])) (hp.objs.size + 1) (xo (hp.objs.size + 1) C (some dx) (v0 t'))) (.cons rfl .nil) ?_) fun u s2 h2=>?_
 ·refine⟨_,C,R,_,rfl,ag,M.ek,fun dx t' De=>⟨rfl,dx,t',?_⟩⟩;have ne:dx≠hp.objs.size + 1:=fun z=>by
   rw[z,ag] at De;cases De
  rw[az ne] at De;exact⟨De,ne,rfl⟩
 ·obtain⟨v,H',I3,rv,rfl,dx,t',De,ne,rfl⟩:=h2;refine⟨rv,?_⟩;have I4:=Inv.drop I hz I3 ag;have eH:gone (upd (upd (upd H (hp.objs.size + 1) (xo (hp.objs.size + 1) C none (v0 hp.objs.size))) dx (.xd [("text",.str txt)])) (hp.objs.size + 1) (xo (hp.objs.size + 1) C (some dx) (v0 t'))) (hp.objs.size + 1)=upd H dx (.xd [("text",.str txt)]):=by
   funext b
   by_cases h1:b=hp.objs.size + 1
   ·rw[h1,yr,az ne.symm,hz]
   ·rw[iz h1,az h1];by_cases h2:b=dx
    ·rw[h2,ag,ag]
    ·rw[az h2,az h2,az h1]
  rw[eH] at I4;exact q s2 _ dx t' (dm _) De hz ne I4 (I3.DU ag)
def jQ (T:QY X E)(M:Jz X.prog X.w X.K X.mg X.base k x C R txt)(hr:hX (k + 1) X.A)(hg:Gl X x)(hc:X.calm=true)(qx:(x == ("__debug__":Str))=false:=by decide):
  PS X (.Raise (some (.Call (.Name x p) [] [] gy)) none pos) (Pa E C txt):=by
 intro pins s σ H D I h;rw[arm_exec_Raise];obtain⟨nm,qn,N,bs,bm,sn,sub,ab,col,dd,k0,k1,k2,k3,k5,c⟩:=M.ek.on;refine aA (il (DS (C:=C) (nm:=nm) (q:=qn) (N:=N) (bs:=bs) (bm:=bm) (oC:=true) (sn:=sn) (sub:=sub) (ab:=ab) (col:=col) (dd:=dd) (k0:=k0) (k1:=k1) (k2:=k2) (k3:=k3) (k5:=k5) (newId:="Exception.__new__") (c _ I.gH).b (I.ok.hd hc) (aA (JA M hr hg qx I fun s2 e dx t' he De hz ne I2 x2=>aA (il (bE ?_))))));exact⟨e,some dx,v0 t',rfl,(c _ I2.gH).at_,x2,rfl,T.mx I2 x2 rfl (.inl rfl) (aY I.sz he) (by rw[az ne.symm]; exact hz) (h dx De)⟩
end
abbrev Cx.wX (X:Cx)(xe:Value->Shared->Prop)(pn:List (Addr×Obj)):Cx:={X with xe:=xe,pn:=pn}
abbrev Cx.La (X:Cx)(e:Value)(pn:List (Addr×Obj))(xe:Value->Shared->Prop):Cx:={X with A:=X.A.mark (some e),calm:=false,pn:=pn,xe:=xe}
section
variable {X:Cx}{pins Be l:List (Addr×Obj)}{σ:St}{H:Hp}{s:Shared}{xe:Value->Shared->Prop}{E:XK}
def Inv.wX (I:Inv X pins σ H s)(xe:Value->Shared->Prop):Inv (X.wX xe (X.pn ++ pins)) [] σ H s:=
 have ok:=I.ok
 ⟨⟨ok.mod,ok.kind,ok.glob,ok.blt,ok.above,ok.inj,ok.has,ok.K1,ok.hd,ok.frames,ok.Ik,ok.Lr,ok.bs,ok.Bc,ok.wI,ok.wJ,ok.lR,ok.EI⟩,I.os,I.bare,I.base,I.loc,I.cell,I.free,I.iJ,fun p hp=>I.pin p (by simpa using hp),I.cq,I.len⟩
def Inv.jR (I:Inv (X.wX xe (X.pn ++ pins)) Be σ H s):Inv X pins σ H s:=
 have ok:=I.ok
 ⟨⟨ok.mod,ok.kind,ok.glob,ok.blt,ok.above,ok.inj,ok.has,ok.K1,ok.hd,ok.frames,ok.Ik,ok.Lr,ok.bs,ok.Bc,ok.wI,ok.wJ,ok.lR,ok.EI⟩,I.os,I.bare,I.base,I.loc,I.cell,I.free,I.iJ,fun p hp=>I.pin p (cX _ hp),I.cq,I.len⟩
def Inv.La (I:Inv X pins σ H s)(e:Value)(xe:Value->Shared->Prop)(h: ∀p∈l,s.heap.get? p.1=some p.2/\H p.1=none/\p.1≠X.env.locals/\p.1∉X.fs/\ ∀v,p.2.data≠ .cell v):Inv (X.La e (X.pn ++ pins ++ l) xe) [] σ H s:=
 have ok:=I.ok
 ⟨⟨ok.mod,ok.kind,ok.glob,ok.blt,ok.above,ok.inj,ok.has,ok.K1,(fun z=>by cases z),ok.frames,ok.Ik,ok.Lr,ok.bs,ok.Bc,ok.wI,ok.wJ,ok.lR,ok.EI⟩,I.os,I.bare,I.base,I.loc,I.cell,I.free,I.iJ,
  fun p hp=>by
   rw[bR] at hp;exact(bq.mp hp).elim (fun z=>I.pin p z) (h p),I.cq,I.len⟩
def Inv.S4 (I0:Inv X pins σ H s){e:Value}{σ':St}{H':Hp}{s':Shared}(I:Inv (X.La e (X.pn ++ pins ++ l) xe) Be σ' H' s'):Inv X pins σ' H' s':=
 have ok:=I.ok
 ⟨⟨ok.mod,ok.kind,ok.glob,ok.blt,ok.above,ok.inj,ok.has,ok.K1,I0.ok.hd,ok.frames,ok.Ik,ok.Lr,ok.bs,ok.Bc,ok.wI,ok.wJ,ok.lR,ok.EI⟩,I.os,I.bare,I.base,I.loc,I.cell,I.free,I.iJ,
  fun p hp=>I.pin p (cX _ (cX _ hp)),I.cq,I.len⟩
def SP.jR {D:Ends}{f:Flow}{s':Shared}(h:SP (X.wX xe (X.pn ++ pins)) [] D f s'):SP X pins D f s':=by
 cases f with
 |next=>obtain⟨σ',H',I,q⟩:=h; exact⟨σ',H',I.jR,q⟩
 |brk=>obtain⟨σ',H',I,q⟩:=h; exact⟨σ',H',I.jR,q⟩
 |cont=>obtain⟨σ',H',I,q⟩:=h; exact⟨σ',H',I.jR,q⟩
 |ret u=>obtain⟨v,σ',H',I,r,q⟩:=h; exact⟨v,σ',H',I.jR,r,q⟩
def Inv.renamed {h5:Heap}{m5:Str->Option Value}{t':Nat}(I:Inv X pins σ H s)(n5:h5.Ns X.env.locals m5)(sb:Heap.SameBut X.env.locals s.heap h5):Inv X pins (List.replicate X.N.length none) H {s with heap:=h5,toks:=t'}:=by
 have low: ∀c o,X.s₀.heap.get? c=some o->c≠X.env.locals:=fun c o z=>a6 (bg (aM z) I.ok.above);refine⟨I.ok,I.os,I.bare,⟨fun c o z n hc hx=>(sb.2 c (low c o z)).trans (I.base.keep c o z n hc hx),fun c o z n hc hx=>?_,I.base.free,fun c o z hx=>?_,I.base.qr,I.base.pA,I.base.pB⟩,⟨m5,n5,fun i x v h1 h2 _=>?_⟩,fun x c z=>?_,I.free,I.iJ,fun p hp=>?_,fun c u z=>?_,?_⟩
 ·obtain⟨sl,e⟩:=I.base.slot c o z n hc hx;exact⟨sl,(sb.2 c (low c o z)).trans e⟩
 ·obtain⟨o',e⟩:=I.base.there c o z hx;exact⟨o',(sb.2 c (low c o z)).trans e⟩
 ·rw[List.getElem?_replicate] at h2;split at h2 <;> cases h2
 ·obtain⟨v,w⟩:=I.cell x c z;exact⟨v,w.sameBut sb (I.Nh x c z)⟩
 ·obtain⟨w1,w2,w3,w4⟩:=I.pin p hp;exact⟨(sb.2 _ w3).trans w1,w2,w3,w4⟩
 ·refine(I.cq c u z).tP (fun d o hd w=>(sb.2 d (fun q=>?_)).trans w) (fun _ q=>q) fun _ _ q=>q;rcases hd with hd|hd
  ·rw[← hd,q,I.free] at z;cases z
  ·rw[q,I.free] at hd;cases hd
 ·rw[dH]
def land (rF:X.stack=X.env :: X.outer)(Dd:X.env.frame=some X.env.locals){e:Value}{s':Shared}(I:Inv X pins σ H s)(c:mH X.prog X.w X.mg X.stack H s E e s'){hs:List ExceptHandler}{Q:Flow->Shared->Prop}
  (q: ∀(a C dx T:Addr) (vs:Array Value) (H':Hp) (s3:Shared),e= .ref a->Inv X pins σ H' s3->iT s3.heap a (.ref C) (some dx) vs->vs[1]? =some (.ref T)->K8 s3.heap T .none->T≠a->s.heap.objs.size<=a->s.heap.objs.size<=T->H' a=none->H' T=none->
   (vs[2]? =some .none∨X.mg "Needed"=some (.ref C))->E (.ref C) (some dx) H'->wpAny (model X.prog X.w) X.A (handleBy e X.env hs) Q xe s3):
  wpAny (model X.prog X.w) X.A (noteFrame e X.env) (fun _ s2=>wpAny (model X.prog X.w) X.A (setFlight e none) (fun _ s3=>wpAny (model X.prog X.w) X.A (handleBy e X.env hs) Q xe s3) xe s2) xe s':=by
 obtain⟨a,C,dx,H2,rfl,ho,hg,u,cq,⟨vs,T,x,h1,ft,ne,na,nT,Ha,HT,h2⟩,z⟩:=c;have I2:=I.EJ (ch:=[]) ho u cq hg (fun b z=>absurd z (by simp));have st:=I2.stack;rw[rF] at st;have QZ:a < s'.heap.objs.size:=by
  obtain⟨o,z,_⟩:=x;exact aM z
 have XA:s.heap.objs.size<=s'.heap.objs.size:=aY na (dr QZ);refine Nw (base:=X.base) (outer:=X.outer) (by rw[I.ok.frames,rF]) st Dd x h1 ft ne fun h3 T' b x3 hT t3=>?_;have Q0:T'≠a:=by
  rw[hT];exact(a6 QZ).symm
 have HT':H2 T'=none:=I2.cq.fresh (iE hT.symm);have nT':=I2.jP (iE hT.symm);have b':m8 (Dn X.stack) [T,a] s'.heap h3:=by
  rw[rF];exact b
 have I3:=I2.but b' (fun c hc=>by
  rcases aw.mp hc with rfl|hc
  ·exact⟨HT,I.jP nT⟩
  ·rw[ao.mp hc];exact⟨Ha,I.jP na⟩)
 refine vn (s:={s' with heap:=h3}) x3 (pP (fb h1)) t3 fun h4 b4 t4 _=>?_;have I4:=I3.but (h':=h4) (own:=[T']) (b4.mono (fun _ z=>absurd z (by simp)) (fun _ z=>z)) (fun c hc=>by
  rw[ao.mp hc];exact⟨HT',nT'⟩)
 refine q a C dx T' _ H2 _ rfl I4 (x3.but b4 (by simpa using Q0.symm)) (pP (fb h1)) t4 Q0 na (by rw[hT]; exact XA) Ha HT' ?_ z;rw[qJ (by decide)];exact h2
end
section
variable {X:Cx}{R:Addr}{n x:Str}{i k:Nat}{p1 p2 p3 p4 p5 pos gy:Pos}{body:List Stmt}{t:XK->TS}{E:XK}{CN:Addr}{txt:Str}
def S5 (K:Frag)(R:Addr)(D:Ends):XK:=fun c d H'=> ∃(C dx:Addr) (txt:Str),c= .ref C/\d=some dx/\gO K C R/\H' dx=some (.xd [("text",.str txt)])/\D.rt (.str txt) H'
def Me (K:Frag)(R:Addr)(t:XK->TS):TS:=fun D σ H=>t (S5 K R D) D σ H
def G1 (rF:X.stack=X.env :: X.outer)(Dd:X.env.frame=some X.env.locals)(hc:X.calm=true)(hN:X.N.Nodup)(hi:X.N[i]? =some n)(hl:X.env.scope.names.lookup n=some .local)(hg:Gl X x)(hm:X.mg x=some (.ref R))(kR:gO X.K R R)
  (hb: ∀(xe:Value->Shared->Prop) (pn:List (Addr×Obj)) (E:XK),Passes (mH X.prog X.w X.mg) (X.wX xe pn) E->oO (X.wX xe pn) body (t E)) (hd:(n == ("__debug__":Str))=false:=by decide) (rE:(n == ("__classdict__":Str))=false:=by decide) (hx:(x == ("__debug__":Str))=false:=by decide):
  PS X (.Try body [.ExceptHandler (some (.Name x p1)) (some n) [.Return (some (.Attribute (.Name n p2) "text" p3)) p4] p5] [] [] pos) (Me X.K R t):=by
 intro pins s σ H D I h;refine wpAny_Try_except (b9 (hb (fun e s1=>wpAny (model X.prog X.w) X.A (noteFrame e X.env) (fun _ s2=>wpAny (model X.prog X.w) X.A (setFlight e none) (fun _ s3=>
  wpAny (model X.prog X.w) X.A (handleBy e X.env [.ExceptHandler (some (.Name x p1)) (some n) [.Return (some (.Attribute (.Name n p2) "text" p3)) p4] p5]) (SP X pins D) X.xe s3) X.xe s2) X.xe s1) (X.pn ++ pins) (S5 X.K R D) ?_ [] s σ H D (I.wX _) h) (fun f s1 q=>?_) fun _ _ z=>z)
 ·rintro S6 σ1 H1 s1 e s2 I1 cx;refine land rF Dd I1.jR cx fun a C dx T vs H2 s3 he I3 x3 h1 ft ne na nT Ha HT h2 z=>?_;subst he;obtain⟨C',dx',txt,e1,e2,ek,ed,q⟩:=z;cases e1;cases e2;obtain⟨oe,XB,QP,Pc,S7⟩:=id x3;have cC:=ek.on;have cR:=kR.on;obtain⟨_,_,_,_,_,_,_,_,_,_,_,_,_,_,_,cC⟩:=cC;obtain⟨_,_,_,_,_,_,_,_,_,_,_,_,_,_,_,cR⟩:=cR;have nw:=I1.jR.jP na;have Im:=I3.La (l:=[(a,oe)]) (.ref a) (fun _ _=>False) (fun p hp=>by
   rw[ao.mp hp];exact⟨XB,Ha,nw.2.1,I1.jR.Gn na,fun v z=>by rw[S7] at z; cases z⟩)
  refine wpAny_handleBy_cons (codeAny_handlers_test (js Im hg hm ?_ hx)) (by intro q; cases q);obtain⟨hp,g,d,tk,os⟩:=s3;refine yq (cC _ I3.gH).at_ (cR _ I3.gH).at_ x3 (cR _ I3.gH).b (cC _ I3.gH).up ?_;refine codeAny_handlers_suite_as ?_;refine vn x3 h1 ft fun h4 b4 t4 _=>?_;have Mf:=I1.jR.jP nT;have I4:=Im.but (h':=h4) (own:=[T]) (b4.mono (fun _ z=>absurd z (by simp)) (fun _ z=>z)) (fun c hc=>by
   rw[ao.mp hc];refine⟨HT,Mf.1,Mf.2.1,Mf.2.2.1,fun p hp=>?_⟩;rw[bR] at hp;rcases bq.mp hp with hp|hp
   ·exact Mf.2.2.2 p hp
   ·rw[ao.mp hp];exact ne.symm)
  refine uG (X:=X.La (.ref a) (X.pn ++ pins ++ [(a,oe)]) (fun _ _=>False)) (v:= .ref a) I4 hN hi (.inl hl) rfl (fun s5 I5=>?_) (.inr hl);have pe:PE (X.La (.ref a) (X.pn ++ pins ++ [(a,oe)]) (fun _ _=>False)) (.Attribute (.Name n p2) "text" p3) (fun σ H Q=>σ[i]? =some (some (.ref a))/\H dx=some (.xd [("text",.str txt)])/\Q (.str txt) H):=by
   rintro Nx s6 σ6 H6 Q6 J ⟨e1,e2,q6⟩;refine EO rfl (dO (Dp (X:=X.La (.ref a) (X.pn ++ pins ++ [(a,oe)]) (fun _ _=>False)) hi (.inl hl) hd rE Nx s6 σ6 H6 (fun v H'=>v= .ref a/\H'=H6) J ⟨_,e1,rfl,rfl⟩) ?_);rintro u s7 ⟨v,H7,J7,rv,rfl,rfl⟩;obtain rfl:u=Value.ref a:=rv;obtain⟨w1,_⟩:=J7.pin (a,oe) (cX _ (bu _ (ao.mpr rfl)));obtain⟨mA,n1,rl⟩:=J7.cq dx _ e2;have rt:=rl "text";have lk:List.lookup ("text":Str) [("text",V.str txt)]=some (V.str txt):=by simp[List.lookup]
   rw[lk] at rt;cases XC:mA "text" with
   |none=>rw[XC] at rt; exact False.elim rt
   |some u7=>
    rw[XC] at rt;obtain⟨tk7,rfl⟩: ∃tk,u7=Value.str txt tk:=rt;obtain⟨hp7,g7,d7,t7,os7⟩:=s7;refine Mb PySem.F.attr_Exception.ga (cC _ J7.gH).b (cC _ J7.gH).at_ (ly J7.gH ek.ga) (ly J7.gH ek.gk) (ly J7.gH ek.tx) ⟨oe,w1,QP,Pc,S7⟩ n1.ns XC rfl ?_;exact⟨.str txt,H7,J7.tok _,⟨_,rfl⟩,q6⟩
  have hlen:i < σ1.length:=by
   rw[I1.len];exact(ak.mp hi).1
  refine wpAny_mono (au (a0 pe) [] s5 _ H2 {nx:=fun _ _=>False,rt:=fun v H'=>v= .str txt/\H'=H2} I5 ⟨by simp[hlen],ed,rfl,rfl⟩) (fun f s6 q6=>?_) fun _ _ z=>z.elim;cases f with
  |next=>obtain⟨_,_,_,z⟩:=q6; exact z.elim
  |brk=>obtain⟨_,_,_,z⟩:=q6; exact z.elim
  |cont=>obtain⟨_,_,_,z⟩:=q6; exact z.elim
  |ret u=>
   obtain⟨v,σ6,H6,I6,rv,rfl,rfl⟩:=q6;have I7:Inv X pins σ6 H6 s6:=Inv.S4 I3 I6;obtain⟨m6,n6,_⟩:=id I7.loc;have kd:(X.env.scope.kind == .class || (X.env.scope.kind == .module && X.env.locals != X.env.globals))=false:=by
    rw[I.ok.kind];rfl
   refine wpAny_nameGoes hl n6 kd fun h7 m7 n7 sb=>?_;exact⟨.str txt,_,H6,I7.renamed n7 sb,rv,q⟩
 ·have q':=SP.jR q;cases f with
  |next=>exact jh q'
  |brk=>exact q'
  |cont=>exact q'
  |ret u=>exact q'
def JB (CT CN:Addr)(txt:Str)(E:XK):XK:=fun c d H'=>c= .ref CT/\ ∀dx,H' dx=none->E (.ref CN) (some dx) (upd H' dx (.xd [("text",.str txt)]))
def G2 (CT CN:Addr)(txt:Str)(E:XK)(t:XK->TS):TS:=fun D σ H=>t (JB CT CN txt E) D σ H
def BK {CT:Addr}{kk:_}(T:QY X E)(hc:X.calm=true)(hg:Gl X x)(hm:X.mg x=some (.ref CT))(kT:gO X.K CT R)(i9:X.mg "Needed"≠some (.ref CT))(M:Jz X.prog X.w X.K X.mg X.base k "Needed" CN R txt)(hr:hX (k + 1) X.A)(hgN:Gl X "Needed")
  (hb: ∀(xe:Value->Shared->Prop) (pn:List (Addr×Obj)) (E:XK),Passes (mH X.prog X.w X.mg) (X.wX xe pn) E->oO (X.wX xe pn) body (t E)) (hx:(x == ("__debug__":Str))=false:=by decide):
  PS X (.Try body [.ExceptHandler (some (.Name x p1)) none [.Raise (some (.Call (.Name "Needed" p2) [] [] gy)) (some (.Constant .none kk p3)) p4] p5] [] [] pos) (G2 CT CN txt E t):=by
 intro pins s σ H D I h;refine wpAny_Try_except (b9 (hb (fun e s1=>wpAny (model X.prog X.w) X.A (noteFrame e X.env) (fun _ s2=>wpAny (model X.prog X.w) X.A (setFlight e none) (fun _ s3=>
  wpAny (model X.prog X.w) X.A (handleBy e X.env [.ExceptHandler (some (.Name x p1)) none [.Raise (some (.Call (.Name "Needed" p2) [] [] gy)) (some (.Constant .none kk p3)) p4] p5]) (SP X pins D) X.xe s3) X.xe s2) X.xe s1) (X.pn ++ pins) (JB CT CN txt E) ?_ [] s σ H D (I.wX _) h) (fun f s1 q=>?_) fun _ _ z=>z)
 ·rintro S6 σ1 H1 s1 e s2 I1 cx;refine land T.Ik T.Z7 I1.jR cx fun a C dx T0 vs H2 s3 he I3 x3 h1 ft ne na nT Ha HT h2 z=>?_;subst he;obtain⟨e1,q⟩:=z;cases e1;have v2:vs[2]? =some .none:=h2.elim id (fun z=>absurd z i9);obtain⟨oe,XB,QP,Pc,S7⟩:=id x3;obtain⟨_,_,_,_,_,_,_,_,_,_,_,_,_,_,_,cT⟩:=kT.on;obtain⟨nm,qn,N,bs,bm,sn,sub,ab,col,dd,k0,k1,k2,k3,k5,cN⟩:=M.ek.on;have nw:=I1.jR.jP na;have XD: ∀p∈[(a,oe)],s3.heap.get? p.1=some p.2/\H2 p.1=none/\p.1≠X.env.locals/\p.1∉X.fs/\ ∀v,p.2.data≠ .cell v:=fun p hp=>by
   rw[ao.mp hp];exact⟨XB,Ha,nw.2.1,I1.jR.Gn na,fun v z=>by rw[S7] at z; cases z⟩
  have Im:=I3.La (l:=[(a,oe)]) (.ref a) X.xe XD;refine wpAny_handleBy_cons (codeAny_handlers_test (js Im hg hm ?_ hx)) (by intro q; cases q);obtain⟨hp,g,d,tk,os⟩:=s3;refine yq (b:=true) (cT _ I3.gH).at_ (cT _ I3.gH).at_ x3 (cT _ I3.gH).b (by simp) ?_;refine codeAny_handlers_suite ?_;refine vn x3 h1 ft fun h4 b4 t4 _=>?_;have Mf:=I1.jR.jP nT;have I4:=Im.but (h':=h4) (own:=[T0]) (b4.mono (fun _ z=>absurd z (by simp)) (fun _ z=>z)) (fun c hc=>by
   rw[ao.mp hc];refine⟨HT,Mf.1,Mf.2.1,Mf.2.2.1,fun p hp=>?_⟩;rw[bR] at hp;rcases bq.mp hp with hp|hp
   ·exact Mf.2.2.2 p hp
   ·rw[ao.mp hp];exact ne.symm)
  refine wpAny_passesOwnAt (T.ownAt (some (.ref a))) ?_;have ps:PS (X.La (.ref a) (X.pn ++ pins ++ [(a,oe)]) X.xe) (.Raise (some (.Call (.Name "Needed" p2) [] [] gy)) (some (.Constant .none kk p3)) p4) (fun _ _ H=> ∀dx,H dx=none->E (.ref CN) (some dx) (upd H dx (.xd [("text",.str txt)]))):=by
   intro Nx s6 σ6 H6 D6 J h6;rw[arm_exec_Raise];refine aA (il (DT (C:=CN) (e0:=a) (nm:=nm) (q:=qn) (N:=N) (bs:=bs) (bm:=bm) (oC:=true) (sn:=sn) (sub:=sub) (ab:=ab) (col:=col) (dd:=dd) (k0:=k0) (k1:=k1) (k2:=k2) (k3:=k3) (k5:=k5) (newId:="Exception.__new__") (cN _ J.gH).b rfl (fun Rr s7 z=>aA (Constant_none (aA (il (bE z))))) (aA (JA (X:=X.La (.ref a) (X.pn ++ pins ++ [(a,oe)]) X.xe) M (hr.mark _) hgN (by decide) J fun s7 e XE t' he De hz ne7 I7 x7=>aA (il (bE ?_))))));obtain⟨w1,_⟩:=I7.pin (a,oe) (cX _ (bu _ (ao.mpr rfl)));have w0:=(J.pin (a,oe) (cX _ (bu _ (ao.mpr rfl)))).1;have nea:e≠a:=fun q=>by
    rw[q] at he;exact absurd (aM w0) (xT.mpr he)
   refine⟨e,some XE,v0 t',.ref CT,some dx,vs,rfl,nea,(cN _ I7.gH).at_,x7,rfl,rfl,⟨oe,w1,QP,Pc,S7⟩,v2,fun h8 b8 x8=>?_⟩;have Hz:upd H6 XE (.xd [("text",.str txt)]) e=none:=by
    rw[az ne7.symm];exact hz
   have I8:=I7.but (h':=h8) (own:=[e]) (b8.mono (fun _ z=>absurd z (by simp)) (fun _ z=>z)) (fun c hc=>by
    rw[ao.mp hc];exact⟨Hz,J.jP he⟩)
   exact T.mx (Inv.S4 I3 I8) x8 rfl (.inr M.Z9) (aY J.sz he) Hz (h6 XE De)
  refine b9 (au ps [] _ _ H2 {nx:=fun _ _=>False,rt:=fun _ _=>False} I4 q) (fun f s9 z=>?_) fun _ _ z=>z;cases f with
  |next=>obtain⟨_,_,_,z⟩:=z; exact z.elim
  |brk=>obtain⟨_,_,_,z⟩:=z; exact z.elim
  |cont=>obtain⟨_,_,_,z⟩:=z; exact z.elim
  |ret u=>obtain⟨_,_,_,_,_,z⟩:=z; exact z.elim
 ·have q':=SP.jR q;cases f with
  |next=>exact jh q'
  |brk=>exact q'
  |cont=>exact q'
  |ret u=>exact q'
end
open PySem.W
def BMain (mg:Str->Option Value)(h:Heap):Prop:= ∃bm o,mg "__builtins__"=some (.ref bm)/\bm≠builtinsNs/\bm≠mainGlobals/\h.get? bm=some o/\o.cls= .type "module"/\o.dict=some builtinsNs/\o.data= .plain
abbrev yt (c:Addr)(qual:Str):HO:= .ext fun h=>h.CodeRec (.ref c) qual
def JC {P:Program}{w:World}{H:Hp}{h:Heap}{c:Addr}{qual:Str}(x:h.CodeRec (.ref c) qual):dv P w H h c (yt c qual):=by
 refine⟨x,?_,fun h1 h2 z k=>?_⟩
 ·obtain⟨c',o,vs,t,e,g,_⟩:=x;cases e;exact⟨o,g⟩
 ·obtain⟨c',o,vs,t,e,g,r⟩:=z;cases e;exact⟨c,o,vs,t,rfl,k o g,r⟩
def Tb (H:Hp)(P:Addr)(pos:Pos)(qual:Str):Prop:= ∃ps:Array Value,H P=some (.mL ps)/\TriplesOk ps.toList/\(codeAmong pos ps.toList=none∨ ∃c',codeAmong pos ps.toList=some (.ref c')/\H c'=some (yt c' qual))
section
variable {X:Cx}{pins:List (Addr×Obj)}{σ:St}{H:Hp}{s:Shared}{c P:Addr}{params:Arguments}{body:Expr}{scope:Scope}{pos:Pos}{Q:Value->Shared->Prop}{xe:Value->Shared->Prop}
def BMain.at {mg:Str->Option Value}{h h':Heap}(B:BMain mg h)(k: ∀b o,h.get? b=some o->h'.get? b=some o){ps:Array Value}(hP:h'.get? P=some (tabObj ps)):h'.BuiltinsAt mg P:=by
 obtain⟨bm,o,b1,b2,b3,b4,b5,b6,b7⟩:=B;refine⟨bm,o,b1,b2,b3,fun z=>?_,k _ _ b4,b5,b6,b7⟩;have e:=k _ _ b4;rw[z,hP] at e;cases e;cases b5
def JD (I:Inv X pins σ H s)(B:BMain X.mg X.base)(Fo:X.env.code= .ref c)(C:CodeHd X.base c P)(tb:Tb H P pos (X.env.qual ++ "<lambda>"))(Pd:defaultsOf params X.env=([],[]))(qL:closureFor scope X.env=pure [])
  (q: ∀(f c':Addr) (Fp:Value) (H':Hp) (s':Shared),Inv X pins σ H' s'->Frame [P] H H'->Tb H' P pos (X.env.qual ++ "<lambda>")->H' f=none->s'.heap.get? f=some (kla_obj "<lambda>" (X.env.qual ++ "<lambda>") params body scope [] ((X.mg "__name__").getD .none) c' Fp)->
   H' c'=some (yt c' (X.env.qual ++ "<lambda>"))->s.heap.objs.size<=f->Q (.ref f) s'):wpAny (model X.prog X.w) X.A (eval (.Lambda params body scope pos) X.env) Q xe s:=by
 obtain⟨ps,hP,ht,hc⟩:=tb;have Vy:s.heap.get? P=some (tabObj ps):=I.cq P _ hP;have hg:s.heap.Ns mainGlobals X.mg:=I.mod.glob.keeps I.bk;have hgP:mainGlobals≠P:=fun z=>by
  obtain⟨o,es,ep,e,hd,_⟩:=hg;rw[z,Vy] at e;cases e;cases hd
 have hB:=B.at I.bk Vy;refine kla_eval Pd ?_;rcases hc with hn|⟨c',hf,Vz⟩
 ·refine kla_makeFunction qL I.ok.glob hg Fo (C.keeps I.bk) Vy ht hn hgP hB fun c' Fp h' tk hx OT ip XF Q1=>?_;have XG:H c'=none:=I.cq.fresh OT;have cP:c'≠P:=fun z=>by rw[z,hP] at XG; cases XG
  have lt: ∀b o,s.heap.get? b=some o->b≠c':=fun b o z=>a6 (bg (aM z) OT);have same: ∀b,b≠P->b≠c'->upd (upd H P (.mL (ps ++ #[rawInt pos.line,rawInt pos.col,.ref c']))) c' (yt c' (X.env.qual ++ "<lambda>")) b=H b:=fun b n1 n2=>by rw[az n2,az n1]
  have Mg: ∀b u,H b=some u->u≠ .mL ps->b≠P:=fun b u z n w=>by
   rw[w,hP] at z;cases z;exact n rfl
  have G3: ∀b u,H b=some u->b≠c':=fun b u z=>aJ z XG;generalize Vx:kla_obj "<lambda>" (X.env.qual ++ "<lambda>") params body scope [] ((X.mg "__name__").getD .none) c' Fp=ob;have hf:(h'.push ob).get? h'.objs.size=some ob:=by
   rw[← Vx];exact bL _ rfl
  have kp: ∀b o,b≠P->s.heap.get? b=some o->(h'.push ob).get? b=some o:=fun b o n z=>ax _ (hx b o n z);have S8:(h'.push ob).get? P=some (tabObj (ps ++ #[rawInt pos.line,rawInt pos.col,.ref c'])):=ax _ Q1;have I2:Inv X pins σ (upd (upd H P (.mL (ps ++ #[rawInt pos.line,rawInt pos.col,.ref c']))) c' (yt c' (X.env.qual ++ "<lambda>"))) {s with heap:=h'.push ob,toks:=tk}:=by
   refine I.un ⟨fun b o z n _ _=>kp b o (fun w=>by rw[w,hP] at n; cases n) z,fun b o z n _ _=>⟨o.slots,kp b o (fun w=>by rw[w,hP] at n; cases n) z⟩,fun b o z n _=>?_,fun b o z _=>?_,fun b xs z=>?_,fun b o u z=>?_,fun b qs z=>?_⟩ fun b u z=>?_
   ·rw[same b (fun w=>by rw[w,hP] at n; cases n) (lt b o z)];exact n
   ·by_cases w:b=P
    ·rw[w];exact⟨_,S8⟩
    ·exact⟨o,kp b o w z⟩
   ·rw[same b (Mg b _ z (by intro w; cases w)) (G3 b _ z)];exact z
   ·rw[same b (Mg b _ z (by intro w; cases w)) (G3 b _ z)];exact z
   ·by_cases w:b=P
    ·rw[w] at z ⊢;rw[hP] at z;cases z;exact⟨_,by rw[az cP.symm,ag]⟩
    ·exact⟨#[],by rw[same b w (G3 b _ z),z]; simp⟩
   ·by_cases w:b=c'
    ·subst w;rw[ag] at z;cases z;exact JC (XF.push ob)
    ·rw[az w] at z;by_cases w2:b=P
     ·subst w2;rw[ag] at z;cases z;exact S8
     ·rw[az w2] at z;refine(I.cq b u z).tP (fun d o hd y=>kp d o (fun w3=>?_) y) (fun d y=>?_) fun d xs y=>?_
      ·rcases hd with hd|hd
       ·exact w2 (hd▸w3)
       ·rw[w3,hP] at hd;cases hd
      ·rw[same d (Mg d _ y (by intro w; cases w)) (G3 d _ y)];exact y
      ·rw[same d (Mg d _ y (by intro w; cases w)) (G3 d _ y)];exact y
  have Lu:H h'.objs.size=none:=I.cq.fresh (aY OT (dr ip));refine q h'.objs.size c' Fp _ _ I2 (fun b o nb z=>?_) ⟨ps ++ #[rawInt pos.line,rawInt pos.col,.ref c'],by rw[az cP.symm,ag],?_,.inr ⟨c',?_,ag⟩⟩ ?_ (by rw[Vx]; exact hf) ag (aY OT (dr ip))
  ·rw[same b (fun w=>nb (by rw[w]; exact ao.mpr rfl)) (G3 b _ z)];exact z
  ·rw[Array.toList_append];exact TriplesOk_snoc _ _ _ _ ht
  ·rw[Array.toList_append];exact codeAmong_snoc _ ht hn
  ·rw[same _ (fun w=>by rw[w,hP] at Lu; cases Lu) (qe ip)];exact Lu
 ·refine kla_makeFunctionHit qL I.ok.glob hg Fo (C.keeps I.bk) Vy ht hf hB fun Fp h' tk hk hsz=>?_;have I2:=(I.kept (t':=tk) (h':=h'.push (kla_obj "<lambda>" (X.env.qual ++ "<lambda>") params body scope [] ((X.mg "__name__").getD .none) c' Fp)) fun b u z=>ax _ (hk b u z));exact q h'.objs.size c' Fp H _ I2 Frame.refl ⟨ps,hP,ht,.inr ⟨c',hf,Vz⟩⟩ (I.cq.fresh hsz) (bL _ rfl) Vz hsz
def JE {A:Around}{name qual:Str}{pm Fp:Value}{f c':Addr}{N ps:List Str}{us:List Value}{vs:List V}{t:TE}{R:VK}(I:Inv X pins σ H s)(e0:qw X.prog X.w X.K X.mg X.base A X.stack s H)(VA:A.depth < recursionLimit)
  (ho:s.heap.get? f=some (kla_obj name qual params body scope [] pm c' Fp)) (rE:s.heap.CodeRec (.ref c') qual) (S:aS N ps scope) (hb:bindArgs (kla_fn name qual params body scope [] pm (.ref c') Fp) ⟨us,[]⟩=pure (ps.zip us)) (hl:vs.length=ps.length) (r:Vals vs us)
  (fS:PE (vp X.prog X.w X.K X.mg X.base N qual scope f (.ref c') A X.stack s H E0).Dr body t) (h:t (start N vs) H R):wpAny (model X.prog X.w) A (call (.ref f) us) (EP X pins σ R) xe s:=by
 have lim:s.heap.NoLimit:=I.nolimit;have mP: ∀y∈ps.zip us,scope.names.lookup y.1=some .local∨(scope.names.lookup y.1=some .cell/\((cellsFrom (s.heap.objs.size + 1) scope.names []).lookup y.1).isSome=true):=fun⟨n,v⟩ hy=>by
  rcases S.par n (ou hy).1 with q|q
  ·exact .inl q
  ·exact .inr ⟨q,k6 _ _ _ (.inl q)⟩
 refine EH (kla_callFunE VA ho rfl S.co S.gen rfl rE ?_);rw[hb];refine bE ?_;refine tM S.kind mP fun env he s1 y=>?_;subst he;refine⟨lim.keeps y.toInCall.keep,kla_codeExpr ?_⟩;have J:Inv (vp X.prog X.w X.K X.mg X.base N qual scope f (.ref c') A X.stack s H E0) [] (start N vs) H s1:=vq S e0 hl r y;refine b9 (fS [] s1 (start N vs) H R (J.uH _) h) (fun v s' hs=>?_) fun e s' hs=>hs.elim;obtain⟨v',H',J',rv,q'⟩:=hs;exact I.after ⟨v',H',J'.os,J'.bare,J'.base,J'.cq,rv,q'⟩
end
section
variable {X:Cx}{pins:List (Addr×Obj)}{σ:St}{H:Hp}{s:Shared}
def Inv.S9 {D:Addr}{o:HO}(I:Inv X pins σ H s)(hn:H D=none)(ok:dv X.prog X.w (upd H D o) s.heap D o)(nw:(D∈X.ex∨X.s₀.heap.objs.size<=D)/\D≠X.env.locals/\(∀x k,X.env.cells.lookup x=some k->k≠D)/\ ∀p∈X.pn ++ pins,p.1≠D)
  (hx:X.s₀.heap.objs.size<=D):Inv X pins σ (upd H D o) s:=by
 have off: ∀b u,H b=some u->b≠D:=fun b u z=>aJ z hn;have low: ∀b ob,X.s₀.heap.get? b=some ob->b≠D:=fun b ob z=>a6 (bg (aM z) hx);refine⟨I.ok,I.os,I.bare,⟨I.base.keep,I.base.slot,fun b ob z n hb=>?_,I.base.there,fun b xs z=>?_,fun b ob u z=>?_,fun b ps z=>?_⟩,I.loc,I.cell,?_,fun x k z=>?_,fun p hp=>?_,fun b u z=>?_,I.len⟩
 ·rw[az (low b ob z)];exact I.base.free b ob z n hb
 ·have w:=I.base.qr b xs z;rw[az (off b _ w)];exact w
 ·have w:=I.base.pA b ob u z;rw[az (off b _ w)];exact w
 ·obtain⟨m,w⟩:=I.base.pB b ps z;exact⟨m,by rw[az (off b _ w)]; exact w⟩
 ·rw[az nw.2.1.symm];exact I.free
 ·rw[az (nw.2.2.1 x k z)];exact I.iJ x k z
 ·obtain⟨w1,w2,w3⟩:=I.pin p hp;exact⟨w1,by rw[az (nw.2.2.2 p hp)]; exact w2,w3⟩
 ·by_cases q:b=D
  ·subst q;rw[ag] at z;cases z;exact ok
  ·rw[az q] at z;exact(I.cq b u z).tP (fun _ _ _ w=>w) (fun d w=>by rw[az (off d _ w)]; exact w) fun d xs w=>by rw[az (off d _ w)]; exact w
def Frame.sql {K:Frag}{fp:List Addr}{H H':Hp}{a:Addr}{xs:List V}(f:Frame fp H H')(h:bA K H a xs)(ha: ∀o,H a=some o->a∉fp):bA K H' a xs:=by
 rcases h with(h|⟨o,h⟩)|h
 ·exact .inl (.inl (f _ _ (ha _ h) h))
 ·exact .inl (.inr ⟨o,f _ _ (ha _ h) h⟩)
 ·exact .inr h
def Tb.upd {P:Addr}{pos:Pos}{qual:Str}{p:Addr}{o:HO}(t:Tb H P pos qual)(hp:H p=none):Tb (upd H p o) P pos qual:=by
 obtain⟨ps,h1,h2,h3⟩:=t;refine⟨ps,by rw[az (aJ h1 hp)]; exact h1,h2,?_⟩;rcases h3 with h3|⟨c',h3,h4⟩
 ·exact .inl h3
 ·exact .inr ⟨c',h3,by rw[az (aJ h4 hp)]; exact h4⟩
def Frame.new {fp:List Addr}{H H':Hp}{p:Addr}{o:HO}(f:Frame fp H H')(hp:H' p=none):Frame fp H (L2.upd H' p o):=fun b u hb z=>by
 have w:=f b u hb z;rw[az (aJ w hp)];exact w
end
def Ny (K:Frag)(P:Addr)(pos:Pos)(qual:Str)(N:List Str)(tb:TE)(Q:VK)(x:V)(H1:Hp):Prop:= ∃(a:Addr) (xs:List V) (ts:List (List Int)) (key:List Int->Int),x= .ref a/\bA K H1 a xs/\xs.length < 64/\ts.length=xs.length/\Tb H1 P pos qual/\
 (∀t∈ts,t≠[])/\(∀t∈ts,∀u∈ts,HT.lexLt t u=decide (key t < key u))/\
 (∀i,i < xs.length-> ∀H2,Frame [P] H1 H2-> ∀R:VK,(∀p,H2 p=none->R (.ref p) (upd H2 p (.tup ((ts.getD i []).map V.int))))->tb (start N [xs.getD i .eh]) H2 R)/\
 ∀(D:Addr) (p:List Nat) (H2:Hp),p.Perm (List.range xs.length)->p.Pairwise (fun i j=>key (ts.getD i [])<=key (ts.getD j []))->Frame [P] H1 H2->Tb H2 P pos qual->H1 D=none->H2 D=some (.lst (p.map fun i=>xs.getD i .eh))->Q (.ref D) H2
def JF (K:Frag)(P:Addr)(pos:Pos)(qual:Str)(N:List Str)(ta tb:TE):TE:=fun σ H Q=>ta σ H (Ny K P pos qual N tb Q)
def gh.snoc {H:Hp}: ∀{ts:List (List Int)} {xs:List V} {t:List Int} {p:Addr},gh H ts xs->H p=some (.tup (t.map V.int))->gh H (ts ++ [t]) (xs ++ [.ref p])
 |_,_,_,p,.nil,h=> .cons ⟨p,rfl,h⟩ .nil
 |_,_,_,p,.cons a r,h=> .cons a (gh.snoc r h)
def take_succ_getD {α:Type}{l:List α}{i:Nat}{d:α}(h:i < l.length):l.take (i + 1)=l.take i ++ [l.getD i d]:=by
 rw[A2,af h,aj,af h];rfl
section
variable {X:Cx}{c P:Addr}{params:Arguments}{body e:Expr}{scope:Scope}{p pos JG RY:Pos}{ta tb:TE}{N:List Str}{y:Str}
def vt (hg:Gl X "sorted")(hm:X.mg "sorted"=none)(B:BMain X.mg X.base)(Fo:X.env.code= .ref c)(C:CodeHd X.base c P)(hr:eW 1 X.A)(S:aS N [y] scope)
  (fS: ∀(f c':Addr) (A:Around) (s:Shared) (H:Hp),PE (vp X.prog X.w X.K X.mg X.base N (X.env.qual ++ "<lambda>") scope f (.ref c') A X.stack s H E0).Dr body tb) (ha:PE X e ta)
  (hb: ∀(pm Fp u:Value) (c':Addr),bindArgs (kla_fn "<lambda>" (X.env.qual ++ "<lambda>") params body scope [] pm (.ref c') Fp) ⟨[u],[]⟩=pure ([y].zip [u]):=by intros; rfl)
  (Pd:defaultsOf params X.env=([],[]):=by rfl) (qL:closureFor scope X.env=pure []:=by rfl)
  (he:backTo pos (starEach [e] X.env)=(false,eval e X.env) :: backTo pos (starEach [] X.env):=by rfl)
  (hs:starEach [e] X.env=(false,eval e X.env) :: starEach [] X.env:=by rfl) (uP:(backTo pos (starEach [e] X.env)).any (·.1)=false:=by rfl):
  PE X (.Call (.Name "sorted" p) [e] [⟨some "key",.Lambda params body scope JG,RY⟩] pos) (JF X.K P JG (X.env.qual ++ "<lambda>") N ta tb):=by
 intro pins s σ H Q I h;refine eE (lS I hg hm (u:= .builtin "sorted") (by rfl) ?_);refine PyProof.Rows.callWith_kw (dO ((aa ha av hs) pos pins s σ H (fun vs H1=>match vs with|[x]=>Ny X.K P JG (X.env.qual ++ "<lambda>") N tb Q x H1|_=>False) I h) fun us s1 h1=>?_) he uP rfl rfl;obtain⟨vs,H1,I1,rv,q1⟩:=h1;cases vs with
 |nil=>exact q1.elim
 |cons x vs=>
 cases vs with
 |cons _ _=>exact q1.elim
 |nil=>
 obtain⟨a,xs,ts,key,rfl,hS,C9,ip,tb1,i9,IL,hbd,fin⟩:=q1;obtain⟨u,rfl,ru⟩:=vals1 rv;obtain rfl:u=Value.ref a:=ru;show wpAny _ _ (evalAll [(do let v ← eval (.Lambda params body scope JG) X.env; standAt pos; pure v)]) _ _ s1;refine wpAny_evalAll_cons (aA (JD I1 B Fo C tb1 Pd qL fun f c' Fp H2 s2 I2 fr2 tb2 Lu Pb Vz hle=>aA (il (bE (wpAny_evalAll_nil ?_)))));show wpAny _ _ (call (.builtin "sorted") [.ref a] [(Str.ofString "key",.ref f)]) _ _ s2;have aP: ∀o,H1 a=some o->a∉[P]:=fun o z w=>by
  obtain⟨ps,hP,_⟩:=tb1;have w':=ao.mp w;rcases hS with(hS|⟨_,hS⟩)|⟨ob,_,_,hK,qL,_⟩
  ·rw[w',hP] at hS; cases hS
  ·rw[w',hP] at hS; cases hS
  ·have e1:=I1.gH _ _ hK;have e2:s1.heap.get? P=some _:=I1.cq P _ hP;rw[w',e2] at e1;cases e1;cases qL
 have Pe:=fr2.sql hS aP;obtain⟨bY,XH,pl,hz⟩:=I2.list Pe;have hl:=XH.length;have lf:f < s2.heap.objs.size:=aM Pb;have XA:s1.heap.objs.size<=s2.heap.objs.size:=aY hle (dr lf);refine sortedK pl.isList (by lia) fun D kS e1 h' kp d1 k1 neD Q2 VB=>?_;have I3:=I2.kept (t':=s2.toks) kp;have HD:H2 D=none:=I2.cq.fresh Q2;have HK:H2 kS=none:=I2.cq.fresh VB;have Nz:=I2.jP Q2;have Pf:=I2.jP VB;have nwf:=I1.jP hle;have fD:f≠D:=a6 (bg lf Q2);have fK:f≠kS:=a6 (bg lf VB);have dp:X.A.in1.in1.depth < recursionLimit:=hr.depth;generalize Ta:kla_obj "<lambda>" (X.env.qual ++ "<lambda>") params body scope [] ((X.mg "__name__").getD .none) c' Fp=Q3 at Pb;have loop: ∀(r:List Value) (i:Nat) (ks:List Value) (bc:List V) (Hi:Hp) (si:Shared),r=bY.drop i->i<=xs.length->Inv X (pins ++ [(f,Q3),(D,seqObj "list" #[] e1)]) σ Hi si->(∃e,si.heap.get? kS=some (seqObj "list" ks.toArray e))->Hi kS=none->
   Frame [P] H1 Hi->Tb Hi P JG (X.env.qual ++ "<lambda>")->Hi c'=some (yt c' (X.env.qual ++ "<lambda>"))->gh Hi (ts.take i) bc->Vals bc ks->
   sY X.prog X.w X.A.in1.in1 kS (.ref f) (GV X.prog X.w X.A.in1.in1 D kS e1 bY (fun s'=>EP X pins σ Q (.ref D) s')) r ks si:=by
  intro r
  induction r with
  |nil=>
   intro i ks bc Hi si hr hi Ii hk Mh VC XI VD hT rk;have ei:i=xs.length:=by
    have:=cJ List.length hr;rw[wG,mC] at this;lia
   have Lb:gh Hi ts bc:=by rwa [ei,← ip,a7] at hT
   have lk:bc.length=xs.length:=by have:=Lb.length; lia
   have lk2:=rk.length;obtain⟨w1,w2,_⟩:=Ii.pin (D,seqObj "list" #[] e1) (List.mem_append_right _ (List.mem_append_right _ (by simp)));refine⟨tuples' true,fun i=>key (ts.getD i []),neD,w1,fun h2 Q' q'=>?_,fun a b C ha hb q'=>?_,fun pr h5 n Tc hUp hsz hD5 Fq=>?_⟩
   ·obtain⟨fs,f1,f2,f3⟩:=sh Ii (fun _ _ z=>z) Lb rk i9;refine kat_kind (T:= .type "int") f1 (by lia) (fun v hv=>?_) rfl q';obtain⟨n,t,rfl⟩:=f3 v hv;exact Looks.of_pure rfl
   ·obtain⟨p1,g1,g2⟩:=Lb.get (i:=a) (by lia);obtain⟨p2,g3,g4⟩:=Lb.get (i:=b) (by lia);have v1:=jy rk a;have v2:=jy rk b;rw[g1] at v1;rw[g3] at v2;have v1':ks.getD a Value.none= .ref p1:=v1;have v2':ks.getD b Value.none= .ref p2:=v2;rw[v1',v2'];obtain⟨o1,Xi,n1,GO,hc1,lZ,SA⟩:=Ii.tupI g2;obtain⟨o2,Gz,n2,QT,LZ,hd2,SD⟩:=Ii.tupI g4;refine kat_lt GO lZ QT hd2 ?_;have l1:=SA.length;have l2:=SD.length;have m1:ts.getD a []∈ts:=by rw[aj,af (show a < ts.length by lia)]; exact bG _
    have m2:ts.getD b []∈ts:=by rw[aj,af (show b < ts.length by lia)]; exact bG _
    have kx:=mX (prog:=X.prog) (w:=X.w) (A:=X.A.in1.in1) (b:=true) (Q:=C) (s:=si) 0 SA SD (by rw[IL _ m1 _ m2]; exact q');rw[bB,bB,l1,l2];exact kx
   ·have In:=Ii.i7;have bt:m8 (Dn X.stack) [D,kS] si.heap h5:=fun b o z nb=>by
     have n1:b≠D:=fun w=>nb (by simp[w]);have n2:b≠kS:=fun w=>nb (by simp[w]);have e:=(Fq b n1 n2).trans z;exact⟨fun _=>e,o.slots,e⟩
    have I5:=In.but bt (fun cc hc=>by
     rcases aw.mp hc with rfl|hc
     ·exact⟨w2,Nz⟩
     ·rw[ao.mp hc];exact⟨Mh,Pf⟩)
    have lp:=Tc.size;have I6:=I5.S9 (D:=D) (o:= .lst (pr.toList.map fun i=>xs.getD i .eh)) w2 ⟨by rw[ae,ox,lp]; exact aY (iE hl.symm) hz,_,n,sf XH pr.toList,hD5⟩ Nz (aY I2.sz Q2);refine⟨.ref D,_,I6,rfl,fin D pr.toList _ ?_ ?_ (VC.new w2) (XI.upd w2) (I1.cq.fresh (aY XA Q2)) ag⟩
    ·have:=Tc.list;rwa [← hl] at this
    ·exact sT lp hUp
  |cons v r ih=>
   intro i ks bc Hi si hr hi Ii hk Mh VC XI VD hT rk;have wR:i < xs.length:=by
    have:=cJ List.length hr;rw[bS,mC] at this;lia
   have hv:v=bY.getD i Value.none/\r=bY.drop (i + 1):=by
    rw[N6 (by lia)] at hr;injection hr with h1 h2;refine⟨?_,h2⟩;rw[h1,aj,af (by lia)];rfl
   obtain⟨hv,XJ⟩:=hv;obtain⟨ek,hk⟩:=hk;have Ip:Inv X (pins ++ [(f,Q3),(D,seqObj "list" #[] e1)] ++ [(kS,seqObj "list" ks.toArray ek)]) σ Hi si:=Ii.ui fun p hp=>by
    rcases bq.mp hp with hp|hp
    ·exact Ii.pin p (bu _ hp)
    ·rw[ao.mp hp];exact⟨hk,Mh,Pf.2.1,I2.Gn VB,fun v z=>by cases z⟩
   have XM:si.heap.get? f=some Q3:=(Ip.pin (f,Q3) (List.mem_append_right _ (List.mem_append_left _ (List.mem_append_right _ (by simp))))).1;have rE:si.heap.CodeRec (.ref c') (X.env.qual ++ "<lambda>"):=(Ip.cq c' _ VD).1;have rvi:=jy XH i;rw[← hv] at rvi;show wpAny _ _ (call (.ref f) [v]) _ _ si;refine b9 (JE (us:=[v]) (vs:=[xs.getD i .eh]) (R:=fun y H'=> ∃p,y= .ref p/\Hi p=none/\H'=upd Hi p (.tup ((ts.getD i []).map V.int))) (xe:=fun _ _=>False) Ip Ip.IS.in1.in1 dp (by rw[XM,← Ta]) rE S (hb _ _ _ _) rfl (.cons rvi .nil) (fS _ _ _ _ _)
    (hbd i wR Hi VC _ fun p hp=>⟨p,rfl,hp,rfl⟩)) (fun u s5 h5=>?_) fun _ _ z=>z
   obtain⟨y,H5,I5,ry,pp,rfl,Iq,rfl⟩:=h5;obtain rfl:u=Value.ref pp:=ry;obtain⟨z1,z2,_⟩:=I5.pin (kS,seqObj "list" ks.toArray ek) (List.mem_append_right _ (List.mem_append_right _ (by simp)));refine⟨ek,z1,fun h6 cc sb hk6=>?_⟩;have I6:Inv X (pins ++ [(f,Q3),(D,seqObj "list" #[] e1)]) σ _ _:=Inv.i7 I5;have I7:=I6.turned (t':=s5.toks) (it:=kS) (h':=h6) (fun b o n z=>(sb.2 b n).trans z) z2 Pf.2.1 Pf.1 Pf.2.2.1 (fun p hp=>by
    rcases bq.mp hp with hp|hp
    ·exact Pf.2.2.2 p (cX _ hp)
    ·rcases bq.mp hp with hp|hp
     ·exact Pf.2.2.2 p (bu _ hp)
     ·rcases aw.mp hp with rfl|hp
      ·exact fK
      ·rw[ao.mp hp];exact neD)
   have cpp:c'≠pp:=aJ VD Iq;refine ih (i + 1) (ks ++ [.ref pp]) (bc ++ [.ref pp]) _ _ XJ wR I7 ⟨cc,hk6⟩ z2 (VC.new Iq) (XI.upd Iq) (by rw[az cpp]; exact VD) ?_ (rk.append (show Vals [V.ref pp] [Value.ref pp] from .cons rfl .nil));rw[take_succ_getD (d:=[]) (by lia)];exact gh.snoc (hT.mono fun b xs z=>by rw[az (aJ z Iq)]; exact z) ag
 have Ip:Inv X (pins ++ [(f,Q3),(D,seqObj "list" #[] e1)]) σ H2 {s2 with heap:=h'}:=I3.ui fun p hp=>by
  rcases bq.mp hp with hp|hp
  ·exact I3.pin p (bu _ hp)
  ·rcases aw.mp hp with rfl|hp
   ·exact⟨kp _ _ Pb,Lu,nwf.2.1,I1.Gn hle,fun v z=>by rw[← Ta] at z; cases z⟩
   ·rw[ao.mp hp];exact⟨d1,HD,Nz.2.1,I2.Gn Q2,fun v z=>by cases z⟩
 exact loop bY 0 [] [] H2 _ rfl (bh _) Ip ⟨0,k1⟩ HK fr2 tb2 Vz .nil .nil
end
def G4 {P:Program}{w:World}{K:Frag}{mg mb:Str->Option Value}{CX:ER}{k:Nat}{fa a:Addr}{fd:FuncData}{x:Str}{sp:Sp}{s₁:Shared}{vs:List Value}{ns:List Int}{cps:List (Addr×Addr)}
  (KX:K.In s₁.heap) (hns:s₁.heap.Ns mainGlobals mg) (hb:s₁.heap.Ns builtinsNs mb) (hbb: ∀x:Str,x≠"__name__"->mb x=bootBuiltins x) (XN:s₁.heap.NoLimit) (hg:s₁.gens= #[])
  (ha:s₁.heap.get? a=some {cls:= .type "list",data:= .seq vs.toArray}) (hi:IntsAre vs ns) (hl:ns.length<=sizeLine) (hr:eW k callerA)
  (bm:BMain mg s₁.heap) (Q1: ∀cp∈cps,s₁.heap.get? cp.2=some (tabObj #[])) (Td: ∀cp∈cps,codeHdIn K cp.1 cp.2=true/\K.lookup cp.2=none)
  (F: ∀base:Heap,K.In base->base.Ns mainGlobals mg->BMain mg base->lV P w K mg base CX k fa fd [x] sp) (Te: ∀(s:Shared) (u:Value),BindsTo s fd ⟨[u],[]⟩ [(x,u)])
  (y1: ∀H:Hp,(∀cp∈cps,H cp.2=some (.mL #[]))->bA K H a (ns.map V.int)->sp [.ref a] H (fun v _=>v= .bl true) fun _ _ _=>False)
  (hCX: ∀H e s',CX [] H s₁ (fun _ _ _=>False) e s'->False):
  codeAny (model P w) callerA (.call (.ref fa) ⟨[.ref a],[]⟩) (fun r s'=>r= .ok (.ret (.bool true))/\OldK s₁.heap s'.heap/\s'.os=s₁.os/\AllBare s'.gens) s₁:=by
 have rv:=yh hi;have Tf:=hi.length;have aT: ∀cp∈cps,cp.2≠a:=fun cp hc z=>by
  have e:=Q1 cp hc;rw[z,ha] at e;cases e
 have core: ∀H:Hp,(∀b,H b=none∨(b=a/\H b=some (.C8 {cls:= .type "list",data:= .seq vs.toArray} (.lst (ns.map V.int)))/\K.lookup a=none)∨ ∃cp∈cps,b=cp.2/\H b=some (.mL #[]))->(∀cp∈cps,H cp.2=some (.mL #[]))->bA K H a (ns.map V.int)->
   codeAny (model P w) callerA (.call (.ref fa) ⟨[.ref a],[]⟩) (fun r s'=>r= .ok (.ret (.bool true))/\OldK s₁.heap s'.heap/\s'.os=s₁.os/\AllBare s'.gens) s₁:=by
  intro H hO hT hS;have cq:oz P w H s₁.heap:=fun b u z=>by
   rcases hO b with w|⟨rfl,w,_⟩|⟨cp,hc,rfl,w⟩
   ·rw[z] at w; cases w
   ·rw[z] at w;cases w;exact⟨ha,by rw[ae]; exact hl,vs,_,rv,ha⟩
   ·rw[z] at w;cases w;exact Q1 cp hc
  have zy: ∀{b:Addr} {o:Obj},s₁.heap.get? b=some o->H b=none->(wH s₁.heap H).get? b=some o:=fun e n=>IB e n;have noD: ∀{b:Addr} {o:Obj},s₁.heap.get? b=some o->((∃es ep,o.data= .dict es ep)∨o.data= .plain)->H b=none:=fun{b o} e d=>by
   rcases hO b with w|⟨rfl,w,_⟩|⟨cp,hc,rfl,w⟩
   ·exact w
   ·rw[ha] at e;cases e;rcases d with⟨es,ep,d⟩|d <;> cases d
   ·rw[Q1 cp hc] at e;cases e;rcases d with⟨es,ep,d⟩|d <;> cases d
  have VE: ∀{b:Addr} {m:Str->Option Value},s₁.heap.Ns b m->(wH s₁.heap H).Ns b m:=fun{b m} ⟨o,es,ep,e,d,r⟩=>⟨o,es,ep,zy e (noD e (.inl ⟨es,ep,d⟩)),d,r⟩;have hKb:K.In (wH s₁.heap H):=fun b o e=>zy (KX b o e) (by
   rcases hO b with w|⟨rfl,w,hk⟩|⟨cp,hc,rfl,w⟩
   ·exact w
   ·rw[hk] at e; cases e
   ·rw[(Td cp hc).2] at e; cases e)
  have hBb:BMain mg (wH s₁.heap H):=by
   obtain⟨b,o,b1,b2,b3,b4,b5,b6,b7⟩:=bm;exact⟨b,o,b1,b2,b3,zy b4 (noD b4 (.inr b7)),b5,b6,b7⟩
  have hM:Mod K mg (wH s₁.heap H):=⟨hKb,VE hns,⟨mb,VE hb,hbb⟩,let⟨mc,h1,h2⟩:=XN; ⟨mc,VE h1,h2⟩⟩;have e0:qw P w K mg (wH s₁.heap H) callerA [] s₁ H:=⟨rfl,hM,fun b o e=>Lp e,Nat.le_of_eq (Gm _ _),trivial,fun b hb=>absurd (show b∈([]:List Addr) from hb) (by simp),cq,.of_eq hg⟩;refine Dl ((F _ hKb (VE hns) hBb).run callerA [] s₁ H ⟨[.ref a],[]⟩ [.ref a] [.ref a] _ _ hr e0 (Te s₁ (.ref a)) (.cons rfl .nil) (y1 H hT hS)) fun r s' h=>?_;cases r with
  |error e=>exact(hCX H e s' h).elim
  |ok fl=>
   cases fl with
   |next=>exact False.elim h
   |brk=>exact False.elim h
   |cont=>exact False.elim h
   |ret u=>
    obtain⟨v,H',os,bare,un,Tg,r',q⟩:=h;have q':v= .bl true:=q;subst q';obtain rfl:u=Value.bool true:=r';have old: ∀b o,s₁.heap.get? b=some o->asItWas s₁.heap s'.heap b o:=fun b o e=>by
     rcases hO b with z|⟨rfl,z,_⟩|⟨cp,hc,rfl,z⟩
     ·exact .inl (un.keep b o e z (by intro w; exact absurd (show b∈([]:List Addr) from w) (by simp)) (by simp))
     ·have z2:=un.pA b _ _ z;obtain⟨e2,_⟩:=Tg b _ z2;rw[ha] at e;cases e;exact .inl e2
     ·obtain⟨more,z2⟩:=un.pB _ _ z;have e2:s'.heap.get? cp.2=some (tabObj (#[] ++ more)):=Tg _ _ z2;have e1:=Q1 cp hc;rw[e1] at e;cases e;obtain⟨oc,ws,_,_,_,_,_,_,_,c1,c2,c3,c4,_⟩:=codeHd_of_K KX (Td cp hc).1;exact .inr (.inl ⟨⟨cp.1,oc,ws,c1,c2,c3,c4⟩,rfl,#[],more,rfl,e2⟩)
    refine⟨rfl,⟨old,fun b o e=>?_⟩,os,bare⟩;exact un.there b o e (by simp)
 cases hk:K.lookup a with
 |some o=>
  have e:=KX a o hk;rw[ha] at e;cases e;refine core (fun b=>if b∈cps.map (·.2) then some (.mL #[]) else none) (fun b=>?_) (fun cp hc=>if_pos (List.mem_map.mpr ⟨cp,hc,rfl⟩)) (.inr ⟨_,vs.toArray,_,hk,rfl,rfl,rfl,by rw[List.size_toArray,Tf]; exact hl,by simpa using rv⟩);by_cases hb:b∈cps.map (·.2)
  ·obtain⟨cp,hc,rfl⟩:=bF.mp hb;exact .inr (.inr ⟨cp,hc,rfl,a8 hb⟩)
  ·exact .inl (aU hb)
 |none=>
  have na:a∉cps.map (·.2):=fun h=>by
   obtain⟨cp,hc,z⟩:=bF.mp h;exact aT cp hc z
  refine core (fun b=>if b=a then some (.C8 {cls:= .type "list",data:= .seq vs.toArray} (.lst (ns.map V.int))) else if b∈cps.map (·.2) then some (.mL #[]) else none) (fun b=>?_) (fun cp hc=>?_) (.inl (.inr ⟨{cls:= .type "list",data:= .seq vs.toArray},a8 rfl⟩))
  ·by_cases h1:b=a
   ·exact .inr (.inl ⟨h1,by rw[a8 h1],hk⟩)
   ·by_cases hb:b∈cps.map (·.2)
    ·obtain⟨cp,hc,rfl⟩:=bF.mp hb;exact .inr (.inr ⟨cp,hc,rfl,by rw[aU h1,a8 hb]⟩)
    ·exact .inl (by rw[aU h1,aU hb])
  ·show(if cp.2=a then _ else if cp.2∈cps.map (·.2) then _ else _)=_;rw[aU (aT cp hc),a8 (bF.mpr ⟨cp,hc,rfl⟩)]
def JH {l:PySem.W.OpenLaw}{n k:Nat}{q:Program}{loose:List Str}{XP:(Str->Option Value)->Heap->Prop}{YP:World->Heap->Prop}{d:DefRec}{K:Params->Frag}{ts:List Addr}{sp:Frag->List (Addr×Addr)->Sp}{x:Str}
  (hn:l.most=some n) (Vk:n<=sizeLine) (WZ:d.params.defaults=[]) (hr:eW k callerA)
  (hY: ∀(w:World) (h:Heap),YP w h->(K w.params).In h/\ ∀P∈ts,h.get? P=some (tabObj #[]))
  (F: ∀(w:World) (mg:Str->Option Value) (fa:Addr) (h:Heap),(K w.params).In h->h.Ns mainGlobals mg->mg d.name=some (.ref fa)->
   ∃(fd:FuncData) (cps:List (Addr×Addr)),(∀cp∈cps,cp.2∈ts)/\(∀cp∈cps,codeHdIn (K w.params) cp.1 cp.2=true/\(K w.params).lookup cp.2=none)/\(∀(s:Shared) (u:Value),BindsTo s fd ⟨[u],[]⟩ [(x,u)])/\
    ∀base:Heap,(K w.params).In base->base.Ns mainGlobals mg->BMain mg base->lV l.prog w (K w.params) mg base rZ k fa fd [x] (sp (K w.params) cps))
  (y1: ∀(K:Frag) (cps:List (Addr×Addr)) (H:Hp) (a:Addr) (ns:List Int),ns.length<=n->(∀cp∈cps,H cp.2=some (.mL #[]))->bA K H a (ns.map V.int)->sp K cps [.ref a] H (fun v _=>v= .bl true) fun _ _ _=>False):
  PySem.W.WalkO q loose XP YP l.row.toRowW d [] (fun f vs=>PySem.call f vs):=by
 refine ZP.By hn WZ fun w s₀ s₁ mg mb fa o pm cd doc a vs ns G Y ho hd rE Sk OL hints hlen hg=>?_;obtain⟨KX,hT⟩:=hY w _ Y;obtain⟨fd,cps,h1,h2,hb,hF⟩:=F w mg fa _ KX G.T.g Sk;obtain⟨bm,ob,b1,b2,b3,b4,b5,b6⟩:=G.T.bmain;have b7:bm≠mainGlobals:=fun z=>by
  obtain⟨o',es,ep,e,Il,_⟩:=G.T.g;rw[z,e] at b3;cases b3;rw[Il] at b6;cases b6
 exact G4 KX G.T.g G.T.b G.T.builtins G.T.nolimit hg OL hints (aY hlen Vk) hr ⟨bm,ob,b1,b2,b7,b3,b4,b5,b6⟩ (fun cp hc=>hT _ (h1 cp hc)) h2 hF hb (fun H hO hS=>y1 _ cps H a ns hlen hO hS) fun H e s' z=>z
def Lc {C:ER}{P:Program}{w:World}{K:Frag}{mg:Str->Option Value}{base:Heap}{N:List Str}{q:Str}{sc:Scope}{f:Addr}{cd:Value}{A:Around}{o:List Env}{s:Shared}{H:Hp}{E:XK}:(kK C P w K mg base N q sc f cd A o s H E).Dr.K=K:=rfl
section
variable {X:Cx}{K:Frag}{x:Str}{k n:Nat}{ps:List Str}{sp:Sp}{e:Expr}{es:List Expr}{t:TA}{p pos:Pos}
def fc (C:eI X.prog X.w X.K X.mg X.base x k ps sp)(hr:eW n X.A)(ha:PA X (e :: es) t)(hle:k<=n:=by decide)(hg:Gl X x:=by rfl)(qx:(x == ("__debug__":Str))=false:=by decide)
  (he:starEach (e :: es) X.env=(false,eval e X.env) :: starEach es X.env:=by rfl) (gw:(backTo pos (starEach es X.env)).any (·.1)=false:=by rfl):PE X (.Call (.Name x p) (e :: es) [] pos) (uM sp [] E0 t):=Ss C (hr.mono hle) hg ha qx he gw
def sv (i:Nat){te:TE}{pos':Pos}(hN:X.N.Nodup)(he:PE X e te)(hi:X.N[i]? =some x:=by rfl)(hx:Loc X.env.scope x:=by first|exact Or.inl rfl|exact Or.inr rfl)(hs:swapsWith e (some (.Name x pos')) pos.line X.env=pure false:=by rfl)(hf:X.fn x=true∨X.env.scope.names.lookup x=some .local:=by first|exact .inl rfl|exact .inr rfl|assumption):
  PS X (.Assign [.Name x pos'] e pos) (Lx te (Bj i)):=Oi hN hi hx he hs hf
def gn (i:Nat)(hN:X.N.Nodup)(hi:X.N[i]? =some x:=by rfl)(hx:Loc X.env.scope x:=by first|exact Or.inl rfl|exact Or.inr rfl)(hf:X.fn x=true∨X.env.scope.names.lookup x=some .local:=by first|exact .inl rfl|exact .inr rfl|assumption):PG X (.Name x pos) (Bj i):=dQ hN hi hx hf
def xl {a b:Expr}{ta tb:TE}(ha:PE X a ta)(hb:PE X b tb)(hs:y3 b:=by exact fun _ _=>rfl)(hK:X.K=K:=by first|with_reducible exact Lc|with_reducible exact kx|rfl):PE X (.Subscript a b pos) (QS (Ox K) ta tb):=by subst hK; exact i8 y4 ha hb hs
def xt {a b:Expr}{ta tb:TE}(ha:PE X a ta)(hb:PE X b tb)(hs:y3 b:=by exact fun _ _=>rfl)(hK:X.K=K:=by first|with_reducible exact Lc|with_reducible exact kx|rfl):PE X (.Subscript a b pos) (QS (Oy K) ta tb):=by subst hK; exact i8 DD ha hb hs
def rH {tg l:Expr}{tl:TE}(hl:PE X l tl)(hK:X.K=K:=by first|with_reducible exact Lc|with_reducible exact kx|rfl):PI X tg l (Ni K tl):=by subst hK; exact Lz hl
def gT {es:List Expr}{k:Nat}{t:Lw}{n:Nat}(h:ID X es t)(hc:X.calm=true:=by rfl)(hn:(assignEach es X.env).length=n:=by first|exact(rfl:_ =2)|exact(rfl:_ =3)|exact(rfl:_ =4)|rfl)(rF:(assignEach es X.env).findIdx? (·.1)=none:=by rfl)(hK:X.K=K:=by first|with_reducible exact Lc|with_reducible exact kx|rfl):PG X (.Tuple es k pos) (Oh K n t):=by subst hK; exact IE hc h hn rF
def Th (hK:X.K=K:=by first|with_reducible exact Lc|with_reducible exact kx|rfl):Nm X (R3 K):=by subst hK; exact LJ
def km {f:Str}{ta:TE}(he:PE X e ta)(hb:attributeBase e f X.env (eval e X.env)=eval e X.env:=by rfl)(hK:X.K=K:=by first|with_reducible exact Lc|with_reducible exact kx|rfl):PE X (.Attribute e f pos) (Ot K ta f):=by subst hK; exact IQ he hb
def l9 {o value:Expr}{f:Str}{pos':Pos}{ta tv:TE}(ha:PE X o ta)(hv:PE X value tv)(hs:swapsWith value (some (.Attribute o f pos')) pos.line X.env=pure false:=by rfl)(hK:X.K=K:=by first|with_reducible exact Lc|with_reducible exact kx|rfl):PS X (.Assign [.Attribute o f pos'] value pos) (RX K ta tv f):=by subst hK; exact Ov ha hv hs
end
inductive EvN (xs:List V)(S:Addr->List V->Prop)(k:Int->Prop):Prop
 |mk (p:Addr)(ys:List V)(h:xs=[.ref p])(s:S p ys)(q:k ys.length):EvN xs S k
def Ti (K:Frag):List V->Hp->VK->Prop:=fun xs H Q=>EvN xs (fun p ys=>bA K H p ys∨cf K H p ys) fun n=>Q (.int n) H
def G5 {X:Cx}:gZ X (.builtin "len") (Ti X.K):=fun pins s σ H xs us Q I rv h=>zf pins s σ H xs us Q I rv (by obtain⟨p,ys,e,z,q⟩:=h; exact⟨p,ys,e,z,q⟩)
inductive EvS (K:Frag)(xs:List V)(H:Hp)(k:Bool->Prop):Prop
 |mk (x:V)(c:String)(t:Value)(b:Bool)(h:xs=[x,.ty c])(ty:mF K H x t)(e:PySem.W.kitOne K t (.type c)=some b)(q:k b):EvS K xs H k
def rIs (K:Frag):List V->Hp->VK->Prop:=fun xs H Q=>EvS K xs H fun b=>Q (.bl b) H
def JI {X:Cx}:gZ X (.builtin "isinstance") (rIs X.K):=fun pins s σ H xs us Q I rv h=>DK pins s σ H xs us Q I rv (by obtain⟨x,c,t,b,e,ty,z,q⟩:=h; exact⟨x,c,t,b,e,ty,z,q⟩)
section
variable {X:Cx}{K:Frag}{o e:Expr}{p pos apos gy:Pos}{to te:TE}
def ma (hm:X.mg "len"=none)(h:PE X e te)(hg:Gl X "len":=by rfl)(he:starEach [e] X.env=(false,eval e X.env) :: starEach [] X.env:=by rfl)(gw:(backTo pos (starEach [] X.env)).any (·.1)=false:=by rfl)(hK:X.K=K:=by first|with_reducible exact Lc|with_reducible exact kx|rfl):PE X (.Call (.Name "len" p) [e] [] pos) (Vl (Ti K) (Bp te Bo)):=by
 subst hK;exact eM G5 hg hm PySem.boot_len (aa h av he) (by decide) (by decide) he gw
def vv {c:String}{y:Str}{p2:Pos}(hm:X.mg "isinstance"=none)(hy:X.mg y=none)(hb:bootBuiltins y=some (.type c))(h:PE X e te)(hg:Gl X "isinstance":=by rfl)(hg2:Gl X y:=by rfl)(hn:y≠"__name__":=by decide)(hd:(y == ("__debug__":Str))=false:=by decide)(he:starEach [e,.Name y p2] X.env=(false,eval e X.env) :: starEach [.Name y p2] X.env:=by rfl)(W9:starEach [.Name y p2] X.env=(false,eval (.Name y p2) X.env) :: starEach [] X.env:=by rfl)(gw:(backTo pos (starEach [.Name y p2] X.env)).any (·.1)=false:=by rfl)(hK:X.K=K:=by first|with_reducible exact Lc|with_reducible exact kx|rfl):PE X (.Call (.Name "isinstance" p) [e,.Name y p2] [] pos) (Vl (rIs K) (Bp te (Bp (tC (.ty c)) Bo))):=by
 subst hK;exact eM JI hg hm boot_isinstance (aa h (aa (yX (v:= .ty c) hg2 hy hb rfl hn hd) av W9) he) (by decide) (by decide) he gw
def oS (ho:PE X o to)(h:PE X e te)(qA:attributeBase o "append" X.env (eval o X.env)=eval o X.env:=by rfl)
  (OC:((backTo gy (starEach [e] X.env)).all (fun x=> !x.1) && (backToKw gy (keywordEach [] X.env)).all (fun x=>x.1.isSome)
   && decide ([e].length + ([]:List Keyword).length + (if([]:List Keyword).isEmpty then 0 else 1) < 30))=true:=by rfl)
  (uO:(apos.endLine == gy.line)=true:=by rfl) (hs:starEach [e] X.env=(false,eval e X.env) :: starEach [] X.env:=by rfl) (uP:(backTo gy (starEach [] X.env)).any (·.1)=false:=by rfl) (hK:X.K=K:=by first|with_reducible exact Lc|with_reducible exact kx|rfl):PE X (.Call (.Attribute o "append" apos) [e] [] gy) (ZK K "list" EY to (Bp te Bo)):=by
 subst hK;exact R4 PySem.F.plainAttrs_list PySem.F.slot_list_append PySem.F.type_list_append yd ho (aa h av hs) qA OC uO hs uP
end
def Df.eX {P:Program}{w:World}{K:Frag}{mg:Str->Option Value}{base:Heap}{x:Str}{st:Stmt}{N ps:List Str}{k:Nat}{sp:Sp}(D:Df K mg x st)(S:aS N ps (ay st))
  (fS: ∀(f:Addr) (cO:Value) (A:Around) (outer:List Env) (s:Shared) (H:Hp) (vs:List V) (Q:VK) (E:XK),eW k (A.deeper (envOfC x (ay st) s.heap.objs.size f cO))->sp vs H Q E->
   ∃t,oO (kK rZ P w K mg base N x (ay st) f cO A outer s H E).Dr (dz st) t/\t {nx:=fun _ H'=>Q .eh H',rt:=Q} (start N vs) H)
  (hb: ∀(kV doc pm:Value) (an:Option Addr) (cO ct:Value) (us:List Value),us.length=ps.length->bindArgs (fnOf x x (gz st) (dz st) (ay st) .none kV doc pm an cO ct) ⟨us,[]⟩=pure (ps.zip us):=by intro _ _ _ _ _ _ us hl; rcases us with _|⟨_,_|⟨_,_|⟨_,_|⟨_,_|⟨_,_|⟨_,_|⟨_,_⟩⟩⟩⟩⟩⟩⟩ <;> first|(cases hl; done)|rfl)
  (len: ∀vs H Q E,sp vs H Q E->vs.length=ps.length:=by intro _ _ _ _ h; first|(cases h; subst_vars; rfl)|(repeat (first|(obtain⟨rfl,_⟩:=h; rfl; done)|obtain⟨_,h⟩:=h))):eI P w K mg base x (k + 1) ps sp:=D.cal S hb len fS
end L2
namespace eB
open PySem L2 PyProof.Rows K7
seal L2.oO L2.PS L2.PE L2.PT L2.PW L2.PA L2.PC L2.PG L2.ID L2.PI L2.LO L2.K3 L2.PO L2.oA L2.Nk L2.gZ L2.IX L2.Nm
def top (i:Nat):Stmt:=PySem.Challenge.pw_spikebook_k09_ages.main.body.getD i (.Pass ⟨0,0,0,0⟩)
structure Txt (K:Frag)(mg:Str->Option Value):Prop where
 DV:Df K mg "place_of" (top 1)
 Pg:Df K mg "fits" (top 15)
 wY:Df K mg "counts_from" (top 16)
 G6:Df K mg "bills_in_order" (top 17)
 DW:Df K mg "credits_in_order" (top 18)
 Mi:Df K mg "alike" (top 20)
 wZ:Df K mg "first_alike" (top 21)
 zz:Df K mg "shared_out" (top 22)
 DX:Df K mg "parts_of" (top 23)
 vw:Df K mg "check_amount" (top 26)
 w6:Df K mg "row_of_fits" (top 27)
 Ph:Df K mg "done" (top 30)
 zA:Df K mg "done_again" (top 31)
 G7:Df K mg "answers" (top 33)
 zB:Df K mg "answers_in" (top 34)
 BL:Df K mg "answer_of" (top 35)
 G8:Df K mg "owed_at" (top 36)
 G9:Df K mg "free_at" (top 37)
 vx:Df K mg "remaining_at" (top 38)
 w9:Df K mg "counting_at" (top 39)
 BN:Df K mg "counts_at" (top 40)
 Hb:Df K mg "ages_at" (top 41)
 BO:Df K mg "_law_room" (top 43)
 BP:Df K mg "_law_draw" (top 44)
 zC:Df K mg "_law_whole" (top 45)
 Hc:Df K mg "_law_at" (top 46)
 zE:Df K mg "_law_alike" (top 47)
 xa:Df K mg "_law_people" (top 48)
 xc:Df K mg "_law_penned" (top 49)
 xg:Df K mg "_law_chosen" (top 50)
 zF:Df K mg "_law_hasty" (top 51)
 xh:Df K mg "_law_due_in" (top 52)
 zG:Df K mg "_law_deeds" (top 53)
 zH:Df K mg "_law_begun" (top 54)
 BQ:Df K mg "_law_goes" (top 55)
 DY:Df K mg "_law_put" (top 56)
 vy:Df K mg "_law_in_turn" (top 57)
 zI:Df K mg "_law_swept" (top 58)
 xi:Df K mg "_law_barred" (top 59)
 zJ:Df K mg "_law_enter" (top 60)
 xj:Df K mg "_law_worked" (top 61)
 zK:Df K mg "_law_tells" (top 62)
 BR:Df K mg "_law_done" (top 63)
 xk:Df K mg "_law_at_day" (top 64)
 BS:Df K mg "_law_aged" (top 65)
 tV:Df K mg "_law_reported" (top 66)
 oE:Df K mg "_law_gone_through" (top 67)
 aal:Df K mg "law" (top 68)
 dB:mg "len"=none
 dg:mg "isinstance"=none
 vz:mg "int"=none
 Pj:mg "bool"=none
 Fs:mg "str"=none
 vA:mg "list"=none
 um:mg "tuple"=none
 ju:mg "range"=none
 JJ:mg "min"=none
 NA:mg "max"=none
 BU:mg "sum"=none
 qM:mg "sorted"=none
 jb:mg "enumerate"=none
 Pk:mg "dict"=none
 BV:mg "Exception"=none
end eB
namespace L2
open PySem PySem.Spec PySem.W PyProof.Rows K7
structure XO (P:Program)(w:World)(K:Frag)(mg:Str->Option Value)(base:Heap)(k:Nat)(fa:Addr)(sp:Sp):Prop where
 ex: ∃(fd:FuncData) (ps:List Str),lV P w K mg base rZ k fa fd ps sp/\keepIn K (.ref fa)=true/\Binds K fd ps []
def eI.fnv {P:Program}{w:World}{K:Frag}{mg:Str->Option Value}{base:Heap}{x:Str}{k:Nat}{ps:List Str}{sp:Sp}(C:eI P w K mg base x k ps sp): ∃fa,mg x=some (.ref fa)/\XO P w K mg base k fa sp:=by
 obtain⟨f,fd,F,hm,hk,hb⟩:=C.ex;exact⟨f,hm,⟨fd,ps,F,hk,hb⟩⟩
section
variable {X:Cx}{x:Str}{i k:Nat}{e:Expr}{es:List Expr}{t:TA}{p pos:Pos}
def Pl (P:Program)(w:World)(K:Frag)(mg:Str->Option Value)(base:Heap)(k i:Nat)(t:TA):TE:=fun σ H Q=> ∃fa sp,σ[i]? =some (some (.ref fa))/\XO P w K mg base k fa sp/\t σ H fun vs H1=>sp vs H1 Q E0
def Pm (hr:eW k X.A)(hN:X.N[i]? =some x)(hv:RC X.env.scope x)(ha:PA X (e :: es) t)(hd:(x == ("__debug__":Str))=false:=by decide)(rE:(x == ("__classdict__":Str))=false:=by decide)
  (he:starEach (e :: es) X.env=(false,eval e X.env) :: starEach es X.env:=by rfl) (gw:(backTo pos (starEach es X.env)).any (·.1)=false:=by rfl):PE X (.Call (.Name x p) (e :: es) [] pos) (Pl X.prog X.w X.K X.mg X.base k i t):=by
 rintro pins s σ H Q I ⟨fa,sp,e1,⟨fd,ps,F,hk,hb⟩,h⟩;refine eE (dO (Dp hN hv hd rE pins s σ H (fun v H'=>v= .ref fa/\H'=H) I ⟨_,e1,rfl,rfl⟩) ?_);rintro u s1 ⟨v,H1,I1,rv,rfl,rfl⟩;obtain rfl:u=Value.ref fa:=rv;refine ka (h₀:=X.base) I.ok.mod.Lq hk (dO (ha pos pins s1 σ H1 _ I1 h) fun us s2 ⟨vs,H2,I2,r,q⟩=>⟨I2.gH,?_⟩) he gw;exact y0 F hr hb .nil mU I2 r (by rw[bR]; exact q)
end
def BW {X:Cx}:gZ X (.type "dict") (fun xs H Q=> ∃a bc,xs=[.ref a]/\H a=some (.dK bc)/\ ∀p,H p=none->Q (.ref p) (upd H p (.dK bc))):=by
 intro pins s σ H xs us Q I r h;obtain⟨a,bc,rfl,e,q⟩:=h;obtain⟨u,rfl,ru⟩:=vals1 r;cases ru;exact Jg I (.inl e) fun p s' hp I'=>⟨.ref p,_,I',rfl,q p hp⟩
def Ft (P:Program)(w:World)(d:Addr)(bc:List (Key×V))(φ:Heap->Prop):Prop:=(∀(H:Hp) (h:Heap),φ h->dv P w H h d (.dK bc))/\ ∀q:Str,φ≠fun h=>h.CodeRec (.ref d) q
def Tj (P:Program)(w:World)(td:TE)(g:TG)(tb:TS):TS:=fun D σ H=>td σ H fun v H1=> ∃d bc,v= .ref d/\H1 d=some (.dK bc)/\ ∀φ,Ft P w d bc φ->
 ∃W:Nat->Nat->St->Hp->Prop,(∃m,W 0 m σ (upd H1 d (.ext φ)))/\ ∀i m σ' H',W i m σ' H'->H' d=some (.ext φ)/\((bc.length<=i/\D.nx σ' (upd H' d (.dK bc)))∨
  ∃x,(bc.map (·.2))[i]? =some x/\ ∃N:St->Hp->Prop,(∀LU r9,N LU r9-> ∃m',m' < m/\W (i + 1) m' LU r9)/\g x σ' H' fun σ2 H2=>tb {D with nx:=N,ct:=N,bk:=fun _ _=>False} σ2 H2)
def Mj {X:Cx}{tg o:Expr}{apos gy pos:Pos}{body:List Stmt}{td:TE}{g:TG}{tb:TS}(hp:PassesOwn (model X.prog X.w) X.A X.env X.xe)(hc:X.calm=true)(ho:PE X o td)(hg:PG X tg g)(hb:oO X body tb)
  (qA:attributeBase o "values" X.env (eval o X.env)=eval o X.env:=by rfl) (uO:(apos.endLine == gy.line)=true:=by rfl)
  (hs: ∀x,foldedSetIterable (.Call (.Attribute o "values" apos) [] [] gy) X.env x=pure x:=by intro _; rfl):PS X (.For tg (.Call (.Attribute o "values" apos) [] [] gy) body [] pos) (Tj X.prog X.w td g tb):=by
 intro pins s σ H D I h;refine wpAny_For (wpAny_Call_method0_late qA uO (dO (ho pins s σ H _ I h) ?_)) hs;rintro u s1 ⟨v,H1,I1,rv,d,bc,rfl,ed,h⟩;obtain rfl:u=Value.ref d:=rv;obtain⟨hz,hd,vs,rel,dd⟩:=EZ I1.cq ed;refine⟨"dict","dict.values",PySem.F.plainAttrs_dict,QN,PySem.F.type_dict_values,dd.typeIs,dd.mapOf.noDict,iN rfl (PySem.evalArgs_none ?_)⟩;refine call_meetsIn QN dd.typeIs PySem.F.entry_dict_values (PySem.F.args_dict_values_1 _) (meets_dict_values (dP X.prog X.w) d hd) ⟨⟨vs,dd⟩,?_⟩;have I2:=I1.kept (t':=s1.toks) (h':=s1.heap.push {cls:= .type "dict_values",data:= .fields #[.ref d]}) (fun b ob e=>ax _ e);obtain⟨ep,da⟩:=dd.dictAt;obtain⟨od,es,Pc,r⟩:=id da;have XQ: ∀h:Heap,h.get? d=some od->h.DictAt (dP X.prog X.w) d vs ep:=fun h e=>⟨od,es,e,r⟩;have hKd:Ft X.prog X.w d bc (fun h=>h.get? d=some od):=⟨fun H h e=>⟨hz,hd,vs,rel,⟨od,es,ep,e,r⟩⟩,fun q z=>by
  have z1:(s1.heap.get? d=some od)=s1.heap.CodeRec (.ref d) q:=congrFun z s1.heap;obtain⟨c,o,Xz,t,e1,e2,e3,_⟩:=Eq.mp z1 Pc;cases e1;rw[Pc] at e2;cases e2;rw[r.2.1] at e3;cases e3⟩
 obtain⟨W,⟨m0,w0⟩,turn⟩:=h _ hKd;generalize hh2:s1.heap.push {cls:= .type "dict_values",data:= .fields #[.ref d]}=h2 at I2;have VF:h2.IsValuesView s1.heap.objs.size d:=by
  rw[← hh2];exact⟨_,bL _ rfl,rfl,rfl⟩
 have Tn:h2.get? d=some od:=by
  rw[← hh2];exact ax _ Pc
 refine wpAny_pyIter_values (knd:=dP X.prog X.w) VF (XQ _ Tn) ?_;have I3:=I2.kept (t':=s1.toks) (h':=h2.push {cls:= .type "dict_valueiterator",data:= .fields #[.ref d,.int 0 0,.int vs.length 0,.int ep 0]}) (fun b ob e=>ax _ e);have Pn:(h2.push {cls:= .type "dict_valueiterator",data:= .fields #[.ref d,.int 0 0,.int vs.length 0,.int ep 0]}).IsValIter h2.objs.size d 0 vs.length ep:=⟨_,bL _ rfl,rfl,rfl⟩;have Ml:(h2.push {cls:= .type "dict_valueiterator",data:= .fields #[.ref d,.int 0 0,.int vs.length 0,.int ep 0]}).get? d=some od:=ax _ Tn;have Dd:H1 h2.objs.size=none:=I2.cq.fresh (aE _);have i9:d≠h2.objs.size:=aJ ed Dd;have XR:=I2.Du (aE _) Dd;generalize h2.push {cls:= .type "dict_valueiterator",data:= .fields #[.ref d,.int 0 0,.int vs.length 0,.int ep 0]}=h3 at I3 Pn Ml;generalize h2.objs.size=it at Pn Dd i9 XR;have I4:Inv X pins σ (upd H1 d (.ext fun h=>h.get? d=some od)) {s1 with heap:=h3}:=by
  refine I3.write (x:=d) (e:=d) (t':=s1.toks) (h':=h3) (by rw[ed]; exact True.intro) (.inl rfl) (fun _ _ _ q=>q) ⟨od,Ml⟩ ?_;exact⟨Ml,⟨od,Ml⟩,fun h1 h2 q k=>k od q⟩
 have fit:upd H1 d (.ext fun h=>h.get? d=some od) it=none:=by
  rw[az i9.symm];exact Dd
 have Tf:vs.length=bc.length:=(aL rel).symm;refine codeAny_forLoop_any (fun n s'=> ∃i σ' H',Inv X pins σ' H' s'/\s'.heap.IsValIter it d i vs.length ep/\H' it=none/\W i n σ' H') ?_ m0 ⟨0,σ,_,I4,Pn,fit,w0⟩;rintro n s5 ⟨i,σ5,H5,I5,it5,QR,w5⟩;obtain⟨e5,tn⟩:=turn i n σ5 H5 w5;have XS:s5.heap.get? d=some od:=(I5.cq d _ e5).1;have f5:uI X pins H5 it:=⟨QR,XR.2⟩;obtain⟨f0,f1,f2,f3,f4,f6⟩:=f5;rcases tn with⟨hle,qn⟩|⟨x,hx,N,hN,step⟩
 ·refine dG hp (wpAny_pyNext_values_end (knd:=dP X.prog X.w) (I5.ok.hd hc) it5 (XQ _ XS) (by rw[jg]; lia) fun h6 eb=>?_);have I6:Inv X pins σ5 H5 {s5 with heap:=h6}:=I5.turned (t':=s5.toks) (fun b o hb e=>eb b o hb e) f0 f1 f3 f4 f6;have od6:h6.get? d=some od:=eb d od i9 XS;have I7:=I6.write (x:=d) (e:=d) (t':=s5.toks) (h':=h6) (o:= .dK bc) (by rw[e5]; exact True.intro) (.inl rfl) (fun _ _ _ q=>q) ⟨od,od6⟩ (hKd.1 _ _ od6);exact jh ⟨σ5,_,I7,qn⟩
 ·rw[aB] at hx;obtain⟨kv,VG,rfl⟩:=bo.mp hx;obtain⟨ku,hku,e1,ru⟩:=bI rel VG;obtain⟨k1,u⟩:=ku;refine dG hp (wpAny_pyNext_values_item (knd:=dP X.prog X.w) it5 (XQ _ XS) hku fun h6 it6 sb=>?_);have I6:Inv X pins σ5 H5 {s5 with heap:=h6}:=I5.turned (t':=s5.toks) (fun b o hb e=>(sb.2 b hb).trans e) f0 f1 f3 f4 f6;obtain⟨oi,GO,QT,XT⟩:=id it6;refine dG hp (Bl (s:={s5 with heap:=h6}) GO QT XT (by decide +kernel) ?_);have I6':Inv X (pins ++ pF [it] h6) σ5 H5 {s5 with heap:=h6}:=I6.pinned (fun b hb=>by rw[ao.mp hb]; exact⟨QR,XR.2⟩) (fun b hb=>by
   rw[ao.mp hb];exact⟨oi,GO,fun v z=>by rw[XT] at z; cases z⟩)
  refine dG hp (dO (hg _ _ σ5 H5 kv.2 u _ I6' ru step) fun _ s7 ⟨σ7,H7,I7,q7⟩=>?_);refine dG hp (dO (hb _ s7 σ7 H7 _ I7 q7) fun f s8 q8=>?_);have again: ∀{σ8:St} {H8:Hp},Inv X (pins ++ pF [it] h6) σ8 H8 s8->N σ8 H8-> ∃m,m < n/\ ∃i σ' H',Inv X pins σ' H' s8/\s8.heap.IsValIter it d i vs.length ep/\H' it=none/\W i m σ' H':=fun{σ8 H8} I8 n8=>by
   obtain⟨m',hm,w8⟩:=hN σ8 H8 n8;have pn:=I8.pin (it,oi) (List.mem_append_right _ (List.mem_append_right _ (jF (by simp) GO)));exact⟨m',hm,i + 1,σ8,H8,I8.i7,⟨oi,pn.1,QT,XT⟩,pn.2.1,w8⟩
  cases f with
  |next=>obtain⟨σ8,H8,I8,n8⟩:=q8; exact again I8 n8
  |cont=>obtain⟨σ8,H8,I8,n8⟩:=q8; exact again I8 n8
  |brk=>obtain⟨σ8,H8,I8,q8⟩:=q8; exact q8.elim
  |ret v=>obtain⟨x8,σ8,H8,I8,r8,q8⟩:=q8; exact⟨x8,σ8,H8,I8.i7,r8,q8⟩
def JK {P:Program}{w:World}{td:TE}{g:TG}{tb:TS}{D:Ends}{σ:St}{H1:Hp}{d:Addr}{bc:List (Key×V)}(ed:H1 d=some (.dK bc))
  (h: ∀φ,Ft P w d bc φ-> ∃Pv:Nat->St->Hp->Prop,Pv 0 σ (upd H1 d (.ext φ))/\(∀i σ' H',Pv i σ' H'->H' d=some (.ext φ))/\(∀i x σ' H',(bc.map (·.2))[i]? =some x->Pv i σ' H'->g x σ' H' fun σ2 H2=>tb {D with nx:=Pv (i + 1),ct:=Pv (i + 1),bk:=fun _ _=>False} σ2 H2)/\
   ∀σ' H',Pv bc.length σ' H'->D.nx σ' (upd H' d (.dK bc))):
  ∃d' JL,V.ref d= .ref d'/\H1 d'=some (.dK JL)/\ ∀φ,Ft P w d' JL φ->
 ∃W:Nat->Nat->St->Hp->Prop,(∃m,W 0 m σ (upd H1 d' (.ext φ)))/\ ∀i m σ' H',W i m σ' H'->H' d'=some (.ext φ)/\((JL.length<=i/\D.nx σ' (upd H' d' (.dK JL)))∨
  ∃x,(JL.map (·.2))[i]? =some x/\ ∃N:St->Hp->Prop,(∀LU r9,N LU r9-> ∃m',m' < m/\W (i + 1) m' LU r9)/\g x σ' H' fun σ2 H2=>tb {D with nx:=N,ct:=N,bk:=fun _ _=>False} σ2 H2):=by
 refine⟨d,bc,rfl,ed,fun φ hφ=>?_⟩;obtain⟨Pv,p0,pk,ps,pe⟩:=h φ hφ;refine⟨fun i m σ' H'=>m=bc.length - i/\i<=bc.length/\Pv i σ' H',⟨bc.length,by simp,Nat.zero_le _,p0⟩,?_⟩;rintro i m σ' H' ⟨rfl,hi,p⟩;refine⟨pk i σ' H' p,?_⟩;by_cases ip:i < bc.length
 ·have hg:(bc.map (·.2))[i]? =some bc[i].2:=by rw[aB,af ip]; rfl
  exact .inr ⟨_,hg,Pv (i + 1),fun LU r9 p'=>⟨bc.length - (i + 1),by lia,rfl,ip,p'⟩,ps i _ σ' H' hg p⟩
 ·have e:i=bc.length:=by lia
  subst e;exact .inl ⟨aE _,pe σ' H' p⟩
def m9 {α:Type}(f:α->Int): ∀(l2 l1:List α),l1.Perm l2->l1.Pairwise (fun a b=>f a<=f b)->l2.Pairwise (fun a b=>f a < f b)->l1=l2
 |[],l1,p,_,_=>List.Perm.eq_nil p
 |b :: l2,[],p,_,_=>absurd p.length_eq (by simp)
 |b :: l2,a :: l1,p,h1,h2=>by
  rw[ee] at h1 h2;have hb:b∈a :: l1:=p.mem_iff.mpr bJ;have e:a=b:=by
   rcases aw.mp (p.mem_iff.mp (bJ (a:=a) (l:=l1))) with e|ha
   ·exact e
   ·rcases aw.mp hb with e|hb
    ·exact e.symm
    ·have z1:=h1.1 b hb;have z2:=h2.1 a ha;lia
  subst e;rw[m9 f l2 l1 (List.Perm.cons_inv p) h1.2 h2.2]
def Mm {x y:Int×Nat}(hx:x.2 < 1000)(hy:y.2 < 1000)(h:tT x=tT y):x.2=y.2:=by
 unfold tT at h;lia
def BX {l:List (Int×Nat)}(h: ∀x∈l,x.2 < 1000)(nd:(l.map (·.2)).Nodup):(ej l).Pairwise (fun a b=>tT a < tT b):=by
 have p:=c9 l;have VH:((ej l).map (·.2)).Nodup:=(p.map (·.2)).nodup_iff.mpr nd;have h': ∀x∈ej l,x.2 < 1000:=fun x hx=>h x (p.mem_iff.mp hx);have le:=u6 l;generalize ej l=m at VH h' le
 induction m with
 |nil=>exact .nil
 |cons a m ih=>
  rw[ee] at le ⊢;rw[cZ,fJ] at VH;refine⟨fun b hb=>?_,ih VH.2 (fun x hx=>h' x (ba _ hx)) le.2⟩;have z:=le.1 b hb;have n:tT a≠tT b:=fun e=>VH.1 (by
   rw[Mm (h' a bJ) (h' b (ba _ hb)) e];exact bF.mpr ⟨b,hb,rfl⟩)
  lia
def tW (t:List Int):Int:=t.getD 0 0 * 1000 + t.getD 1 0
def qN {x y:Int×Nat}{u v:List Int}(hx:x.2 < 1000)(hy:y.2 < 1000)(h:x.2=y.2->u=v/\x=y)(hs:HT.lexLt u u=false):HT.lexLt (x.1 :: (x.2:Int) :: u) (y.1 :: (y.2:Int) :: v)=decide (tW (x.1 :: (x.2:Int) :: u) < tW (y.1 :: (y.2:Int) :: v)):=by
 show _ =decide (x.1 * 1000 + (x.2:Int) < y.1 * 1000 + (y.2:Int));rw[HT.lW];by_cases c:x.1=y.1
 ·rw[a8 c,HT.lW];by_cases d:x.2=y.2
  ·rw[a8 (by lia),← (h d).1,hs,bp (by lia)]
  ·rw[aU (by lia)];exact mE.mpr (by lia)
 ·rw[aU c];exact mE.mpr (by lia)
def sZ {ks:List (Int×Nat)}{g:Int×Nat->List Int}{us:List (List Int)}(h: ∀x∈ks,x.2 < 1000)(nd:(ks.map (·.2)).Nodup)(hg: ∀x∈ks,tW (g x)=tT x)(p:us.Perm (ks.map g))(le:us.Pairwise (fun t u=>tW t<=tW u)):us=(ej ks).map g:=by
 refine m9 tW _ _ (p.trans ((c9 ks).map g).symm) le ?_;rw[rN];refine(BX h nd).imp_of_mem fun{a b} ha hb z=>?_;rw[hg a ((c9 ks).mem_iff.mp ha),hg b ((c9 ks).mem_iff.mp hb)];exact z
def df.tk {H H':Hp}{sd:Addr}{S:Bk}{f:fu}(h:df H sd S f)(k:Frame f.fp H H'):cF H H':=fun b xs e=>k b _ (fun hb=>by
 obtain⟨ms,m1,_⟩:=h.hm;unfold fu.fp at hb;rcases aw.mp hb with rfl|hb
 ·rw[h.hb] at e; cases e
 ·rcases aw.mp hb with rfl|hb
  ·rw[h.hc] at e; cases e
  ·rcases aw.mp hb with rfl|hb
   ·rw[m1] at e; cases e
   ·have rows: ∀(rs:List Rw) (ps:List Addr),eP H rs ps->b∈ps->False:=fun rs ps hr hp=>by
     obtain⟨i,hi⟩:=yW hp;have ip:i < rs.length:=by
      rw[hr.length];exact(ak.mp hi).1
     obtain⟨q,e1,e2⟩:=hr.at ip;rw[e1] at hi;cases hi;rw[e2] at e;cases e
    rcases bq.mp hb with hb|hb
    ·exact rows _ _ h.rb hb
    ·exact rows _ _ h.rc hb) e
def Frame.md {fp:List Addr}{H1 H2 H3:Hp}(a:aD H1 H2)(b:Frame fp H2 H3):Frame fp H1 H3:=fun x o hx e=>b x o hx (a x o e)
def Frame.cU {fp:List Addr}{H1 H2 H3:Hp}(a:Frame fp H1 H2)(b:aD H2 H3):Frame fp H1 H3:=fun x o hx e=>b x o (a x o hx e)
def Frame.tr {fp:List Addr}{H1 H2 H3:Hp}(a:Frame fp H1 H2)(b:Frame fp H2 H3):Frame fp H1 H3:=fun x o hx e=>b x o hx (a x o hx e)
def Dc.dt:Dc->Dt
 | .int i=> .int i
 | .txt s=> .str s
 | .sets l=> .lst (l.map fun t=> .tup [.int t.1,.int t.2.1,.int t.2.2])
 | .pairs l=> .lst (l.map fun t=> .tup [.int t.1,.int t.2])
 | .ints l=> .lst (l.map Dt.int)
def hJ.Q4 {H:Hp}: ∀{ms:List (Nat×Nat×Int)} {vs:List V},hJ H ms vs->g6 H (ms.map fun t=> .tup [.int t.1,.int t.2.1,.int t.2.2]) vs
 |_,_,.nil=>cL.mpr rfl
 |_,_,.cons ⟨p,e,q⟩ t=>by
  subst e;exact bC.mpr ⟨_,_,rfl,eA q (bC.mpr ⟨_,_,rfl,di.mpr rfl,bC.mpr ⟨_,_,rfl,di.mpr rfl,bC.mpr ⟨_,_,rfl,di.mpr rfl,cL.mpr rfl⟩⟩⟩),hJ.Q4 t⟩
def fu.kj (f:fu)(p:Addr):fu:={f with ix:=f.ix ++ [p]}
def fu.ig (f:fu)(p:Addr):fu:={f with cps:=f.cps ++ [p]}
def fu.JM (f:fu)(p:Addr):(f.kj p).fp.Perm (p :: f.fp):=by
 show(f.pb :: f.pc :: f.pm :: ((f.ix ++ [p]) ++ f.cps)).Perm (p :: f.pb :: f.pc :: f.pm :: (f.ix ++ f.cps));have h:((f.ix ++ [p]) ++ f.cps).Perm (p :: (f.ix ++ f.cps)):=by
  rw[eG];exact List.perm_middle
 exact(((h.cons f.pm).trans (List.Perm.swap _ _ _)).cons f.pc |>.trans (List.Perm.swap _ _ _)).cons f.pb |>.trans (List.Perm.swap _ _ _)
def fu.Fu (f:fu)(p:Addr):(f.ig p).fp.Perm (p :: f.fp):=by
 show(f.pb :: f.pc :: f.pm :: (f.ix ++ (f.cps ++ [p]))).Perm (p :: f.pb :: f.pc :: f.pm :: (f.ix ++ f.cps));have h:(f.ix ++ (f.cps ++ [p])).Perm (p :: (f.ix ++ f.cps)):=by
  rw[← eG];exact List.perm_append_singleton _ _
 exact(((h.cons f.pm).trans (List.Perm.swap _ _ _)).cons f.pc |>.trans (List.Perm.swap _ _ _)).cons f.pb |>.trans (List.Perm.swap _ _ _)
def df.off {H:Hp}{sd D:Addr}{S:Bk}{f:fu}(h:df H sd S f)(n:H D=none):D∉f.fp:=fun z=>by
 obtain⟨ms,m1,_⟩:=h.hm;have rows: ∀(rs:List Rw) (ps:List Addr),eP H rs ps->D∈ps->False:=fun rs ps hr hp=>by
  obtain⟨i,hi⟩:=yW hp;have ip:i < rs.length:=by
   rw[hr.length];exact(ak.mp hi).1
  obtain⟨q,e1,e2⟩:=hr.at ip;rw[e1] at hi;cases hi;rw[n] at e2;cases e2
 unfold fu.fp at z;rcases aw.mp z with rfl|z
 ·have:=h.hb; rw[n] at this; cases this
 rcases aw.mp z with rfl|z
 ·have:=h.hc; rw[n] at this; cases this
 rcases aw.mp z with rfl|z
 ·rw[n] at m1; cases m1
 rcases bq.mp z with z|z
 ·exact rows _ _ h.rb z
 ·exact rows _ _ h.rc z
section
variable {H:Hp}{sd pr:Addr}{S:Bk}{f:fu}{r:Rw}
def df.kj (h:df H sd S f)(n:H pr=none):df (upd (upd H pr (.lst r.vs)) f.pb (.lst (f.ix.map V.ref ++ [.ref pr]))) sd (S.kj r) (f.kj pr):=by
 have s1:aD H (upd H pr (.lst r.vs)):=aD.new n;have h1:=h.same s1;have g1:upd H pr (.lst r.vs) pr=some (.lst r.vs):=ag;have np:=h.off n;have Mn:sd≠pr:=aJ h.dict n;generalize upd H pr (.lst r.vs)=H1 at s1 h1 g1;obtain⟨d1,d2,d3,d4,d5,d6,d7⟩:=fu.SI h.nd;obtain⟨ms,m1,m2⟩:=h1.hm;have es:sd≠f.pb:=fun z=>h.ns (by rw[z]; simp[fu.fp]);have ep:pr≠f.pb:=fun z=>np (by rw[z]; simp[fu.fp]);refine⟨by rw[az es]; exact h1.dict,?_,by rw[show(f.kj pr).pc=f.pc from rfl,az d1.symm]; exact h1.hc,⟨ms,by rw[show(f.kj pr).pm=f.pm from rfl,az d2.symm]; exact m1,m2.mono (dN h1.hb)⟩,?_,?_,?_,?_⟩
 ·show upd H1 f.pb _ f.pb=some (.lst ((f.ix ++ [pr]).map V.ref));rw[ag,aK]; rfl
 ·exact cy (h1.rb.hV fun z=>(d4 _ z).1 rfl) (by rw[az ep]; exact g1)
 ·exact h1.rc.hV fun z=>(d5 _ z).1 rfl
 ·exact(f.JM pr).nodup_iff.mpr (fJ.mpr ⟨np,h.nd⟩)
 ·intro z;rcases aw.mp ((f.JM pr).mem_iff.mp z) with z|z
  ·exact Mn z
  ·exact h.ns z
def df.ig (h:df H sd S f)(n:H pr=none):df (upd (upd H pr (.lst r.vs)) f.pc (.lst (f.cps.map V.ref ++ [.ref pr]))) sd (S.ig r) (f.ig pr):=by
 have s1:aD H (upd H pr (.lst r.vs)):=aD.new n;have h1:=h.same s1;have g1:upd H pr (.lst r.vs) pr=some (.lst r.vs):=ag;have np:=h.off n;have Mn:sd≠pr:=aJ h.dict n;generalize upd H pr (.lst r.vs)=H1 at s1 h1 g1;obtain⟨d1,d2,d3,d4,d5,d6,d7⟩:=fu.SI h.nd;obtain⟨ms,m1,m2⟩:=h1.hm;have es:sd≠f.pc:=fun z=>h.ns (by rw[z]; simp[fu.fp]);have ep:pr≠f.pc:=fun z=>np (by rw[z]; simp[fu.fp]);refine⟨by rw[az es]; exact h1.dict,by rw[show(f.ig pr).pb=f.pb from rfl,az d1]; exact h1.hb,?_,⟨ms,by rw[show(f.ig pr).pm=f.pm from rfl,az d3.symm]; exact m1,m2.mono (dN h1.hc)⟩,?_,?_,?_,?_⟩
 ·show upd H1 f.pc _ f.pc=some (.lst ((f.cps ++ [pr]).map V.ref));rw[ag,aK]; rfl
 ·exact h1.rb.hV fun z=>(d4 _ z).2.1 rfl
 ·exact cy (h1.rc.hV fun z=>(d5 _ z).2.1 rfl) (by rw[az ep]; exact g1)
 ·exact(f.Fu pr).nodup_iff.mpr (fJ.mpr ⟨np,h.nd⟩)
 ·intro z;rcases aw.mp ((f.Fu pr).mem_iff.mp z) with z|z
  ·exact Mn z
  ·exact h.ns z
end
structure dU where
 dR:Addr
 dX:Addr
 work:Addr
 book:Addr
 refusal:Addr
 jS:Addr
 pQ:Addr
 jB:Addr
 iA:Addr
 tooEarly:Addr
 tooMuch:Addr
 jC:Addr
 iU:Addr
def en (H:Hp)(p C:Addr)(fs:List (Str×V)):Prop:= ∃dx,H p=some (.ins C dx fs)
def en.same {H H':Hp}{p C:Addr}{fs:List (Str×V)}(h:en H p C fs)(s:aD H H'):en H' p C fs:=let⟨dx,e⟩:=h; ⟨dx,s _ _ e⟩
def en.frame {H H':Hp}{p C:Addr}{fs:List (Str×V)}{fp:List Addr}(h:en H p C fs)(s:Frame fp H H')(n:p∉fp):en H' p C fs:=let⟨dx,e⟩:=h; ⟨dx,s _ _ n e⟩
def tf (c:Int):V:=if c= -1 then .eh else .int c
def fv (i:Nat)(r:Rw):List (Str×V):=[("number",.int i),("who",.str r.aH),("day",.int r.a),("due",.int r.b),("amount",.int r.c)]
def eY (i:Nat)(r:Rw):List (Str×V):=[("number",.int i),("who",.str r.aH),("day",.int r.a),("amount",.int r.b),("only",tf r.c)]
section
variable (i:Nat)(r:Rw)
def lz:(fv i r).lookup ("number":Str)=some (V.int i):=by rfl
def DZ:(fv i r).lookup ("who":Str)=some (V.str r.aH):=by rfl
def Pp:(fv i r).lookup ("day":Str)=some (V.int r.a):=by rfl
def JN:(fv i r).lookup ("due":Str)=some (V.int r.b):=by rfl
def oh:(eY i r).lookup ("number":Str)=some (V.int i):=by rfl
def JO:(eY i r).lookup ("who":Str)=some (V.str r.aH):=by rfl
def JP:(eY i r).lookup ("day":Str)=some (V.int r.a):=by rfl
def Mo:(eY i r).lookup ("only":Str)=some (tf r.c):=by rfl
end
structure eJ where
 pb:Addr
 pc:Addr
 pl:Addr
 pf:Addr
 pm:Addr
 ix:List Addr
 cps:List Addr
def eJ.fp (f:eJ):List Addr:=[f.pb,f.pc,f.pl,f.pf,f.pm]
def lA (f:eJ):List (Str×V):=[("bills",.ref f.pb),("all_credits",.ref f.pc),("lefts",.ref f.pl),("frees",.ref f.pf),("made",.ref f.pm)]
def jc (f:eJ):(lA f).lookup ("bills":Str)=some (V.ref f.pb):=by rfl
def gX (f:eJ):(lA f).lookup ("all_credits":Str)=some (V.ref f.pc):=by rfl
def lB (f:eJ):(lA f).lookup ("lefts":Str)=some (V.ref f.pl):=by rfl
def lC (f:eJ):(lA f).lookup ("frees":Str)=some (V.ref f.pf):=by rfl
def Fv (f:eJ):(lA f).lookup ("made":Str)=some (V.ref f.pm):=by rfl
def gp (H:Hp)(C:Addr)(fs:Nat->Rw->List (Str×V))(rows:List Rw)(ps:List Addr):Prop:=ps.length=rows.length/\ ∀i p,ps[i]? =some p->en H p C (fs i (rows.getD i default))
def gp.keep {H H':Hp}{C:Addr}{fs:Nat->Rw->List (Str×V)}{rows:List Rw}{ps:List Addr}(h:gp H C fs rows ps)(k: ∀p dx gs,H p=some (.ins C dx gs)->H' p=some (.ins C dx gs)):gp H' C fs rows ps:=
 ⟨h.1,fun i p e=>let⟨dx,z⟩:=h.2 i p e; ⟨dx,k _ _ _ z⟩⟩
def gp.get {H:Hp}{C:Addr}{fs:Nat->Rw->List (Str×V)}{rows:List Rw}{ps:List Addr}(h:gp H C fs rows ps){i:Nat}(hi:i < rows.length): ∃p,ps[i]? =some p/\en H p C (fs i (rows.getD i default)):=by
 have ip:i < ps.length:=by rw[h.1]; exact hi
 exact⟨ps[i],af ip,h.2 i _ (af ip)⟩
def gp.rows {H:Hp}{C:Addr}{fs:Nat->Rw->List (Str×V)}{rows iu:List Rw}{ps:List Addr}(h:gp H C fs rows ps)(hl:iu.length=rows.length)(e: ∀i,fs i (iu.getD i default)=fs i (rows.getD i default)):gp H C fs iu ps:=
 ⟨h.1.trans hl.symm,fun i p z=>by rw[e]; exact h.2 i p z⟩
def gp.add {H:Hp}{C p:Addr}{fs:Nat->Rw->List (Str×V)}{rows:List Rw}{r:Rw}{ps:List Addr}(h:gp H C fs rows ps)(n:en H p C (fs rows.length r)):gp H C fs (rows ++ [r]) (ps ++ [p]):=by
 refine⟨by rw[aC,aC,h.1]; rfl,fun i q e=>?_⟩;by_cases hi:i < ps.length
 ·rw[qp hi] at e;rw[getD_snoc (by rw[← h.1]; exact hi)];exact h.2 i q e
 ·rw[iW (by lia)] at e;have e0:i - ps.length=0:=by
   have:=(ak.mp e).1;simp at this;lia
  rw[e0] at e;obtain rfl:p=q:=by simpa using e
  obtain rfl:i=rows.length:=by have:=h.1; lia
  rw[getD_last];exact n
structure dC (A:dU)(H:Hp)(pw:Addr)(S:Bk)(f:eJ):Prop where
 obj:en H pw A.work (lA f)
 hb:H f.pb=some (.lst (f.ix.map V.ref))
 hc:H f.pc=some (.lst (f.cps.map V.ref))
 hl:H f.pl=some (.lst (S.aI.map fun r=>V.int r.d))
 hf:H f.pf=some (.lst (S.credits.map fun r=>V.int r.d))
 hm: ∃ms,H f.pm=some (.lst ms)/\hJ H S.made ms
 rb:gp H A.dR fv S.aI f.ix
 rc:gp H A.dX eY S.credits f.cps
 nd:f.fp.Nodup
section
variable {A:dU}{H H':Hp}{pw:Addr}{S:Bk}{f:eJ}
def dC.lists (h:dC A H pw S f): ∀p∈f.fp,∃xs,H p=some (.lst xs):=fun p hp=>by
 obtain⟨ms,m1,_⟩:=h.hm;simp only[eJ.fp,List.mem_cons,List.not_mem_nil,or_false] at hp;rcases hp with rfl|rfl|rfl|rfl|rfl
 ·exact⟨_,h.hb⟩
 ·exact⟨_,h.hc⟩
 ·exact⟨_,h.hl⟩
 ·exact⟨_,h.hf⟩
 ·exact⟨_,m1⟩
def dC.off (h:dC A H pw S f){p:Addr}(n: ∀xs,H p≠some (.lst xs)):p∉f.fp:=fun z=>by
 obtain⟨xs,e⟩:=h.lists p z;exact n xs e
def dC.new (h:dC A H pw S f){p:Addr}(n:H p=none):p∉f.fp:=h.off fun xs e=>by rw[n] at e; cases e
def dC.ins (h:dC A H pw S f){p C:Addr}{fs:List (Str×V)}(n:en H p C fs):p∉f.fp:=h.off fun xs e=>by
 obtain⟨dx,z⟩:=n;rw[z] at e;cases e
def dC.tk (h:dC A H pw S f)(k:Frame f.fp H H'):cF H H':=fun b xs e=>k b _ (h.off fun ys z=>by rw[e] at z; cases z) e
def dC.objs (h:dC A H pw S f)(k:Frame f.fp H H'):en H' pw A.work (lA f)/\gp H' A.dR fv S.aI f.ix/\gp H' A.dX eY S.credits f.cps:=by
 have go: ∀{p C:Addr} {dx:Addr} {gs:List (Str×V)},H p=some (.ins C dx gs)->H' p=some (.ins C dx gs):=fun e=>k _ _ (h.off fun ys z=>by rw[e] at z; cases z) e;exact⟨let⟨dx,e⟩:=h.obj; ⟨dx,go e⟩,h.rb.keep fun _ _ _ e=>go e,h.rc.keep fun _ _ _ e=>go e⟩
def dC.same (h:dC A H pw S f)(s:aD H H'):dC A H' pw S f:=by
 obtain⟨o1,o2,o3⟩:=h.objs (s.frame (fp:=f.fp));obtain⟨ms,m1,m2⟩:=h.hm;exact⟨o1,s _ _ h.hb,s _ _ h.hc,s _ _ h.hl,s _ _ h.hf,⟨ms,s _ _ m1,m2.mono s.tk⟩,o2,o3,h.nd⟩
def eJ.ne (h:f.fp.Nodup):f.pb≠f.pc/\f.pb≠f.pl/\f.pb≠f.pf/\f.pb≠f.pm/\f.pc≠f.pl/\f.pc≠f.pf/\f.pc≠f.pm/\f.pl≠f.pf/\f.pl≠f.pm/\f.pf≠f.pm:=by
 simp only[eJ.fp,List.nodup_cons,List.mem_cons,List.not_mem_nil,or_false,not_or] at h;obtain⟨⟨h1,h2,h3,h4⟩,⟨h5,h6,h7⟩,⟨h8,h9⟩,K6,_⟩:=h;exact⟨h1,h2,h3,h4,h5,h6,h7,h8,h9,K6⟩
def yu {rows:List Rw}{i:Nat}{x:Int}:(rows.set i ((rows.getD i default).less x)).map (fun r=>V.int r.d)=(rows.map fun r=>V.int r.d).set i (.int ((rows.getD i default).d - x)):=by
 rw[Ij]; rfl
def dC.put (h:dC A H pw S f){c b:Nat}{x:Int}{ms:List V}{p:Addr}(hc:c < S.credits.length)(hb:b < S.aI.length)(m1:H f.pm=some (.lst ms))(m2:hJ H S.made ms)(np:H p=none):
  dC A (upd (upd (upd (upd H f.pf (.lst ((S.credits.map fun r=>V.int r.d).set c (.int ((S.cr c).d - x))))) f.pl (.lst ((S.aI.map fun r=>V.int r.d).set b (.int ((S.bl b).d - x))))) p (.tup [.int c,.int b,.int x])) f.pm (.lst (ms ++ [.ref p]))) pw (S.put c b x) f/\
  Frame f.fp H (upd (upd (upd (upd H f.pf (.lst ((S.credits.map fun r=>V.int r.d).set c (.int ((S.cr c).d - x))))) f.pl (.lst ((S.aI.map fun r=>V.int r.d).set b (.int ((S.bl b).d - x))))) p (.tup [.int c,.int b,.int x])) f.pm (.lst (ms ++ [.ref p]))):=by
 obtain⟨e1,e2,e3,e4,e5,e6,e7,e8,e9,NB⟩:=eJ.ne h.nd;have pf: ∀q∈f.fp,q≠p:=fun q hq z=>h.new np (z▸hq);have i1:f.pb∈f.fp:=by simp[eJ.fp]
 have i2:f.pc∈f.fp:=by simp[eJ.fp]
 have i3:f.pl∈f.fp:=by simp[eJ.fp]
 have i4:f.pf∈f.fp:=by simp[eJ.fp]
 have i5:f.pm∈f.fp:=by simp[eJ.fp]
 have t3: ∀(G:Hp) (q:Addr),q≠f.pf->q≠f.pl->q≠p->q≠f.pm-> ∀(a b c d:HO),upd (upd (upd (upd G f.pf a) f.pl b) p c) f.pm d q=G q:=fun G q h1 h2 h3 h4 a b c d=>by
  rw[az h4,az h3,az h2,az h1]
 have F:Frame f.fp H (upd (upd (upd (upd H f.pf (.lst ((S.credits.map fun r=>V.int r.d).set c (.int ((S.cr c).d - x))))) f.pl (.lst ((S.aI.map fun r=>V.int r.d).set b (.int ((S.bl b).d - x))))) p (.tup [.int c,.int b,.int x])) f.pm (.lst (ms ++ [.ref p]))):=fun q o hq e=>by
  rw[t3 H q (fun z=>hq (z▸i4)) (fun z=>hq (z▸i3)) (aJ e np) (fun z=>hq (z▸i5))];exact e
 refine⟨?_,F⟩;obtain⟨o1,o2,o3⟩:=h.objs F;have tk:=h.tk F;refine⟨o1,by rw[t3 H _ e3 e2 (pf _ i1) e4]; exact h.hb,by rw[t3 H _ e6 e5 (pf _ i2) e7]; exact h.hc,?_,?_,⟨_,ag,?_⟩,?_,?_,h.nd⟩
 ·rw[az e9,az (pf _ i3),ag];show _ =some (HO.lst ((S.aI.set b ((S.aI.getD b default).less x)).map fun r=>V.int r.d));rw[yu]; rfl
 ·rw[az NB,az (pf _ i4),az e8.symm,ag];show _ =some (HO.lst ((S.credits.set c ((S.credits.getD c default).less x)).map fun r=>V.int r.d));rw[yu]; rfl
 ·refine cy (m2.mono tk) ⟨p,rfl,?_⟩;rw[az (pf _ i5).symm,ag]
 ·refine o2.rows d8 fun i=>?_;show fv i ((S.put c b x).bl i)=fv i (S.bl i);rw[vc hb];split
  ·rename_i z; subst z; rfl
  ·rfl
 ·refine o3.rows d8 fun i=>?_;show eY i ((S.put c b x).cr i)=eY i (S.cr i);rw[sj hc];split
  ·rename_i z; subst z; rfl
  ·rfl
end
end L2
namespace eB
open PySem L2 PyProof.Rows K7
def Mp:Stmt->List Stmt
 | .ClassDef _ _ _ b _ _ _ _ _ _ _=>b
 |_=>[]
def mem (i j:Nat):Stmt:=(Mp (top i)).getD j (.Pass ⟨0,0,0,0⟩)
structure jv (K:Frag)(mg:Str->Option Value)(A:dU):Prop where
 fP:mg "Refusal"=some (.ref A.refusal)
 D3:gO K A.refusal A.refusal
 Pq:keepIn K (.ref A.refusal)=true
 gq: ∃f fd,gf K "__init__" "Refusal.__init__" (mem 3 0) f fd/\Fm K A.refusal f
 BY:mg "NoCredit"=some (.ref A.jS)
 tj:gO K A.jS A.refusal
 BZ:keepIn K (.ref A.jS)=true
 B0: ∃f fd,gf K "__init__" "NoCredit.__init__" (mem 4 0) f fd/\findIn K (.ref A.jS) "__init__"=some (some (.ref f))/\typeIn K (.ref f)=some (.type "function")
 Hd:mg "NoBill"=some (.ref A.pQ)
 yw:gO K A.pQ A.refusal
 He:keepIn K (.ref A.pQ)=true
 Hf: ∃f fd,gf K "__init__" "NoBill.__init__" (mem 5 0) f fd/\findIn K (.ref A.pQ) "__init__"=some (some (.ref f))/\typeIn K (.ref f)=some (.type "function")
 zL:mg "NotTheirs"=some (.ref A.jB)
 qO:gO K A.jB A.refusal
 zM:keepIn K (.ref A.jB)=true
 zN: ∃f fd,gf K "__init__" "NotTheirs.__init__" (mem 6 0) f fd/\findIn K (.ref A.jB) "__init__"=some (some (.ref f))/\typeIn K (.ref f)=some (.type "function")
 B4:mg "NoAmount"=some (.ref A.iA)
 kA:gO K A.iA A.refusal
 B6:keepIn K (.ref A.iA)=true
 B7: ∃f fd,gf K "__init__" "NoAmount.__init__" (mem 7 0) f fd/\findIn K (.ref A.iA) "__init__"=some (some (.ref f))/\typeIn K (.ref f)=some (.type "function")
 B8:mg "TooEarly"=some (.ref A.tooEarly)
 tq:gO K A.tooEarly A.refusal
 Ca:keepIn K (.ref A.tooEarly)=true
 Cb: ∃f fd,gf K "__init__" "TooEarly.__init__" (mem 8 0) f fd/\findIn K (.ref A.tooEarly) "__init__"=some (some (.ref f))/\typeIn K (.ref f)=some (.type "function")
 vB:mg "TooMuch"=some (.ref A.tooMuch)
 pS:gO K A.tooMuch A.refusal
 D4:keepIn K (.ref A.tooMuch)=true
 D5: ∃f fd,gf K "__init__" "TooMuch.__init__" (mem 9 0) f fd/\findIn K (.ref A.tooMuch) "__init__"=some (some (.ref f))/\typeIn K (.ref f)=some (.type "function")
 zO:mg "NoSetting"=some (.ref A.jC)
 qP:gO K A.jC A.refusal
 zP:keepIn K (.ref A.jC)=true
 zQ: ∃f fd,gf K "__init__" "NoSetting.__init__" (mem 10 0) f fd/\findIn K (.ref A.jC) "__init__"=some (some (.ref f))/\typeIn K (.ref f)=some (.type "function")
 yx:mg "Needed"=some (.ref A.iU)
 yy:gO K A.iU A.refusal
 Hg:keepIn K (.ref A.iU)=true
 Hh: ∃f fd,gf K "__init__" "Needed.__init__" (mem 11 0) f fd/\findIn K (.ref A.iU) "__init__"=some (some (.ref f))/\typeIn K (.ref f)=some (.type "function")
 Mq:mg "Bill"=some (.ref A.dR)
 dY:wL K A.dR
 eQ:bZ K A.dR "number"
 kB:bZ K A.dR "who"
 ng:bZ K A.dR "day"
 ni:bZ K A.dR "due"
 nj:bZ K A.dR "amount"
 Mr: ∃f fd,gf K "__init__" "Bill.__init__" (mem 13 0) f fd/\Mk K A.dR f
 Hj:mg "Credit"=some (.ref A.dX)
 de:wL K A.dX
 eK:bZ K A.dX "number"
 kP:bZ K A.dX "who"
 iZ:bZ K A.dX "day"
 lD:bZ K A.dX "amount"
 jT:bZ K A.dX "only"
 Hl: ∃f fd,gf K "__init__" "Credit.__init__" (mem 14 0) f fd/\Mk K A.dX f
 Ms:mg "Work"=some (.ref A.work)
 bH:wL K A.work
 dS:bZ K A.work "bills"
 cB:bZ K A.work "all_credits"
 fz:bZ K A.work "lefts"
 fA:bZ K A.work "frees"
 me:bZ K A.work "made"
 Mt: ∃f fd,gf K "__init__" "Work.__init__" (mem 25 0) f fd/\Mk K A.work f
 qQ: ∃f fd,gf K "tell_bill" "Work.tell_bill" (mem 25 1) f fd/\Meth K A.work "tell_bill" f
 nu: ∃f fd,gf K "tell_payment" "Work.tell_payment" (mem 25 2) f fd/\Meth K A.work "tell_payment" f
 qR: ∃f fd,gf K "tell_note" "Work.tell_note" (mem 25 3) f fd/\Meth K A.work "tell_note" f
 oF: ∃f fd,gf K "tell_credit" "Work.tell_credit" (mem 25 4) f fd/\Meth K A.work "tell_credit" f
 oG: ∃f fd,gf K "set_by_hand" "Work.set_by_hand" (mem 25 5) f fd/\Meth K A.work "set_by_hand" f
 xm: ∃f fd,gf K "sweep" "Work.sweep" (mem 25 6) f fd/\Meth K A.work "sweep" f
 qS: ∃f fd,gf K "one_round" "Work.one_round" (mem 25 7) f fd/\Meth K A.work "one_round" f
 Cc: ∃f fd,gf K "put" "Work.put" (mem 25 8) f fd/\Meth K A.work "put" f
 qT: ∃f fd,gf K "credit_at" "Work.credit_at" (mem 25 9) f fd/\Meth K A.work "credit_at" f
 tX: ∃f fd,gf K "bill_at" "Work.bill_at" (mem 25 10) f fd/\Meth K A.work "bill_at" f
 Mu:mg "Book"=some (.ref A.book)
 eR:wL K A.book
 gA:bZ K A.book "kept"
 gE:bZ K A.book "work"
 Mv: ∃f fd,gf K "__init__" "Book.__init__" (mem 29 0) f fd/\Mk K A.book f
 D7: ∃f fd,gf K "do" "Book.do" (mem 29 1) f fd/\Meth K A.book "do" f
 zR: ∃f fd,gf K "undo" "Book.undo" (mem 29 2) f fd/\Meth K A.book "undo" f
 su: ∃f fd,gf K "in_force" "Book.in_force" (mem 29 3) f fd/\Meth K A.book "in_force" f
end eB
namespace L2
open PySem PySem.Spec PySem.W PyProof.Rows K7
structure gP (CX:ER)(P:Program)(w:World)(K:Frag)(mg:Str->Option Value)(base:Heap)(C:Addr)(m:Str)(k:Nat)(ps:List Str)(sp:Sp):Prop where
 ex: ∃(f:Addr) (fd:FuncData),wL K C/\Meth K C m f/\lV P w K mg base CX k f fd ps sp/\Binds K fd ps []
structure vC (P:Program)(w:World)(K:Frag)(mg:Str->Option Value)(base:Heap)(x:Str)(k:Nat)(ps:List Str)(sp:Sp):Prop where
 ex: ∃(f:Addr) (fd:FuncData),lV P w K mg base (mH P w mg) k f fd ps sp/\mg x=some (.ref f)/\keepIn K (.ref f)=true/\Binds K fd ps []
structure tY (P:Program)(w:World)(K:Frag)(mg:Str->Option Value)(base:Heap)(x:Str)(C:Addr)(k:Nat)(ps:List Str)(sp:Sp):Prop where
 ex: ∃(f:Addr) (fd:FuncData),Mk K C f/\lV P w K mg base rZ k f fd ps sp/\Binds K fd ps []/\mg x=some (.ref C)
section
variable {X:Cx}{CX:ER}{C:Addr}{x m:Str}{k:Nat}{ps:List Str}{sp:Sp}{o e:Expr}{es:List Expr}{ta:TE}{t:TA}{p pos apos:Pos}{E:XK}
def nv {pl:Sem Bool}(M:gP CX X.prog X.w X.K X.mg X.base C m k ps sp)(hr:eW k X.A)(hx:Passes CX X E)(he:PE X o ta)(ha:PA X (e :: es) t)
  (rF:starEach (e :: es) X.env=(false,eval e X.env) :: starEach es X.env:=by rfl) (gw:(backTo pos (starEach es X.env)).any (·.1)=false:=by rfl)
  (ht:eval (.Call (.Attribute o m apos) (e :: es) [] pos) X.env=(do
   let ov ← eval o X.env
   standAt apos.atName
   let(f,first) ← holding [ov] (getMethod ov m pl)
   callWith pos f first (backTo pos (starEach (e :: es) X.env)) (backToKw pos (keywordEach [] X.env))):=by rfl):
  PE X (.Call (.Attribute o m apos) (e :: es) [] pos) (Nl C m sp [] E ta t):=by
 obtain⟨f,fd,hc,hm,F,hb⟩:=M.ex;exact LF he hc hm F hr hb .nil hx ha rF gw ht
def sx (M:vC X.prog X.w X.K X.mg X.base x k ps sp)(hr:eW k X.A)(hg:Gl X x)(hx:Passes (mH X.prog X.w X.mg) X E)(ha:PA X (e :: es) t)(qx:(x == ("__debug__":Str))=false:=by decide)
  (he:starEach (e :: es) X.env=(false,eval e X.env) :: starEach es X.env:=by rfl) (gw:(backTo pos (starEach es X.env)).any (·.1)=false:=by rfl):PE X (.Call (.Name x p) (e :: es) [] pos) (uM sp [] E t):=by
 obtain⟨f,fd,F,hm,hk,hb⟩:=M.ex;exact ET F hr hg hm hk hb .nil hx ha qx he gw
def To (M:tY X.prog X.w X.K X.mg X.base x C k ps sp)(hr:eW (k + 1) X.A)(hg:Gl X x)(ha:PA X (e :: es) t)(qx:(x == ("__debug__":Str))=false:=by decide)
  (he:starEach (e :: es) X.env=(false,eval e X.env) :: starEach es X.env:=by rfl) (gw:(backTo pos (starEach es X.env)).any (·.1)=false:=by rfl):PE X (.Call (.Name x p) (e :: es) [] pos) (ES C sp [] E0 t):=by
 obtain⟨f,fd,hk,F,hb,hm⟩:=M.ex;exact LG hk F hr hg hm hb .nil mU ha qx he gw
def JQ (M:tY X.prog X.w X.K X.mg X.base x C k ps sp)(hr:eW (k + 1) X.A)(hg:Gl X x)(qx:(x == ("__debug__":Str))=false:=by decide):PE X (.Call (.Name x p) [] [] pos) (ES C sp [] E0 Bo):=by
 obtain⟨f,fd,hk,F,hb,hm⟩:=M.ex;exact IU hk F hr hg hm hb .nil mU qx
end
section
variable {P:Program}{w:World}{K:Frag}{mg:Str->Option Value}{base:Heap}{C:Addr}{x m qual:Str}{st:Stmt}{N ps:List Str}{k:Nat}{sp:Sp}
def Mw (D: ∃f fd,gf K m qual st f fd/\Meth K C m f)(hc:wL K C)(S:aS N ps (ay st))
  (fS: ∀(f:Addr) (cO:Value) (A:Around) (outer:List Env) (s:Shared) (H:Hp) (vs:List V) (Q:VK) (E:XK),eW k (A.deeper (envOfC qual (ay st) s.heap.objs.size f cO))->sp vs H Q E->
   ∃t,oO (kK rZ P w K mg base N qual (ay st) f cO A outer s H E).Dr (dz st) t/\t {nx:=fun _ H'=>Q .eh H',rt:=Q} (start N vs) H)
  (hb: ∀(kV doc pm:Value) (an:Option Addr) (cO ct:Value) (us:List Value),us.length=ps.length->bindArgs (fnOf m qual (gz st) (dz st) (ay st) .none kV doc pm an cO ct) ⟨us,[]⟩=pure (ps.zip us):=by intro _ _ _ _ _ _ us hl; rcases us with _|⟨_,_|⟨_,_|⟨_,_|⟨_,_|⟨_,_|⟨_,_|⟨_,_⟩⟩⟩⟩⟩⟩⟩ <;> first|(cases hl; done)|rfl)
  (len: ∀vs H Q E,sp vs H Q E->vs.length=ps.length:=by intro _ _ _ _ h; first|(cases h; subst_vars; rfl)|(repeat (first|(obtain⟨rfl,_⟩:=h; rfl; done)|obtain⟨_,h⟩:=h))):gP rZ P w K mg base C m (k + 1) ps sp:=by
 obtain⟨f,fd,F,hm⟩:=D;exact⟨f,fd,hc,hm,F.ok S len (fS f),F.binds hb⟩
def qU (D: ∃f fd,gf K m qual st f fd/\Meth K C m f)(hc:wL K C)(S:aS N ps (ay st))
  (fS: ∀(f:Addr) (cO:Value) (A:Around) (outer:List Env) (s:Shared) (H:Hp) (vs:List V) (Q:VK) (E:XK),eW k (A.deeper (envOfC qual (ay st) s.heap.objs.size f cO))->QY (kK (mH P w mg) P w K mg base N qual (ay st) f cO A outer s H E) E->sp vs H Q E->
   ∃t,oO (kK (mH P w mg) P w K mg base N qual (ay st) f cO A outer s H E) (dz st) t/\t {nx:=fun _ H'=>Q .eh H',rt:=Q} (start N vs) H)
  (hb: ∀(kV doc pm:Value) (an:Option Addr) (cO ct:Value) (us:List Value),us.length=ps.length->bindArgs (fnOf m qual (gz st) (dz st) (ay st) .none kV doc pm an cO ct) ⟨us,[]⟩=pure (ps.zip us):=by intro _ _ _ _ _ _ us hl; rcases us with _|⟨_,_|⟨_,_|⟨_,_|⟨_,_|⟨_,_|⟨_,_|⟨_,_⟩⟩⟩⟩⟩⟩⟩ <;> first|(cases hl; done)|rfl)
  (len: ∀vs H Q E,sp vs H Q E->vs.length=ps.length:=by intro _ _ _ _ h; first|(cases h; subst_vars; rfl)|(repeat (first|(obtain⟨rfl,_⟩:=h; rfl; done)|obtain⟨_,h⟩:=h))):gP (mH P w mg) P w K mg base C m (k + 1) ps sp:=by
 obtain⟨f,fd,F,hm⟩:=D;exact⟨f,fd,hc,hm,F.Z8 S len (fS f),F.binds hb⟩
def Pr (D:Df K mg x st)(S:aS N ps (ay st))
  (fS: ∀(f:Addr) (cO:Value) (A:Around) (outer:List Env) (s:Shared) (H:Hp) (vs:List V) (Q:VK) (E:XK),eW k (A.deeper (envOfC x (ay st) s.heap.objs.size f cO))->QY (kK (mH P w mg) P w K mg base N x (ay st) f cO A outer s H E) E->sp vs H Q E->
   ∃t,oO (kK (mH P w mg) P w K mg base N x (ay st) f cO A outer s H E) (dz st) t/\t {nx:=fun _ H'=>Q .eh H',rt:=Q} (start N vs) H)
  (hb: ∀(kV doc pm:Value) (an:Option Addr) (cO ct:Value) (us:List Value),us.length=ps.length->bindArgs (fnOf x x (gz st) (dz st) (ay st) .none kV doc pm an cO ct) ⟨us,[]⟩=pure (ps.zip us):=by intro _ _ _ _ _ _ us hl; rcases us with _|⟨_,_|⟨_,_|⟨_,_|⟨_,_|⟨_,_|⟨_,_|⟨_,_⟩⟩⟩⟩⟩⟩⟩ <;> first|(cases hl; done)|rfl)
  (len: ∀vs H Q E,sp vs H Q E->vs.length=ps.length:=by intro _ _ _ _ h; first|(cases h; subst_vars; rfl)|(repeat (first|(obtain⟨rfl,_⟩:=h; rfl; done)|obtain⟨_,h⟩:=h))):vC P w K mg base x (k + 1) ps sp:=by
 obtain⟨f,fd,F,hm⟩:=D.ex;exact⟨f,fd,F.Z8 S len (fS f),hm,F.kp,F.binds hb⟩
def Mx (D: ∃f fd,gf K "__init__" qual st f fd/\Mk K C f)(hm:mg x=some (.ref C))(S:aS N ps (ay st))
  (fS: ∀(f:Addr) (cO:Value) (A:Around) (outer:List Env) (s:Shared) (H:Hp) (vs:List V) (Q:VK) (E:XK),eW k (A.deeper (envOfC qual (ay st) s.heap.objs.size f cO))->sp vs H Q E->
   ∃t,oO (kK rZ P w K mg base N qual (ay st) f cO A outer s H E).Dr (dz st) t/\t {nx:=fun _ H'=>Q .eh H',rt:=Q} (start N vs) H)
  (hb: ∀(kV doc pm:Value) (an:Option Addr) (cO ct:Value) (us:List Value),us.length=ps.length->bindArgs (fnOf "__init__" qual (gz st) (dz st) (ay st) .none kV doc pm an cO ct) ⟨us,[]⟩=pure (ps.zip us):=by intro _ _ _ _ _ _ us hl; rcases us with _|⟨_,_|⟨_,_|⟨_,_|⟨_,_|⟨_,_|⟨_,_|⟨_,_⟩⟩⟩⟩⟩⟩⟩ <;> first|(cases hl; done)|rfl)
  (len: ∀vs H Q E,sp vs H Q E->vs.length=ps.length:=by intro _ _ _ _ h; first|(cases h; subst_vars; rfl)|(repeat (first|(obtain⟨rfl,_⟩:=h; rfl; done)|obtain⟨_,h⟩:=h))):tY P w K mg base x C (k + 1) ps sp:=by
 obtain⟨f,fd,F,hk⟩:=D;exact⟨f,fd,hk,F.ok S len (fS f),F.binds hb,hm⟩
end
end L2
namespace eB
open PySem L2 PyProof.Rows K7
seal L2.oO L2.PS L2.PE L2.PT L2.PW L2.PA L2.PC L2.PG L2.ID L2.PI L2.LO L2.K3 L2.PO L2.oA L2.Nk L2.gZ L2.IX L2.Nm
section
variable {P:Program}{w:World}{K:Frag}{mg:Str->Option Value}{base:Heap}
def Hm {H:Hp}{e dx:Addr}{a b c:HO}(h:dx≠e):upd (upd (upd H e a) dx b) e c=upd (upd H dx b) e c:=by
 funext q
 by_cases h1:q=e
 ·rw[h1,ag,ag]
 ·rw[az h1,az h1];by_cases h2:q=dx
  ·rw[h2,ag,ag]
  ·rw[az h2,az h2,az h1]
inductive NC (K:Frag)(vs:List V)(H:Hp)(Q:VK)(E':XK):Prop
 |mk (e C R t0:Addr)(txt:Str)(h1:vs=[.ref e,.str txt])(h2:H e=some (xo e C none (v0 t0)))(h3:gO K C R)(h4: ∀dx t',H dx=none->Q .eh (upd (upd H dx (.xd [("text",.str txt)])) e (xo e C (some dx) (v0 t')))):NC K vs H Q E'
def D8:aS ["self","text"] ["self","text"] (ay (mem 3 0)):={}
def gr (T:Txt K mg){f:Addr}{fd:FuncData}(F:gf K "__init__" "Refusal.__init__" (mem 3 0) f fd):SW P w K mg base 1 f fd ["self","text"] (NC K):=by
 refine l8 (k:=0) F D8 (fun vs H Q E h=>?_) (fun cO A outer s H vs Q E hr h=>?_)
 ·obtain⟨e,C,R,t0,txt,rfl,_⟩:=h;rfl
 ·obtain⟨e,C,R,t0,txt,rfl,he,ek,k⟩:=h;refine⟨_,(ah (bK (Jy rfl T.BV (aa (pv 0) (aa (pv 1) av)))) (au (Md (pv 0) (pv 1) rfl))),?_⟩;refine⟨_,rfl,_,rfl,e,C,R,t0,none,v0 t0,_,rfl,he,ek,rfl,fun t'=>?_⟩;refine⟨_,rfl,_,rfl,e,C,R,v0 t',rfl,ag,ek,fun dx JR=>?_⟩;have ne:dx≠e:=fun z=>by rw[z,ag] at JR; cases JR
  rw[az ne] at JR;have q:=k dx t' JR;rw[← Hm (a:=xo e C none (v0 t')) ne] at q;exact q
def Cd:aS ["self"] ["self"] (ay (mem 4 0)):={}
def Ce (T:Txt K mg){A:dU}(G:jv K mg A):Jz P w K mg base 2 "NoCredit" A.jS A.refusal "no credit":=by
 obtain⟨f,fd,F,hi,ht⟩:=G.B0;obtain⟨f0,Pt,F0,ik⟩:=G.gq;refine⟨G.BY,G.tj,G.BZ,f,fd,hi,ht,?_,F.binds (fun _ _ _ _ _ _ us hl=>match us,hl with|[_],_=>rfl)⟩;refine l8 (k:=1) F Cd (fun vs H Q E h=>?_) (fun cO A' outer s H vs Q E hr h=>?_)
 ·obtain⟨e,C,R,t0,rfl,_⟩:=h;rfl
 ·obtain⟨e,C,R,t0,rfl,he,ek,k⟩:=h;refine⟨_,(au (bK (ja ik (gr T F0) hr (F0.binds (fun _ _ _ _ _ _ us hl=>match us,hl with|[_,_],_=>rfl)) rfl G.fP (aa (pv 0) (aa aQ av))))),?_⟩;exact⟨_,rfl,e,C,R,t0,_,rfl,he,ek,fun dx t' n=>k dx t' n⟩
def Hn:aS ["self"] ["self"] (ay (mem 5 0)):={}
def Ho (T:Txt K mg){A:dU}(G:jv K mg A):Jz P w K mg base 2 "NoBill" A.pQ A.refusal "no bill":=by
 obtain⟨f,fd,F,hi,ht⟩:=G.Hf;obtain⟨f0,Pt,F0,ik⟩:=G.gq;refine⟨G.Hd,G.yw,G.He,f,fd,hi,ht,?_,F.binds (fun _ _ _ _ _ _ us hl=>match us,hl with|[_],_=>rfl)⟩;refine l8 (k:=1) F Hn (fun vs H Q E h=>?_) (fun cO A' outer s H vs Q E hr h=>?_)
 ·obtain⟨e,C,R,t0,rfl,_⟩:=h;rfl
 ·obtain⟨e,C,R,t0,rfl,he,ek,k⟩:=h;refine⟨_,(au (bK (ja ik (gr T F0) hr (F0.binds (fun _ _ _ _ _ _ us hl=>match us,hl with|[_,_],_=>rfl)) rfl G.fP (aa (pv 0) (aa aQ av))))),?_⟩;exact⟨_,rfl,e,C,R,t0,_,rfl,he,ek,fun dx t' n=>k dx t' n⟩
def zS:aS ["self"] ["self"] (ay (mem 6 0)):={}
def zT (T:Txt K mg){A:dU}(G:jv K mg A):Jz P w K mg base 2 "NotTheirs" A.jB A.refusal "not theirs":=by
 obtain⟨f,fd,F,hi,ht⟩:=G.zN;obtain⟨f0,Pt,F0,ik⟩:=G.gq;refine⟨G.zL,G.qO,G.zM,f,fd,hi,ht,?_,F.binds (fun _ _ _ _ _ _ us hl=>match us,hl with|[_],_=>rfl)⟩;refine l8 (k:=1) F zS (fun vs H Q E h=>?_) (fun cO A' outer s H vs Q E hr h=>?_)
 ·obtain⟨e,C,R,t0,rfl,_⟩:=h;rfl
 ·obtain⟨e,C,R,t0,rfl,he,ek,k⟩:=h;refine⟨_,(au (bK (ja ik (gr T F0) hr (F0.binds (fun _ _ _ _ _ _ us hl=>match us,hl with|[_,_],_=>rfl)) rfl G.fP (aa (pv 0) (aa aQ av))))),?_⟩;exact⟨_,rfl,e,C,R,t0,_,rfl,he,ek,fun dx t' n=>k dx t' n⟩
def Cf:aS ["self"] ["self"] (ay (mem 7 0)):={}
def Cg (T:Txt K mg){A:dU}(G:jv K mg A):Jz P w K mg base 2 "NoAmount" A.iA A.refusal "no amount":=by
 obtain⟨f,fd,F,hi,ht⟩:=G.B7;obtain⟨f0,Pt,F0,ik⟩:=G.gq;refine⟨G.B4,G.kA,G.B6,f,fd,hi,ht,?_,F.binds (fun _ _ _ _ _ _ us hl=>match us,hl with|[_],_=>rfl)⟩;refine l8 (k:=1) F Cf (fun vs H Q E h=>?_) (fun cO A' outer s H vs Q E hr h=>?_)
 ·obtain⟨e,C,R,t0,rfl,_⟩:=h;rfl
 ·obtain⟨e,C,R,t0,rfl,he,ek,k⟩:=h;refine⟨_,(au (bK (ja ik (gr T F0) hr (F0.binds (fun _ _ _ _ _ _ us hl=>match us,hl with|[_,_],_=>rfl)) rfl G.fP (aa (pv 0) (aa aQ av))))),?_⟩;exact⟨_,rfl,e,C,R,t0,_,rfl,he,ek,fun dx t' n=>k dx t' n⟩
def Ci:aS ["self"] ["self"] (ay (mem 8 0)):={}
def Cj (T:Txt K mg){A:dU}(G:jv K mg A):Jz P w K mg base 2 "TooEarly" A.tooEarly A.refusal "too early":=by
 obtain⟨f,fd,F,hi,ht⟩:=G.Cb;obtain⟨f0,Pt,F0,ik⟩:=G.gq;refine⟨G.B8,G.tq,G.Ca,f,fd,hi,ht,?_,F.binds (fun _ _ _ _ _ _ us hl=>match us,hl with|[_],_=>rfl)⟩;refine l8 (k:=1) F Ci (fun vs H Q E h=>?_) (fun cO A' outer s H vs Q E hr h=>?_)
 ·obtain⟨e,C,R,t0,rfl,_⟩:=h;rfl
 ·obtain⟨e,C,R,t0,rfl,he,ek,k⟩:=h;refine⟨_,(au (bK (ja ik (gr T F0) hr (F0.binds (fun _ _ _ _ _ _ us hl=>match us,hl with|[_,_],_=>rfl)) rfl G.fP (aa (pv 0) (aa aQ av))))),?_⟩;exact⟨_,rfl,e,C,R,t0,_,rfl,he,ek,fun dx t' n=>k dx t' n⟩
def D9:aS ["self"] ["self"] (ay (mem 9 0)):={}
def Ea (T:Txt K mg){A:dU}(G:jv K mg A):Jz P w K mg base 2 "TooMuch" A.tooMuch A.refusal "too much":=by
 obtain⟨f,fd,F,hi,ht⟩:=G.D5;obtain⟨f0,Pt,F0,ik⟩:=G.gq;refine⟨G.vB,G.pS,G.D4,f,fd,hi,ht,?_,F.binds (fun _ _ _ _ _ _ us hl=>match us,hl with|[_],_=>rfl)⟩;refine l8 (k:=1) F D9 (fun vs H Q E h=>?_) (fun cO A' outer s H vs Q E hr h=>?_)
 ·obtain⟨e,C,R,t0,rfl,_⟩:=h;rfl
 ·obtain⟨e,C,R,t0,rfl,he,ek,k⟩:=h;refine⟨_,(au (bK (ja ik (gr T F0) hr (F0.binds (fun _ _ _ _ _ _ us hl=>match us,hl with|[_,_],_=>rfl)) rfl G.fP (aa (pv 0) (aa aQ av))))),?_⟩;exact⟨_,rfl,e,C,R,t0,_,rfl,he,ek,fun dx t' n=>k dx t' n⟩
def zU:aS ["self"] ["self"] (ay (mem 10 0)):={}
def zV (T:Txt K mg){A:dU}(G:jv K mg A):Jz P w K mg base 2 "NoSetting" A.jC A.refusal "no setting":=by
 obtain⟨f,fd,F,hi,ht⟩:=G.zQ;obtain⟨f0,Pt,F0,ik⟩:=G.gq;refine⟨G.zO,G.qP,G.zP,f,fd,hi,ht,?_,F.binds (fun _ _ _ _ _ _ us hl=>match us,hl with|[_],_=>rfl)⟩;refine l8 (k:=1) F zU (fun vs H Q E h=>?_) (fun cO A' outer s H vs Q E hr h=>?_)
 ·obtain⟨e,C,R,t0,rfl,_⟩:=h;rfl
 ·obtain⟨e,C,R,t0,rfl,he,ek,k⟩:=h;refine⟨_,(au (bK (ja ik (gr T F0) hr (F0.binds (fun _ _ _ _ _ _ us hl=>match us,hl with|[_,_],_=>rfl)) rfl G.fP (aa (pv 0) (aa aQ av))))),?_⟩;exact⟨_,rfl,e,C,R,t0,_,rfl,he,ek,fun dx t' n=>k dx t' n⟩
def Hq:aS ["self"] ["self"] (ay (mem 11 0)):={}
def Hr (T:Txt K mg){A:dU}(G:jv K mg A):Jz P w K mg base 2 "Needed" A.iU A.refusal "needed":=by
 obtain⟨f,fd,F,hi,ht⟩:=G.Hh;obtain⟨f0,Pt,F0,ik⟩:=G.gq;refine⟨G.yx,G.yy,G.Hg,f,fd,hi,ht,?_,F.binds (fun _ _ _ _ _ _ us hl=>match us,hl with|[_],_=>rfl)⟩;refine l8 (k:=1) F Hq (fun vs H Q E h=>?_) (fun cO A' outer s H vs Q E hr h=>?_)
 ·obtain⟨e,C,R,t0,rfl,_⟩:=h;rfl
 ·obtain⟨e,C,R,t0,rfl,he,ek,k⟩:=h;refine⟨_,(au (bK (ja ik (gr T F0) hr (F0.binds (fun _ _ _ _ _ _ us hl=>match us,hl with|[_,_],_=>rfl)) rfl G.fP (aa (pv 0) (aa aQ av))))),?_⟩;exact⟨_,rfl,e,C,R,t0,_,rfl,he,ek,fun dx t' n=>k dx t' n⟩
def oT (rc rb:Rw)(b:Nat):Bool:=if rc.c= -1 then decide (rc.aH=rb.aH) else decide (rc.c=(b:Int))
def EX (E:XK)(C:Addr)(txt:Str)(H:Hp):Prop:= ∀(dx:Addr) (H':Hp),aD H H'->H dx=none->H' dx=some (.xd [("text",.str txt)])->E (.ref C) (some dx) H'
def EX.at {E:XK}{C dx:Addr}{txt:Str}{H:Hp}(h:EX E C txt H)(n:H dx=none):E (.ref C) (some dx) (upd H dx (.xd [("text",.str txt)])):=h dx _ (aD.new n) n ag
inductive qV (A:dU)(vs:List V)(H:Hp)(Q:VK)(E:XK):Prop
 |mk (a:Int)(h1:vs=[.int a])(h2:(1<=a->Q .eh H))(h3:(a < 1->EX E A.iA "no amount" H)):qV A vs H Q E
def tZ:aS ["amount"] ["amount"] (ay (top 26)):={}
def jU (T:Txt K mg){A:dU}(G:jv K mg A):vC P w K mg base "check_amount" 4 ["amount"] (qV A):=by
 refine Pr (k:=3) T.vw tZ (fun f cO A' outer s H vs Q E hr mx h=>?_)
 ·obtain⟨a,rfl,k1,k2⟩:=h;refine⟨_,(au (bN (aV jn (pv 0) ai (aZ _)) (au (jQ mx (Cg T G) hr.h rfl rfl)) bb)),?_⟩;refine⟨_,rfl,_,_,rfl,rfl,_,rfl,ck (fun z=>?_) (fun z=>?_)⟩
  ·exact fun dx n=>(k2 (aN z)).at n
  ·exact k1 (by have: ¬ a < 1:=fun q=>z (aG q); lia)
inductive zW (A:dU)(vs:List V)(H:Hp)(Q:VK)(E':XK):Prop
 |mk (p q:Addr)(c b:Nat)(rc rb:Rw)(h1:vs=[.ref p,.ref q])(h2:en H p A.dX (eY c rc))(h3:en H q A.dR (fv b rb))(h4:Q (.bl (oT rc rb b)) H):zW A vs H Q E'
def My:aS ["credit","bill"] ["credit","bill"] (ay (top 15)):={}
def JS (T:Txt K mg){A:dU}(G:jv K mg A):eI P w K mg base "fits" 1 ["credit","bill"] (zW A):=by
 refine T.Pg.eX (k:=0) My (fun f cO A' outer s H vs Q E hr h=>?_)
 ·obtain⟨p,q,c,b,rc,rb,rfl,⟨dp,hp⟩,⟨dq,hq⟩,k⟩:=h;refine⟨_,(ah (bN (yY (IC (km (pv 0))))
(au (a0 (ff cH (km (pv 0)) (km (pv 1)) (aZ _))))
bb)
(au (a0 (ff cH (km (pv 0)) (km (pv 1)) (aZ _))))),?_⟩
  have fo:=Mo c rc;refine⟨_,rfl,p,_,dp,_,_,rfl,hp,G.de,G.jT,fo,?_⟩;by_cases z:rc.c= -1
  ·have e:tf rc.c= .eh:=a8 z;refine⟨true,by rw[e]; rfl,fB ?_⟩;refine⟨_,rfl,p,_,dp,_,_,rfl,hp,G.de,G.kP,JO c rc,_,rfl,q,_,dq,_,_,rfl,hq,G.dY,G.kB,DZ b rb,rfl,?_⟩;have e2:oT rc rb b=decide (V.str rc.aH=V.str rb.aH):=by
    unfold oT;rw[a8 z];exact mE.mpr ⟨fun h=>by rw[h],fun h=>by injection h⟩
   rw[e2] at k;exact k
  ·have e:tf rc.c= .int rc.c:=aU z;refine⟨false,by rw[e]; rfl,bT ?_⟩;rw[e] at fo;refine⟨_,rfl,p,_,dp,_,_,rfl,hp,G.de,G.jT,fo,_,rfl,q,_,dq,_,_,rfl,hq,G.dY,G.eQ,lz b rb,rfl,?_⟩;have e2:oT rc rb b=decide (V.int rc.c=V.int (b:Int)):=by
    unfold oT;rw[aU z];exact mE.mpr ⟨fun h=>by rw[h],fun h=>by injection h⟩
   rw[e2] at k;exact k
inductive Eb (A:dU)(vs:List V)(H:Hp)(Q:VK)(E':XK):Prop
 |mk (p q:Addr)(c b:Nat)(rc rb:Rw)(h1:vs=[.ref p,.ref q])(h2:en H p A.dX (eY c rc))(h3:en H q A.dR (fv b rb))(h4:Q (.int (if rb.a > rc.a then rb.a else rc.a)) H):Eb A vs H Q E'
def vE:aS ["credit","bill"] ["credit","bill"] (ay (top 16)):={}
def xn (T:Txt K mg){A:dU}(G:jv K mg A):eI P w K mg base "counts_from" 1 ["credit","bill"] (Eb A):=by
 refine T.wY.eX (k:=0) vE (fun f cO A' outer s H vs Q E hr h=>?_)
 ·obtain⟨p,q,c,b,rc,rb,rfl,⟨dp,hp⟩,⟨dq,hq⟩,k⟩:=h;refine⟨_,(au (a0 (eM (xX rfl) (by rfl) T.NA boot_max (aa (km (pv 0)) (aa (km (pv 1)) av))))),?_⟩;exact⟨_,rfl,p,_,dp,_,_,rfl,hp,G.de,G.iZ,JP c rc,_,rfl,q,_,dq,_,_,rfl,hq,G.dY,G.ng,Pp b rb,_,_,rfl,k⟩
def getD_at {α:Type}{xs:List α}{d:α}{i:Nat}(h:i < xs.length):xs.getD i d=xs[i]:=by rw[aj,af h]; rfl
def ny {g:Int->V}{xs:List Int}{i:Nat}(h:i < xs.length):rY (xs.map g) (i:Int)=some (g (xs.getD i 0)):=by
 rw[getD_at h];exact cw (by rw[aB,af h]; rfl)
def qW {n j:Nat}(h:j < n):LI n (j:Int)=some j:=by
 unfold LI;rw[if_pos (by lia),if_pos (by lia)]; simp
def fW {H H':Hp}(s:aD H H'): ∀b xs,H b=some (.tup xs)->H' b=some (.tup xs):=fun b xs e=>s _ _ e
def jm {α:Type}{xs:List α}{m:Nat}(h:m < xs.length):xs.take (m + 1)=xs.take m ++ [xs[m]]:=by
 rw[A2,af h]; rfl
def Tp (cs:List Int)(lo hi:Option Int): ∃ds:List Int,qy (cs.map V.int) lo hi=ds.map V.int/\ds.length<=cs.length:=by
 unfold qy;refine⟨_,by rw[← List.map_drop,← List.map_take],?_⟩;rw[bf,mC];lia
def zX (x m:Int)(h:0 < m): ∃n:Nat,x % m=(n:Int)/\(n:Int) < m:=by
 have h1:=ke x (show m≠0 by lia);have h2:=qj x h;exact⟨(x % m).toNat,by lia,by lia⟩
def kC {α:Type}{g:α->V}{xs:List α}{m:Int}{x:Int}(hm:m=(xs.length:Int))(h:0 < m): ∃y∈xs,rY (xs.map g) (x % m)=some (g y):=by
 obtain⟨n,e,hn⟩:=zX x m h;have hl:n < xs.length:=by lia
 exact⟨xs[n],bG _,by rw[e]; exact cw (by rw[aB,af hl]; rfl)⟩
inductive Ec (vs:List V)(H:Hp)(Q:VK)(E':XK):Prop
 |mk (n p m:Int)(h1:vs=[.int n,.int p,.int m])(h2:0 < p)(h3:0 < m)(h4: ∀r,0<=r->r < m->Q (.int r) H):Ec vs H Q E'
def zY:aS ["_law_number","_law_prime","_law_many"] ["_law_number","_law_prime","_law_many"] (ay (top 44)):={}
def Ck (T:Txt K mg):eI P w K mg base "_law_draw" 1 ["_law_number","_law_prime","_law_many"] Ec:=by
 refine T.BP.eX (k:=0) zY (fun f cO A outer s H vs Q E hr h=>?_)
 ·obtain⟨n,p,m,rfl,hp,hm,k⟩:=h;refine⟨_,(au (a0 (aO bW (aO bW (aO lU (pv 0) ai) (pv 1)) (pv 2)))),?_⟩;refine⟨_,rfl,_,_,rfl,rfl,.inr ⟨by decide,by decide⟩,_,rfl,_,_,rfl,rfl,hp,_,rfl,_,_,rfl,rfl,hm,?_⟩;exact k _ (ke _ (by lia)) (qj _ hm)
inductive vF (K:Frag)(vs:List V)(H:Hp)(Q:VK)(E':XK):Prop
 |mk (a:Addr)(cs:List Int)(h1:vs=[.ref a])(h2:bA K H a (cs.map V.int))(h3: ∀(pn:Addr) (names:List Str) (H':Hp),aD H H'->H' pn=some (.lst (names.map V.str))->names≠[]->names.length<=6->Q (.ref pn) H'):vF K vs H Q E'
def nz:aS ["_law_cells","_law_spot","_law_made"] ["_law_cells"] (ay (top 48)):={}
def oU (T:Txt K mg):eI P w K mg base "_law_people" 1 ["_law_cells"] (vF K):=by
 refine T.xa.eX (k:=0) nz (fun f cO A outer s H vs Q E hr h=>?_)
 ·obtain⟨a,cs,rfl,hS,k⟩:=h;have nd:=nz.nd;refine⟨_,(ah (sv 1 nd (aO bW (aO iX (eM (lu rfl) (by rfl) T.BU boot_sum (aa (mQ Th (pv 0) uj (nZ ai)) av)) ai) ai))
(ah (sv 2 nd (bP (aa (bP (aa aQ (aa aQ (aa aQ av)))) (aa (bP (aa aQ (aa aQ (aa aQ av)))) av))))
(ah (bK (oS (pv 2) (bP (aa (aO zq aQ ai) (aa (aO uJ (aO uJ (aO zq aQ (pv 1)) aQ) (aO zq aQ (aO eL ai (pv 1)))) (aa aQ av))))))
(au (a0 (xl (aO mS (pv 2) (bP (aa (bP (aa aQ (aa aQ (aa aQ (aa aQ (aa aQ (aa aQ av))))))) av))) (aO bW (aO iX (eM (lu rfl) (by rfl) T.BU boot_sum (aa (mQ Th (pv 0) uj (nZ ai)) av)) ai) ai))))))),?_⟩
  refine⟨_,rfl,_,rfl,a,_,rfl,hS,fun p1 n1=>?_⟩;obtain⟨ds,ed,_⟩:=Tp cs none (some 1);rw[ed];have s1:aD H (upd H p1 (.lst (ds.map V.int))):=aD.new n1;refine⟨p1,ds,rfl,bA.of ag,_,_,rfl,rfl,⟨by decide,by decide⟩,_,_,rfl,rfl,(by show(0:Int) < 60; decide),?_⟩;obtain⟨sp,VI,y1⟩:=zX (ds.sum / 28) 60 (by decide);show _;generalize upd H p1 (.lst (ds.map V.int))=H1 at s1 ⊢;refine⟨(by show 3<=sizeLine; decide),fun p2 n2=>⟨(by show 3<=sizeLine; decide),fun p3 n3=>⟨(by show 2<=sizeLine; decide),fun p4 n4=>?_⟩⟩⟩;have t2:=aD.new (o:= .lst [V.str "ann",.str "",.str "bo"]) n2;have t3:=aD.new (o:= .lst [V.str "ann",.str "ann lee",.str "Ann"]) n3;have t4:=aD.new (o:= .lst [V.ref p2,.ref p3]) n4;have s4:=((s1.trans t2).trans t3).trans t4;have g2:=(t3.trans t4) _ _ (ag (H:=H1) (a:=p2) (o:= .lst [V.str "ann",.str "",.str "bo"]));have g3:=t4 _ _ (ag (H:=upd H1 p2 (.lst [V.str "ann",.str "",.str "bo"])) (a:=p3) (o:= .lst [V.str "ann",.str "ann lee",.str "Ann"]));have g4:=ag (H:=upd (upd H1 p2 (.lst [V.str "ann",.str "",.str "bo"])) p3 (.lst [V.str "ann",.str "ann lee",.str "Ann"])) (a:=p4) (o:= .lst [V.ref p2,.ref p3]);have m4:H p4=none:=((s1.trans t2).trans t3).free n4;generalize upd (upd (upd H1 p2 (.lst [V.str "ann",.str "",.str "bo"])) p3 (.lst [V.str "ann",.str "ann lee",.str "Ann"])) p4 (.lst [V.ref p2,.ref p3])=H4 at s4 g2 g3 g4 ⊢;clear t2 t3 t4;refine⟨_,rfl,.inl ⟨rfl,_,bA.of g4⟩,?_⟩;refine⟨_,_,rfl,rfl,rfl,(by decide),(by decide),fun z1 hz1=>?_⟩;refine⟨_,rfl,_,_,rfl,rfl,rfl,(by rw[VI]; lia),(by rw[VI]; lia),fun z2 hz2=>?_⟩;refine⟨_,_,rfl,rfl,dr (iY (by show z2.length + 1<=_; lia)),?_⟩;refine⟨_,rfl,_,_,rfl,rfl,_,_,rfl,rfl,rfl,(by rw[VI]; lia),(by rw[VI]; lia),fun z3 hz3=>?_⟩;refine⟨_,_,rfl,rfl,dr (iY (by
   have:(z2 ++ ("y":Str)).length=z2.length + 1:=by
    show(z2.cps ++ _).size=_;rw[Array.size_append]; rfl
   rw[this]; lia)),?_⟩
  refine⟨(by show 3<=sizeLine; decide),fun p5 n5=>?_⟩;generalize (z2 ++ ("y":Str)) ++ z3=z4;have t5:=aD.new (o:= .lst [V.str z1,.str z4,.str " ~"]) n5;refine⟨p4,_,_,rfl,rfl,t5 _ _ g4,(by show 2 < sizeLine; decide),?_⟩;have s5:aD H (upd (upd H4 p5 (.lst [V.str z1,.str z4,.str " ~"])) p4 (.lst ([V.ref p2,.ref p3] ++ [.ref p5]))):=(s4.trans t5).cG m4;have XU:p2≠p4:=fun e=>by rw[e,g4] at g2; cases g2
  have XW:p3≠p4:=fun e=>by rw[e,g4] at g3; cases g3
  have XX:p5≠p4:=(aJ g4 n5).symm;have j2:upd (upd H4 p5 (.lst [V.str z1,.str z4,.str " ~"])) p4 (.lst ([V.ref p2,.ref p3] ++ [.ref p5])) p2=some (.lst [V.str "ann",.str "",.str "bo"]):=by rw[az XU]; exact t5 _ _ g2
  have j3:upd (upd H4 p5 (.lst [V.str z1,.str z4,.str " ~"])) p4 (.lst ([V.ref p2,.ref p3] ++ [.ref p5])) p3=some (.lst [V.str "ann",.str "ann lee",.str "Ann"]):=by rw[az XW]; exact t5 _ _ g3
  have j5:upd (upd H4 p5 (.lst [V.str z1,.str z4,.str " ~"])) p4 (.lst ([V.ref p2,.ref p3] ++ [.ref p5])) p5=some (.lst [V.str z1,.str z4,.str " ~"]):=by rw[az XX]; exact ag
  have j4:upd (upd H4 p5 (.lst [V.str z1,.str z4,.str " ~"])) p4 (.lst ([V.ref p2,.ref p3] ++ [.ref p5])) p4=some (.lst ([V.ref p2,.ref p3] ++ [.ref p5])):=ag;generalize upd (upd H4 p5 (.lst [V.str z1,.str z4,.str " ~"])) p4 (.lst ([V.ref p2,.ref p3] ++ [.ref p5]))=H5 at s5 j2 j3 j4 j5 ⊢;clear t5;refine⟨_,rfl,?_⟩;refine⟨(by show 6<=sizeLine; decide),fun p6 n6=>⟨(by show 1<=sizeLine; decide),fun p7 n7=>?_⟩⟩;have t6:=aD.new (o:= .lst [V.str "ann",.str "",.str "bo",.str "Cy ~",.str "ann ",.str "dee"]) n6;have t7:=aD.new (o:= .lst [V.ref p6]) n7;have t67:=t6.trans t7;have j6:=t7 _ _ (ag (H:=H5) (a:=p6) (o:= .lst [V.str "ann",.str "",.str "bo",.str "Cy ~",.str "ann ",.str "dee"]));refine⟨p4,p7,_,_,rfl,rfl,t67 _ _ j4,ag,(by show 4<=sizeLine; decide),fun p8 n8=>?_⟩;have t8:=aD.new (o:= .lst (([V.ref p2,.ref p3] ++ [.ref p5]) ++ [.ref p6])) n8;have t78:=t67.trans t8;have s8:=s5.trans t78;refine⟨_,rfl,_,rfl,a,_,rfl,s8.seq hS,fun p9 n9=>?_⟩;rw[ed];have t9:=aD.new (o:= .lst (ds.map V.int)) n9;refine⟨p9,ds,rfl,bA.of ag,_,_,rfl,rfl,⟨by decide,by decide⟩,_,_,rfl,rfl,(by show(0:Int) < 4; decide),?_⟩;obtain⟨r,er,XY⟩:=zX (ds.sum / 7) 4 (by decide);have XZ:r < 4:=by lia
  have fin: ∀(pn:Addr) (names:List Str),H5 pn=some (.lst (names.map V.str))∨upd (upd H5 p6 (.lst [V.str "ann",.str "",.str "bo",.str "Cy ~",.str "ann ",.str "dee"])) p7 (.lst [V.ref p6]) pn=some (.lst (names.map V.str))->names≠[]->names.length<=6->Q (.ref pn) _:=fun pn names h h1 h2=>
   k pn names _ (s8.trans t9) (by
    rcases h with h|h
    ·exact(t78.trans t9) _ _ h
    ·exact(t8.trans t9) _ _ h) h1 h2
  have VJ:=t9 _ _ (ag (H:=upd (upd H5 p6 (.lst [V.str "ann",.str "",.str "bo",.str "Cy ~",.str "ann ",.str "dee"])) p7 (.lst [V.ref p6])) (a:=p8) (o:= .lst (([V.ref p2,.ref p3] ++ [.ref p5]) ++ [.ref p6])))
  match r,XZ,er with
  |0,_,er=>exact⟨p8,_,_,.ref p2,rfl,rfl,bA.of VJ,by show rY _ (ds.sum / 7 % 4)=_; rw[er]; rfl,fin p2 [_,_,_] (.inl j2) (by simp) (by simp)⟩
  |1,_,er=>exact⟨p8,_,_,.ref p3,rfl,rfl,bA.of VJ,by show rY _ (ds.sum / 7 % 4)=_; rw[er]; rfl,fin p3 [_,_,_] (.inl j3) (by simp) (by simp)⟩
  |2,_,er=>exact⟨p8,_,_,.ref p5,rfl,rfl,bA.of VJ,by show rY _ (ds.sum / 7 % 4)=_; rw[er]; rfl,fin p5 [_,_,_] (.inl j5) (by simp) (by simp)⟩
  |3,_,er=>exact⟨p8,_,_,.ref p6,rfl,rfl,bA.of VJ,by show rY _ (ds.sum / 7 % 4)=_; rw[er]; rfl,fin p6 [_,_,_,_,_,_] (.inr j6) (by simp) (by simp)⟩
  |r + 4,h,_=>lia
def at4 (a b c d x:Int): ∃y,rY [V.int a,V.int b,V.int c,V.int d] (x % 4)=some (V.int y):=by
 obtain⟨y,_,h⟩:=kC (g:=V.int) (xs:=[a,b,c,d]) (m:=4) (x:=x) rfl (by decide);exact⟨y,h⟩
def at3 (a b c x:Int): ∃y,(y=a∨y=b∨y=c)/\rY [V.int a,V.int b,V.int c] (x % 3)=some (V.int y):=by
 obtain⟨y,hy,h⟩:=kC (g:=V.int) (xs:=[a,b,c]) (m:=3) (x:=x) rfl (by decide);exact⟨y,by simpa using hy,h⟩
def Cm {x:Int}(h:x<=1000000000):x<=vk:=Ff (lQ h (by decide +kernel))
def X0 (a b x:Int): ∃y,(y=a∨y=b)/\rY [V.int a,V.int b] (x % 2)=some (V.int y):=by
 obtain⟨y,hy,h⟩:=kC (g:=V.int) (xs:=[a,b]) (m:=2) (x:=x) rfl (by decide);exact⟨y,by simpa using hy,h⟩
inductive vG (K:Frag)(vs:List V)(H:Hp)(Q:VK)(E':XK):Prop
 |mk (a:Addr)(cs:List Int)(i:Nat)(h1:vs=[.ref a,.int i])(h2:bA K H a (cs.map V.int))(h3:i < cs.length)(h4: ∀(p:Addr) (aH:Str) (day dF:Int) (H':Hp),aD H H'->H' p=some (.tup [.str aH,.int day,.int dF])->day<=vk->Q (.ref p) H'):vG K vs H Q E'
def nA:aS ["_law_cells","_law_k","_law_cell","_law_rest","_law_names","_law_who","_law_day","_law_amount"] ["_law_cells","_law_k"] (ay (top 49)):={}
def xp (T:Txt K mg):eI P w K mg base "_law_penned" 2 ["_law_cells","_law_k"] (vG K):=by
 have kQ:eI P w K mg base "_law_people" 1 ["_law_cells"] (vF K):=oU T;have nE:eI P w K mg base "_law_draw" 1 ["_law_number","_law_prime","_law_many"] Ec:=Ck T;refine T.xc.eX (k:=1) nA (fun f cO A outer s H vs Q E hr h=>?_)
 ·obtain⟨a,cs,i,rfl,hS,hi,k⟩:=h;have nd:=nA.nd;refine⟨_,(ah (sv 2 nd (xl (pv 0) (pv 1)))
(ah (sv 3 nd (aO iX (pv 2) ai))
(ah (sv 4 nd (fc kQ hr (aa (pv 0) av)))
(ah (sv 5 nd (xl (pv 4) (aO bW (aO cz (pv 3) (pv 1)) (ma T.dB (pv 4)))))
(ah (sv 6 nd (aO eL (fc nE hr (aa (aO cz (pv 2) (aO lU ai (pv 1))) (aa ai (aa ai av)))) ai))
(ah (sv 7 nd (aO cz ai (fc nE hr (aa (aO cz (pv 2) (aO lU ai (pv 1))) (aa ai (aa ai av))))))
(iq (bN (aV cH (aO bW (pv 2) ai) ai (aZ _))
(au (sv 7 nd (aO cz ai (aO lU (fc nE hr (aa (aO cz (pv 2) (aO lU ai (pv 1))) (aa ai (aa ai av)))) ai))))
bb)
(iq (bN (aV cH (aO bW (pv 2) ai) ai (aZ _))
(au (sv 7 nd (aO cz ai (aO bW (pv 2) (aO eL (aO LW (aO ji ai ai) (aO ji ai ai)) ai)))))
bb)
(iq (bN (aV cH (aO bW (pv 2) ai) ai (aZ _))
(au (sv 7 nd (xl (bP (aa ai (aa (oP kJ ai) (aa (aO ji ai ai) (aa (aO eL ai (aO bW (pv 2) (aO ji ai ai))) av))))) (aO bW (pv 3) ai))))
bb)
(iq (bN (aV cH (aO bW (pv 2) ai) ai (aZ _))
(au (sv 6 nd (xl (bP (aa (aO ji ai ai) (aa (oP kJ (aO ji ai ai)) (aa (aO eL (aO bW (pv 2) ai) ai) av)))) (aO bW (pv 3) ai))))
bb)
(iq (bN (aV cH (aO bW (pv 2) ai) ai (aZ _))
(au (sv 6 nd (aO lU (aO bW (pv 2) (aO ji ai ai)) (xl (bP (aa ai (aa (oP kJ ai) av))) (aO bW (pv 1) ai)))))
bb)
(au (a0 (cD (aa (pv 5) (aa (pv 6) (aa (pv 7) av))))))))))))))))),?_⟩
  refine⟨_,rfl,_,rfl,a,_,_,.int (cs.getD i 0),rfl,rfl,hS,ny hi,?_⟩;generalize cs.getD i 0=cell;refine⟨_,rfl,_,_,rfl,rfl,⟨by decide,by decide⟩,?_⟩;refine⟨_,rfl,a,cs,rfl,hS,fun pn names H1 s1 Hs hn0 hn6=>?_⟩;have Tq:0 < names.length:=List.length_pos_iff.mpr hn0;obtain⟨aH,_,Tr⟩:=kC (g:=V.str) (xs:=names) (m:=((names.map V.str).length:Int)) (x:=cell / 16 + (i:Int)) (by rw[ae]) (by rw[ae]; lia);refine⟨_,rfl,_,rfl,_,rfl,_,_,rfl,rfl,_,rfl,pn,_,rfl,.inl (bA.of Hs),_,_,rfl,rfl,(by rw[ae]; show(0:Int) < _; lia),pn,_,_,.str aH,rfl,rfl,bA.of Hs,Tr,?_⟩;refine⟨_,rfl,_,rfl,_,_,rfl,rfl,.inl ⟨by decide,by decide⟩,_,_,rfl,rfl,_,_,_,rfl,by decide,by decide,fun r1 _ Ld=>⟨_,_,rfl,rfl,?_⟩⟩;refine⟨_,rfl,_,rfl,_,_,rfl,rfl,.inl ⟨by decide,by decide⟩,_,_,rfl,rfl,_,_,_,rfl,by decide,by decide,fun r2 _ _=>⟨_,_,rfl,rfl,?_⟩⟩;refine⟨fun σ' H'=> ∃day dF:Int,σ'=[some (.ref a),some (.int i),some (.int cell),some (.int (cell / 16)),some (.ref pn),some (.str aH),some (.int day),some (.int dF)]/\aD H H'/\day<=vk,?_,?_⟩
  ·refine⟨_,rfl,_,_,rfl,rfl,(by show(0:Int) < 7; decide),rfl,_,rfl,ck (fun c=>?_) (fun c=>⟨_,_,rfl,s1,Cm (by lia)⟩)⟩;refine⟨_,rfl,_,rfl,_,_,rfl,rfl,.inl ⟨by decide,by decide⟩,_,_,rfl,rfl,_,_,_,rfl,by decide,by decide,fun r3 _ _=>⟨_,_,rfl,rfl,.inr ⟨by decide,by decide⟩,_,_,rfl,rfl,?_⟩⟩;exact⟨_,_,rfl,s1,Cm (by lia)⟩
  rintro σ' H2 ⟨day,dF,rfl,s2,oH⟩;clear Hs Tr s1;refine⟨fun σ' H'=> ∃day dF:Int,σ'=[some (.ref a),some (.int i),some (.int cell),some (.int (cell / 16)),some (.ref pn),some (.str aH),some (.int day),some (.int dF)]/\aD H H'/\day<=vk,?_,?_⟩
  ·refine⟨_,rfl,_,_,rfl,rfl,(by show(0:Int) < 41; decide),rfl,_,rfl,ck (fun c=>?_) (fun c=>⟨_,_,rfl,s2,oH⟩)⟩;refine⟨_,rfl,_,_,rfl,rfl,⟨by decide,by decide,by decide⟩,_,_,rfl,rfl,⟨by decide,by decide,by decide⟩,_,_,rfl,rfl,⟨by decide +kernel,by decide +kernel⟩,_,_,rfl,rfl,_,_,rfl,rfl,(by show(0:Int) < _; decide +kernel),_,_,rfl,rfl,?_⟩;exact⟨_,_,rfl,s2,oH⟩
  rintro σ' H3 ⟨day,dF,rfl,s3,oH⟩;refine⟨fun σ' H'=> ∃day dF:Int,σ'=[some (.ref a),some (.int i),some (.int cell),some (.int (cell / 16)),some (.ref pn),some (.str aH),some (.int day),some (.int dF)]/\aD H H'/\day<=vk,?_,?_⟩
  ·refine⟨_,rfl,_,_,rfl,rfl,(by show(0:Int) < 41; decide),rfl,_,rfl,ck (fun c=>?_) (fun c=>⟨_,_,rfl,s3,oH⟩)⟩;refine⟨_,rfl,_,_,rfl,rfl,⟨by decide,by decide,by decide⟩,_,rfl,_,_,rfl,rfl,⟨by decide,by decide,by decide⟩,_,_,rfl,rfl,(by show(0:Int) < _; decide +kernel),_,_,rfl,rfl,(by show 4<=sizeLine; decide),fun p4 n4=>?_⟩;obtain⟨y,hy⟩:=at4 0 (-1) (10 ^ (12:Int).toNat) (0 - cell % 10 ^ (60:Int).toNat) (cell / 16);refine⟨_,rfl,_,_,rfl,rfl,(by show(0:Int) < 4; decide),p4,_,_,.int y,rfl,rfl,bA.of ag,hy,?_⟩;exact⟨_,_,rfl,s3.trans (aD.new n4),oH⟩
  rintro σ' H4 ⟨day,dF,rfl,s4,oH⟩;refine⟨fun σ' H'=> ∃day dF:Int,σ'=[some (.ref a),some (.int i),some (.int cell),some (.int (cell / 16)),some (.ref pn),some (.str aH),some (.int day),some (.int dF)]/\aD H H'/\day<=vk,?_,?_⟩
  ·refine⟨_,rfl,_,_,rfl,rfl,(by show(0:Int) < 43; decide),rfl,_,rfl,ck (fun c=>?_) (fun c=>⟨_,_,rfl,s4,oH⟩)⟩;refine⟨_,_,rfl,rfl,⟨by decide,by decide,by decide⟩,_,_,rfl,rfl,⟨by decide,by decide,by decide⟩,_,rfl,_,rfl,_,_,rfl,rfl,(by show(0:Int) < 2001; decide),_,_,rfl,rfl,(by show 3<=sizeLine; decide),fun p4 n4=>?_⟩;obtain⟨y,hy3,hy⟩:=at3 (10 ^ (9:Int).toNat) (-(10 ^ (9:Int).toNat)) (cell % 2001 - 1000) (cell / 16);refine⟨_,rfl,_,_,rfl,rfl,(by show(0:Int) < 3; decide),p4,_,_,.int y,rfl,rfl,bA.of ag,hy,?_⟩;refine⟨_,_,rfl,s4.trans (aD.new n4),?_⟩;rcases hy3 with rfl|rfl|rfl
   ·exact Cm (by decide +kernel)
   ·exact Cm (by decide +kernel)
   ·exact Cm (by lia)
  rintro σ' H5 ⟨day,dF,rfl,s5,oH⟩;refine⟨fun σ' H'=> ∃day dF:Int,σ'=[some (.ref a),some (.int i),some (.int cell),some (.int (cell / 16)),some (.ref pn),some (.str aH),some (.int day),some (.int dF)]/\aD H H'/\day<=vk,?_,?_⟩
  ·refine⟨_,rfl,_,_,rfl,rfl,(by show(0:Int) < 43; decide),rfl,_,rfl,ck (fun c=>?_) (fun c=>⟨_,_,rfl,s5,oH⟩)⟩;refine⟨_,rfl,_,_,rfl,rfl,⟨by decide,by decide,by decide⟩,_,_,rfl,rfl,(by show(0:Int) < _; decide +kernel),_,rfl,(by show 2<=sizeLine; decide),fun p4 n4=>?_⟩;obtain⟨y,X1,hy⟩:=X0 1 (-1) (i:Int);refine⟨_,rfl,_,_,rfl,rfl,(by show(0:Int) < 2; decide),p4,_,_,.int y,rfl,rfl,bA.of ag,hy,_,_,rfl,rfl,.inr (by rcases X1 with rfl|rfl <;> exact⟨by decide,by decide⟩),?_⟩;refine⟨_,_,rfl,s5.trans (aD.new n4),?_⟩;have m1:0<=cell % 10 ^ (60:Int).toNat:=ke _ (by decide +kernel);have m2:cell % 10 ^ (60:Int).toNat < 10 ^ 60:=qj _ (by decide +kernel);have m3:(0:Int)<=10 ^ 60:=by decide +kernel
   refine Ff ?_;generalize (10:Int) ^ 60=b60 at m2 m3 ⊢;rcases X1 with rfl|rfl <;> lia
  rintro σ' H6 ⟨day,dF,rfl,s6,oH⟩;refine⟨_,rfl,_,rfl,_,rfl,(by show 3<=sizeLine; decide),fun p n=>?_⟩;exact k p aH day dF _ (s6.trans (aD.new n)) ag oH
def fX {H:Hp}{a:Addr}{o o':HO}:upd (upd H a o) a o'=upd H a o':=by
 funext b
 by_cases h:b=a
 ·rw[h,ag,ag]
 ·rw[az h,az h,az h]
def pl {f:Str}{v:V}{fs:List (Str×V)}{n:Nat}(h:fs.length<=n):(ez f v fs).length<=n + 1:=aY (mO f v fs) (Nat.add_le_add_right h 1)
def Cn:([]:List (Str×V)).length<=0:=aE _
def lt1000 {fs:List (Str×V)}{n:Nat}(h:fs.length<=n)(k:n < 1000):fs.length < 1000:=qg h k
def JT (n:Nat)(r:Rw):ez "amount" (.int r.c) (ez "due" (.int r.b) (ez "day" (.int r.a) (ez "who" (.str r.aH) (ez "number" (.int n) []))))=fv n r:=by rfl
def JU (n:Nat)(r:Rw):ez "only" (tf r.c) (ez "amount" (.int r.b) (ez "day" (.int r.a) (ez "who" (.str r.aH) (ez "number" (.int n) []))))=eY n r:=by rfl
inductive zZ (A:dU)(vs:List V)(H:Hp)(Q:VK)(E':XK):Prop
 |mk (x dx:Addr)(n:Nat)(r:Rw)(h1:vs=[.ref x,.int n,.str r.aH,.int r.a,.int r.b,.int r.c])(h2:H x=some (.ins A.dR dx []))(h3:Q .eh (upd H x (.ins A.dR dx (fv n r)))):zZ A vs H Q E'
def Mz:aS ["self","number","who","day","due","amount"] ["self","number","who","day","due","amount"] (ay (mem 13 0)):={}
def Pu {A:dU}(G:jv K mg A):tY P w K mg base "Bill" A.dR 1 ["self","number","who","day","due","amount"] (zZ A):=by
 refine Mx (k:=0) G.Mr G.Mq Mz (fun f cO A' outer s H vs Q E hr h=>?_)
 ·obtain⟨x,dx,n,r,rfl,hx,k⟩:=h;refine⟨_,(ah (l9 (pv 0) (pv 1))
(ah (l9 (pv 0) (pv 2))
(ah (l9 (pv 0) (pv 3))
(ah (l9 (pv 0) (pv 4))
(au (l9 (pv 0) (pv 5))))))),?_⟩
  refine⟨_,rfl,_,rfl,x,_,dx,_,rfl,hx,G.dY,G.eQ,lt1000 Cn (by decide),?_⟩;refine⟨_,rfl,_,rfl,x,_,dx,_,rfl,ag,G.dY,G.kB,lt1000 (pl Cn) (by decide),?_⟩;refine⟨_,rfl,_,rfl,x,_,dx,_,rfl,ag,G.dY,G.ng,lt1000 (pl (pl Cn)) (by decide),?_⟩;refine⟨_,rfl,_,rfl,x,_,dx,_,rfl,ag,G.dY,G.ni,lt1000 (pl (pl (pl Cn))) (by decide),?_⟩;refine⟨_,rfl,_,rfl,x,_,dx,_,rfl,ag,G.dY,G.nj,lt1000 (pl (pl (pl (pl Cn)))) (by decide),?_⟩;rw[fX,fX,fX,fX,JT];exact k
inductive z5 (A:dU)(vs:List V)(H:Hp)(Q:VK)(E':XK):Prop
 |mk (x dx:Addr)(n:Nat)(r:Rw)(h1:vs=[.ref x,.int n,.str r.aH,.int r.a,.int r.b,tf r.c])(h2:H x=some (.ins A.dX dx []))(h3:Q .eh (upd H x (.ins A.dX dx (eY n r)))):z5 A vs H Q E'
def Ht:aS ["self","number","who","day","amount","only"] ["self","number","who","day","amount","only"] (ay (mem 14 0)):={}
def JV {A:dU}(G:jv K mg A):tY P w K mg base "Credit" A.dX 1 ["self","number","who","day","amount","only"] (z5 A):=by
 refine Mx (k:=0) G.Hl G.Hj Ht (fun f cO A' outer s H vs Q E hr h=>?_)
 ·obtain⟨x,dx,n,r,rfl,hx,k⟩:=h;refine⟨_,(ah (l9 (pv 0) (pv 1))
(ah (l9 (pv 0) (pv 2))
(ah (l9 (pv 0) (pv 3))
(ah (l9 (pv 0) (pv 4))
(au (l9 (pv 0) (pv 5))))))),?_⟩
  refine⟨_,rfl,_,rfl,x,_,dx,_,rfl,hx,G.de,G.eK,lt1000 Cn (by decide),?_⟩;refine⟨_,rfl,_,rfl,x,_,dx,_,rfl,ag,G.de,G.kP,lt1000 (pl Cn) (by decide),?_⟩;refine⟨_,rfl,_,rfl,x,_,dx,_,rfl,ag,G.de,G.iZ,lt1000 (pl (pl Cn)) (by decide),?_⟩;refine⟨_,rfl,_,rfl,x,_,dx,_,rfl,ag,G.de,G.lD,lt1000 (pl (pl (pl Cn))) (by decide),?_⟩;refine⟨_,rfl,_,rfl,x,_,dx,_,rfl,ag,G.de,G.jT,lt1000 (pl (pl (pl (pl Cn)))) (by decide),?_⟩;rw[fX,fX,fX,fX,JU];exact k
inductive z6 (A:dU)(vs:List V)(H:Hp)(Q:VK)(E':XK):Prop
 |mk (pw:Addr)(S:Bk)(f:eJ)(c b:Nat)(x:Int)(h1:vs=[.ref pw,.int c,.int b,.int x])(h2:dC A H pw S f)(h3:c < S.credits.length)(h4:b < S.aI.length)(h5:S.made.length < sizeLine)(h6: ∀H',Frame f.fp H H'->dC A H' pw (S.put c b x) f->Q .eh H'):z6 A vs H Q E'
def Co:aS ["self","credit_number","bill_number","amount"] ["self","credit_number","bill_number","amount"] (ay (mem 25 8)):={}
def MA {rows:List Rw}{i:Nat}(h:i < rows.length):rY (rows.map fun r=>V.int r.d) (i:Int)=some (.int (rows.getD i default).d):=cw (by
 rw[aB,aj,af h]; rfl)
def ND {A:dU}(G:jv K mg A):gP rZ P w K mg base A.work "put" 1 ["self","credit_number","bill_number","amount"] (z6 A):=by
 refine Mw (k:=0) G.Cc G.bH Co (fun f cO A' outer s H vs Q E hr h=>?_)
 ·obtain⟨pw,S,g,c,b,x,rfl,hW,hc,hb,hz,k⟩:=h;obtain⟨dw,hw⟩:=hW.obj;obtain⟨ms,m1,m2⟩:=hW.hm;obtain⟨e1,e2,e3,e4,e5,e6,e7,e8,e9,NB⟩:=eJ.ne hW.nd;have nw: ∀q∈g.fp,pw≠q:=fun q hq z=>hW.ins hW.obj (z▸hq);have w3:=nw g.pl (by simp[eJ.fp]);have w4:=nw g.pf (by simp[eJ.fp]);refine⟨_,(ah (lT (aO eL (xl (km (pv 0)) (pv 1)) (pv 3)) (pE (km (pv 0)) (pv 1) set_list))
(ah (lT (aO eL (xl (km (pv 0)) (pv 2)) (pv 3)) (pE (km (pv 0)) (pv 2) set_list))
(au (bK (oS (km (pv 0)) (cD (aa (pv 1) (aa (pv 2) (aa (pv 3) av))))))))),?_⟩
  refine⟨_,rfl,pw,_,dw,_,_,rfl,hw,G.bH,G.fA,lC g,_,rfl,g.pf,_,_,_,rfl,rfl,bA.of hW.hf,MA hc,_,rfl,_,_,rfl,rfl,?_⟩;refine⟨_,rfl,pw,_,dw,_,_,rfl,hw,G.bH,G.fA,lC g,_,rfl,g.pf,_,_,c,rfl,rfl,hW.hf,qW (by rw[ae]; exact hc),?_⟩;have Ts:upd H g.pf (.lst ((S.credits.map fun r=>V.int r.d).set c (.int ((S.cr c).d - x)))) pw=some (.ins A.work dw (lA g)):=by rw[az w4]; exact hw
  have NF:upd H g.pf (.lst ((S.credits.map fun r=>V.int r.d).set c (.int ((S.cr c).d - x)))) g.pl=some (.lst (S.aI.map fun r=>V.int r.d)):=by rw[az e8]; exact hW.hl
  refine⟨_,rfl,pw,_,dw,_,_,rfl,Ts,G.bH,G.fz,lB g,_,rfl,g.pl,_,_,_,rfl,rfl,bA.of NF,MA hb,_,rfl,_,_,rfl,rfl,?_⟩;refine⟨_,rfl,pw,_,dw,_,_,rfl,Ts,G.bH,G.fz,lB g,_,rfl,g.pl,_,_,b,rfl,rfl,NF,qW (by rw[ae]; exact hb),?_⟩;have Q5:upd (upd H g.pf (.lst ((S.credits.map fun r=>V.int r.d).set c (.int ((S.cr c).d - x))))) g.pl (.lst ((S.aI.map fun r=>V.int r.d).set b (.int ((S.bl b).d - x)))) pw=some (.ins A.work dw (lA g)):=by rw[az w3]; exact Ts
  have X2:upd (upd H g.pf (.lst ((S.credits.map fun r=>V.int r.d).set c (.int ((S.cr c).d - x))))) g.pl (.lst ((S.aI.map fun r=>V.int r.d).set b (.int ((S.bl b).d - x)))) g.pm=some (.lst ms):=by rw[az e9.symm,az NB.symm]; exact m1
  refine⟨_,rfl,pw,_,dw,_,_,rfl,Q5,G.bH,G.me,Fv g,.inl ⟨rfl,_,bA.of X2⟩,_,rfl,_,rfl,_,rfl,(by show 3<=sizeLine; decide),fun p8 n8=>?_⟩;have n8':H p8=none:=by
   by_cases z1:p8=g.pl
   ·rw[z1,ag] at n8; cases n8
   ·rw[az z1] at n8;by_cases z2:p8=g.pf
    ·rw[z2,ag] at n8; cases n8
    ·rw[az z2] at n8; exact n8
  refine⟨g.pm,ms,_,rfl,rfl,aD.new n8 _ _ X2,by rw[← aL m2]; exact hz,?_⟩;obtain⟨W,F⟩:=hW.put (x:=x) hc hb m1 m2 n8';exact k _ F W
end
end eB
namespace L2
open PySem PySem.Spec PySem.W PyProof.Rows
section
variable {A:dU}{H H':Hp}{pw x:Addr}{S:Bk}{f:eJ}{r:Rw}
def eJ.kj (f:eJ)(p:Addr):eJ:={f with ix:=f.ix ++ [p]}
def eJ.ig (f:eJ)(p:Addr):eJ:={f with cps:=f.cps ++ [p]}
def dC.kj (h:dC A H pw S f)(hx:en H x A.dR (fv S.aI.length r)):
  dC A (upd (upd H f.pb (.lst (f.ix.map V.ref ++ [.ref x]))) f.pl (.lst ((S.aI.map fun r=>V.int r.d) ++ [.int r.d]))) pw (S.kj r) (f.kj x)/\Frame f.fp H (upd (upd H f.pb (.lst (f.ix.map V.ref ++ [.ref x]))) f.pl (.lst ((S.aI.map fun r=>V.int r.d) ++ [.int r.d]))):=by
 obtain⟨e1,e2,e3,e4,e5,e6,e7,e8,e9,NB⟩:=eJ.ne h.nd;have F:Frame f.fp H (upd (upd H f.pb (.lst (f.ix.map V.ref ++ [.ref x]))) f.pl (.lst ((S.aI.map fun r=>V.int r.d) ++ [.int r.d]))):=(Frame.upd (by simp[eJ.fp])).tr (Frame.upd (by simp[eJ.fp]));refine⟨?_,F⟩;obtain⟨o1,o2,o3⟩:=h.objs F;have tk:=h.tk F;obtain⟨ms,m1,m2⟩:=h.hm;have t: ∀q,q≠f.pb->q≠f.pl->upd (upd H f.pb (.lst (f.ix.map V.ref ++ [.ref x]))) f.pl (.lst ((S.aI.map fun r=>V.int r.d) ++ [.int r.d])) q=H q:=fun q z1 z2=>by rw[az z2,az z1]
 refine⟨o1,?_,?_,?_,?_,⟨ms,?_,m2.mono tk⟩,o2.add (hx.frame F (h.ins hx)),o3,h.nd⟩
 ·show upd (upd H f.pb _) f.pl _ f.pb=some (.lst ((f.ix ++ [x]).map V.ref));rw[az e2,ag,aK]; rfl
 ·exact(t f.pc e1.symm e5).trans h.hc
 ·show upd (upd H f.pb _) f.pl _ f.pl=some (.lst ((S.aI ++ [r]).map fun r=>V.int r.d));rw[ag,aK]; rfl
 ·exact(t f.pf e3.symm e8.symm).trans h.hf
 ·exact(t f.pm e4.symm e9.symm).trans m1
def dC.ig (h:dC A H pw S f)(hx:en H x A.dX (eY S.credits.length r)):
  dC A (upd (upd H f.pc (.lst (f.cps.map V.ref ++ [.ref x]))) f.pf (.lst ((S.credits.map fun r=>V.int r.d) ++ [.int r.d]))) pw (S.ig r) (f.ig x)/\Frame f.fp H (upd (upd H f.pc (.lst (f.cps.map V.ref ++ [.ref x]))) f.pf (.lst ((S.credits.map fun r=>V.int r.d) ++ [.int r.d]))):=by
 obtain⟨e1,e2,e3,e4,e5,e6,e7,e8,e9,NB⟩:=eJ.ne h.nd;have F:Frame f.fp H (upd (upd H f.pc (.lst (f.cps.map V.ref ++ [.ref x]))) f.pf (.lst ((S.credits.map fun r=>V.int r.d) ++ [.int r.d]))):=(Frame.upd (by simp[eJ.fp])).tr (Frame.upd (by simp[eJ.fp]));refine⟨?_,F⟩;obtain⟨o1,o2,o3⟩:=h.objs F;have tk:=h.tk F;obtain⟨ms,m1,m2⟩:=h.hm;have t: ∀q,q≠f.pc->q≠f.pf->upd (upd H f.pc (.lst (f.cps.map V.ref ++ [.ref x]))) f.pf (.lst ((S.credits.map fun r=>V.int r.d) ++ [.int r.d])) q=H q:=fun q z1 z2=>by rw[az z2,az z1]
 refine⟨o1,?_,?_,?_,?_,⟨ms,?_,m2.mono tk⟩,o2,o3.add (hx.frame F (h.ins hx)),h.nd⟩
 ·exact(t f.pb e1 e3).trans h.hb
 ·show upd (upd H f.pc _) f.pf _ f.pc=some (.lst ((f.cps ++ [x]).map V.ref));rw[az e6,ag,aK]; rfl
 ·exact(t f.pl e5.symm e8).trans h.hl
 ·show upd (upd H f.pc _) f.pf _ f.pf=some (.lst ((S.credits ++ [r]).map fun r=>V.int r.d));rw[ag,aK]; rfl
 ·exact(t f.pm e7.symm NB.symm).trans m1
end
end L2
namespace eB
open PySem L2 PyProof.Rows K7
seal L2.oO L2.PS L2.PE L2.PT L2.PW L2.PA L2.PC L2.PG L2.ID L2.PI L2.LO L2.K3 L2.PO L2.oA L2.Nk L2.gZ L2.IX L2.Nm
section
variable {P:Program}{w:World}{K:Frag}{mg:Str->Option Value}{base:Heap}
def MB (A:dU)(K:Frag)(E:XK)(t:Str)(H:Hp):Prop:= ∀C,gO K C A.refusal->(t="too much"->C=A.tooMuch)->EX E C t H
inductive JW (A:dU)(K:Frag)(vs:List V)(H:Hp)(Q:VK)(E:XK):Prop
 |mk (pw:Addr)(S:Bk)(f:eJ)(n:Int)(h1:vs=[.ref pw,.int n])(h2:dC A H pw S f)(h3:(qk n S.credits.length-> ∀p,en H p A.dX (eY n.toNat (S.cr n.toNat))->Q (.ref p) H))(h4:(¬ qk n S.credits.length->MB A K E "no credit" H)):JW A K vs H Q E
inductive Fw (A:dU)(K:Frag)(vs:List V)(H:Hp)(Q:VK)(E:XK):Prop
 |mk (pw:Addr)(S:Bk)(f:eJ)(n:Int)(h1:vs=[.ref pw,.int n])(h2:dC A H pw S f)(h3:(qk n S.aI.length-> ∀p,en H p A.dR (fv n.toNat (S.bl n.toNat))->Q (.ref p) H))(h4:(¬ qk n S.aI.length->MB A K E "no bill" H)):Fw A K vs H Q E
def qX:aS ["self","number"] ["self","number"] (ay (mem 25 9)):={}
def Cp (T:Txt K mg){A:dU}(G:jv K mg A):gP (mH P w mg) P w K mg base A.work "credit_at" 4 ["self","number"] (JW A K):=by
 refine qU (k:=3) G.qT G.bH qX (fun f cO A' outer s H vs Q E hr mx h=>?_)
 ·obtain⟨pw,S,g,n,rfl,hW,k1,k2⟩:=h;obtain⟨dw,hw⟩:=hW.obj;have hlen:(g.cps.map V.ref).length=S.credits.length:=by rw[ae]; exact hW.rc.1
  refine⟨_,(ah (bN (PW.pt (pw_or (aV jn (pv 1) ai (aZ _)) (pw_or1 (aV II (pv 1) (ma T.dB (km (pv 0))) (aZ _)))))
(au (jQ mx (Ce T G) (hr.h.mono (by decide)) rfl rfl))
bb)
(au (a0 (xl (km (pv 0)) (pv 1))))),?_⟩
  have no: ¬ qk n S.credits.length-> ∀dx,H dx=none->E (.ref A.jS) (some dx) (upd H dx (.xd [("text",.str "no credit")])):=fun z dx hd=>(k2 z A.jS G.tj (fun q=>absurd q (by decide +kernel))).at hd;refine⟨_,rfl,_,_,rfl,rfl,_,rfl,ck (fun z=>fB (no fun q=>?_)) (fun z=>?_)⟩
  ·have z':n < 0:=aN z;have:=q.1;lia
  have z1: ¬ n < 0:=fun q=>z (aG q);refine⟨_,rfl,_,rfl,pw,_,dw,_,_,rfl,hw,G.bH,G.cB,gX g,g.pc,_,rfl,.inl (bA.of hW.hc),_,_,rfl,rfl,_,rfl,ck (fun z=>no fun q=>?_) (fun z=>?_)⟩
  ·have z':((g.cps.map V.ref).length:Int)<=n:=aN z;have:=q.2;lia
  have z2: ¬ ((g.cps.map V.ref).length:Int)<=n:=fun q=>z (aG q);have jO:qk n S.credits.length:=⟨by lia,by lia⟩;obtain⟨c,rfl⟩:=cv jO.1;have hc:c < S.credits.length:=by have:=jO.2; lia
  obtain⟨p,X3,tQ⟩:=hW.rc.get hc;refine⟨_,rfl,pw,_,dw,_,_,rfl,hw,G.bH,G.cB,gX g,_,rfl,g.pc,_,_,.ref p,rfl,rfl,bA.of hW.hc,cw (by rw[aB,X3]; rfl),?_⟩;exact k1 jO p tQ
def ua:aS ["self","number"] ["self","number"] (ay (mem 25 10)):={}
def yz (T:Txt K mg){A:dU}(G:jv K mg A):gP (mH P w mg) P w K mg base A.work "bill_at" 4 ["self","number"] (Fw A K):=by
 refine qU (k:=3) G.tX G.bH ua (fun f cO A' outer s H vs Q E hr mx h=>?_)
 ·obtain⟨pw,S,g,n,rfl,hW,k1,k2⟩:=h;obtain⟨dw,hw⟩:=hW.obj;have hlen:(g.ix.map V.ref).length=S.aI.length:=by rw[ae]; exact hW.rb.1
  refine⟨_,(ah (bN (PW.pt (pw_or (aV jn (pv 1) ai (aZ _)) (pw_or1 (aV II (pv 1) (ma T.dB (km (pv 0))) (aZ _)))))
(au (jQ mx (Ho T G) (hr.h.mono (by decide)) rfl rfl))
bb)
(au (a0 (xl (km (pv 0)) (pv 1))))),?_⟩
  have no: ¬ qk n S.aI.length-> ∀dx,H dx=none->E (.ref A.pQ) (some dx) (upd H dx (.xd [("text",.str "no bill")])):=fun z dx hd=>(k2 z A.pQ G.yw (fun q=>absurd q (by decide +kernel))).at hd;refine⟨_,rfl,_,_,rfl,rfl,_,rfl,ck (fun z=>fB (no fun q=>?_)) (fun z=>?_)⟩
  ·have z':n < 0:=aN z;have:=q.1;lia
  have z1: ¬ n < 0:=fun q=>z (aG q);refine⟨_,rfl,_,rfl,pw,_,dw,_,_,rfl,hw,G.bH,G.dS,jc g,g.pb,_,rfl,.inl (bA.of hW.hb),_,_,rfl,rfl,_,rfl,ck (fun z=>no fun q=>?_) (fun z=>?_)⟩
  ·have z':((g.ix.map V.ref).length:Int)<=n:=aN z;have:=q.2;lia
  have z2: ¬ ((g.ix.map V.ref).length:Int)<=n:=fun q=>z (aG q);have jO:qk n S.aI.length:=⟨by lia,by lia⟩;obtain⟨c,rfl⟩:=cv jO.1;have hc:c < S.aI.length:=by have:=jO.2; lia
  obtain⟨p,X3,tQ⟩:=hW.rb.get hc;refine⟨_,rfl,pw,_,dw,_,_,rfl,hw,G.bH,G.dS,jc g,_,rfl,g.pb,_,_,.ref p,rfl,rfl,bA.of hW.hb,cw (by rw[aB,X3]; rfl),?_⟩;exact k1 jO p tQ
def Tt (A:dU)(Q:VK)(H:Hp)(pw:Addr)(f:eJ)(S':Bk)(v:V):Prop:= ∀f' H',f'.fp=f.fp->Frame f.fp H H'->dC A H' pw S' f'->Q v H'
inductive uo (A:dU)(K:Frag)(vs:List V)(H:Hp)(Q:VK)(E:XK):Prop
 |mk (pw:Addr)(S:Bk)(f:eJ)(aH:Str)(day dF only:Int)(h1:vs=[.ref pw,.str aH,.int day,.int dF,tf only])(h2:dC A H pw S f)(h3:S.credits.length<=900)(h4:(1<=dF->Tt A Q H pw f (S.ig ⟨aH,day,dF,only,dF⟩) (.int S.credits.length)))(h5:(dF < 1->MB A K E "no amount" H)):uo A K vs H Q E
def jo:aS ["self","who","day","amount","only","number"] ["self","who","day","amount","only"] (ay (mem 25 4)):={}
def lE {H:Hp}{x dx C:Addr}{fs:List (Str×V)}(nx:H x=none)(nd:H dx=none)(ne:dx≠x):aD H (upd (upd H dx (.own x)) x (.ins C dx fs)):=(aD.new nd).trans (aD.new (by rw[az ne.symm]; exact nx))
def oV (T:Txt K mg){A:dU}(G:jv K mg A):gP (mH P w mg) P w K mg base A.work "tell_credit" 5 ["self","who","day","amount","only"] (uo A K):=by
 have gu:vC P w K mg base "check_amount" 4 ["amount"] (qV A):=jU T G;have JX:tY P w K mg base "Credit" A.dX 1 ["self","number","who","day","amount","only"] (z5 A):=JV G;refine qU (k:=4) G.oF G.bH jo (fun f cO A' outer s H vs Q E hr mx h=>?_)
 ·obtain⟨pw,S,g,aH,day,dF,only,rfl,hW,hl,k1,k2⟩:=h;have nd:=jo.nd;obtain⟨dw,hw⟩:=hW.obj;have hlen:(g.cps.map V.ref).length=S.credits.length:=by rw[ae]; exact hW.rc.1
  refine⟨_,(ah (bK (sx gu (hr.mono (by decide)) rfl mx.pass (aa (pv 3) av)))
(ah (sv 5 nd (ma T.dB (km (pv 0))))
(ah (bK (oS (km (pv 0)) (To JX (hr.mono (by decide)) rfl (aa (pv 5) (aa (pv 1) (aa (pv 2) (aa (pv 3) (aa (pv 4) av))))))))
(ah (bK (oS (km (pv 0)) (pv 3)))
(au (a0 (pv 5))))))),?_⟩
  refine⟨_,rfl,dF,rfl,fun h1=>?_,fun h2=>k2 h2 A.iA G.kA (fun q=>absurd q (by decide +kernel))⟩;refine⟨_,rfl,pw,_,dw,_,_,rfl,hw,G.bH,G.cB,gX g,g.pc,_,rfl,.inl (bA.of hW.hc),?_⟩;refine⟨_,rfl,pw,_,dw,_,_,rfl,hw,G.bH,G.cB,gX g,.inl ⟨rfl,_,bA.of hW.hc⟩,_,rfl,_,rfl,_,rfl,_,rfl,_,rfl,fun x dx nx JR ne=>?_⟩;refine⟨x,dx,(g.cps.map V.ref).length,⟨aH,day,dF,only,dF⟩,rfl,ag,rfl,?_⟩;rw[fX,hlen];have s1:=lE (C:=A.dX) (fs:=eY S.credits.length ⟨aH,day,dF,only,dF⟩) nx JR ne;have hx:en (upd (upd H dx (.own x)) x (.ins A.dX dx (eY S.credits.length ⟨aH,day,dF,only,dF⟩))) x A.dX (eY S.credits.length ⟨aH,day,dF,only,dF⟩):=⟨dx,ag⟩;generalize upd (upd H dx (.own x)) x (.ins A.dX dx (eY S.credits.length ⟨aH,day,dF,only,dF⟩))=H3 at s1 hx;have z7:=hW.same s1;obtain⟨W4,F4⟩:=z7.ig hx;refine⟨g.pc,_,_,rfl,rfl,z7.hc,a9 (by lia),?_⟩;have ew:pw≠g.pc:=fun z=>z7.ins z7.obj (z▸(by simp[eJ.fp]));obtain⟨e1,e2,e3,e4,e5,e6,e7,e8,e9,NB⟩:=eJ.ne z7.nd;refine⟨_,rfl,pw,_,dw,_,_,rfl,(by rw[az ew]; exact s1 _ _ hw),G.bH,G.fA,lC g,.inl ⟨rfl,_,bA.of (by rw[az e6.symm]; exact z7.hf)⟩,_,rfl,g.pf,_,_,rfl,rfl,(by rw[az e6.symm]; exact z7.hf),a9 (by rw[ae]; lia),?_⟩;refine⟨_,rfl,?_⟩;exact k1 h1 (g.ig x) _ rfl (F4.md s1) W4
inductive z8 (A:dU)(K:Frag)(vs:List V)(H:Hp)(Q:VK)(E:XK):Prop
 |mk (pw:Addr)(S:Bk)(f:eJ)(aH:Str)(day A3 dF:Int)(h1:vs=[.ref pw,.str aH,.int day,.int A3,.int dF])(h2:dC A H pw S f)(h3:S.aI.length<=900)(h4:(S.bar (.dR aH day A3 dF)=""->Tt A Q H pw f (S.enter (.dR aH day A3 dF)) (.int S.aI.length)))(h5:(S.bar (.dR aH day A3 dF)≠""->MB A K E (S.bar (.dR aH day A3 dF)) H)):z8 A K vs H Q E
def kE:aS ["self","who","day","due","amount","number"] ["self","who","day","due","amount"] (ay (mem 25 1)):={}
def Cq (T:Txt K mg){A:dU}(G:jv K mg A):gP (mH P w mg) P w K mg base A.work "tell_bill" 5 ["self","who","day","due","amount"] (z8 A K):=by
 have gu:vC P w K mg base "check_amount" 4 ["amount"] (qV A):=jU T G;have Pw:tY P w K mg base "Bill" A.dR 1 ["self","number","who","day","due","amount"] (zZ A):=Pu G;refine qU (k:=4) G.qQ G.bH kE (fun f cO A' outer s H vs Q E hr mx h=>?_)
 ·obtain⟨pw,S,g,aH,day,A3,dF,rfl,hW,hl,k1,k2⟩:=h;have nd:=kE.nd;obtain⟨dw,hw⟩:=hW.obj;have oJ:S.bar (.dR aH day A3 dF)=(if dF < 1 then("no amount":Str) else if A3 < day then("too early":Str) else("":Str)):=rfl;rw[oJ] at k1 k2;have hlen:(g.ix.map V.ref).length=S.aI.length:=by rw[ae]; exact hW.rb.1
  refine⟨_,(ah (bK (sx gu (hr.mono (by decide)) rfl mx.pass (aa (pv 4) av)))
(ah (bN (aV jn (pv 3) (pv 2) (aZ _))
(au (jQ mx (Cj T G) (hr.h.mono (by decide)) rfl rfl))
bb)
(ah (sv 5 nd (ma T.dB (km (pv 0))))
(ah (bK (oS (km (pv 0)) (To Pw (hr.mono (by decide)) rfl (aa (pv 5) (aa (pv 1) (aa (pv 2) (aa (pv 3) (aa (pv 4) av))))))))
(ah (bK (oS (km (pv 0)) (pv 4)))
(au (a0 (pv 5)))))))),?_⟩
  refine⟨_,rfl,dF,rfl,fun h1=>?_,fun h2=>?_⟩
  ·have n1': ¬ dF < 1:=by lia
   rw[aU n1'] at k1 k2;refine⟨_,rfl,_,rfl,_,_,rfl,rfl,_,rfl,ck (fun z=>?_) (fun z=>?_)⟩
   ·have z':A3 < day:=aN z;rw[a8 z'] at k2;exact fun dx n=>(k2 (by decide +kernel) A.tooEarly G.tq (fun q=>absurd q (by decide +kernel))).at n
   have z': ¬ A3 < day:=fun q=>z (aG q);rw[aU z'] at k1;refine⟨_,rfl,pw,_,dw,_,_,rfl,hw,G.bH,G.dS,jc g,g.pb,_,rfl,.inl (bA.of hW.hb),?_⟩;refine⟨_,rfl,pw,_,dw,_,_,rfl,hw,G.bH,G.dS,jc g,.inl ⟨rfl,_,bA.of hW.hb⟩,_,rfl,_,rfl,_,rfl,_,rfl,_,rfl,fun x dx nx JR ne=>?_⟩;refine⟨x,dx,(g.ix.map V.ref).length,⟨aH,day,A3,dF,dF⟩,rfl,ag,rfl,?_⟩;rw[fX,hlen];have s1:=lE (C:=A.dR) (fs:=fv S.aI.length ⟨aH,day,A3,dF,dF⟩) nx JR ne;have hx:en (upd (upd H dx (.own x)) x (.ins A.dR dx (fv S.aI.length ⟨aH,day,A3,dF,dF⟩))) x A.dR (fv S.aI.length ⟨aH,day,A3,dF,dF⟩):=⟨dx,ag⟩;generalize upd (upd H dx (.own x)) x (.ins A.dR dx (fv S.aI.length ⟨aH,day,A3,dF,dF⟩))=H3 at s1 hx;have z7:=hW.same s1;obtain⟨W4,F4⟩:=z7.kj hx;refine⟨g.pb,_,_,rfl,rfl,z7.hb,a9 (by lia),?_⟩;have ew:pw≠g.pb:=fun z=>z7.ins z7.obj (z▸(by simp[eJ.fp]));obtain⟨e1,e2,e3,e4,e5,e6,e7,e8,e9,NB⟩:=eJ.ne z7.nd;refine⟨_,rfl,pw,_,dw,_,_,rfl,(by rw[az ew]; exact s1 _ _ hw),G.bH,G.fz,lB g,.inl ⟨rfl,_,bA.of (by rw[az e2.symm]; exact z7.hl)⟩,_,rfl,g.pl,_,_,rfl,rfl,(by rw[az e2.symm]; exact z7.hl),a9 (by rw[ae]; lia),?_⟩;refine⟨_,rfl,?_⟩;exact k1 rfl (g.kj x) _ rfl (F4.md s1) W4
  ·rw[a8 h2] at k2;exact k2 (by decide +kernel) A.iA G.kA (fun q=>absurd q (by decide +kernel))
def nF (g:eJ):(lA g).lookup ("tell_credit":Str)=none:=by rfl
def vH (g:eJ):(lA g).lookup ("bill_at":Str)=none:=by rfl
def z9 (g:eJ):(lA g).lookup ("credit_at":Str)=none:=by rfl
def JY (g:eJ):(lA g).lookup ("put":Str)=none:=by rfl
inductive Aa (A:dU)(K:Frag)(vs:List V)(H:Hp)(Q:VK)(E:XK):Prop
 |mk (pw:Addr)(S:Bk)(f:eJ)(aH:Str)(day dF:Int)(h1:vs=[.ref pw,.str aH,.int day,.int dF])(h2:dC A H pw S f)(h3:S.credits.length<=900)(h4:(S.bar (.rG aH day dF)=""->Tt A Q H pw f (S.enter (.rG aH day dF)) (.int S.credits.length)))(h5:(S.bar (.rG aH day dF)≠""->MB A K E (S.bar (.rG aH day dF)) H)):Aa A K vs H Q E
def nG:aS ["self","who","day","amount"] ["self","who","day","amount"] (ay (mem 25 2)):={}
def vI (T:Txt K mg){A:dU}(G:jv K mg A):gP (mH P w mg) P w K mg base A.work "tell_payment" 6 ["self","who","day","amount"] (Aa A K):=by
 have kW:gP (mH P w mg) P w K mg base A.work "tell_credit" 5 ["self","who","day","amount","only"] (uo A K):=oV T G;refine qU (k:=5) G.nu G.bH nG (fun f cO A' outer s H vs Q E hr mx h=>?_)
 ·obtain⟨pw,S,g,aH,day,dF,rfl,hW,hl,k1,k2⟩:=h;obtain⟨dw,hw⟩:=hW.obj;have oJ:S.bar (.rG aH day dF)=(if dF < 1 then("no amount":Str) else("":Str)):=rfl;rw[oJ] at k1 k2;refine⟨_,(au (a0 (nv kW (hr.mono (by decide)) mx.pass (pv 0) (aa (pv 1) (aa (pv 2) (aa (pv 3) (aa Dq av))))))),?_⟩;refine⟨_,rfl,pw,dw,_,rfl,hw,nF g,_,rfl,_,rfl,_,rfl,pw,S,g,aH,day,dF,-1,rfl,hW,hl,fun h1=>?_,fun h2=>?_⟩
  ·rw[aU (by lia)] at k1;exact k1 rfl
  ·rw[a8 h2] at k2;exact k2 (by decide +kernel)
inductive Ab (A:dU)(K:Frag)(vs:List V)(H:Hp)(Q:VK)(E:XK):Prop
 |mk (pw:Addr)(S:Bk)(f:eJ)(b day dF:Int)(h1:vs=[.ref pw,.int b,.int day,.int dF])(h2:dC A H pw S f)(h3:S.credits.length<=900)(h4:(S.bar (.note b day dF)=""->Tt A Q H pw f (S.enter (.note b day dF)) (.int S.credits.length)))(h5:(S.bar (.note b day dF)≠""->MB A K E (S.bar (.note b day dF)) H)):Ab A K vs H Q E
def kF:aS ["self","bill_number","day","amount","bill"] ["self","bill_number","day","amount"] (ay (mem 25 3)):={}
def Cr (T:Txt K mg){A:dU}(G:jv K mg A):gP (mH P w mg) P w K mg base A.work "tell_note" 6 ["self","bill_number","day","amount"] (Ab A K):=by
 have kW:gP (mH P w mg) P w K mg base A.work "tell_credit" 5 ["self","who","day","amount","only"] (uo A K):=oV T G;have sy:gP (mH P w mg) P w K mg base A.work "bill_at" 4 ["self","number"] (Fw A K):=yz T G;refine qU (k:=5) G.qR G.bH kF (fun f cO A' outer s H vs Q E hr mx h=>?_)
 ·obtain⟨pw,S,g,b,day,dF,rfl,hW,hl,k1,k2⟩:=h;have nd:=kF.nd;obtain⟨dw,hw⟩:=hW.obj;rw[vg] at k1 k2;refine⟨_,(ah (sv 4 nd (nv sy (hr.mono (by decide)) mx.pass (pv 0) (aa (pv 1) av)))
(au (a0 (nv kW (hr.mono (by decide)) mx.pass (pv 0) (aa (km (pv 4)) (aa (pv 2) (aa (pv 3) (aa (pv 1) av)))))))),?_⟩
  refine⟨_,rfl,pw,dw,_,rfl,hw,vH g,_,rfl,pw,S,g,b,rfl,hW,fun jO p hp=>?_,fun hn=>?_⟩
  ·obtain⟨dp,Tu⟩:=hp;have zb: ¬ ¬ qk b S.aI.length:=fun z=>z jO;rw[aU zb] at k1 k2;have ho:tf b=V.int b:=aU (fun z=>by have:=jO.1; lia);refine⟨_,rfl,pw,dw,_,rfl,hw,nF g,_,rfl,p,_,dp,_,_,rfl,Tu,G.dY,G.kB,DZ _ _,_,rfl,_,rfl,_,rfl,pw,S,g,(S.bl b.toNat).aH,day,dF,b,(by rw[ho]; rfl),hW,hl,fun h1=>?_,fun h2=>?_⟩
   ·rw[aU (by lia)] at k1;exact k1 rfl
   ·rw[a8 h2] at k2;exact k2 (by decide +kernel)
  ·rw[a8 hn] at k2;exact k2 (by decide +kernel)
def yA {S:Bk}{n c b:Nat}(wf:WF S n)(hc:c < S.credits.length)(hb:b < S.aI.length):oT (S.cr c) (S.bl b) b=S.eF c b:=by
 unfold oT Bk.eF;by_cases z:(S.cr c).c= -1
 ·rw[a8 z,aG z,Bool.true_or,Bool.and_true]
 ·rw[aU z,bp z,Bool.false_or];rcases wf.o c hc with q|⟨b',e1,e2,e3⟩
  ·exact absurd q z
  ·by_cases y:(S.cr c).c=(b:Int)
   ·have:b'=b:=by lia
    subst this;rw[aG y,aG e3]; rfl
   ·rw[bp y,lN]
inductive JZ (A:dU)(K:Frag)(vs:List V)(H:Hp)(Q:VK)(E:XK):Prop
 |mk (pw:Addr)(S:Bk)(f:eJ)(n:Nat)(ci bi dF:Int)(h1:vs=[.ref pw,.int ci,.int bi,.int dF])(h2:dC A H pw S f)(h3:WF S n)(h4:S.made.length < sizeLine)(h5:(S.bar (.set ci bi dF)=""->Tt A Q H pw f (S.enter (.set ci bi dF)) (.int dF)))(h6:(S.bar (.set ci bi dF)≠""->MB A K E (S.bar (.set ci bi dF)) H)):JZ A K vs H Q E
def jq:aS ["self","credit_number","bill_number","amount","credit","bill"] ["self","credit_number","bill_number","amount"] (ay (mem 25 5)):={}
def xq (T:Txt K mg){A:dU}(G:jv K mg A):gP (mH P w mg) P w K mg base A.work "set_by_hand" 5 ["self","credit_number","bill_number","amount"] (JZ A K):=by
 have Cs:gP (mH P w mg) P w K mg base A.work "credit_at" 4 ["self","number"] (JW A K):=Cp T G;have sy:gP (mH P w mg) P w K mg base A.work "bill_at" 4 ["self","number"] (Fw A K):=yz T G;have J0:gP rZ P w K mg base A.work "put" 1 ["self","credit_number","bill_number","amount"] (z6 A):=ND G;have Ed:eI P w K mg base "fits" 1 ["credit","bill"] (zW A):=JS T G;have gu:vC P w K mg base "check_amount" 4 ["amount"] (qV A):=jU T G;refine qU (k:=4) G.oG G.bH jq (fun f cO A' outer s H vs Q E hr mx h=>?_)
 ·obtain⟨pw,S,g,n,ci,bi,dF,rfl,hW,wf,hz,k1,k2⟩:=h;have nd:=jq.nd;obtain⟨dw,hw⟩:=hW.obj;rw[zv] at k1 k2;refine⟨_,(ah (sv 4 nd (nv Cs (hr.mono (by decide)) mx.pass (pv 0) (aa (pv 1) av)))
(ah (sv 5 nd (nv sy (hr.mono (by decide)) mx.pass (pv 0) (aa (pv 2) av)))
(ah (bN (kI (f9 (fc Ed hr (aa (pv 4) (aa (pv 5) av)))))
(au (jQ mx (zT T G) (hr.h.mono (by decide)) rfl rfl))
bb)
(ah (bK (sx gu (hr.mono (by decide)) rfl mx.pass (aa (pv 3) av)))
(ah (bN (PW.pt (pw_or (aV iK (pv 3) (xl (km (pv 0)) (pv 1)) (aZ _)) (pw_or1 (aV iK (pv 3) (xl (km (pv 0)) (pv 2)) (aZ _)))))
(au (jQ mx (Ea T G) (hr.h.mono (by decide)) rfl rfl))
bb)
(ah (bK (nv J0 (hr.mono (by decide)) mU (pv 0) (aa (pv 1) (aa (pv 2) (aa (pv 3) av)))))
(au (a0 (pv 3))))))))),?_⟩
  refine⟨_,rfl,pw,dw,_,rfl,hw,z9 g,_,rfl,pw,S,g,ci,rfl,hW,fun ic p hp=>?_,fun hn=>?_⟩
  case refine_2=>
   rw[a8 hn] at k2;exact k2 (by decide +kernel)
  have zc: ¬ ¬ qk ci S.credits.length:=fun z=>z ic;rw[aU zc] at k1 k2;refine⟨_,rfl,pw,dw,_,rfl,hw,vH g,_,rfl,pw,S,g,bi,rfl,hW,fun ib q hq=>?_,fun hn=>?_⟩
  case refine_2=>
   rw[a8 hn] at k2;exact k2 (by decide +kernel)
  have zb: ¬ ¬ qk bi S.aI.length:=fun z=>z ib;rw[aU zb] at k1 k2;obtain⟨c,rfl⟩:=cv ic.1;obtain⟨b,rfl⟩:=cv ib.1;have hc:c < S.credits.length:=by have:=ic.2; lia
  have hb:b < S.aI.length:=by have:=ib.2; lia
  rw[dI] at hp hq k1 k2;rw[dI] at k1 k2;have hfg:=yA wf hc hb;refine⟨_,rfl,_,rfl,p,q,c,b,_,_,rfl,hp,hq,_,rfl,?_⟩;rw[hfg];refine ck (fun z=>?_) (fun z=>?_)
  ·have z':S.eF c b=false:=by simpa using z
   rw[a8 z'] at k2;exact fun dx nn=>(k2 (by decide +kernel) A.jB G.qO (fun q=>absurd q (by decide +kernel))).at nn
  have zg: ¬ S.eF c b=false:=by simpa using z
  rw[aU zg] at k1 k2;refine⟨_,rfl,dF,rfl,fun h1=>?_,fun h2=>?_⟩
  case refine_2=>
   rw[a8 h2] at k2;exact k2 (by decide +kernel) A.iA G.kA (fun q=>absurd q (by decide +kernel))
  rw[aU (by lia: ¬ dF < 1)] at k1 k2;have Tv:iH (S.cr c).d (S.bl b).d < dF-> ∀dx,H dx=none->E (.ref A.tooMuch) (some dx) (upd H dx (.xd [("text",.str "too much")])):=fun z dx nn=>by
   rw[a8 z] at k2;exact(k2 (by decide +kernel) A.tooMuch G.pS (fun _=>rfl)).at nn
  refine⟨_,rfl,_,rfl,pw,_,dw,_,_,rfl,hw,G.bH,G.fA,lC g,_,rfl,g.pf,_,_,_,rfl,rfl,bA.of hW.hf,MA hc,_,_,rfl,rfl,_,rfl,ck (fun z=>fB (Tv ?_)) (fun z=>?_)⟩
  ·have z':(S.cr c).d < dF:=aN z;unfold iH;split <;> lia
  have z1: ¬ (S.cr c).d < dF:=fun q=>z (aG q);refine⟨_,rfl,_,rfl,pw,_,dw,_,_,rfl,hw,G.bH,G.fz,lB g,_,rfl,g.pl,_,_,_,rfl,rfl,bA.of hW.hl,MA hb,_,_,rfl,rfl,_,rfl,ck (fun z=>Tv ?_) (fun z=>?_)⟩
  ·have z':(S.bl b).d < dF:=aN z;unfold iH;split <;> lia
  have z2: ¬ (S.bl b).d < dF:=fun q=>z (aG q);have zm: ¬ iH (S.cr c).d (S.bl b).d < dF:=by
   unfold iH;split <;> lia
  rw[aU zm] at k1;refine⟨_,rfl,pw,dw,_,rfl,hw,JY g,_,rfl,_,rfl,_,rfl,pw,S,g,c,b,dF,rfl,hW,hc,hb,hz,fun H2 F2 W2=>?_⟩;exact⟨_,rfl,k1 rfl g H2 rfl F2 W2⟩
def Fx:Sp:=fun vs H Q _=>vs=[]/\ ∀(sd:Addr) (f:fu) (H':Hp),aD H H'->df H' sd Bk.new f->H sd=none->(∀b∈f.fp,H b=none)->Q (.ref sd) H'
def xr:aS [] [] (ay (top 54)):={}
def qY (T:Txt K mg):eI P w K mg base "_law_begun" 1 [] Fx:=by
 refine T.zH.eX (k:=0) xr (fun f cO A outer s H vs Q E hr h=>?_)
 ·obtain⟨rfl,k⟩:=h;refine⟨_,(au (a0 (LR (uT aQ (bP av) (uT aQ (bP av) (uT aQ (bP av) LQ))) (by rfl) rfl (by simp) (by decide)))),?_⟩;intro sd Mn;refine⟨bh _,fun pb nb=>⟨bh _,fun pc nc=>⟨bh _,fun pm nm=>?_⟩⟩⟩;have t0:=aD.new (o:= .dK []) Mn;have t1:=aD.new (o:= .lst []) nb;have t2:=aD.new (o:= .lst []) nc;have t3:=aD.new (o:= .lst []) nm;have g0:=((t1.trans t2).trans t3) _ _ (ag (H:=H) (a:=sd) (o:= .dK []));have gb:=(t2.trans t3) _ _ (ag (H:=upd H sd (.dK [])) (a:=pb) (o:= .lst []));have gc:=t3 _ _ (ag (H:=upd (upd H sd (.dK [])) pb (.lst [])) (a:=pc) (o:= .lst []));have gm:=ag (H:=upd (upd (upd H sd (.dK [])) pb (.lst [])) pc (.lst [])) (a:=pm) (o:= .lst []);have nb0:=t0.free nb;have nc0:=(t0.trans t1).free nc;have nm0:=((t0.trans t1).trans t2).free nm;have e1:sd≠pb:=aJ ag nb;have e2:sd≠pc:=aJ (t1 _ _ ag) nc;have e3:sd≠pm:=aJ ((t1.trans t2) _ _ ag) nm;have e4:pb≠pc:=aJ ag nc;have e5:pb≠pm:=aJ (t2 _ _ ag) nm;have e6:pc≠pm:=aJ ag nm;have s3:=((t0.trans t1).trans t2).trans t3;generalize upd (upd (upd (upd H sd (.dK [])) pb (.lst [])) pc (.lst [])) pm (.lst [])=H3 at g0 gb gc gm s3 ⊢;refine⟨g0,[(Sum.inr "bills",.ref pb),(Sum.inr "credits",.ref pc),(Sum.inr "made",.ref pm)],rfl,(by show 3<=15; lia),?_⟩;refine k sd ⟨pb,pc,pm,[],[]⟩ _ (s3.cG Mn) ⟨?_,by rw[az e1.symm]; exact gb,by rw[az e2.symm]; exact gc,⟨[],by rw[az e3.symm]; exact gm,.nil⟩,.nil,.nil,?_,?_⟩ Mn ?_
  ·rw[ag,OX]; rfl
  ·simp[fu.fp,e4,e5,e6]
  ·simp[fu.fp,e1,e2,e3]
  ·intro b hb;simp only[fu.fp,List.append_nil,List.mem_cons,List.not_mem_nil,or_false] at hb;rcases hb with rfl|rfl|rfl
   ·exact nb0
   ·exact nc0
   ·exact nm0
inductive Ac (vs:List V)(H:Hp)(Q:VK)(E':XK):Prop
 |mk (sd:Addr)(S:Bk)(f:fu)(c b:Nat)(h1:vs=[.ref sd,.int c,.int b])(h2:df H sd S f)(h3:c < S.credits.length)(h4:b < S.aI.length)(h5: ∀H',aD H H'->Q (.bl (S.eF c b)) H'):Ac vs H Q E'
def qZ:aS ["_law_state","_law_credit","_law_bill","_law_one"] ["_law_state","_law_credit","_law_bill"] (ay (top 55)):={}
def tu (T:Txt K mg):eI P w K mg base "_law_goes" 1 ["_law_state","_law_credit","_law_bill"] Ac:=by
 refine T.BQ.eX (k:=0) qZ (fun f cO A outer s H vs Q E hr h=>?_)
 ·obtain⟨sd,S,g,c,b,rfl,hB,hc,hb,k⟩:=h;have hu:=jG hr;have nd:=qZ.nd;obtain⟨p,_,ap,hp⟩:=hB.lc hc;obtain⟨q,_,aq,hq⟩:=hB.lb hb;refine⟨_,(ah (sv 3 nd (xl (cA hu (pv 0) aQ (fun _ _=>rfl)) (pv 1)))
(au (a0 (rT (ff cH (xl (pv 3) ai) (xl (xl (cA hu (pv 0) aQ (fun _ _=>rfl)) (pv 2)) ai) (aZ _)) (pC (ff oa (xl (pv 3) ai) (bP (aa (oP kJ ai) (aa (pv 2) av))) (by rfl))))))),?_⟩
  refine⟨_,rfl,sd,_,rfl,hB.gC,_,rfl,g.pc,_,_,.ref p,rfl,rfl,bA.of hB.hc,ap,?_⟩;refine⟨_,rfl,p,_,_,.str (S.cr c).aH,rfl,rfl,bA.of hp,rfl,_,rfl,sd,_,rfl,hB.gB,_,rfl,g.pb,_,_,.ref q,rfl,rfl,bA.of hB.hb,aq,q,_,_,.str (S.bl b).aH,rfl,rfl,bA.of hq,rfl,rfl,_,rfl,ck (fun d=>?_) (fun d=>?_)⟩
  ·have d':(S.cr c).aH=(S.bl b).aH:=by have:=aN d; injection this
   refine⟨_,rfl,p,_,_,.int (S.cr c).c,rfl,rfl,bA.of hp,rfl,_,rfl,_,rfl,(by show 2<=sizeLine; decide),fun p9 n9=>?_⟩;refine⟨p9,_,rfl,.inl (bA.of ag),rfl,rfl,?_⟩;have e:S.eF c b=wN (V.int (S.cr c).c) [V.int (-1),V.int (b:Int)]:=by
    unfold Bk.eF;rw[aG d',Bool.true_and];rw[oq];simp[wN,LK];lia
   have q9:=k _ (aD.new (o:= .lst [V.int (-1),V.int (b:Int)]) n9);rw[e] at q9;exact q9
  ·have d': ¬ (S.cr c).aH=(S.bl b).aH:=fun z=>d (aG (by rw[z]));have e:S.eF c b=false:=by
    unfold Bk.eF;rw[bp d',qo]
   have q9:=k H (aD.refl _);rw[e] at q9;exact q9
def jw {A:Hp->Prop}{H H':Hp}(e:H=H')(h:A H'):A H:=e▸h
inductive Ct (vs:List V)(H:Hp)(Q:VK)(E':XK):Prop
 |mk (sd:Addr)(S:Bk)(f:fu)(c b:Nat)(x:Int)(h1:vs=[.ref sd,.int c,.int b,.int x])(h2:df H sd S f)(h3:c < S.credits.length)(h4:b < S.aI.length)(h5:S.made.length < sizeLine)(h6: ∀H',Frame f.fp H H'->df H' sd (S.put c b x) f->Q .eh H'):Ct vs H Q E'
def tw:aS ["_law_state","_law_credit","_law_bill","_law_amount"] ["_law_state","_law_credit","_law_bill","_law_amount"] (ay (top 56)):={}
def vJ (T:Txt K mg):eI P w K mg base "_law_put" 1 ["_law_state","_law_credit","_law_bill","_law_amount"] Ct:=by
 refine T.DY.eX (k:=0) tw (fun f cO A outer s H vs Q E hr h=>?_)
 ·obtain⟨sd,S,g,c,b,x,rfl,hB,hc,hb,hz,k⟩:=h;have hu:=jG hr;have nd:=tw.nd;obtain⟨p,pi,ap,hp⟩:=hB.lc hc;refine⟨_,(ah (lT (aO eL (xl (xl (cA hu (pv 0) aQ (fun _ _=>rfl)) (pv 1)) ai) (pv 3)) (pE (xl (cA hu (pv 0) aQ (fun _ _=>rfl)) (pv 1)) ai set_list))
(ah (lT (aO eL (xl (xl (cA hu (pv 0) aQ (fun _ _=>rfl)) (pv 2)) ai) (pv 3)) (pE (xl (cA hu (pv 0) aQ (fun _ _=>rfl)) (pv 2)) ai set_list))
(au (bK (oS (cA hu (pv 0) aQ (fun _ _=>rfl)) (cD (aa (pv 1) (aa (pv 2) (aa (pv 3) av))))))))),?_⟩
  refine⟨_,rfl,sd,_,rfl,hB.gC,_,rfl,g.pc,_,_,.ref p,rfl,rfl,bA.of hB.hc,ap,p,_,_,.int (S.cr c).d,rfl,rfl,bA.of hp,rfl,_,rfl,_,_,rfl,rfl,?_⟩;refine⟨_,rfl,sd,_,rfl,hB.gC,_,rfl,g.pc,_,_,.ref p,rfl,rfl,bA.of hB.hc,ap,p,_,4,4,rfl,rfl,hp,rfl,?_⟩;have B1:=hB.setC (r:=(S.cr c).less x) pi ⟨_,hp⟩;have F1:Frame g.fp H (upd H p (.lst ((S.cr c).less x).vs)):=Frame.upd (by have:=List.mem_of_getElem? pi; simp[fu.fp,this]);refine jw (H':=upd H p (.lst ((S.cr c).less x).vs)) rfl ?_;generalize upd H p (.lst ((S.cr c).less x).vs)=H1 at B1 F1 ⊢;obtain⟨q,qi,aq,hq⟩:=B1.lb (b:=b) hb
  change H1 q=some (.lst (S.bl b).vs) at hq
  refine⟨_,rfl,sd,_,rfl,B1.gB,_,rfl,g.pb,_,_,.ref q,rfl,rfl,bA.of B1.hb,aq,q,_,_,.int (S.bl b).d,rfl,rfl,bA.of hq,rfl,_,rfl,_,_,rfl,rfl,?_⟩;refine⟨_,rfl,sd,_,rfl,B1.gB,_,rfl,g.pb,_,_,.ref q,rfl,rfl,bA.of B1.hb,aq,q,_,4,4,rfl,rfl,hq,rfl,?_⟩;have B2:=B1.setB (r:=(S.bl b).less x) qi ⟨_,hq⟩;have F2:Frame g.fp H1 (upd H1 q (.lst ((S.bl b).less x).vs)):=Frame.upd (by have:=List.mem_of_getElem? qi; simp[fu.fp,this]);refine jw (H':=upd H1 q (.lst ((S.bl b).less x).vs)) rfl ?_;generalize upd H1 q (.lst ((S.bl b).less x).vs)=H2 at B2 F2 ⊢;obtain⟨ms,m1,m2⟩:=B2.hm;refine⟨_,rfl,sd,_,rfl,B2.gM,.inl ⟨rfl,_,bA.of m1⟩,_,rfl,_,rfl,_,rfl,(by show 3<=sizeLine; decide),fun p8 n8=>?_⟩;have t8:=aD.new (o:= .tup [V.int c,.int b,.int x]) n8;refine⟨g.pm,ms,_,rfl,rfl,t8 _ _ m1,?_,?_⟩
  ·rw[← aL m2];exact hz
  ·refine k _ ((F1.tr F2).tr ((t8.frame).tr (Frame.upd (by simp[fu.fp])))) ?_;exact(B2.same t8).Xn (t:=(c,b,x)) (t8 _ _ m1) (m2.mono t8.tk) ag
def Fy (x:Int×Nat):List Int:=[x.1,(x.2:Int)]
def Cu (rows:List Rw)(aH:Str)(key:Rw->Int)(i:Nat):List (Int×Nat):=
 ((List.range i).filter fun k=>decide ((rows.getD k default).aH=aH) && decide (0 < (rows.getD k default).d)).map fun k=>(key (rows.getD k default),k)
def MC {rows:List Rw}{aH:Str}{key:Rw->Int}{i:Nat}(h:(rows.getD i default).aH=aH)(h2:0 < (rows.getD i default).d):Cu rows aH key (i + 1)=Cu rows aH key i ++ [(key (rows.getD i default),i)]:=by
 unfold Cu;rw[oy,kg,aK]
 congr 1
 rw[cu (by rw[aG h,aG h2]; rfl)];rfl
def Px {rows:List Rw}{aH:Str}{key:Rw->Int}{i:Nat}(h: ¬ ((rows.getD i default).aH=aH/\0 < (rows.getD i default).d)):Cu rows aH key (i + 1)=Cu rows aH key i:=by
 unfold Cu;rw[List.range_succ,List.filter_append,List.map_append,List.filter_cons_of_neg (by simpa using h)];simp
def Py {rows:List Rw}{aH:Str}{key:Rw->Int}{i:Nat}: ∀x∈Cu rows aH key i,x.2 < i:=by
 intro x hx;obtain⟨k,hk,rfl⟩:=bF.mp hx;exact dh.mp (eU.mp hk).1
def Pz {rows:List Rw}{aH:Str}{key:Rw->Int}{i:Nat}:((Cu rows aH key i).map (·.2)).Nodup:=by
 unfold Cu;rw[eu];have e:((fun x:Int×Nat=>x.2) ∘ fun k=>(key (rows.getD k default),k))=id:=rfl;rw[e,A8];exact mD.filter _
def Ad {rows:List Rw}{aH:Str}{key:Rw->Int}{i:Nat}:(Cu rows aH key i).length<=i:=by
 unfold Cu;rw[ae];exact aY (aX _ _) (by rw[dj]; exact aE _)
def uq {x y:Str}(d:decide (V.str x=V.str y)=true):x=y:=by
 have:=aN d;injection this
def q0 {x y:Str}(d: ¬ decide (V.str x=V.str y)=true): ¬ x=y:=fun z=>d (aG (by rw[z]))
def lF: ∀{l:List (Int×Nat)} {x y:Int×Nat},(l.map (·.2)).Nodup->x∈l->y∈l->x.2=y.2->x=y
 |[],_,_,_,h,_,_=>by cases h
 |z :: l,x,y,nd,hx,hy,e=>by
  rw[cZ,fJ] at nd;rcases aw.mp hx with yp|yp
  ·rcases aw.mp hy with Ae|Ae
   ·rw[yp,Ae]
   ·exact absurd (bF.mpr ⟨y,Ae,by rw[← e,yp]⟩) nd.1
  ·rcases aw.mp hy with Ae|Ae
   ·exact absurd (bF.mpr ⟨x,yp,by rw[e,Ae]⟩) nd.1
   ·exact lF nd.2 yp Ae e
inductive vK (vs:List V)(H:Hp)(Q:VK)(E':XK):Prop
 |mk (p:Addr)(ps:List Addr)(rows:List Rw)(aH:Str)(Hu:Int)(key:Rw->Int)(h1:vs=[.ref p,.str aH,.int Hu])(h2:H p=some (.lst (ps.map V.ref)))(h3:eP H rows ps)(h4:rows.length < 64)(h5:(∀r:Rw,rY r.vs Hu=some (.int (key r))))(h6: ∀D H',aD H H'->H D=none->H' D=some (.lst ((inTurn rows aH key).map fun(k:Nat)=>V.int (k:Int)))->Q (.ref D) H'):vK vs H Q E'
def my:aS ["_law_rows","_law_who","_law_spot","_law_keys","_law_k"] ["_law_rows","_law_who","_law_spot"] (ay (top 57)):={}
def vL (T:Txt K mg):eI P w K mg base "_law_in_turn" 1 ["_law_rows","_law_who","_law_spot"] vK:=by
 refine T.vy.eX (k:=0) my (fun f cO A outer s H vs Q E hr h=>?_)
 ·obtain⟨p,ps,rows,aH,Hu,key,rfl,hp,hR,hl,hk,k⟩:=h;have nd:=my.nd;have hlen:=hR.length;refine⟨_,(ah (sv 3 nd (bP av))
(ah (dW bw rfl (iQ rfl T.ju (aa (ma T.dB (pv 0)) av)) (gn 4 nd)
(au (bN (PW.pt (pw_and (aV cH (xl (xl (pv 0) (pv 4)) ai) (pv 1) (aZ _)) (pw_and1 (aV iK (xl (xl (pv 0) (pv 4)) ai) ai (aZ _)))))
(au (bK (oS (pv 3) (cD (aa (xl (xl (pv 0) (pv 4)) (pv 2)) (aa (pv 4) av))))))
bb)))
(au (a0 (gg (tn:=["_law_key"]) (cn:=[]) (cj:=[]) rfl zk (rH (eM qG (by rfl) T.qM boot_sorted (aa (pv 3) av))) (fun _ _ _ _=>(dQ (i:=0) (show(["_law_key"]:List Str).Nodup by decide +kernel) rfl (Or.inl rfl))) (fun _ _ _ _=>kM) (fun _ _ _ _=>(i8 (lX (K:=K) rfl) (pv 0) ai (fun _ _=>rfl)))))))),?_⟩
  refine⟨bh _,fun pk nk=>?_⟩;have s1:aD H (upd H pk (.lst [])):=aD.new nk;refine⟨_,rfl,p,_,rfl,.inl (bA.of (s1 _ _ hp)),((ps.map V.ref).length:Int),rfl,by lia,by rw[ae]; lia,?_⟩;rw[dI];refine iR (lo:=0) (n:=(ps.map V.ref).length) (fun i σ H2=> ∃(xs:List V) (x4:Option V),σ=[some (.ref p),some (.str aH),some (.int Hu),some (.ref pk),x4]/\aD H H2/\H2 pk=some (.lst xs)/\gh H2 ((Cu rows aH key i).map Fy) xs)
   ⟨[],none,rfl,s1,ag,.nil⟩ ?_ ?_
  ·rintro i σ H2 hi ⟨xs,x4,rfl,s2,hx,hT⟩;rw[iG];have wR:i < rows.length:=by rw[ae] at hi; lia
   obtain⟨r,ri,Ld⟩:=hR.at wR;have ar:rY (ps.map V.ref) (i:Int)=some (.ref r):=cw (by rw[aB,ri]; rfl);have tQ:=s2 _ _ hp;have yB:=s2 _ _ Ld;have PB:xs.length<=i:=by
    have:=aL hT;rw[ae] at this;have:=Ad (rows:=rows) (aH:=aH) (key:=key) (i:=i);lia
   have no: ¬ ((rows.getD i default).aH=aH/\0 < (rows.getD i default).d)-> ∃(xs:List V) (x4:Option V),[some (V.ref p),some (.str aH),some (.int Hu),some (.ref pk),some (.int (i:Int))]=[some (.ref p),some (.str aH),some (.int Hu),some (.ref pk),x4]/\aD H H2/\H2 pk=some (.lst xs)/\gh H2 ((Cu rows aH key (i + 1)).map Fy) xs:=fun n=>
    ⟨xs,_,rfl,s2,hx,by rw[Px n]; exact hT⟩
   generalize Hv:rows.getD i default=row at yB no;refine⟨_,rfl,_,rfl,p,_,_,.ref r,rfl,rfl,bA.of tQ,ar,r,_,_,.str row.aH,rfl,rfl,bA.of yB,rfl,_,rfl,rfl,_,rfl,ck (fun d1=>?_) (fun d1=>bT (no fun z=>q0 d1 z.1))⟩;refine⟨_,rfl,_,rfl,p,_,_,.ref r,rfl,rfl,bA.of tQ,ar,r,_,_,.int row.d,rfl,rfl,bA.of yB,rfl,_,_,rfl,rfl,_,rfl,ck (fun d2=>?_) (fun d2=>no fun z=>d2 (aG z.2))⟩;have Tw:=uq d1;have X4:0 < row.d:=aN d2;refine⟨_,rfl,.inl ⟨rfl,_,bA.of hx⟩,_,rfl,_,rfl,p,_,_,.ref r,rfl,rfl,bA.of tQ,ar,_,rfl,r,_,_,.int (key row),rfl,rfl,bA.of yB,hk row,_,rfl,(by show 2<=sizeLine; decide),fun p8 n8=>?_⟩;have t8:=aD.new (o:= .tup [V.int (key row),.int (i:Int)]) n8;refine⟨pk,xs,_,rfl,rfl,t8 _ _ hx,a9 (by lia),xs ++ [.ref p8],_,rfl,(s2.trans t8).cG nk,ag,?_⟩;rw[MC (by rw[Hv]; exact Tw) (by rw[Hv]; exact X4),aK,Hv];exact gh.snoc (hT.mono (t8.tk.trans (dN (t8 _ _ hx)))) (dA (t8 _ _ hx) _ _ ag)
  ·rintro σ H2 ⟨xs,x4,rfl,s2,hx,hT⟩;have PB:=aL hT;have VL:=Ad (rows:=rows) (aH:=aH) (key:=key) (i:=(ps.map V.ref).length);have Fz:=Py (rows:=rows) (aH:=aH) (key:=key) (i:=(ps.map V.ref).length);have lp:(ps.map V.ref).length=rows.length:=by rw[ae]; lia
   have hle: ∀x∈Cu rows aH key (ps.map V.ref).length,x.2 < 1000:=fun x hx=>by have:=Fz x hx; lia
   have jO:inTurn rows aH key=(ej (Cu rows aH key (ps.map V.ref).length)).map (·.2):=by rw[lp]; rfl
   have hnd:=Pz (rows:=rows) (aH:=aH) (key:=key) (i:=(ps.map V.ref).length);generalize Cu rows aH key (ps.map V.ref).length=ks at hT PB VL hle jO hnd;rw[ae] at PB;refine⟨_,rfl,pk,xs,_,tW,rfl,bA.of hx,(by lia),hT,(fun t ht=>?_),(fun t ht u hu=>?_),fun D ys us nD Lb perm le=>?_⟩
   ·obtain⟨x,_,rfl⟩:=bF.mp ht;simp[Fy]
   ·obtain⟨x,yp,rfl⟩:=bF.mp ht;obtain⟨y,Ae,rfl⟩:=bF.mp hu;refine qN (hle x yp) (hle y Ae) (fun e=>⟨rfl,?_⟩) rfl;exact lF hnd yp Ae e
   ·have R6:=sZ hle hnd (fun x _=>rfl) perm le;subst R6;have tD:=aD.new (o:= .lst ys) nD;refine⟨D,rfl,⟨_,bA.of ag⟩,?_⟩;have FA:=Lb.mono tD.tk;generalize MD:upd H2 D (.lst ys)=H3 at tD FA;have Q7:H3 D=some (.lst ys):=by rw[← MD]; exact ag
    have s3:=s2.trans tD;clear MD Lb perm le hT;have Tx:=aL FA;refine dJ (K:=K) (a:=D) (xs:=ys) (fun D' i σ H6=>H3 D'=none/\ ∃v,σ=[v]/\aD H3 H6/\H6 D'=some (.lst (((ej ks).take i).map fun x=>V.int (x.2:Int)))) (fun D' pT=>⟨pT,none,rfl,aD.new pT,ag⟩) (fun D' i σ H6 _ ⟨_,_,_,t3,_⟩=>bA.of (t3 _ _ Q7)) ?_ ?_
    ·rintro D' i x σ H6 FC ⟨pT,v,rfl,t3,f7⟩;have hi:i < (ej ks).length:=by
      have:=(ak.mp FC).1;rw[ae] at Tx;lia
     have g0:((ej ks).map Fy)[i]? =some (Fy (ej ks)[i]):=by rw[aB,af hi]; rfl
     obtain⟨v',hv,pp,e1,Iq⟩:=bI FA g0;rw[FC] at hv;obtain rfl:x=v':=aF hv;subst e1;have lO:=jm hi;have Hw:=t3 _ _ Iq;generalize (ej ks)[i]=z at Hw lO;have Ee:((ej ks).take i).length<=100:=by
      rw[bf];have:=(c9 ks).length_eq;lia
     refine⟨_,rfl,pp,_,_,.int (z.2:Int),rfl,rfl,cf.of Hw,rfl,_,f7,a9 (by rw[ae]; lia),pT,_,rfl,t3.cG pT,?_⟩;rw[ag,lO,aK];rfl
    ·rintro D' σ H6 pT ⟨_,v,rfl,t3,f7⟩;refine k D' H6 (s3.trans t3) (s3.free pT) ?_;rw[f7,jO,eu,Tx.symm,ae,a7];rfl
def nH {α β:Type}{F:α->β->Prop}: ∀{l₁:List α} {l₂:List β} (n:Nat),Paired F l₁ l₂->Paired F (l₁.drop n) (l₂.drop n)
 |_,_,0,h=>by rwa [List.drop_zero,List.drop_zero]
 |_,_,_ + 1,.nil=> .nil
 |_,_,n + 1,.cons _ t=>by rw[List.drop_succ_cons,List.drop_succ_cons]; exact nH n t
def yC (xs:List V)(n:Nat)(h:n<=xs.length):qy xs (some (n:Int)) none=xs.drop n:=by
 unfold qy;rw[HT.IW,HT.y2,Nat.min_eq_left h,List.take_of_length_le];rw[mC];exact aE _
structure Af (H0:Hp)(sd:Addr)(S:Bk)(f:fu)(H2:Hp)(S2:Bk)(m:Nat):Prop where
 fr:Frame f.fp H0 H2
 bk:df H2 sd S2 f
 bl:S2.aI.length=S.aI.length
 cl:S2.credits.length=S.credits.length
 ml:S2.made.length<=S.made.length + m
def Af.put {H0:Hp}{sd:Addr}{S:Bk}{f:fu}{H2 H':Hp}{S2:Bk}{m c b:Nat}{x:Int}(I:Af H0 sd S f H2 S2 m)(fr:Frame f.fp H2 H')(bk:df H' sd (S2.put c b x) f):Af H0 sd S f H' (S2.put c b x) (m + 1):=by
 refine⟨I.fr.tr fr,bk,?_,?_,?_⟩
 ·show(S2.aI.set _ _).length=_;rw[d8]; exact I.bl
 ·show(S2.credits.set _ _).length=_;rw[d8]; exact I.cl
 ·show(S2.made ++ [_]).length<=_;rw[aC];have:=I.ml;simp;lia
def Af.up {H0:Hp}{sd:Addr}{S:Bk}{f:fu}{H2:Hp}{S2:Bk}{m n:Nat}(I:Af H0 sd S f H2 S2 m)(h:m<=n):Af H0 sd S f H2 S2 n:=⟨I.fr,I.bk,I.bl,I.cl,aY I.ml (by lia)⟩
def Af.from {H0 H1:Hp}{sd:Addr}{S:Bk}{f:fu}{H2:Hp}{S2:Bk}{m:Nat}(I:Af H0 sd S f H2 S2 m)(s:aD H2 H1):Af H1 sd S f H1 S2 m:=⟨Frame.refl,I.bk.same s,I.bl,I.cl,I.ml⟩
def Af.back {H0 H1:Hp}{sd:Addr}{S:Bk}{f:fu}{H2 H3:Hp}{S2 S3:Bk}{m n:Nat}(I:Af H0 sd S f H2 S2 m)(s:aD H2 H1)(J:Af H1 sd S f H3 S3 n):Af H0 sd S f H3 S3 n:=⟨(I.fr.cU s).tr J.fr,J.bk,J.bl,J.cl,J.ml⟩
def _root_.L2.df.ur {H:Hp}{sd D:Addr}{S:Bk}{f:fu}(h:df H sd S f)(n:H D=none):D∉f.fp:=fun z=>by
 obtain⟨ms,m1,_⟩:=h.hm;have rows: ∀(rs:List Rw) (ps:List Addr),eP H rs ps->D∈ps->False:=fun rs ps hr hp=>by
  obtain⟨i,hi⟩:=yW hp;have ip:i < rs.length:=by
   rw[hr.length];exact(ak.mp hi).1
  obtain⟨q,e1,e2⟩:=hr.at ip;rw[e1] at hi;cases hi;rw[n] at e2;cases e2
 unfold fu.fp at z;rcases aw.mp z with rfl|z
 ·have:=h.hb; rw[n] at this; cases this
 rcases aw.mp z with rfl|z
 ·have:=h.hc; rw[n] at this; cases this
 rcases aw.mp z with rfl|z
 ·rw[n] at m1; cases m1
 rcases bq.mp z with z|z
 ·exact rows _ _ h.rb z
 ·exact rows _ _ h.rc z
def jN (rows:List Rw)(aH:Str)(key:Rw->Int):(inTurn rows aH key).length<=rows.length:=by
 have e:inTurn rows aH key=(ej (Cu rows aH key rows.length)).map (·.2):=rfl;rw[e,ae,(c9 _).length_eq];exact Ad
def jD {α β:Type}(g:β->α->β)(l:List α)(s:β){i:Nat}{x:α}(h:l[i]? =some x):(l.take (i + 1)).foldl g s=g ((l.take i).foldl g s) x:=by
 rw[Gd,h,rP];rfl
def _root_.L2.Frame.free {fp:List Addr}{H H':Hp}{p:Addr}(a:Frame fp H H')(h:p∉fp)(n:H' p=none):H p=none:=by
 cases e:H p with
 |none=>rfl
 |some o=>have:=a p o h e; rw[n] at this; cases this
inductive Ag (vs:List V)(H:Hp)(Q:VK)(E':XK):Prop
 |mk (sd:Addr)(S:Bk)(f:fu)(aH:Str)(h1:vs=[.ref sd,.str aH])(h2:df H sd S f)(h3:S.credits.length < 64)(h4:S.aI.length < 64)(h5:S.made.length + 10000 < sizeLine)(h6: ∀D ms H',Frame f.fp H H'->df H' sd (S.jL aH) f->H D=none->H' D=some (.lst ms)->hJ H' ((S.jL aH).made.drop S.made.length) ms->Q (.ref D) H'):Ag vs H Q E'
def oW:aS ["_law_state","_law_who","_law_many","_law_exact","_law_credit","_law_bill","_law_free","_law_left"] ["_law_state","_law_who"] (ay (top 58)):={}
def Ah (T:Txt K mg):eI P w K mg base "_law_swept" 2 ["_law_state","_law_who"] Ag:=by
 have nI:eI P w K mg base "_law_in_turn" 1 ["_law_rows","_law_who","_law_spot"] vK:=vL T;have nJ:eI P w K mg base "_law_goes" 1 ["_law_state","_law_credit","_law_bill"] Ac:=tu T;have pU:eI P w K mg base "_law_put" 1 ["_law_state","_law_credit","_law_bill","_law_amount"] Ct:=vJ T;refine T.zI.eX (k:=1) oW (fun f cO A outer s H vs Q E hr h=>?_)
 ·obtain⟨sd,S,g,aH,rfl,hB,qL,ME,FD,k⟩:=h;have hu:=jG hr;have nd:=oW.nd;obtain⟨ms,m1,m2⟩:=hB.hm;have X5:S.made.length=ms.length:=aL m2;refine⟨_,(ah (sv 2 nd (ma T.dB (cA hu (pv 0) aQ (fun _ _=>rfl))))
(ah (dW bw rfl (rH (bP (aa k8 (aa k8 av)))) (gn 3 nd)
(au (dW bw rfl (rH (fc nI hr (aa (cA hu (pv 0) aQ (fun _ _=>rfl)) (aa (pv 1) (aa ai av))))) (gn 4 nd)
(au (dW bw rfl (rH (fc nI hr (aa (cA hu (pv 0) aQ (fun _ _=>rfl)) (aa (pv 1) (aa ai av))))) (gn 5 nd)
(ah (sv 6 nd (xl (xl (cA hu (pv 0) aQ (fun _ _=>rfl)) (pv 4)) ai))
(ah (sv 7 nd (xl (xl (cA hu (pv 0) aQ (fun _ _=>rfl)) (pv 5)) ai))
(au (bN (PW.pt (pw_and (aV iK (pv 6) ai (aZ _)) (pw_and1 (f9 (fc nJ hr (aa (pv 0) (aa (pv 4) (aa (pv 5) av))))))))
(au (bN (PW.pt (pw_or (aV cH (pv 6) (pv 7) (aZ _)) (pw_or1 (kI (f9 (pv 3))))))
(au (bK (fc pU hr (aa (pv 0) (aa (pv 4) (aa (pv 5) (aa (eM (rW rfl) (by rfl) T.JJ boot_min (aa (pv 6) (aa (pv 7) av))) av)))))))
bb))
bb)))))))))
(au (a0 (mQ Th (cA hu (pv 0) aQ (fun _ _=>rfl)) (nZ (pv 2)) uj))))),?_⟩
  refine⟨_,rfl,sd,_,rfl,hB.gM,g.pm,_,rfl,.inl (bA.of m1),?_⟩;refine⟨(by show 2<=sizeLine; decide),fun pl nl=>⟨pl,rfl,⟨_,bA.of ag⟩,?_⟩⟩;have s1:aD H (upd H pl (.lst ([true,false].map V.bl))):=aD.new nl;have nlf:=hB.ur nl;have gw:upd H pl (.lst ([true,false].map V.bl)) pl=some (.lst ([true,false].map V.bl)):=ag;have NG:=hB.same s1;refine jw (H':=upd H pl (.lst ([true,false].map V.bl))) rfl ?_;generalize upd H pl (.lst ([true,false].map V.bl))=H1 at s1 gw NG;refine fC (K:=K) (a:=pl) (xs:=[true,false].map V.bl) (fun i σ H2=> ∃x3 x4 x5 x6 x7:Option V,σ=[some (.ref sd),some (.str aH),some (.int (ms.length:Int)),x3,x4,x5,x6,x7]/\Af H1 sd S g H2 (([true,false].take i).foldl (bQ aH) S) (i * 4096))
   ⟨none,none,none,none,none,rfl,Frame.refl,NG,rfl,rfl,Nat.le_add_right _ _⟩ (fun i σ H2 _ ⟨_,_,_,_,_,_,I⟩=>bA.of (I.fr _ _ nlf gw)) ?_ ?_
  ·rintro i x σ H2 hx ⟨x3,x4,x5,x6,x7,rfl,I⟩;rw[aB] at hx;obtain⟨ex,hex,rfl⟩:=bo.mp hx;have hi:i < 2:=(ak.mp hex).1;rw[jD (bQ aH) [true,false] S hex];generalize ([true,false].take i).foldl (bQ aH) S=S1 at I ⊢;have c1:=I.cl;have b1:=I.bl;refine⟨_,rfl,sd,_,rfl,I.bk.gC,_,rfl,g.pc,g.cps,S1.credits,aH,1,(·.a),rfl,I.bk.hc,I.bk.rc,by lia,(fun _=>rfl),fun D1 H3 t3 n3 Hx=>?_⟩;have D1f:=I.bk.ur n3;have I3:=I.from t3;refine⟨D1,rfl,⟨_,bA.of Hx⟩,?_⟩;have hcs:(inTurn S1.credits aH (·.a)).length<=63:=by have:=jN S1.credits aH (·.a); lia
   have hcm: ∀c∈inTurn S1.credits aH (·.a),c < S.credits.length:=fun c hc=>by have:=(eN.mp hc).1; lia
   have ZQ:bQ aH S1 ex=(inTurn S1.credits aH (·.a)).foldl (cQ aH ex) S1:=rfl;rw[ZQ];generalize inTurn S1.credits aH (·.a)=cs at Hx hcs hcm;refine fC (K:=K) (a:=D1) (xs:=cs.map fun(k:Nat)=>V.int (k:Int)) (fun j σ H4=> ∃x4 x5 x6 x7:Option V,σ=[some (.ref sd),some (.str aH),some (.int (ms.length:Int)),some (.bl ex),x4,x5,x6,x7]/\Af H3 sd S g H4 ((cs.take j).foldl (cQ aH ex) S1) (i * 4096 + j * 64))
    ⟨_,_,_,_,rfl,I3.up (by lia)⟩ (fun j σ H4 _ ⟨_,_,_,_,_,J⟩=>bA.of (J.fr _ _ D1f Hx)) ?_ ?_
   ·rintro j x σ H4 hx ⟨x4,x5,x6,x7,rfl,J⟩;rw[aB] at hx;obtain⟨c,hc,rfl⟩:=bo.mp hx;have acU:=hcm c (fq hc);have hj:j < cs.length:=(ak.mp hc).1;rw[jD (cQ aH ex) cs S1 hc];generalize (cs.take j).foldl (cQ aH ex) S1=S2 at J ⊢;have b2:=J.bl;refine⟨_,rfl,sd,_,rfl,J.bk.gB,_,rfl,g.pb,g.ix,S2.aI,aH,2,(·.b),rfl,J.bk.hb,J.bk.rb,by lia,(fun _=>rfl),fun D2 H5 t5 n5 Hy=>?_⟩;have D2f:=J.bk.ur n5;have J5:=J.from t5;refine⟨D2,rfl,⟨_,bA.of Hy⟩,?_⟩;have hbs:(inTurn S2.aI aH (·.b)).length<=63:=by have:=jN S2.aI aH (·.b); lia
    have LX: ∀b∈inTurn S2.aI aH (·.b),b < S.aI.length:=fun b hb=>by have:=(eN.mp hb).1; lia
    have rE:cQ aH ex S2 c=(inTurn S2.aI aH (·.b)).foldl (cm ex c) S2:=rfl;rw[rE];generalize inTurn S2.aI aH (·.b)=bs at Hy hbs LX;refine fC (K:=K) (a:=D2) (xs:=bs.map fun(k:Nat)=>V.int (k:Int)) (fun l σ H6=> ∃x5 x6 x7:Option V,σ=[some (.ref sd),some (.str aH),some (.int (ms.length:Int)),some (.bl ex),some (.int (c:Int)),x5,x6,x7]/\Af H5 sd S g H6 ((bs.take l).foldl (cm ex c) S2) (i * 4096 + j * 64 + l))
     ⟨_,_,_,rfl,J5.up (by lia)⟩ (fun l σ H6 _ ⟨_,_,_,_,L⟩=>bA.of (L.fr _ _ D2f Hy)) ?_ ?_
    ·rintro l x σ H6 hx ⟨x5,x6,x7,rfl,L⟩;rw[aB] at hx;obtain⟨b,hb,rfl⟩:=bo.mp hx;have acX:=LX b (fq hb);have hl:l < bs.length:=(ak.mp hb).1;rw[jD (cm ex c) bs S2 hb];generalize (bs.take l).foldl (cm ex c) S2=S3 at L ⊢;have b3:=L.bl;have c3:=L.cl;have m3:=L.ml;obtain⟨p,_,ap,hp⟩:=L.bk.lc (b:=c) (by lia);obtain⟨q,_,aq,hq⟩:=L.bk.lb (b:=b) (by lia);have no: ¬ (0 < (S3.cr c).d/\S3.eF c b=true/\((S3.cr c).d=(S3.bl b).d∨ex=false))-> ∀H7,aD H6 H7-> ∃x5 x6 x7:Option V,[some (V.ref sd),some (.str aH),some (.int (ms.length:Int)),some (.bl ex),some (.int (c:Int)),some (.int (b:Int)),some (.int (S3.cr c).d),some (.int (S3.bl b).d)]=[some (.ref sd),some (.str aH),some (.int (ms.length:Int)),some (.bl ex),some (.int (c:Int)),x5,x6,x7]/\Af H5 sd S g H7 (cm ex c S3 b) (i * 4096 + j * 64 + (l + 1)):=fun n H7 t7=>by
      refine⟨_,_,_,rfl,?_⟩;unfold cm;rw[aU n];exact(L.back t7 (L.from t7)).up (by lia)
     refine⟨_,rfl,sd,_,rfl,L.bk.gC,_,rfl,g.pc,_,_,.ref p,rfl,rfl,bA.of L.bk.hc,ap,p,_,_,.int (S3.cr c).d,rfl,rfl,bA.of hp,rfl,?_⟩;refine⟨_,rfl,sd,_,rfl,L.bk.gB,_,rfl,g.pb,_,_,.ref q,rfl,rfl,bA.of L.bk.hb,aq,q,_,_,.int (S3.bl b).d,rfl,rfl,bA.of hq,rfl,?_⟩;refine⟨_,rfl,_,_,rfl,rfl,_,rfl,ck (fun d1=>?_) (fun d1=>bT (no (fun z=>d1 (aG z.1)) _ (aD.refl _)))⟩;have Tw:0 < (S3.cr c).d:=aN d1;refine⟨_,rfl,_,rfl,_,rfl,sd,S3,g,c,b,rfl,L.bk,by lia,by lia,fun H7 t7=>⟨_,rfl,ck (fun d2=>?_) (fun d2=>no (fun z=>d2 z.2.1) _ t7)⟩⟩;have L7:=L.bk.same t7;have Tz:((S3.cr c).d=(S3.bl b).d∨ex=false)-> ∀H',Frame g.fp H7 H'->df H' sd (S3.put c b (iH (S3.cr c).d (S3.bl b).d)) g-> ∃x5 x6 x7:Option V,[some (V.ref sd),some (.str aH),some (.int (ms.length:Int)),some (.bl ex),some (.int (c:Int)),some (.int (b:Int)),some (.int (S3.cr c).d),some (.int (S3.bl b).d)]=[some (.ref sd),some (.str aH),some (.int (ms.length:Int)),some (.bl ex),some (.int (c:Int)),x5,x6,x7]/\Af H5 sd S g H' (cm ex c S3 b) (i * 4096 + j * 64 + (l + 1)):=fun z H' QW X6=>by
      refine⟨_,_,_,rfl,?_⟩;unfold cm;rw[a8 ⟨Tw,d2,z⟩];exact(L.put (t7.frame.tr QW) X6).up (by lia)
     have FE:((S3.cr c).d=(S3.bl b).d∨ex=false)->Ct [.ref sd,.int (c:Int),.int (b:Int),.int (if(S3.bl b).d < (S3.cr c).d then(S3.bl b).d else(S3.cr c).d)] H7 (fun _ H'=> ∃x5 x6 x7:Option V,[some (V.ref sd),some (.str aH),some (.int (ms.length:Int)),some (.bl ex),some (.int (c:Int)),some (.int (b:Int)),some (.int (S3.cr c).d),some (.int (S3.bl b).d)]=[some (.ref sd),some (.str aH),some (.int (ms.length:Int)),some (.bl ex),some (.int (c:Int)),x5,x6,x7]/\Af H5 sd S g H' (cm ex c S3 b) (i * 4096 + j * 64 + (l + 1))) (fun _ _ _=>False):=fun z=>
      ⟨sd,S3,g,c,b,_,rfl,L7,by lia,by lia,by lia,fun H' QW X6=>Tz z H' QW X6⟩
     refine⟨_,rfl,_,rfl,rfl,_,rfl,ck (fun d3=>fB ?_) (fun d3=>?_)⟩
     ·have d3':(S3.cr c).d=(S3.bl b).d:=by have:=aN d3; injection this
      exact⟨_,rfl,_,rfl,_,rfl,_,rfl,_,rfl,_,_,rfl,FE (.inl d3')⟩
     ·refine⟨_,rfl,_,rfl,ck (fun d4=>?_) (fun d4=>no (fun z=>?_) _ t7)⟩
      ·have d4':ex=false:=by simpa using d4
       exact⟨_,rfl,_,rfl,_,rfl,_,rfl,_,rfl,_,_,rfl,FE (.inr d4')⟩
      ·rcases z.2.2 with z|z
       ·exact d3 (aG (by rw[z]))
       ·exact d4 (by rw[z]; rfl)
    ·rintro σ H6 ⟨x5,x6,x7,rfl,L⟩;rw[ae,a7] at L;exact⟨_,_,_,_,rfl,(J.back t5 L).up (by lia)⟩
   ·rintro σ H4 ⟨x4,x5,x6,x7,rfl,J⟩;rw[ae,a7] at J;exact⟨_,_,_,_,_,rfl,(I.back t3 J).up (by lia)⟩
  ·rintro σ H2 ⟨x3,x4,x5,x6,x7,rfl,I⟩;have W7:([true,false].take ([true,false].map V.bl).length).foldl (bQ aH) S=S.jL aH:=rfl;rw[W7] at I;obtain⟨NH,k1,k2⟩:=I.bk.hm;refine⟨_,rfl,sd,_,rfl,I.bk.gM,_,rfl,_,rfl,g.pm,NH,rfl,bA.of k1,fun p np=>?_⟩;have tp:=aD.new (o:= .lst (qy NH (some (ms.length:Int)) none)) np;have hle:ms.length<=NH.length:=by
    have e0:=aL k2;obtain⟨_,l,e1,_⟩:=qI S aH;rw[e1,aC] at e0;lia
   refine k p (NH.drop ms.length) _ ((s1.frame.tr I.fr).cU tp) (I.bk.same tp) ?_ ?_ ?_
   ·exact s1.free (Frame.free I.fr (I.bk.ur np) np)
   ·rw[ag,yC _ _ hle]
   ·rw[X5];exact nH _ (k2.mono tp.tk)
inductive uu (A:dU)(vs:List V)(H:Hp)(Q:VK)(E':XK):Prop
 |mk (x dx:Addr)(h1:vs=[.ref x])(h2:H x=some (.ins A.work dx []))(h3: ∀f H',Frame [x] H H'->dC A H' x Bk.new f->(∀b∈f.fp,H b=none)->Q .eh H'):uu A vs H Q E'
def J1 (f:eJ):ez "made" (.ref f.pm) (ez "frees" (.ref f.pf) (ez "lefts" (.ref f.pl) (ez "all_credits" (.ref f.pc) (ez "bills" (.ref f.pb) []))))=lA f:=by rfl
def Cv {H Hk:Hp}{x dx p C:Addr}{fs:List (Str×V)}{f:Str}(F:Frame [x] H Hk)(hx:Hk x=some (.ins C dx fs))(n:Hk p=none):p≠x/\H p=none/\Frame [x] H (upd (upd Hk p (.lst [])) x (.ins C dx (ez f (.ref p) fs)))/\
  upd (upd Hk p (.lst [])) x (.ins C dx (ez f (.ref p) fs)) x=some (.ins C dx (ez f (.ref p) fs))/\upd (upd Hk p (.lst [])) x (.ins C dx (ez f (.ref p) fs)) p=some (.lst [])/\
  (∀q o,q≠x->Hk q=some o->upd (upd Hk p (.lst [])) x (.ins C dx (ez f (.ref p) fs)) q=some o/\q≠p):=by
 have ne:p≠x:=(aJ hx n).symm;refine⟨ne,F.free (by simpa using ne) n,(F.tr (aD.new n).frame).tr (Frame.upd (by simp)),ag,by rw[az ne,ag],fun q o hq e=>⟨?_,aJ e n⟩⟩;rw[az hq];exact aD.new n _ _ e
def MF:aS ["self"] ["self"] (ay (mem 25 0)):={}
def J2 {A:dU}(G:jv K mg A):tY P w K mg base "Work" A.work 1 ["self"] (uu A):=by
 refine Mx (k:=0) G.Mt G.Ms MF (fun f cO A' outer s H vs Q E hr h=>?_)
 ·obtain⟨x,dx,rfl,hx,k⟩:=h;refine⟨_,(ah (l9 (pv 0) (bP av))
(ah (l9 (pv 0) (bP av))
(ah (l9 (pv 0) (bP av))
(ah (l9 (pv 0) (bP av))
(au (l9 (pv 0) (bP av))))))),?_⟩
  have F0:Frame [x] H H:=Frame.refl;refine⟨bh _,fun p1 n1=>⟨_,rfl,x,_,dx,_,rfl,aD.new n1 _ _ hx,G.bH,G.dS,lt1000 Cn (by decide),?_⟩⟩;obtain⟨ne1,f1,F1,x1,g1,t1⟩:=Cv (f:="bills") F0 hx n1;generalize hH1:upd (upd H p1 (.lst [])) x (.ins A.work dx (ez "bills" (.ref p1) _))=H1 at F1 x1 g1;clear hH1 t1;refine⟨bh _,fun p2 n2=>⟨_,rfl,x,_,dx,_,rfl,aD.new n2 _ _ x1,G.bH,G.cB,lt1000 (pl Cn) (by decide),?_⟩⟩;obtain⟨ne2,f2,F2,x2,g2,t2⟩:=Cv (f:="all_credits") F1 x1 n2;obtain⟨g1,TB⟩:=t2 p1 _ ne1 g1;generalize Vo:upd (upd H1 p2 (.lst [])) x (.ins A.work dx (ez "all_credits" (.ref p2) _))=H2 at F2 x2 g1 g2;clear Vo t2;refine⟨bh _,fun p3 n3=>⟨_,rfl,x,_,dx,_,rfl,aD.new n3 _ _ x2,G.bH,G.fz,lt1000 (pl (pl Cn)) (by decide),?_⟩⟩;obtain⟨ne3,f3,F3,x3,g3,t3⟩:=Cv (f:="lefts") F2 x2 n3;obtain⟨g1,TC⟩:=t3 p1 _ ne1 g1;obtain⟨g2,TF⟩:=t3 p2 _ ne2 g2;generalize MD:upd (upd H2 p3 (.lst [])) x (.ins A.work dx (ez "lefts" (.ref p3) _))=H3 at F3 x3 g1 g2 g3;clear MD t3;refine⟨bh _,fun p4 n4=>⟨_,rfl,x,_,dx,_,rfl,aD.new n4 _ _ x3,G.bH,G.fA,lt1000 (pl (pl (pl Cn))) (by decide),?_⟩⟩;obtain⟨ne4,f4,F4,x4,g4,t4⟩:=Cv (f:="frees") F3 x3 n4;obtain⟨g1,TH⟩:=t4 p1 _ ne1 g1;obtain⟨g2,TJ⟩:=t4 p2 _ ne2 g2;obtain⟨g3,TK⟩:=t4 p3 _ ne3 g3;generalize hH4:upd (upd H3 p4 (.lst [])) x (.ins A.work dx (ez "frees" (.ref p4) _))=H4 at F4 x4 g1 g2 g3 g4;clear hH4 t4;refine⟨bh _,fun p5 n5=>⟨_,rfl,x,_,dx,_,rfl,aD.new n5 _ _ x4,G.bH,G.me,lt1000 (pl (pl (pl (pl Cn)))) (by decide),?_⟩⟩;obtain⟨ne5,f5,F5,x5,g5,t5⟩:=Cv (f:="made") F4 x4 n5;obtain⟨g1,TL⟩:=t5 p1 _ ne1 g1;obtain⟨g2,TM⟩:=t5 p2 _ ne2 g2;obtain⟨g3,TN⟩:=t5 p3 _ ne3 g3;obtain⟨g4,TQ⟩:=t5 p4 _ ne4 g4;refine k ⟨p1,p2,p3,p4,p5,[],[]⟩ _ F5 ⟨⟨dx,?_⟩,g1,g2,g3,g4,⟨[],g5,.nil⟩,⟨rfl,fun i p e=>by simp at e⟩,⟨rfl,fun i p e=>by simp at e⟩,?_⟩ ?_
  ·rw[x5];exact cJ (fun z=>some (HO.ins A.work dx z)) (J1 ⟨p1,p2,p3,p4,p5,[],[]⟩)
  ·simp[eJ.fp,TB,TC,TH,TL,TF,TJ,TM,TK,TN,TQ]
  ·intro b hb;simp only[eJ.fp,List.mem_cons,List.not_mem_nil,or_false] at hb;rcases hb with rfl|rfl|rfl|rfl|rfl
   ·exact f1
   ·exact f2
   ·exact f3
   ·exact f4
   ·exact f5
def iB (A:dU)(H:Hp)(S:Bk)(bs:List Nat)(qs:List Addr):Prop:=Paired (fun(b:Nat) q=>en H q A.dR (fv b (S.bl b))) bs qs
def gF (A:dU)(H:Hp)(S:Bk)(cs:List Nat)(qs:List Addr):Prop:=Paired (fun(c:Nat) q=>en H q A.dX (eY c (S.cr c))) cs qs
def iB.same {A:dU}{H H':Hp}{S:Bk}{bs:List Nat}{qs:List Addr}(h:iB A H S bs qs)(s:aD H H'):iB A H' S bs qs:=Paired.gI h fun _ _ z=>z.same s
def gF.same {A:dU}{H H':Hp}{S:Bk}{bs:List Nat}{qs:List Addr}(h:gF A H S bs qs)(s:aD H H'):gF A H' S bs qs:=Paired.gI h fun _ _ z=>z.same s
inductive Ka (A:dU)(vs:List V)(H:Hp)(Q:VK)(E':XK):Prop
 |mk (p pt:Addr)(S:Bk)(c:Nat)(bs:List Nat)(qs:List Addr)(h1:vs=[.ref p,.ref pt])(h2:en H p A.dX (eY c (S.cr c)))(h3:H pt=some (.lst (qs.map V.ref)))(h4:iB A H S bs qs)(h5:bs.length<=100)(h6: ∀D H',aD H H'->H D=none->H' D=some (.lst ((bs.map fun b=>oT (S.cr c) (S.bl b) b).map V.bl))->Q (.ref D) H'):Ka A vs H Q E'
def vM:aS ["credit","bills"] ["credit","bills"] (ay (top 27)):={}
def xu (T:Txt K mg){A:dU}(G:jv K mg A):eI P w K mg base "row_of_fits" 2 ["credit","bills"] (Ka A):=by
 have Ed:eI P w K mg base "fits" 1 ["credit","bill"] (zW A):=JS T G;refine T.w6.eX (k:=1) vM (fun f cO A' outer s H vs Q E hr h=>?_)
 ·obtain⟨p,pt,S,c,bs,qs,rfl,hp,wB,hB,hl,k⟩:=h;have hlen:=aL hB;refine⟨_,(au (a0 (gg (tn:=["bill"]) (cn:=["credit"]) (cj:=[0]) rfl (gR (yk:=[(".0",.local),("bill",.local),("fits",.globalImplicit),("credit",.cell)])) (rH (pv 1)) (fun _ _ _ _=>(dQ (i:=0) (show(["bill","credit"]:List Str).Nodup by decide +kernel) rfl (Or.inl rfl))) (fun _ _ _ _=>kM) (fun _ _ _ _=>(fc Ed hr (aa (pv 1) (aa (pv 0) av))))))),?_⟩;refine⟨_,rfl,pt,rfl,⟨_,bA.of wB⟩,?_⟩;refine dJ (K:=K) (a:=pt) (xs:=qs.map V.ref) (fun D i σ H6=>H D=none/\ ∃v,σ=[v,some (.ref p)]/\aD H H6/\H6 D=some (.lst (((bs.take i).map fun b=>oT (S.cr c) (S.bl b) b).map V.bl))) (fun D hD=>⟨hD,none,rfl,aD.new hD,ag⟩) (fun D i σ H6 _ ⟨_,_,_,t3,_⟩=>bA.of (t3 _ _ wB)) ?_ ?_
  ·rintro D i x σ H6 hx ⟨hD,v,rfl,t3,f7⟩;rw[aB] at hx;obtain⟨q,hq,rfl⟩:=bo.mp hx;have hi:i < bs.length:=by have:=(ak.mp hq).1; lia
   obtain⟨q',sQ,lG⟩:=bI hB (af hi);rw[hq] at sQ;obtain rfl:q=q':=aF sQ;have lO:=jm hi;generalize bs[i]=b at lG lO;refine⟨_,rfl,_,rfl,p,q,c,b,_,_,rfl,hp.same t3,lG.same t3,_,f7,a9 (by rw[ae,ae,bf]; lia),hD,_,rfl,t3.cG hD,?_⟩;rw[ag,lO,aK,aK];rfl
  ·rintro D σ H6 hD ⟨_,v,rfl,t3,f7⟩;refine k D H6 t3 hD ?_;rw[f7,ae,← hlen,a7]
def br.vs:br->List V
 | .dR w d u a=>[.str "bill",.str w,.int d,.int u,.int a]
 | .rG w d a=>[.str "pay",.str w,.int d,.int a]
 | .note b d a=>[.str "note",.int b,.int d,.int a]
 | .set c b a=>[.str "set",.int c,.int b,.int a]
 | .fT w=>[.str "sweep",.str w]
 | .ie n=>[.str "undo",.int n]
 | .ask o w d=>[.str (if o then "owed" else "free"),.str w,.int d]
 | .fN _ _ _=>[]
def jk {x y:Str}(h:x≠y):V.bl (decide (V.str x=V.str y))=V.bl false:=cJ V.bl (bp fun z=>h (by injection z))
def yD (x:Str):V.bl (decide (V.str x=V.str x))=V.bl true:=cJ V.bl (aG rfl)
def TR {x y:Str}(h:x≠y):V.bl (!decide (V.str x=V.str y))=V.bl true:=by rw[show decide (V.str x=V.str y)=false from bp fun z=>h (by injection z)]; rfl
def btN (x:Str):V.bl (!decide (V.str x=V.str x))=V.bl false:=by rw[show decide (V.str x=V.str x)=true from aG rfl]; rfl
def vN {x:Int}{n:Nat}{ta tc:TE}{σ:L2.St}{H:Hp}{Q:Bool->Hp->Prop}(ha: ∀R:VK,R (.int x) H->ta σ H R)(hc: ∀R:VK,R (.int (n:Int)) H->tc σ H R)(q:Q (decide (qk x n)) H):
  IJ (IK (K2 fun i j=> .bl (decide (i<=j))) (K2 fun i j=> .bl (decide (i < j))) (tC (.int 0)) ta tc) σ H Q:=by
 refine ha _ ⟨_,_,rfl,rfl,_,rfl,ck (fun d=>hc _ ⟨_,_,rfl,rfl,_,rfl,?_⟩) (fun d=>⟨_,rfl,?_⟩)⟩
 ·have d':(0:Int)<=x:=aN d;have e:decide (qk x n)=decide (x < (n:Int)):=mE.mpr ⟨fun z=>z.2,fun z=>⟨d',z⟩⟩;rw[e] at q;exact q
 ·have d': ¬ (0:Int)<=x:=fun z=>d (aG z);have e:decide (qk x n)=false:=bp fun z=>d' z.1;rw[e] at q;exact q
inductive vO (vs:List V)(H:Hp)(Q:VK)(E':XK):Prop
 |mk (sd pd:Addr)(S:Bk)(f:fu)(d:br)(h1:vs=[.ref sd,.ref pd])(h2:df H sd S f)(h3:H pd=some (.tup (br.vs d)))(h4:d.tells=true)(h5: ∀H',aD H H'->Q (.str (S.bar d)) H'):vO vs H Q E'
def nK:aS ["_law_state","_law_deed","_law_word","_law_spot"] ["_law_state","_law_deed"] (ay (top 59)):={}
def xv (T:Txt K mg):eI P w K mg base "_law_barred" 2 ["_law_state","_law_deed"] vO:=by
 have nJ:eI P w K mg base "_law_goes" 1 ["_law_state","_law_credit","_law_bill"] Ac:=tu T;refine T.xi.eX (k:=1) nK (fun f cO A outer s H vs Q E hr h=>?_)
 ·obtain⟨sd,pd,S,g,d,rfl,hB,hd,ht,k⟩:=h;have hu:=jG hr;have nd:=nK.nd;refine⟨_,(ah (sv 2 nd (xt (pv 1) ai))
(ah (sv 3 nd (gx jx (by rfl) T.vz boot_int (aa (ff cH (pv 2) aQ (aZ _)) av)))
(ah (bN (PW.pt (pw_and (aV cH (pv 3) ai (aZ _)) (pw_and1 (kI (Bn sO jn ai (xt (pv 1) ai) (ma T.dB (cA hu (pv 0) aQ (fun _ _=>rfl))))))))
(au (a0 aQ))
bb)
(ah (bN (PW.pt (pw_and (aV oa (pv 2) (bP (aa aQ (aa aQ av))) (by rfl)) (pw_and1 (kI (Bn sO jn ai (xt (pv 1) (aO cz ai (pv 3))) (ma T.dB (cA hu (pv 0) aQ (fun _ _=>rfl))))))))
(au (a0 aQ))
bb)
(ah (bN (PW.pt (pw_and (aV cH (pv 2) aQ (aZ _)) (pw_and1 (kI (f9 (fc nJ hr (aa (pv 0) (aa (xt (pv 1) ai) (aa (xt (pv 1) ai) av)))))))))
(au (a0 aQ))
bb)
(ah (bN (PW.pt (pw_and (aV oQ (pv 2) aQ (aZ _)) (pw_and1 (aV jn (xt (pv 1) (oP kJ ai)) ai (aZ _)))))
(au (a0 aQ))
bb)
(ah (bN (PW.pt (pw_and (aV cH (pv 2) aQ (aZ _)) (pw_and1 (aV jn (xt (pv 1) ai) (xt (pv 1) ai) (aZ _)))))
(au (a0 aQ))
bb)
(ah (bN (aV cH (pv 2) aQ (aZ _))
(au (bN (aV iK (xt (pv 1) ai) (eM (rW rfl) (by rfl) T.JJ boot_min (aa (xl (xl (cA hu (pv 0) aQ (fun _ _=>rfl)) (xt (pv 1) ai)) ai) (aa (xl (xl (cA hu (pv 0) aQ (fun _ _=>rfl)) (xt (pv 1) ai)) ai) av))) (aZ _))
(au (a0 aQ))
bb))
bb)
(au (a0 aQ)))))))))),?_⟩
  have kk: ∀(t:Str) (H':Hp),S.bar d=t->aD H H'->Q (.str t) H':=fun t H' e z=>e▸k H' z;clear k;cases d with
  |ie n=>cases ht
  |ask o w d=>cases ht
  |fN w d l=>cases ht
  |dR wh dy du am=>
   refine⟨_,rfl,pd,_,_,.str "bill",rfl,rfl,cf.of hd,rfl,_,rfl,rfl,.inr ⟨false,(by rw[jk (show("bill":Str)≠"set" by decide +kernel)]),?_⟩⟩;refine⟨_,rfl,rfl,false,cJ V.bl (by decide +kernel),bT (bT ?_)⟩;refine⟨_,rfl,(by show 2<=sizeLine; decide),fun p9 n9=>⟨p9,_,rfl,.inl (bA.of ag),rfl,rfl,false,cJ V.bl (by decide +kernel),bT (bT ?_)⟩⟩;have s9:=aD.new (o:= .lst [V.str "set",.str "note"]) n9;have Cw:=s9 _ _ hd;refine jw (H':=upd H p9 (.lst [V.str "set",.str "note"])) rfl ?_;generalize upd H p9 (.lst [V.str "set",.str "note"])=H9 at s9 Cw;refine⟨_,rfl,rfl,false,jk (show("bill":Str)≠"set" by decide +kernel),bT (bT ?_)⟩;refine⟨_,rfl,rfl,true,TR (show("bill":Str)≠"sweep" by decide +kernel),fB ⟨_,rfl,_,rfl,pd,_,_,.int am,rfl,rfl,cf.of Cw,rfl,_,_,rfl,rfl,_,rfl,ck (fun z=>?_) (fun z=>?_)⟩⟩
   ·have z':am < 1:=aN z;exact kk _ _ (a8 z') s9
   have z1: ¬ am < 1:=fun q=>z (aG q);refine⟨_,rfl,rfl,true,yD _,fB ⟨_,rfl,pd,_,_,.int du,rfl,rfl,cf.of Cw,rfl,_,rfl,pd,_,_,.int dy,rfl,rfl,cf.of Cw,rfl,_,_,rfl,rfl,_,rfl,ck (fun z=>?_) (fun z=>?_)⟩⟩
   ·have z':du < dy:=aN z;exact kk _ _ ((aU z1).trans (a8 z')) s9
   have z2: ¬ du < dy:=fun q=>z (aG q);refine⟨_,rfl,rfl,false,jk (show("bill":Str)≠"set" by decide +kernel),bT ?_⟩;exact kk _ _ ((aU z1).trans (aU z2)) s9
  |rG wh dy am=>
   refine⟨_,rfl,pd,_,_,.str "pay",rfl,rfl,cf.of hd,rfl,_,rfl,rfl,.inr ⟨false,(by rw[jk (show("pay":Str)≠"set" by decide +kernel)]),?_⟩⟩;refine⟨_,rfl,rfl,false,cJ V.bl (by decide +kernel),bT (bT ?_)⟩;refine⟨_,rfl,(by show 2<=sizeLine; decide),fun p9 n9=>⟨p9,_,rfl,.inl (bA.of ag),rfl,rfl,false,cJ V.bl (by decide +kernel),bT (bT ?_)⟩⟩;have s9:=aD.new (o:= .lst [V.str "set",.str "note"]) n9;have Cw:=s9 _ _ hd;refine jw (H':=upd H p9 (.lst [V.str "set",.str "note"])) rfl ?_;generalize upd H p9 (.lst [V.str "set",.str "note"])=H9 at s9 Cw;refine⟨_,rfl,rfl,false,jk (show("pay":Str)≠"set" by decide +kernel),bT (bT ?_)⟩;refine⟨_,rfl,rfl,true,TR (show("pay":Str)≠"sweep" by decide +kernel),fB ⟨_,rfl,_,rfl,pd,_,_,.int am,rfl,rfl,cf.of Cw,rfl,_,_,rfl,rfl,_,rfl,ck (fun z=>?_) (fun z=>?_)⟩⟩
   ·have z':am < 1:=aN z;exact kk _ _ (a8 z') s9
   have z1: ¬ am < 1:=fun q=>z (aG q);refine⟨_,rfl,rfl,false,jk (show("pay":Str)≠"bill" by decide +kernel),bT (bT ?_)⟩;refine⟨_,rfl,rfl,false,jk (show("pay":Str)≠"set" by decide +kernel),bT ?_⟩;exact kk _ _ (aU z1) s9
  |fT wh=>
   refine⟨_,rfl,pd,_,_,.str "sweep",rfl,rfl,cf.of hd,rfl,_,rfl,rfl,.inr ⟨false,(by rw[jk (show("sweep":Str)≠"set" by decide +kernel)]),?_⟩⟩;refine⟨_,rfl,rfl,false,cJ V.bl (by decide +kernel),bT (bT ?_)⟩;refine⟨_,rfl,(by show 2<=sizeLine; decide),fun p9 n9=>⟨p9,_,rfl,.inl (bA.of ag),rfl,rfl,false,cJ V.bl (by decide +kernel),bT (bT ?_)⟩⟩;have s9:=aD.new (o:= .lst [V.str "set",.str "note"]) n9;refine jw (H':=upd H p9 (.lst [V.str "set",.str "note"])) rfl ?_;generalize upd H p9 (.lst [V.str "set",.str "note"])=H9 at s9;refine⟨_,rfl,rfl,false,jk (show("sweep":Str)≠"set" by decide +kernel),bT (bT ?_)⟩;refine⟨_,rfl,rfl,false,btN _,bT (bT ?_)⟩;refine⟨_,rfl,rfl,false,jk (show("sweep":Str)≠"bill" by decide +kernel),bT (bT ?_)⟩;refine⟨_,rfl,rfl,false,jk (show("sweep":Str)≠"set" by decide +kernel),bT ?_⟩;exact kk _ _ rfl s9
  |note bi dy am=>
   refine⟨_,rfl,pd,_,_,.str "note",rfl,rfl,cf.of hd,rfl,_,rfl,rfl,.inr ⟨false,(by rw[jk (show("note":Str)≠"set" by decide +kernel)]),?_⟩⟩;refine⟨_,rfl,rfl,false,cJ V.bl (by decide +kernel),bT (bT ?_)⟩;refine⟨_,rfl,(by show 2<=sizeLine; decide),fun p9 n9=>⟨p9,_,rfl,.inl (bA.of ag),rfl,rfl,true,cJ V.bl (by decide +kernel),fB ?_⟩⟩;have s9:=aD.new (o:= .lst [V.str "set",.str "note"]) n9;have Cw:=s9 _ _ hd;have B9:=hB.same s9;generalize upd H p9 (.lst [V.str "set",.str "note"])=H9 at s9 Cw B9;have hlen:g.ix.length=S.aI.length:=B9.rb.length.symm;refine vN (x:=bi) (n:=S.aI.length) (fun R q=>⟨_,rfl,_,rfl,_,_,rfl,rfl,pd,_,_,.int bi,rfl,rfl,cf.of Cw,rfl,q⟩) (fun R q=>⟨_,rfl,sd,_,rfl,B9.gB,g.pb,_,rfl,.inl (bA.of B9.hb),by rw[ae,hlen]; exact q⟩) (ck (fun z=>?_) (fun z=>?_))
   ·have z': ¬ qk bi S.aI.length:=by simpa using z
    exact kk _ _ (a8 z') s9
   have z0: ¬ ¬ qk bi S.aI.length:=by simpa using z
   refine⟨_,rfl,rfl,false,jk (show("note":Str)≠"set" by decide +kernel),bT (bT ?_)⟩;refine⟨_,rfl,rfl,true,TR (show("note":Str)≠"sweep" by decide +kernel),fB ⟨_,rfl,_,rfl,pd,_,_,.int am,rfl,rfl,cf.of Cw,rfl,_,_,rfl,rfl,_,rfl,ck (fun z=>?_) (fun z=>?_)⟩⟩
   ·have z':am < 1:=aN z;exact kk _ _ ((aU z0).trans (a8 z')) s9
   have z1: ¬ am < 1:=fun q=>z (aG q);refine⟨_,rfl,rfl,false,jk (show("note":Str)≠"bill" by decide +kernel),bT (bT ?_)⟩;refine⟨_,rfl,rfl,false,jk (show("note":Str)≠"set" by decide +kernel),bT ?_⟩;exact kk _ _ ((aU z0).trans (aU z1)) s9
  |set ci bi am=>
   have hlc:g.cps.length=S.credits.length:=hB.rc.length.symm;refine⟨_,rfl,pd,_,_,.str "set",rfl,rfl,cf.of hd,rfl,_,rfl,rfl,.inr ⟨true,(by rw[yD]),?_⟩⟩;refine⟨_,rfl,rfl,true,cJ V.bl (by decide +kernel),fB ?_⟩;refine vN (x:=ci) (n:=S.credits.length) (fun R q=>⟨_,rfl,pd,_,_,.int ci,rfl,rfl,cf.of hd,rfl,q⟩) (fun R q=>⟨_,rfl,sd,_,rfl,hB.gC,g.pc,_,rfl,.inl (bA.of hB.hc),by rw[ae,hlc]; exact q⟩) (ck (fun z=>?_) (fun z=>?_))
   ·have z': ¬ qk ci S.credits.length:=by simpa using z
    exact kk _ _ (a8 z') (aD.refl _)
   have zc: ¬ ¬ qk ci S.credits.length:=by simpa using z
   refine⟨_,rfl,(by show 2<=sizeLine; decide),fun p9 n9=>⟨p9,_,rfl,.inl (bA.of ag),rfl,rfl,true,cJ V.bl (by decide +kernel),fB ?_⟩⟩;have s9:=aD.new (o:= .lst [V.str "set",.str "note"]) n9;have Cw:=s9 _ _ hd;have B9:=hB.same s9;generalize upd H p9 (.lst [V.str "set",.str "note"])=H9 at s9 Cw B9;have hlen:g.ix.length=S.aI.length:=B9.rb.length.symm;refine vN (x:=bi) (n:=S.aI.length) (fun R q=>⟨_,rfl,_,rfl,_,_,rfl,rfl,pd,_,_,.int bi,rfl,rfl,cf.of Cw,rfl,q⟩) (fun R q=>⟨_,rfl,sd,_,rfl,B9.gB,g.pb,_,rfl,.inl (bA.of B9.hb),by rw[ae,hlen]; exact q⟩) (ck (fun z=>?_) (fun z=>?_))
   ·have z': ¬ qk bi S.aI.length:=by simpa using z
    exact kk _ _ ((aU zc).trans (a8 z')) s9
   have zb: ¬ ¬ qk bi S.aI.length:=by simpa using z
   have ic:=Gf.mp zc;have ib:=Gf.mp zb;obtain⟨c,rfl⟩:=cv ic.1;obtain⟨b,rfl⟩:=cv ib.1;have hc:c < S.credits.length:=by have:=ic.2; lia
   have hb:b < S.aI.length:=by have:=ib.2; lia
   refine⟨_,rfl,rfl,true,yD _,fB ⟨_,rfl,_,rfl,pd,_,_,.int (c:Int),rfl,rfl,cf.of Cw,rfl,_,rfl,pd,_,_,.int (b:Int),rfl,rfl,cf.of Cw,rfl,sd,S,g,c,b,rfl,B9,hc,hb,fun PD Ef=>⟨_,rfl,ck (fun z=>?_) (fun z=>?_)⟩⟩⟩
   ·have z':S.eF c b=false:=by simpa using z
    exact kk _ _ ((if_neg zc).trans ((if_neg zb).trans (if_pos (by simpa using z')))) (s9.trans Ef)
   have zg: ¬ S.eF (c:Int).toNat (b:Int).toNat=false:=by simpa using z
   have MG:=Ef _ _ Cw;have Q8:=B9.same Ef;have Ai:=s9.trans Ef;refine⟨_,rfl,rfl,true,TR (show("set":Str)≠"sweep" by decide +kernel),fB ⟨_,rfl,_,rfl,pd,_,_,.int am,rfl,rfl,cf.of MG,rfl,_,_,rfl,rfl,_,rfl,ck (fun z=>?_) (fun z=>?_)⟩⟩
   ·have z':am < 1:=aN z;exact kk _ _ ((aU zc).trans ((aU zb).trans ((aU zg).trans (a8 z')))) Ai
   have z1: ¬ am < 1:=fun q=>z (aG q);refine⟨_,rfl,rfl,false,jk (show("set":Str)≠"bill" by decide +kernel),bT (bT ?_)⟩;obtain⟨p,_,ap,hp⟩:=Q8.lc hc;obtain⟨q,_,aq,hq⟩:=Q8.lb hb;refine⟨_,rfl,rfl,true,yD _,fB ?_⟩;refine⟨_,rfl,pd,_,_,.int am,rfl,rfl,cf.of MG,rfl,_,rfl,sd,_,rfl,Q8.gC,_,rfl,pd,_,_,.int (c:Int),rfl,rfl,cf.of MG,rfl,g.pc,_,_,.ref p,rfl,rfl,bA.of Q8.hc,ap,p,_,_,.int (S.cr c).d,rfl,rfl,bA.of hp,rfl,?_⟩;refine⟨_,rfl,sd,_,rfl,Q8.gB,_,rfl,pd,_,_,.int (b:Int),rfl,rfl,cf.of MG,rfl,g.pb,_,_,.ref q,rfl,rfl,bA.of Q8.hb,aq,q,_,_,.int (S.bl b).d,rfl,rfl,bA.of hq,rfl,_,_,rfl,_,_,rfl,rfl,_,rfl,ck (fun z=>?_) (fun z=>?_)⟩
   ·have z':iH (S.cr (c:Int).toNat).d (S.bl (b:Int).toNat).d < am:=aN z;exact kk _ _ ((aU zc).trans ((aU zb).trans ((aU zg).trans ((aU z1).trans (a8 z'))))) Ai
   ·have z': ¬ iH (S.cr (c:Int).toNat).d (S.bl (b:Int).toNat).d < am:=fun q=>z (aG q);exact kk _ _ ((aU zc).trans ((aU zb).trans ((aU zg).trans ((aU z1).trans (aU z'))))) Ai
def PF (H:Hp)(f f':fu):Prop:= ∀x∈f'.fp,x∈f.fp∨H x=none
def X7 (Q:VK)(H:Hp)(sd:Addr)(S:Bk)(f:fu)(d:br):Prop:=
 ∀v f' H',Frame f.fp H H'->df H' sd (S.enter d) f'->PF H f f'->Rp H' (S.L3 d).dt v->Q v H'
inductive uv (vs:List V)(H:Hp)(Q:VK)(E':XK):Prop
 |mk (sd pd:Addr)(S:Bk)(f:fu)(d:br)(h1:vs=[.ref sd,.ref pd])(h2:df H sd S f)(h3:H pd=some (.tup (br.vs d)))(h4:d.tells=true)(h5:S.credits.length < 64)(h6:S.aI.length < 64)(h7:S.made.length + 10000 < sizeLine)(h8:(S.bar d≠""-> ∀H',aD H H'->Q (.str (S.bar d)) H'))(h9:(S.bar d=""->X7 Q H sd S f d)):uv vs H Q E'
def oX:aS ["_law_state","_law_deed","_law_text","_law_who"] ["_law_state","_law_deed"] (ay (top 60)):={}
def ra (T:Txt K mg):eI P w K mg base "_law_enter" 3 ["_law_state","_law_deed"] uv:=by
 have xx:eI P w K mg base "_law_barred" 2 ["_law_state","_law_deed"] vO:=xv T;have pU:eI P w K mg base "_law_put" 1 ["_law_state","_law_credit","_law_bill","_law_amount"] Ct:=vJ T;have Aj:eI P w K mg base "_law_swept" 2 ["_law_state","_law_who"] Ag:=Ah T;refine T.zJ.eX (k:=2) oX (fun f cO A outer s H vs Q E hr h=>?_)
 ·obtain⟨sd,pd,S,g,d,rfl,hB,hd,ht,qL,ME,FD,kn,ky⟩:=h;have hu:=jG hr;have nd:=oX.nd;refine⟨_,(ah (sv 2 nd (fc xx hr (aa (pv 0) (aa (pv 1) av))))
(ah (bN (aV oQ (pv 2) aQ (aZ _))
(au (a0 (pv 2)))
bb)
(ah (bN (aV cH (xt (pv 1) ai) aQ (aZ _))
(ah (bK (oS (cA hu (pv 0) aQ (fun _ _=>rfl)) (bP (aa (xt (pv 1) ai) (aa (xt (pv 1) ai) (aa (xt (pv 1) ai) (aa (xt (pv 1) ai) (aa (xt (pv 1) ai) av))))))))
(au (a0 (aO eL (ma T.dB (cA hu (pv 0) aQ (fun _ _=>rfl))) ai))))
bb)
(ah (bN (aV cH (xt (pv 1) ai) aQ (aZ _))
(ah (bK (oS (cA hu (pv 0) aQ (fun _ _=>rfl)) (bP (aa (xt (pv 1) ai) (aa (xt (pv 1) ai) (aa (xt (pv 1) ai) (aa (oP kJ ai) (aa (xt (pv 1) ai) av))))))))
(au (a0 (aO eL (ma T.dB (cA hu (pv 0) aQ (fun _ _=>rfl))) ai))))
bb)
(ah (bN (aV cH (xt (pv 1) ai) aQ (aZ _))
(ah (sv 3 nd (xl (xl (cA hu (pv 0) aQ (fun _ _=>rfl)) (xt (pv 1) ai)) ai))
(ah (bK (oS (cA hu (pv 0) aQ (fun _ _=>rfl)) (bP (aa (pv 3) (aa (xt (pv 1) ai) (aa (xt (pv 1) ai) (aa (xt (pv 1) ai) (aa (xt (pv 1) ai) av))))))))
(au (a0 (aO eL (ma T.dB (cA hu (pv 0) aQ (fun _ _=>rfl))) ai)))))
bb)
(ah (bN (aV cH (xt (pv 1) ai) aQ (aZ _))
(ah (bK (fc pU hr (aa (pv 0) (aa (xt (pv 1) ai) (aa (xt (pv 1) ai) (aa (xt (pv 1) ai) av))))))
(au (a0 (xt (pv 1) ai))))
bb)
(au (a0 (fc Aj hr (aa (pv 0) (aa (xt (pv 1) ai) av))))))))))),?_⟩
  refine⟨_,rfl,_,rfl,sd,pd,S,g,d,rfl,hB,hd,ht,fun H1 s1=>?_⟩;by_cases oJ:S.bar d=""
  case neg=>exact⟨_,rfl,rfl,true,TR oJ,fB ⟨_,rfl,kn oJ H1 s1⟩⟩
  refine⟨_,rfl,rfl,false,(by rw[oJ]; exact btN _),bT ?_⟩;have B1:=hB.same s1;have lZ:=s1 _ _ hd;have TU: ∀v f' H',Frame g.fp H1 H'->df H' sd (S.enter d) f'->PF H1 g f'->Rp H' (S.L3 d).dt v->Q v H':=fun v f' H' fr b fi r=>ky oJ v f' H' (fr.md s1) b (fun x hx=>(fi x hx).elim .inl fun z=> .inr (s1.free z)) r;clear ky kn;have lb:=B1.rb.length;have lc:=B1.rc.length;cases d with
  |ie n=>cases ht
  |ask o w d=>cases ht
  |fN w d l=>cases ht
  |dR wh dy du am=>
   refine⟨_,rfl,pd,_,_,.str "bill",rfl,rfl,cf.of lZ,rfl,rfl,true,yD _,fB ?_⟩;refine⟨_,rfl,sd,_,rfl,B1.gB,.inl ⟨rfl,_,bA.of B1.hb⟩,_,rfl,pd,_,_,.str wh,rfl,rfl,cf.of lZ,rfl,_,rfl,pd,_,_,.int dy,rfl,rfl,cf.of lZ,rfl,_,rfl,pd,_,_,.int du,rfl,rfl,cf.of lZ,rfl,_,rfl,pd,_,_,.int am,rfl,rfl,cf.of lZ,rfl,_,rfl,pd,_,_,.int am,rfl,rfl,cf.of lZ,rfl,(by show 5<=sizeLine; decide),fun pr nr=>?_⟩;have t1:=aD.new (o:= .lst (Rw.vs ⟨wh,dy,du,am,am⟩)) nr;refine⟨g.pb,_,_,rfl,rfl,t1 _ _ B1.hb,a9 (by rw[ae]; lia),?_⟩;have B2:=B1.kj (r:=⟨wh,dy,du,am,am⟩) nr;have F2:Frame g.fp H1 (upd (upd H1 pr (.lst (Rw.vs ⟨wh,dy,du,am,am⟩))) g.pb (.lst (g.ix.map V.ref ++ [.ref pr]))):=t1.frame.tr (Frame.upd (by simp[fu.fp]));refine jw (H':=upd (upd H1 pr (.lst (Rw.vs ⟨wh,dy,du,am,am⟩))) g.pb (.lst (g.ix.map V.ref ++ [.ref pr]))) rfl ?_;generalize upd (upd H1 pr (.lst (Rw.vs ⟨wh,dy,du,am,am⟩))) g.pb (.lst (g.ix.map V.ref ++ [.ref pr]))=H2 at B2 F2;refine⟨_,rfl,sd,_,rfl,B2.gB,_,_,rfl,.inl (bA.of B2.hb),_,_,rfl,rfl,?_⟩;refine TU _ (g.kj pr) H2 F2 B2 (fun x hx=>?_) (di.mpr ?_)
   ·rcases aw.mp ((g.JM pr).mem_iff.mp hx) with rfl|hx
    ·exact .inr nr
    ·exact .inl hx
   ·show V.int _ =V.int (S.aI.length:Int)
    congr 1
    rw[ae];show((g.ix ++ [pr]).length:Int) - 1=_;rw[aC,lb];simp
  |rG wh dy am=>
   refine⟨_,rfl,pd,_,_,.str "pay",rfl,rfl,cf.of lZ,rfl,rfl,false,jk (show("pay":Str)≠"bill" by decide +kernel),bT ?_⟩;refine⟨_,rfl,pd,_,_,.str "pay",rfl,rfl,cf.of lZ,rfl,rfl,true,yD _,fB ?_⟩;refine⟨_,rfl,sd,_,rfl,B1.gC,.inl ⟨rfl,_,bA.of B1.hc⟩,_,rfl,pd,_,_,.str wh,rfl,rfl,cf.of lZ,rfl,_,rfl,pd,_,_,.int dy,rfl,rfl,cf.of lZ,rfl,_,rfl,pd,_,_,.int am,rfl,rfl,cf.of lZ,rfl,_,rfl,_,rfl,pd,_,_,.int am,rfl,rfl,cf.of lZ,rfl,(by show 5<=sizeLine; decide),fun pr nr=>?_⟩;have t1:=aD.new (o:= .lst (Rw.vs ⟨wh,dy,am,-1,am⟩)) nr;refine⟨g.pc,_,_,rfl,rfl,t1 _ _ B1.hc,a9 (by rw[ae]; lia),?_⟩;have B2:=B1.ig (r:=⟨wh,dy,am,-1,am⟩) nr;have F2:Frame g.fp H1 (upd (upd H1 pr (.lst (Rw.vs ⟨wh,dy,am,-1,am⟩))) g.pc (.lst (g.cps.map V.ref ++ [.ref pr]))):=t1.frame.tr (Frame.upd (by simp[fu.fp]));refine jw (H':=upd (upd H1 pr (.lst (Rw.vs ⟨wh,dy,am,-1,am⟩))) g.pc (.lst (g.cps.map V.ref ++ [.ref pr]))) rfl ?_;generalize upd (upd H1 pr (.lst (Rw.vs ⟨wh,dy,am,-1,am⟩))) g.pc (.lst (g.cps.map V.ref ++ [.ref pr]))=H2 at B2 F2;refine⟨_,rfl,sd,_,rfl,B2.gC,_,_,rfl,.inl (bA.of B2.hc),_,_,rfl,rfl,?_⟩;refine TU _ (g.ig pr) H2 F2 B2 (fun x hx=>?_) (di.mpr ?_)
   ·rcases aw.mp ((g.Fu pr).mem_iff.mp hx) with rfl|hx
    ·exact .inr nr
    ·exact .inl hx
   ·show V.int _ =V.int (S.credits.length:Int)
    congr 1
    rw[ae];show((g.cps ++ [pr]).length:Int) - 1=_;rw[aC,lc];simp
  |note bi dy am=>
   obtain⟨ib,ia⟩:=sk oJ;obtain⟨b,rfl⟩:=cv ib.1;have hb:b < S.aI.length:=by have:=ib.2; lia
   obtain⟨q,_,aq,hq⟩:=B1.lb hb;refine⟨_,rfl,pd,_,_,.str "note",rfl,rfl,cf.of lZ,rfl,rfl,false,jk (show("note":Str)≠"bill" by decide +kernel),bT ?_⟩;refine⟨_,rfl,pd,_,_,.str "note",rfl,rfl,cf.of lZ,rfl,rfl,false,jk (show("note":Str)≠"pay" by decide +kernel),bT ?_⟩;refine⟨_,rfl,pd,_,_,.str "note",rfl,rfl,cf.of lZ,rfl,rfl,true,yD _,fB ?_⟩;refine⟨_,rfl,sd,_,rfl,B1.gB,_,rfl,pd,_,_,.int (b:Int),rfl,rfl,cf.of lZ,rfl,g.pb,_,_,.ref q,rfl,rfl,bA.of B1.hb,aq,q,_,_,.str (S.bl b).aH,rfl,rfl,bA.of hq,rfl,?_⟩;refine⟨_,rfl,sd,_,rfl,B1.gC,.inl ⟨rfl,_,bA.of B1.hc⟩,_,rfl,_,rfl,pd,_,_,.int dy,rfl,rfl,cf.of lZ,rfl,_,rfl,pd,_,_,.int am,rfl,rfl,cf.of lZ,rfl,_,rfl,pd,_,_,.int (b:Int),rfl,rfl,cf.of lZ,rfl,_,rfl,pd,_,_,.int am,rfl,rfl,cf.of lZ,rfl,(by show 5<=sizeLine; decide),fun pr nr=>?_⟩;have t1:=aD.new (o:= .lst (Rw.vs ⟨(S.bl b).aH,dy,am,b,am⟩)) nr;refine⟨g.pc,_,_,rfl,rfl,t1 _ _ B1.hc,a9 (by rw[ae]; lia),?_⟩;have B2:=B1.ig (r:=⟨(S.bl b).aH,dy,am,b,am⟩) nr;have F2:Frame g.fp H1 (upd (upd H1 pr (.lst (Rw.vs ⟨(S.bl b).aH,dy,am,b,am⟩))) g.pc (.lst (g.cps.map V.ref ++ [.ref pr]))):=t1.frame.tr (Frame.upd (by simp[fu.fp]));refine jw (H':=upd (upd H1 pr (.lst (Rw.vs ⟨(S.bl b).aH,dy,am,b,am⟩))) g.pc (.lst (g.cps.map V.ref ++ [.ref pr]))) rfl ?_;generalize upd (upd H1 pr (.lst (Rw.vs ⟨(S.bl b).aH,dy,am,b,am⟩))) g.pc (.lst (g.cps.map V.ref ++ [.ref pr]))=H2 at B2 F2;refine⟨_,rfl,sd,_,rfl,B2.gC,_,_,rfl,.inl (bA.of B2.hc),_,_,rfl,rfl,?_⟩;refine TU _ (g.ig pr) H2 F2 B2 (fun x hx=>?_) (di.mpr ?_)
   ·rcases aw.mp ((g.Fu pr).mem_iff.mp hx) with rfl|hx
    ·exact .inr nr
    ·exact .inl hx
   ·show V.int _ =V.int (S.credits.length:Int)
    congr 1
    rw[ae];show((g.cps ++ [pr]).length:Int) - 1=_;rw[aC,lc];simp
  |set ci bi am=>
   obtain⟨ic,ib,_,_,_,_⟩:=qH oJ;obtain⟨c,rfl⟩:=cv ic.1;obtain⟨b,rfl⟩:=cv ib.1;have hc:c < S.credits.length:=by have:=ic.2; lia
   have hb:b < S.aI.length:=by have:=ib.2; lia
   refine⟨_,rfl,pd,_,_,.str "set",rfl,rfl,cf.of lZ,rfl,rfl,false,jk (show("set":Str)≠"bill" by decide +kernel),bT ?_⟩;refine⟨_,rfl,pd,_,_,.str "set",rfl,rfl,cf.of lZ,rfl,rfl,false,jk (show("set":Str)≠"pay" by decide +kernel),bT ?_⟩;refine⟨_,rfl,pd,_,_,.str "set",rfl,rfl,cf.of lZ,rfl,rfl,false,jk (show("set":Str)≠"note" by decide +kernel),bT ?_⟩;refine⟨_,rfl,pd,_,_,.str "set",rfl,rfl,cf.of lZ,rfl,rfl,true,yD _,fB ?_⟩;refine⟨_,rfl,_,rfl,pd,_,_,.int (c:Int),rfl,rfl,cf.of lZ,rfl,_,rfl,pd,_,_,.int (b:Int),rfl,rfl,cf.of lZ,rfl,_,rfl,pd,_,_,.int am,rfl,rfl,cf.of lZ,rfl,sd,S,g,c,b,am,rfl,B1,hc,hb,by lia,fun H2 F2 B2=>?_⟩;have hd2:=B1.tk F2 _ _ lZ;refine⟨_,rfl,pd,_,_,.int am,rfl,rfl,cf.of hd2,rfl,?_⟩;exact TU _ g H2 F2 B2 (fun x hx=> .inl hx) (di.mpr rfl)
  |fT wh=>
   refine⟨_,rfl,pd,_,_,.str "sweep",rfl,rfl,cf.of lZ,rfl,rfl,false,jk (show("sweep":Str)≠"bill" by decide +kernel),bT ?_⟩;refine⟨_,rfl,pd,_,_,.str "sweep",rfl,rfl,cf.of lZ,rfl,rfl,false,jk (show("sweep":Str)≠"pay" by decide +kernel),bT ?_⟩;refine⟨_,rfl,pd,_,_,.str "sweep",rfl,rfl,cf.of lZ,rfl,rfl,false,jk (show("sweep":Str)≠"note" by decide +kernel),bT ?_⟩;refine⟨_,rfl,pd,_,_,.str "sweep",rfl,rfl,cf.of lZ,rfl,rfl,false,jk (show("sweep":Str)≠"set" by decide +kernel),bT ?_⟩;refine⟨_,rfl,_,rfl,pd,_,_,.str wh,rfl,rfl,cf.of lZ,rfl,sd,S,g,wh,rfl,B1,qL,ME,FD,fun D ms H2 F2 B2 nD hD hT=>?_⟩;exact TU _ g H2 F2 B2 (fun x hx=> .inl hx) (jJ.mpr ⟨D,ms,rfl,hD,hT.Q4⟩)
def br.word:br->Str
 | .dR _ _ _ _=>"bill"
 | .rG _ _ _=>"pay"
 | .note _ _ _=>"note"
 | .set _ _ _=>"set"
 | .fT _=>"sweep"
 | .ie _=>"undo"
 | .ask o _ _=>if o then "owed" else "free"
 | .fN _ _ _=>"ages"
def uw {d:br}(h:d.tells=true∨ ∃m,d= .ie m): ∃r,br.vs d= .str (br.word d) :: r:=by
 cases d with
 |fN w d l=>rcases h with h|⟨m,h⟩ <;> cases h
 |_=>exact⟨_,rfl⟩
def FF {d:br}(h:d.tells=true):wN (.str (br.word d)) [.str "set",.str "sweep"]=d.isSet:=by
 cases d with
 |dR _ _ _ _=>show wN (.str "bill") _ =false; decide +kernel
 |rG _ _ _=>show wN (.str "pay") _ =false; decide +kernel
 |note _ _ _=>show wN (.str "note") _ =false; decide +kernel
 |set _ _ _=>show wN (.str "set") _ =true; decide +kernel
 |fT _=>show wN (.str "sweep") _ =true; decide +kernel
 |ie _=>cases h
 |ask _ _ _=>cases h
 |fN _ _ _=>cases h
def gG (H:Hp)(ss:List (Int×br))(vs:List V):Prop:=Paired (fun(st:Int×br) v=> ∃p pd,v= .ref p/\H p=some (.tup [.int st.1,.ref pd])/\H pd=some (.tup (br.vs st.2))/\st.2.tells=true) ss vs
def gG.mono {H H':Hp}{ss:List (Int×br)}{vs:List V}(h:gG H ss vs)(k:cF H H'):gG H' ss vs:=
 Paired.gI h fun _ _ ⟨p,pd,e,q1,q2,t⟩=>⟨p,pd,e,k _ _ q1,k _ _ q2,t⟩
inductive vP (vs:List V)(H:Hp)(Q:VK)(E':XK):Prop
 |mk (ps:Addr)(ss:List (Int×br))(us:List V)(h1:vs=[.ref ps])(h2:H ps=some (.lst us))(h3:gG H ss us)(h4:ss.length<=59)(h5:(cW ss Bk.new=none-> ∀H',aD H H'->Q .eh H'))(h6:(∀S,cW ss Bk.new=some S-> ∀sd f H',aD H H'->df H' sd S f->(∀b∈f.fp,H b=none)->Q (.ref sd) H')):vP vs H Q E'
def nL:aS ["_law_steps","_law_state","_law_number","_law_deed"] ["_law_steps"] (ay (top 61)):={}
def xy (T:Txt K mg):eI P w K mg base "_law_worked" 4 ["_law_steps"] vP:=by
 have mf:eI P w K mg base "_law_begun" 1 [] Fx:=qY T;have mh:eI P w K mg base "_law_enter" 3 ["_law_state","_law_deed"] uv:=ra T;refine T.xj.eX (k:=3) nL (fun f cO A outer s H vs Q E hr h=>?_)
 ·obtain⟨ps,ss,us,rfl,lp,MH,hl,kn,ky⟩:=h;have nd:=nL.nd;have hlen:=aL MH;refine⟨_,(ah (sv 1 nd (Ji mf (hr.mono (by decide)) rfl))
(ah (dW bw rfl (rH (pv 0)) (gT (bX (gn 2 nd) (bX (gn 3 nd) gv)))
(au (bN (f9 (vv T.dg T.Fs boot_str (fc mh hr (aa (pv 1) (aa (pv 3) av)))))
(au (a0 Dq))
bb)))
(au (a0 (pv 1))))),?_⟩
  refine⟨rfl,fun sd f0 H1 s1 B1 Mn nf=>?_⟩;refine⟨_,rfl,ps,rfl,⟨_,bA.of (s1 _ _ lp)⟩,?_⟩;refine fC (K:=K) (a:=ps) (xs:=us) (fun i σ H2=> ∃(S:Bk) (f:fu) (x2 x3:Option V),σ=[some (.ref ps),some (.ref sd),x2,x3]/\aD H H2/\df H2 sd S f/\(∀b∈f.fp,H b=none)/\WF S i/\cW ss Bk.new=cW (ss.drop i) S)
   ⟨Bk.new,f0,none,none,rfl,s1,B1,nf,WF.new,rfl⟩ (fun i σ H2 _ ⟨_,_,_,_,_,s2,_⟩=>bA.of (s2 _ _ lp)) ?_ ?_
  ·rintro i x σ H2 hx ⟨S,f2,x2,x3,rfl,s2,B2,VM,wf,hw⟩;have hi:i < ss.length:=by have:=(ak.mp hx).1; lia
   obtain⟨v,hv,p,pd,rfl,hp,Ir,ht⟩:=bI MH (af hi);rw[hx] at hv;obtain rfl:x= .ref p:=aF hv;have hdr:=N6 hi;rw[hdr] at hw;generalize ss[i]=st at hp Ir ht hw;obtain⟨n,d⟩:=st;have tQ:=s2 _ _ hp;have PH:=s2 _ _ Ir;refine⟨p,_,rfl,cf.of tQ,rfl,_,_,rfl,_,_,rfl,rfl,?_⟩;refine⟨_,rfl,_,rfl,sd,pd,S,f2,d,rfl,B2,PH,ht,by have:=wf.lc; lia,by have:=wf.lb; lia,by have:=wf.lm; rw[eD]; lia,fun hb H3 s3=>?_,fun hb v f3 H3 F3 B3 fi r=>?_⟩
   ·refine⟨_,_,_,true,rfl,.str _,yl (.str (S.bar d)),_,rfl,fB ?_⟩;refine kn ?_ _ (s2.trans s3);rw[hw];show(if S.bar d="" then _ else none)=none;rw[aU hb]
   ·have hS:Vr (S.L3 d).dt=false:=by cases d <;> first|rfl|cases ht
    refine⟨_,_,_,false,rfl,r.ty,(yl _).trans (cJ some hS),_,rfl,bT ?_⟩;refine⟨S.enter d,f3,_,_,rfl,F3.same s2 VM,B3,fun b E4=>?_,wf.enter (by lia) hb,?_⟩
    ·rcases fi b E4 with z|z
     ·exact VM b z
     ·exact s2.free z
    ·rw[hw];show(if S.bar d="" then _ else none)=_;rw[a8 hb]
  ·rintro σ H2 ⟨S,f2,x2,x3,rfl,s2,B2,VM,wf,hw⟩;rw[← hlen,List.drop_length] at hw;exact⟨_,rfl,ky S hw sd f2 H2 s2 B2 VM⟩
inductive FG (vs:List V)(H:Hp)(Q:VK)(E':XK):Prop
 |mk (pd:Addr)(wd:Str)(r:List V)(h1:vs=[.ref pd])(h2:H pd=some (.tup (.str wd :: r)))(h3: ∀H',aD H H'->Q (.bl (wN (.str wd) [.str "bill",.str "pay",.str "note",.str "set",.str "sweep"])) H'):FG vs H Q E'
def xA:aS ["_law_deed"] ["_law_deed"] (ay (top 62)):={}
def Ak (T:Txt K mg):eI P w K mg base "_law_tells" 1 ["_law_deed"] FG:=by
 refine T.zK.eX (k:=0) xA (fun f cO A outer s H vs Q E hr h=>?_)
 ·obtain⟨pd,wd,r,rfl,hd,k⟩:=h;refine⟨_,(au (a0 (ff oa (xt (pv 0) ai) (bP (aa aQ (aa aQ (aa aQ (aa aQ (aa aQ av)))))) (by rfl)))),?_⟩;refine⟨_,rfl,pd,_,_,.str wd,rfl,rfl,cf.of hd,cw (j:=0) rfl,(by show 5<=sizeLine; decide),fun p9 n9=>⟨p9,_,rfl,.inl (bA.of ag),rfl,rfl,?_⟩⟩;exact k _ (aD.new n9)
def NI (Q:VK)(H:Hp)(ps:Addr)(f:fu)(r:Dc×gS):Prop:=
 ∀(t:Addr) (v:V) (vQ Dg:Addr) (f':fu) (Al:List V) (H':Hp),H' t=some (.tup [v,.ref vQ,.ref Dg])->Rp H' r.1.dt v->H' vQ=some (.lst Al)->gG H' r.2.steps Al->df H' Dg r.2.bk f'->Frame f.fp H H'->PF H f f'->vQ∉f'.fp->(∀a o,a∉f.fp->H a=some o->vQ=a->vQ=ps)->Q (.ref t) H'
inductive Kb (vs:List V)(H:Hp)(Q:VK)(E':XK):Prop
 |mk (ps sd pd:Addr)(n:Nat)(T:gS)(us:List V)(f:fu)(d:br)(h1:vs=[.ref ps,.ref sd,.int n,.ref pd])(h2:H ps=some (.lst us))(h3:gG H T.steps us)(h4:df H sd T.bk f)(h5:ps∉f.fp)(h6:H pd=some (.tup (br.vs d)))(h7:(d.tells=true∨ ∃m,d= .ie m))(h8:Good T n)(h9:n<=59)(K6:NI Q H ps f (cE T n d)):Kb vs H Q E'
def vR {T:gS}{n:Int}{d:br}(h:d.tells=true):cE T n d=if T.bk.bar d="" then(T.bk.L3 d,(⟨T.steps ++ [(n,d)],T.bk.enter d⟩:gS)) else(.txt (T.bk.bar d),T):=by
 cases d <;> first|rfl|cases h
def rg:aS ["_law_steps","_law_state","_law_number","_law_deed","_law_rest","_law_step","_law_later","_law_answer"] ["_law_steps","_law_state","_law_number","_law_deed"] (ay (top 63)):={}
def fk {α:Type}(p:α->Bool){l:List α}{i:Nat}{x:α}(h:l[i]? =some x):(l.take (i + 1)).filter p=(l.take i).filter p ++ (if p x=true then[x] else[]):=by
 rw[Gd,h,kg]
 congr 1
 show[x].filter p=_;by_cases c:p x=true
 ·rw[a8 c,cu c]; rfl
 ·rw[aU c,gN c]; rfl
def Cy (T:Txt K mg):eI P w K mg base "_law_done" 5 ["_law_steps","_law_state","_law_number","_law_deed"] Kb:=by
 have xB:eI P w K mg base "_law_worked" 4 ["_law_steps"] vP:=xy T;have mh:eI P w K mg base "_law_enter" 3 ["_law_state","_law_deed"] uv:=ra T;refine T.BR.eX (k:=4) rg (fun f cO A outer s H vs Q E hr h=>?_)
 ·obtain⟨ps,sd,pd,n,T0,us,g,d,rfl,lp,MH,hB,FH,hd,hk,good,hn,k⟩:=h;have nd:=rg.nd;have hlen:=aL MH;have hT:=good.len;obtain⟨rr,hvs⟩:=uw hk;have Q9:H pd=some (.tup (.str (br.word d) :: rr)):=hvs▸hd;refine⟨_,(ah (bN (aV cH (xt (pv 3) ai) aQ (aZ _))
(ah (sv 4 nd (bP av))
(ah (dW bw rfl (rH (pv 0)) (gn 5 nd)
(au (bN (PW.pt (pw_or (aV oQ (xt (pv 5) ai) (xt (pv 3) ai) (aZ _)) (pw_or1 (aV ze (xt (xt (pv 5) ai) ai) (bP (aa aQ (aa aQ av))) (by rfl)))))
(au (bK (oS (pv 4) (pv 5))))
bb)))
(ah (bN (aV cH (ma T.dB (pv 4)) (ma T.dB (pv 0)) (aZ _))
(au (a0 (cD (aa aQ (aa (pv 0) (aa (pv 1) av))))))
bb)
(ah (sv 6 nd (fc xB hr (aa (pv 4) av)))
(ah (bN (yY (IC (pv 6)))
(au (a0 (cD (aa aQ (aa (pv 0) (aa (pv 1) av))))))
bb)
(au (a0 (cD (aa aQ (aa (pv 4) (aa (pv 6) av)))))))))))
bb)
(ah (sv 7 nd (fc mh hr (aa (pv 1) (aa (pv 3) av))))
(ah (bN (f9 (vv T.dg T.Fs boot_str (pv 7)))
(au (a0 (cD (aa (pv 7) (aa (pv 0) (aa (pv 1) av))))))
bb)
(au (a0 (cD (aa (pv 7) (aa (aO mS (pv 0) (bP (aa (cD (aa (pv 2) (aa (pv 3) av))) av))) (aa (pv 1) av))))))))),?_⟩
  refine⟨_,rfl,pd,_,_,.str (br.word d),rfl,rfl,cf.of Q9,cw (j:=0) rfl,rfl,?_⟩;clear Q9 hvs rr;by_cases ht:d.tells=true
  ·
   have hw:br.word d≠"undo":=by
    cases d with
    |ie m=>cases ht
    |ask _ _ _=>cases ht
    |fN _ _ _=>cases ht
    |dR _ _ _ _=>show("bill":Str)≠"undo"; decide +kernel
    |rG _ _ _=>show("pay":Str)≠"undo"; decide +kernel
    |note _ _ _=>show("note":Str)≠"undo"; decide +kernel
    |set _ _ _=>show("set":Str)≠"undo"; decide +kernel
    |fT _=>show("sweep":Str)≠"undo"; decide +kernel
   refine⟨false,jk hw,bT ?_⟩;have wf:=good.wf (by lia);rw[vR ht] at k;refine⟨_,rfl,_,rfl,sd,pd,T0.bk,g,d,rfl,hB,hd,ht,by have:=wf.lc; lia,by have:=wf.lb; lia,by have:=wf.lm; rw[eD]; lia,fun hb H3 s3=>?_,fun hb v f3 H3 F3 B3 fi r=>?_⟩
   ·rw[aU hb] at k;refine⟨_,rfl,_,_,_,true,rfl,.str _,yl (.str (T0.bk.bar d)),_,rfl,fB ?_⟩;refine⟨_,rfl,_,rfl,_,rfl,(by show 3<=sizeLine; decide),fun t nt=>?_⟩;have s4:=s3.trans (aD.new (o:= .tup [V.str (T0.bk.bar d),.ref ps,.ref sd]) nt);exact k t _ ps sd g us _ ag (fG.mpr rfl) (s4 _ _ lp) (MH.mono s4.tk) (hB.same s4) s4.frame (fun x hx=> .inl hx) FH (fun _ _ _ _ _=>rfl)
   ·rw[a8 hb] at k;have hS:Vr (T0.bk.L3 d).dt=false:=by cases d <;> first|rfl|cases ht
    refine⟨_,rfl,_,_,_,false,rfl,r.ty,(yl _).trans (cJ some hS),_,rfl,bT ?_⟩;have tk3:=hB.tk F3;have HA:=F3 _ _ FH lp;have X8:=MH.mono tk3;have NJ:=tk3 _ _ hd;refine⟨_,rfl,_,rfl,_,rfl,_,rfl,(by show 2<=sizeLine; decide),fun p1 n1=>⟨(by show 1<=sizeLine; decide),fun p2 n2=>?_⟩⟩;have t1:=aD.new (o:= .tup [V.int (n:Int),.ref pd]) n1;have t2:=aD.new (o:= .lst [V.ref p1]) n2;have g1:upd (upd H3 p1 (.tup [V.int (n:Int),.ref pd])) p2 (.lst [V.ref p1]) p1=some (.tup [V.int (n:Int),.ref pd]):=t2 _ _ ag;have g2:upd (upd H3 p1 (.tup [V.int (n:Int),.ref pd])) p2 (.lst [V.ref p1]) p2=some (.lst [V.ref p1]):=ag;have tE:=t1.trans t2;refine⟨ps,p2,_,_,rfl,rfl,tE _ _ HA,g2,?_,fun p4 n4=>?_⟩
    ·refine dr (a9 ?_);show us.length + 1<=1000;lia
    generalize upd (upd H3 p1 (.tup [V.int (n:Int),.ref pd])) p2 (.lst [V.ref p1])=H4 at tE g1 g2 n4;have t4:=aD.new (o:= .lst (us ++ [V.ref p1])) n4;refine⟨_,rfl,(by show 3<=sizeLine; decide),fun t nt=>?_⟩;have t5:=aD.new (o:= .tup [v,V.ref p4,.ref sd]) nt;have TV:=(tE.trans t4).trans t5;have B5:=B3.same TV;refine k t v p4 sd f3 (us ++ [.ref p1]) _ ag (Rp.mono TV _ r) (t5 _ _ ag) ?_ B5 (F3.cU TV) fi (B3.off ?_) (fun a o ha e q=>absurd q.symm (aJ (tE _ _ (F3 _ _ ha e)) n4))
    ·exact cy (X8.mono TV.tk) ⟨p1,pd,rfl,(t4.trans t5) _ _ g1,TV _ _ NJ,ht⟩
    ·exact tE.free n4
  ·
   obtain⟨m,rfl⟩: ∃m,d= .ie m:=hk.resolve_left ht;refine⟨true,yD _,fB ?_⟩;refine⟨bh _,fun pr nr=>?_⟩;have s1:aD H (upd H pr (.lst [])):=aD.new nr;refine⟨_,rfl,ps,rfl,⟨_,bA.of (s1 _ _ lp)⟩,?_⟩;refine fC (K:=K) (a:=ps) (xs:=us) (fun i σ H2=> ∃(rs:List V) (x5:Option V),σ=[some (.ref ps),some (.ref sd),some (.int (n:Int)),some (.ref pd),some (.ref pr),x5,none,none]/\aD H H2/\H2 pr=some (.lst rs)/\gG H2 ((T0.steps.take i).filter (cS m)) rs)
    ⟨[],none,rfl,s1,ag,.nil⟩ (fun i σ H2 _ ⟨_,_,_,s2,_⟩=>bA.of (s2 _ _ lp)) ?_ ?_
   ·rintro i x σ H2 hx ⟨rs,x5,rfl,s2,Le,Lf⟩;have hi:i < T0.steps.length:=by have:=(ak.mp hx).1; lia
    have oK:=af hi;obtain⟨v,hv,p,pe,rfl,hp,hpe,VN⟩:=bI MH oK;rw[hx] at hv;obtain rfl:x= .ref p:=aF hv;have kX:=fk (cS m) oK;generalize T0.steps[i]=st at hp hpe VN kX;obtain⟨n0,e⟩:=st;have tQ:=s2 _ _ hp;have PJ:=s2 _ _ hpe;have hd2:=s2 _ _ hd;have BC:rs.length<=100:=by
     have:=aL Lf;have:=aX (cS m) (T0.steps.take i);rw[bf] at this;lia
    have yes:cS m (n0,e)=true-> ∀H3,aD H2 H3->(WR (V.ref pr) [V.ref p] H3 fun l xs y=> ∃(rs:List V) (x5:Option V),[some (V.ref ps),some (.ref sd),some (.int (n:Int)),some (.ref pd),some (.ref pr),some (.ref p),none,none]=[some (.ref ps),some (.ref sd),some (.int (n:Int)),some (.ref pd),some (.ref pr),x5,none,none]/\aD H (upd H3 l (.lst (xs ++ [y])))/\upd H3 l (.lst (xs ++ [y])) pr=some (.lst rs)/\gG (upd H3 l (.lst (xs ++ [y]))) ((T0.steps.take (i + 1)).filter (cS m)) rs):=fun z H3 s3=>by
     refine⟨pr,rs,_,rfl,rfl,s3 _ _ Le,a9 (by lia),rs ++ [.ref p],_,rfl,(s2.trans s3).cG nr,ag,?_⟩;rw[kX,a8 z];have tk:=s3.tk.trans (dN (o:= .lst (rs ++ [.ref p])) (s3 _ _ Le));exact cy (Lf.mono tk) ⟨p,pe,rfl,tk _ _ tQ,tk _ _ PJ,VN⟩
    refine⟨_,rfl,p,_,_,.int n0,rfl,rfl,cf.of tQ,rfl,_,rfl,pd,_,_,.int m,rfl,rfl,cf.of hd2,rfl,rfl,_,rfl,ck (fun z=>fB ?_) (fun z=>?_)⟩
    ·have z':n0≠m:=fun q=>by rw[q] at z; simp at z
     refine⟨_,rfl,.inl ⟨rfl,_,bA.of Le⟩,_,rfl,yes ?_ H2 (aD.refl _)⟩;show(!(decide (n0=m) && e.isSet))=true;rw[bp z']; rfl
    ·have z':n0=m:=by
      by_cases q:n0=m
      ·exact q
      ·exact absurd (by rw[bp (fun w=>q (by injection w))]; rfl) z
     obtain⟨re,hev⟩:=uw (d:=e) (.inl VN);rw[hev] at PJ;refine⟨_,rfl,p,_,_,.ref pe,rfl,rfl,cf.of tQ,rfl,pe,_,_,.str (br.word e),rfl,rfl,cf.of PJ,cw (j:=0) rfl,(by show 2<=sizeLine; decide),fun p9 n9=>⟨p9,_,rfl,.inl (bA.of ag),rfl,rfl,!e.isSet,cJ V.bl (by rw[a8 rfl,FF VN]),ck (fun q=>?_) (fun q=>?_)⟩⟩
     ·have t9:=aD.new (o:= .lst [V.str "set",.str "sweep"]) n9;refine⟨_,rfl,.inl ⟨rfl,_,bA.of (t9 _ _ Le)⟩,_,rfl,yes ?_ _ t9⟩;show(!(decide (n0=m) && e.isSet))=true;rw[aG z',Bool.true_and]; exact q
     ·have t9:=aD.new (o:= .lst [V.str "set",.str "sweep"]) n9;refine⟨rs,_,rfl,s2.trans t9,t9 _ _ Le,?_⟩;have no: ¬ cS m (n0,e)=true:=by
       show ¬ (!(decide (n0=m) && e.isSet))=true;rw[aG z',Bool.true_and]; exact q
      rw[kX,aU no,bR];exact Lf.mono t9.tk
   ·rintro σ H2 ⟨rs,x5,rfl,s2,Le,Lf⟩;rw[← hlen,a7] at Lf;have BC:=aL Lf;have VO:=aX (cS m) T0.steps;have oY:cE T0 n (.ie m)=if(T0.steps.filter (cS m)).length=T0.steps.length then(.txt "no setting",T0) else
      match cW (T0.steps.filter (cS m)) Bk.new with
      |none=>(.txt "needed",T0)
      |some S=>(.txt "undone",⟨T0.steps.filter (cS m),S⟩):=rfl
    have Lg:=hB.same s2;refine⟨_,rfl,pr,_,rfl,.inl (bA.of Le),_,rfl,ps,_,rfl,.inl (bA.of (s2 _ _ lp)),rfl,_,rfl,ck (fun z=>?_) (fun z=>?_)⟩
    ·have z':(T0.steps.filter (cS m)).length=T0.steps.length:=by
      have:=aN z;injection this with this;lia
     rw[oY,a8 z'] at k;refine⟨_,rfl,_,rfl,(by show 3<=sizeLine; decide),fun t nt=>?_⟩;have s4:=s2.trans (aD.new (o:= .tup [V.str "no setting",.ref ps,.ref sd]) nt);exact k t _ ps sd g us _ ag (fG.mpr rfl) (s4 _ _ lp) (MH.mono s4.tk) (hB.same s4) s4.frame (fun x hx=> .inl hx) FH (fun _ _ _ _ _=>rfl)
    have z': ¬ (T0.steps.filter (cS m)).length=T0.steps.length:=fun q=>z (aG (by congr 1; lia));rw[oY,aU z'] at k;refine⟨_,rfl,pr,T0.steps.filter (cS m),rs,rfl,Le,Lf,by lia,fun hw H3 s3=>?_,fun S hw sd3 f3 H3 s3 B3 nf=>?_⟩
    ·rw[hw] at k;refine⟨_,rfl,true,rfl,fB ⟨_,rfl,_,rfl,(by show 3<=sizeLine; decide),fun t nt=>?_⟩⟩;have s4:=(s2.trans s3).trans (aD.new (o:= .tup [V.str "needed",.ref ps,.ref sd]) nt);exact k t _ ps sd g us _ ag (fG.mpr rfl) (s4 _ _ lp) (MH.mono s4.tk) (hB.same s4) s4.frame (fun x hx=> .inl hx) FH (fun _ _ _ _ _=>rfl)
    ·rw[hw] at k;refine⟨_,rfl,false,rfl,bT ⟨_,rfl,_,rfl,(by show 3<=sizeLine; decide),fun t nt=>?_⟩⟩;have t4:=aD.new (o:= .tup [V.str "undone",.ref pr,.ref sd3]) nt;have s4:=(s2.trans s3).trans t4;refine k t _ pr sd3 f3 rs _ ag (fG.mpr rfl) ((s3.trans t4) _ _ Le) (Lf.mono (s3.trans t4).tk) (B3.same t4) s4.frame (fun x hx=> .inr (s2.free (nf x hx))) (fun q=>?_) (fun a o ha e q=>absurd q.symm (aJ e nr));have:=nf pr q;rw[Le] at this;cases this
end
end eB
namespace L2
open PySem PySem.Spec PyProof.Rows
def Am {X:Cx}{scope:Scope}{x y:Str}{c d:Addr}{j k:Nat}(GI:closureFor scope X.env=pure [(x,c),(y,d)]:=by rfl)(mv: ∀z∈scope.names,z.2≠ .cell:=by decide +kernel)(mP:scope.kind= .function:=by rfl)(uX: ∀x∈scope.names,x.2= .local->scope.names.lookup x.1=some .local:=by decide +kernel)
  (hx:X.env.cells.lookup x=some c:=by rfl) (hy:X.env.cells.lookup y=some d:=by rfl) (yk:List (Str×NameKind)) (Su:(relabel scope X.env).names=yk:=by rfl) (BC: ∀z∈yk,(z.2= .cell∨z.2= .free)->z.1=x∨z.1=y:=by decide +kernel)
  (hN:X.N[j]? =some x:=by rfl) (hN2:X.N[k]? =some y:=by rfl) (hk:X.env.kindOf x=some .cell∨X.env.kindOf x=some .free:=by exact Or.inl rfl) (K4:X.env.kindOf y=some .cell∨X.env.kindOf y=some .free:=by exact Or.inl rfl)
  (Np:(relabel scope X.env).names.lookup x=some .cell∨(relabel scope X.env).names.lookup x=some .free:=by exact Or.inl rfl) (X9:(relabel scope X.env).names.lookup y=some .cell∨(relabel scope X.env).names.lookup y=some .free:=by exact Or.inl rfl):se X scope [(x,c),(y,d)] [x,y] [j,k]:=by
 refine⟨GI,mv,mP,uX,fun z c' h=>?_,fun z h=>?_,.cons ⟨hN,hk,Np⟩ (.cons ⟨hN2,K4,X9⟩ .nil)⟩
 ·rcases aw.mp (b0 h) with e|e
  ·cases e; exact hx
  ·rcases aw.mp e with e|e
   ·cases e; exact hy
   ·cases e
 ·have e:z=x∨z=y:=by
   rcases h with h|h
   ·rw[Su] at h;exact BC _ (b0 h) (.inl rfl)
   ·rw[Su] at h;exact BC _ (b0 h) (.inr rfl)
  by_cases q:z=x
  ·exact⟨c,by rw[q]; simp[List.lookup]⟩
  ·have q2:z=y:=e.resolve_left q;have q3:(z == x)=false:=by simpa using q
   exact⟨d,by rw[List.lookup,q3,q2]; simp[List.lookup]⟩
end L2
namespace eB
open PySem L2 PyProof.Rows K7
seal L2.oO L2.PS L2.PE L2.PT L2.PW L2.PA L2.PC L2.PG L2.ID L2.PI L2.LO L2.K3 L2.PO L2.oA L2.Nk L2.gZ L2.IX L2.Nm
section
variable {P:Program}{w:World}{K:Frag}{mg:Str->Option Value}{base:Heap}
inductive pV (A:dU)(vs:List V)(H:Hp)(Q:VK)(E':XK):Prop
 |mk (pw p:Addr)(S:Bk)(f:eJ)(t:Nat×Nat×Int)(day:Int)(h1:vs=[.ref pw,.ref p,.int day])(h2:dC A H pw S f)(h3:H p=some (.tup [.int t.1,.int t.2.1,.int t.2.2]))(h4:t.1 < S.credits.length)(h5:t.2.1 < S.aI.length)(h6:Q (.bl (decide (S.fO t<=day))) H):pV A vs H Q E'
def An:aS ["work","setting","day"] ["work","setting","day"] (ay (top 40)):={}
def Cz (T:Txt K mg){A:dU}(G:jv K mg A):eI P w K mg base "counts_at" 2 ["work","setting","day"] (pV A):=by
 have xC:eI P w K mg base "counts_from" 1 ["credit","bill"] (Eb A):=xn T G;refine T.BN.eX (k:=1) An (fun f cO A' outer s H vs Q E hr h=>?_)
 ·obtain⟨pw,p,S,g,t,day,rfl,hW,hp,hc,hb,k⟩:=h;obtain⟨dw,hw⟩:=hW.obj;obtain⟨pc,c1,c2⟩:=hW.rc.get hc;obtain⟨pb,b1,b2⟩:=hW.rb.get hb;refine⟨_,(au (a0 (ff sO (fc xC hr (aa (xl (km (pv 0)) (xt (pv 1) ai)) (aa (xl (km (pv 0)) (xt (pv 1) ai)) av))) (pv 2) (aZ _)))),?_⟩;refine⟨_,rfl,pw,_,dw,_,_,rfl,hw,G.bH,G.cB,gX g,_,rfl,p,_,_,.int t.1,rfl,rfl,cf.of hp,rfl,g.pc,_,_,.ref pc,rfl,rfl,bA.of hW.hc,cw (by rw[aB,c1]; rfl),?_⟩;refine⟨_,rfl,pw,_,dw,_,_,rfl,hw,G.bH,G.dS,jc g,_,rfl,p,_,_,.int t.2.1,rfl,rfl,cf.of hp,rfl,g.pb,_,_,.ref pb,rfl,rfl,bA.of hW.hb,cw (by rw[aB,b1]; rfl),?_⟩;exact⟨pc,pb,t.1,t.2.1,S.cr t.1,S.bl t.2.1,rfl,c2,b2,_,rfl,_,_,rfl,rfl,k⟩
inductive pW (A:dU)(vs:List V)(H:Hp)(Q:VK)(E':XK):Prop
 |mk (pw:Addr)(S:Bk)(f:eJ)(n:Nat)(day:Int)(h1:vs=[.ref pw,.int day])(h2:dC A H pw S f)(h3:WF S n)(h4:S.made.length<=1000000)(h5: ∀D ms H',aD H H'->H D=none->H' D=some (.lst ms)->hJ H' (S.made.filter fun t=>decide (S.fO t<=day)) ms->Q (.ref D) H'):pW A vs H Q E'
def vS:aS ["work","day"] ["work","day"] (ay (top 39)):={}
def xD (T:Txt K mg){A:dU}(G:jv K mg A):eI P w K mg base "counting_at" 3 ["work","day"] (pW A):=by
 have CA:eI P w K mg base "counts_at" 2 ["work","setting","day"] (pV A):=Cz T G;refine T.w9.eX (k:=2) vS (fun f cO A' outer s H vs Q E hr h=>?_)
 ·obtain⟨pw,S,g,n,day,rfl,hW,wf,hz,k⟩:=h;obtain⟨dw,hw⟩:=hW.obj;obtain⟨ms,m1,m2⟩:=hW.hm;have hlen:=aL m2;refine⟨_,(au (a0 (gg (tn:=["setting"]) (cn:=["work","day"]) (cj:=[0,1]) rfl (Am (yk:=[(".0",.local),("setting",.local),("counts_at",.globalImplicit),("day",.cell),("work",.cell)])) (rH (km (pv 0))) (fun _ _ _ _=>(dQ (i:=0) (show(["setting","work","day"]:List Str).Nodup by decide +kernel) rfl (Or.inl rfl))) (fun _ _ _ _=>(mV (f9 (fc CA hr (aa (pv 1) (aa (pv 0) (aa (pv 2) av))))))) (fun _ _ _ _=>(pv 0))))),?_⟩;refine⟨_,rfl,pw,_,dw,_,_,rfl,hw,G.bH,G.me,Fv g,g.pm,rfl,⟨_,bA.of m1⟩,?_⟩;refine dJ (K:=K) (a:=g.pm) (xs:=ms) (fun D i σ H6=>H D=none/\ ∃v rs,σ=[v,some (.ref pw),some (.int day)]/\aD H H6/\H6 D=some (.lst rs)/\hJ H6 ((S.made.take i).filter fun t=>decide (S.fO t<=day)) rs) (fun D hD=>⟨hD,none,[],rfl,aD.new hD,ag,.nil⟩) (fun D i σ H6 _ ⟨_,_,_,_,t3,_⟩=>bA.of (t3 _ _ m1)) ?_ ?_
  ·rintro D i x σ H6 hx ⟨hD,v,rs,rfl,t3,f7,hT⟩;have hi:i < S.made.length:=by have:=(ak.mp hx).1; lia
   have oK:=af hi;obtain⟨v',hv,p,rfl,hp⟩:=bI m2 oK;rw[hx] at hv;obtain rfl:x= .ref p:=aF hv;have hm:=wf.m _ (bG hi);have kX:=fk (fun t=>decide (S.fO t<=day)) oK;generalize S.made[i]=t at hp hm kX;have Lf:rs.length<=1000000:=by
    have:=aL hT;have:=aX (fun t=>decide (S.fO t<=day)) (S.made.take i);rw[bf] at this;lia
   refine⟨_,rfl,_,rfl,_,rfl,pw,p,S,g,t,day,rfl,hW.same t3,t3 _ _ hp,hm.1,hm.2,_,rfl,ck (fun z=>?_) (fun z=>?_)⟩
   ·rw[a8 z] at kX;refine⟨_,rfl,_,f7,iY Lf,hD,_,rs ++ [.ref p],rfl,t3.cG hD,ag,?_⟩;rw[kX];have tk:=dN (o:= .lst (rs ++ [.ref p])) f7;exact cy (hT.mono tk) ⟨p,rfl,tk _ _ (t3 _ _ hp)⟩
   ·rw[aU z,bR] at kX;refine⟨hD,_,rs,rfl,t3,f7,?_⟩;rw[kX];exact hT
  ·rintro D σ H6 hD ⟨_,v,rs,rfl,t3,f7,hT⟩;rw[← hlen,a7] at hT;exact k D rs H6 t3 hD f7 hT
def iC (H:Hp)(l:List (Nat×Int))(vs:List V):Prop:=Paired (fun(t:Nat×Int) v=> ∃p,v= .ref p/\H p=some (.tup [.int t.1,.int t.2])) l vs
def iC.mono {H H':Hp}{l:List (Nat×Int)}{vs:List V}(h:iC H l vs)(k:cF H H'):iC H' l vs:=Paired.gI h fun _ _ ⟨p,e,q⟩=>⟨p,e,k _ _ q⟩
def iC.Q4 {H:Hp}: ∀{l:List (Nat×Int)} {vs:List V},iC H l vs->g6 H (l.map fun t=> .tup [.int t.1,.int t.2]) vs
 |_,_,.nil=>cL.mpr rfl
 |_,_,.cons ⟨p,e,q⟩ t=>by
  subst e;exact bC.mpr ⟨_,_,rfl,eA q (bC.mpr ⟨_,_,rfl,di.mpr rfl,bC.mpr ⟨_,_,rfl,di.mpr rfl,cL.mpr rfl⟩⟩),iC.Q4 t⟩
section
variable (S:Bk)(aR:Bool)(aH:Str)(day:Int)
def pD (k:Nat):Bool:=decide (((S.rows aR).getD k default).aH=aH) && (decide (((S.rows aR).getD k default).a<=day) && decide (0 < S.rest aR k day))
def kD (i:Nat):List (Int×Nat):=((List.range i).filter (pD S aR aH day)).map fun k=>(keyOf aR ((S.rows aR).getD k default),k)
def gD (x:Int×Nat):List Int:=[x.1,(x.2:Int),S.rest aR x.2 day]
end
section
variable {S:Bk}{aR:Bool}{aH:Str}{day:Int}{i:Nat}
def FI:kD S aR aH day (i + 1)=kD S aR aH day i ++ (if pD S aR aH day i=true then[(keyOf aR ((S.rows aR).getD i default),i)] else[]):=by
 unfold kD;rw[oy,kg,aK]
 congr 1
 by_cases c:pD S aR aH day i=true
 ·rw[a8 c,cu c]; rfl
 ·rw[aU c,gN c]; rfl
def TX: ∀x∈kD S aR aH day i,x.2 < i:=by
 intro x hx;obtain⟨k,hk,rfl⟩:=bF.mp hx;exact dh.mp (eU.mp hk).1
def TY:((kD S aR aH day i).map (·.2)).Nodup:=by
 unfold kD;rw[eu];have e:((fun x:Int×Nat=>x.2) ∘ fun k=>(keyOf aR ((S.rows aR).getD k default),k))=id:=rfl;rw[e,A8];exact mD.filter _
def Eg:(kD S aR aH day i).length<=i:=by
 unfold kD;rw[ae];exact aY (aX _ _) (by rw[dj]; exact aE _)
def CB:S.fj aR aH day=(ej (kD S aR aH day (S.rows aR).length)).map fun x=>(x.2,S.rest aR x.2 day):=by
 have e:kD S aR aH day (S.rows aR).length=(gi (S.rows aR) aH (keyOf aR)).filter fun x=>decide (((S.rows aR).getD x.2 default).a<=day) && decide (0 < S.rest aR x.2 day):=by
  unfold kD gi;rw[Ln,qh]
  congr 1
  apply rO;intro k _;show pD S aR aH day k=_;unfold pD;rw[Bool.and_comm];rfl
 rw[e,l0];unfold Bk.fj inOrder;rw[← sV (fun x:Int×Nat=>x.2) (fun k=>decide (((S.rows aR).getD k default).a<=day) && decide (0 < S.rest aR k day)),eu];rfl
end
inductive ux (vs:List V)(H:Hp)(Q:VK)(E':XK):Prop
 |mk (sd:Addr)(S:Bk)(f:fu)(n:Nat)(aR:Bool)(aH:Str)(day:Int)(h1:vs=[.ref sd,.str aH,.int day,.int (if aR=true then 1 else 0)])(h2:df H sd S f)(h3:WF S n)(h4:n<=60)(h5: ∀D ms H',aD H H'->H D=none->H' D=some (.lst ms)->iC H' (S.fj aR aH day) ms->Q (.ref D) H'):ux vs H Q E'
def PL (aR:Bool)(r:Rw):rY r.vs (2 + (if aR=true then(1:Int) else 0))=some (.int (sX aR r)):=by cases aR <;> rfl
def PM (aR:Bool)(r:Rw):rY r.vs (1 + (if aR=true then(1:Int) else 0))=some (.int (keyOf aR r)):=by cases aR <;> rfl
def FJ (aR:Bool)(t:Nat×Nat×Int):rY [V.int t.1,.int t.2.1,.int t.2.2] (if aR=true then(1:Int) else 0)=some (.int (spotOf aR t:Int)):=by cases aR <;> rfl
def nM:aS ["_law_state","_law_who","_law_day","_law_spot","_law_rows","_law_keys","_law_k","_law_amount","_law_setting","_law_late"] ["_law_state","_law_who","_law_day","_law_spot"] (ay (top 64)):={}
def oZ (T:Txt K mg):eI P w K mg base "_law_at_day" 1 ["_law_state","_law_who","_law_day","_law_spot"] ux:=by
 refine T.xk.eX (k:=0) nM (fun f cO A outer s H vs Q E hr h=>?_)
 ·obtain⟨sd,S,g,n,aR,aH,day,rfl,hB,wf,hn,k⟩:=h;have hu:=jG hr;have nd:=nM.nd;refine⟨_,(iq (sv 4 nd (cA hu (pv 0) (xl (bP (aa aQ (aa aQ av))) (pv 3)) (fun _ _=>rfl)))
(ah (sv 5 nd (bP av))
(ah (dW bw rfl (iQ rfl T.ju (aa (ma T.dB (pv 4)) av)) (gn 6 nd)
(ah (sv 7 nd (xl (xl (pv 4) (pv 6)) (aO cz ai (pv 3))))
(ah (dW bw rfl (rH (cA hu (pv 0) aQ (fun _ _=>rfl))) (gn 8 nd)
(ah (sv 9 nd (eM (xX rfl) (by rfl) T.NA boot_max (aa (xl (xl (cA hu (pv 0) aQ (fun _ _=>rfl)) (xt (pv 8) ai)) ai) (aa (xl (xl (cA hu (pv 0) aQ (fun _ _=>rfl)) (xt (pv 8) ai)) ai) av))))
(au (bN (PW.pt (pw_and (aV cH (xt (pv 8) (pv 3)) (pv 6) (aZ _)) (pw_and1 (aV sO (pv 9) (pv 2) (aZ _)))))
(au (sv 7 nd (aO eL (pv 7) (xt (pv 8) ai))))
bb))))
(au (bN (PW.pt (pw_and (aV cH (xl (xl (pv 4) (pv 6)) ai) (pv 1) (aZ _)) (pw_and (aV sO (xl (xl (pv 4) (pv 6)) ai) (pv 2) (aZ _)) (pw_and1 (aV iK (pv 7) ai (aZ _))))))
(au (bK (oS (pv 5) (cD (aa (xl (xl (pv 4) (pv 6)) (aO cz ai (pv 3))) (aa (pv 6) (aa (pv 7) av)))))))
bb)))))
(au (a0 (gg (tn:=["_law_key"]) (cn:=[]) (cj:=[]) rfl zk (rH (eM qG (by rfl) T.qM boot_sorted (aa (pv 5) av))) (fun _ _ _ _=>(dQ (i:=0) (show(["_law_key"]:List Str).Nodup by decide +kernel) rfl (Or.inl rfl))) (fun _ _ _ _=>kM) (fun _ _ _ _=>(cD (aa (i8 (lX (K:=K) rfl) (pv 0) ai (fun _ _=>rfl)) (aa (i8 (lX (K:=K) rfl) (pv 0) ai (fun _ _=>rfl)) av)))))))))),?_⟩
  refine⟨fun σ' H'=> ∃(pR:Addr) (HB:List Addr),σ'=[some (.ref sd),some (.str aH),some (.int day),some (.int (if aR=true then 1 else 0)),some (.ref pR),none,none,none,none,none]/\aD H H'/\H' pR=some (.lst (HB.map V.ref))/\eP H' (S.rows aR) HB,?_,?_⟩
  ·refine⟨_,rfl,(by show 2<=sizeLine; decide),fun p9 n9=>⟨_,rfl,?_⟩⟩;have t9:=aD.new (o:= .lst [V.str "credits",.str "bills"]) n9;have B9:=hB.same t9;cases aR with
   |true=>exact⟨p9,_,_,.str "bills",rfl,rfl,bA.of ag,rfl,sd,_,rfl,B9.gB,g.pb,g.ix,rfl,t9,B9.hb,B9.rb⟩
   |false=>exact⟨p9,_,_,.str "credits",rfl,rfl,bA.of ag,rfl,sd,_,rfl,B9.gC,g.pc,g.cps,rfl,t9,B9.hc,B9.rc⟩
  rintro σ H1 ⟨pR,HB,rfl,s1,hpR,hrR⟩;refine⟨bh _,fun pk nk=>?_⟩;have Ya:=s1.free nk;have s1k:aD H (upd H1 pk (.lst [])):=(s1.trans (aD.new nk));have hlR:=hrR.length;have BC:(S.rows aR).length<=60:=by
   cases aR with
   |true=>exact aY wf.lb hn
   |false=>exact aY wf.lc hn
  refine⟨_,rfl,pR,_,rfl,.inl (bA.of (aD.new nk _ _ hpR)),((HB.map V.ref).length:Int),rfl,by lia,by rw[ae]; lia,?_⟩;rw[dI];refine iR (lo:=0) (n:=(HB.map V.ref).length) (fun i σ H2=> ∃(xs:List V) (x6 x7 x8 x9:Option V),σ=[some (.ref sd),some (.str aH),some (.int day),some (.int (if aR=true then 1 else 0)),some (.ref pR),some (.ref pk),x6,x7,x8,x9]/\aD H1 H2/\H2 pk=some (.lst xs)/\gh H2 ((kD S aR aH day i).map (gD S aR day)) xs)
   ⟨[],none,none,none,none,rfl,aD.new nk,ag,.nil⟩ ?_ ?_
  ·rintro i σ H2 hi ⟨xs,x6,x7,x8,x9,rfl,s2,hx,hT⟩;rw[iG];have wR:i < (S.rows aR).length:=by rw[ae] at hi; lia
   obtain⟨r,ri,Ld⟩:=hrR.at wR;have ar:rY (HB.map V.ref) (i:Int)=some (.ref r):=cw (by rw[aB,ri]; rfl);have tQ:=s2 _ _ hpR;have yB:=s2 _ _ Ld;have B2:=hB.same (s1.trans s2);obtain⟨ms,m1,m2⟩:=B2.hm;have PB:xs.length<=i:=by
    have:=aL hT;rw[ae] at this;have:=Eg (S:=S) (aR:=aR) (aH:=aH) (day:=day) (i:=i);lia
   refine⟨_,rfl,_,rfl,pR,_,_,.ref r,rfl,rfl,bA.of tQ,ar,_,rfl,_,_,rfl,rfl,r,_,_,_,rfl,rfl,bA.of yB,PL aR _,?_⟩;refine⟨_,rfl,sd,_,rfl,B2.gM,g.pm,rfl,⟨_,bA.of m1⟩,?_⟩;refine fC (K:=K) (a:=g.pm) (xs:=ms) (fun j σ H3=> ∃(x8 x9:Option V),σ=[some (.ref sd),some (.str aH),some (.int day),some (.int (if aR=true then 1 else 0)),some (.ref pR),some (.ref pk),some (.int (i:Int)),some (.int (sX aR ((S.rows aR).getD i default) - (((S.made.take j).filter (S.cnt aR i day)).map (·.2.2)).sum)),x8,x9]/\H3=H2)
    ⟨x8,x9,by simp[List.take_zero],rfl⟩ (fun j σ H3 _ ⟨_,_,_,e⟩=>by rw[e]; exact bA.of m1) ?_ ?_
   ·rintro j x σ H3 hx3 ⟨x8,x9,rfl,rfl⟩;have hj:j < S.made.length:=by have:=(ak.mp hx3).1; have:=aL m2; lia
    have TZ:=af hj;obtain⟨v,hv,p8,rfl,T1⟩:=bI m2 TZ;rw[hx3] at hv;obtain rfl:x= .ref p8:=aF hv;have ub:=wf.m _ (bG hj);have kX:=fk (S.cnt aR i day) TZ;generalize S.made[j]=t at T1 ub kX;obtain⟨qc,_,ac,hqc⟩:=B2.lc ub.1;obtain⟨qb,_,ab,hqb⟩:=B2.lb ub.2;refine⟨_,rfl,sd,_,rfl,B2.gC,_,rfl,p8,_,_,.int t.1,rfl,rfl,cf.of T1,rfl,g.pc,_,_,.ref qc,rfl,rfl,bA.of B2.hc,ac,qc,_,_,.int (S.cr t.1).a,rfl,rfl,bA.of hqc,rfl,?_⟩;refine⟨_,rfl,sd,_,rfl,B2.gB,_,rfl,p8,_,_,.int t.2.1,rfl,rfl,cf.of T1,rfl,g.pb,_,_,.ref qb,rfl,rfl,bA.of B2.hb,ab,qb,_,_,.int (S.bl t.2.1).a,rfl,rfl,bA.of hqb,rfl,_,_,rfl,?_⟩;have no:S.cnt aR i day t=false-> ∃(y8 y9:Option V),[some (V.ref sd),some (.str aH),some (.int day),some (.int (if aR=true then 1 else 0)),some (.ref pR),some (.ref pk),some (.int (i:Int)),some (.int (sX aR ((S.rows aR).getD i default) - (((S.made.take j).filter (S.cnt aR i day)).map (·.2.2)).sum)),some (.ref p8),some (.int (if(S.cr t.1).a < (S.bl t.2.1).a then(S.bl t.2.1).a else(S.cr t.1).a))]=[some (.ref sd),some (.str aH),some (.int day),some (.int (if aR=true then 1 else 0)),some (.ref pR),some (.ref pk),some (.int (i:Int)),some (.int (sX aR ((S.rows aR).getD i default) - (((S.made.take (j + 1)).filter (S.cnt aR i day)).map (·.2.2)).sum)),y8,y9]/\H3=H3:=fun z=>by
     refine⟨some (.ref p8),some (.int (if(S.cr t.1).a < (S.bl t.2.1).a then(S.bl t.2.1).a else(S.cr t.1).a)),?_,rfl⟩;rw[aU (by rw[z]; exact aW),bR] at kX;rw[kX]
    refine⟨_,rfl,_,rfl,p8,_,_,_,rfl,rfl,cf.of T1,FJ aR t,_,rfl,rfl,_,rfl,ck (fun z1=>?_) (fun z1=>bT (no ?_))⟩
    ·refine⟨_,rfl,_,rfl,_,_,rfl,rfl,_,rfl,ck (fun z2=>?_) (fun z2=>no ?_)⟩
     ·refine⟨_,rfl,_,rfl,p8,_,_,.int t.2.2,rfl,rfl,cf.of T1,rfl,_,_,rfl,rfl,some (.ref p8),some (.int (if(S.cr t.1).a < (S.bl t.2.1).a then(S.bl t.2.1).a else(S.cr t.1).a)),?_,rfl⟩;have e1:spotOf aR t=i:=by
       have:=aN z1;injection this with this;lia
      have e2:S.fO t<=day:=aN z2;have yes:S.cnt aR i day t=true:=by
       unfold Bk.cnt;rw[aG e1,aG e2]; rfl
      rw[a8 yes] at kX;rw[kX,aK,List.sum_append];show[_,_,_,_,_,_,_,some (V.int (_ - _ - t.2.2)),_,_]=_;simp only[List.map_cons,List.map_nil,List.sum_cons,List.sum_nil,Int.add_zero,Int.sub_sub]
     ·unfold Bk.cnt;have e2: ¬ S.fO t<=day:=fun q=>z2 (aG q);rw[bp e2,lN]
    ·unfold Bk.cnt;have e1: ¬ spotOf aR t=i:=fun q=>z1 (aG (by rw[q]));rw[bp e1,qo]
   ·rintro σ H3 ⟨x8,x9,rfl,rfl⟩;have FD:ms.length=S.made.length:=(aL m2).symm;have Fq:sX aR ((S.rows aR).getD i default) - (((S.made.take ms.length).filter (S.cnt aR i day)).map (·.2.2)).sum=S.rest aR i day:=by
     rw[FD,a7]; rfl
    rw[Fq];have no:pD S aR aH day i=false-> ∃(ys:List V) (y6 y7 y8 y9:Option V),[some (V.ref sd),some (.str aH),some (.int day),some (.int (if aR=true then 1 else 0)),some (.ref pR),some (.ref pk),some (.int (i:Int)),some (.int (S.rest aR i day)),x8,x9]=[some (.ref sd),some (.str aH),some (.int day),some (.int (if aR=true then 1 else 0)),some (.ref pR),some (.ref pk),y6,y7,y8,y9]/\aD H1 H3/\H3 pk=some (.lst ys)/\gh H3 ((kD S aR aH day (i + 1)).map (gD S aR day)) ys:=fun z=>
     ⟨xs,_,_,_,_,rfl,s2,hx,by rw[FI,aU (by rw[z]; exact aW),bR]; exact hT⟩
    generalize Hv:(S.rows aR).getD i default=row at yB;have Lh:pD S aR aH day i=(decide (row.aH=aH) && (decide (row.a<=day) && decide (0 < S.rest aR i day))):=by unfold pD; rw[Hv]
    refine⟨_,rfl,_,rfl,pR,_,_,.ref r,rfl,rfl,bA.of tQ,ar,r,_,_,.str row.aH,rfl,rfl,bA.of yB,rfl,_,rfl,rfl,_,rfl,ck (fun d1=>?_) (fun d1=>bT (no (by rw[Lh,bp (q0 d1)]; rfl)))⟩;refine⟨_,rfl,_,rfl,pR,_,_,.ref r,rfl,rfl,bA.of tQ,ar,r,_,_,.int row.a,rfl,rfl,bA.of yB,rfl,_,rfl,_,_,rfl,rfl,_,rfl,ck (fun d2=>?_) (fun d2=>bT (no (by rw[Lh,bp (fun q=>d2 (aG q)),qo,lN])))⟩;refine⟨_,rfl,_,_,rfl,rfl,_,rfl,ck (fun d3=>?_) (fun d3=>no (by rw[Lh,bp (fun q=>d3 (aG q)),lN,lN]))⟩;have yes:pD S aR aH day i=true:=by
     rw[Lh,aG (uq d1),aG (aN d2),aG (aN d3)]; rfl
    refine⟨_,rfl,.inl ⟨rfl,_,bA.of hx⟩,_,rfl,_,rfl,pR,_,_,.ref r,rfl,rfl,bA.of tQ,ar,_,rfl,_,_,rfl,rfl,r,_,_,_,rfl,rfl,bA.of yB,PM aR row,_,rfl,_,rfl,(by show 3<=sizeLine; decide),fun p8 n8=>?_⟩;have t8:=aD.new (o:= .tup [V.int (keyOf aR row),.int (i:Int),.int (S.rest aR i day)]) n8;refine⟨pk,xs,_,rfl,rfl,t8 _ _ hx,a9 (by lia),xs ++ [.ref p8],_,_,_,_,rfl,(s2.trans t8).cG nk,ag,?_⟩;rw[FI,a8 yes,aK,Hv];exact gh.snoc (hT.mono (t8.tk.trans (dN (t8 _ _ hx)))) (dA (t8 _ _ hx) _ _ ag)
  ·rintro σ H2 ⟨xs,x6,x7,x8,x9,rfl,s2,hx,hT⟩;have PB:=aL hT;have VL:=Eg (S:=S) (aR:=aR) (aH:=aH) (day:=day) (i:=(HB.map V.ref).length);have Fz:=TX (S:=S) (aR:=aR) (aH:=aH) (day:=day) (i:=(HB.map V.ref).length);have lp:(HB.map V.ref).length=(S.rows aR).length:=by rw[ae]; lia
   have hle: ∀x∈kD S aR aH day (HB.map V.ref).length,x.2 < 1000:=fun x hx=>by have:=Fz x hx; lia
   have jO:S.fj aR aH day=(ej (kD S aR aH day (HB.map V.ref).length)).map fun x=>(x.2,S.rest aR x.2 day):=by rw[lp]; exact CB
   have hnd:=TY (S:=S) (aR:=aR) (aH:=aH) (day:=day) (i:=(HB.map V.ref).length);generalize kD S aR aH day (HB.map V.ref).length=ks at hT PB VL hle jO hnd;rw[ae] at PB;refine⟨_,rfl,pk,xs,_,tW,rfl,bA.of hx,(by lia),hT,(fun t ht=>?_),(fun t ht u hu=>?_),fun D ys us nD Lb perm le=>?_⟩
   ·obtain⟨x,_,rfl⟩:=bF.mp ht;simp[gD]
   ·obtain⟨x,yp,rfl⟩:=bF.mp ht;obtain⟨y,Ae,rfl⟩:=bF.mp hu;refine qN (u:=[S.rest aR x.2 day]) (v:=[S.rest aR y.2 day]) (hle x yp) (hle y Ae) (fun e=>⟨by rw[e],lF hnd yp Ae e⟩) ?_;rw[HT.lW,a8 rfl]; rfl
   ·have R6:=sZ hle hnd (fun x _=>rfl) perm le;subst R6;have tD:=aD.new (o:= .lst ys) nD;refine⟨D,rfl,⟨_,bA.of ag⟩,?_⟩;have FA:=Lb.mono tD.tk;generalize MD:upd H2 D (.lst ys)=H3 at tD FA;have Q7:H3 D=some (.lst ys):=by rw[← MD]; exact ag
    have s3:=(s1.trans s2).trans tD;clear MD Lb perm le hT;have Tx:=aL FA;refine dJ (K:=K) (a:=D) (xs:=ys) (fun D' i σ H6=>H3 D'=none/\ ∃v rs,σ=[v]/\aD H3 H6/\H6 D'=some (.lst rs)/\iC H6 (((ej ks).take i).map fun x=>(x.2,S.rest aR x.2 day)) rs) (fun D' pT=>⟨pT,none,[],rfl,aD.new pT,ag,.nil⟩) (fun D' i σ H6 _ ⟨_,_,_,_,t3,_⟩=>bA.of (t3 _ _ Q7)) ?_ ?_
    ·rintro D' i x σ H6 FC ⟨pT,v,rs,rfl,t3,f7,hP⟩;have hi:i < (ej ks).length:=by
      have:=(ak.mp FC).1;rw[ae] at Tx;lia
     have g0:((ej ks).map (gD S aR day))[i]? =some (gD S aR day (ej ks)[i]):=by rw[aB,af hi]; rfl
     obtain⟨v',hv,pp,e1,Iq⟩:=bI FA g0;rw[FC] at hv;obtain rfl:x=v':=aF hv;subst e1;have lO:=jm hi;have Hw:=t3 _ _ Iq;generalize (ej ks)[i]=z at Hw lO;have Ee:rs.length<=100:=by
      have:=aL hP;rw[ae,bf] at this;have:=(c9 ks).length_eq;lia
     refine⟨_,rfl,pp,_,_,.int (z.2:Int),rfl,rfl,cf.of Hw,rfl,_,rfl,pp,_,_,.int (S.rest aR z.2 day),rfl,rfl,cf.of Hw,rfl,(by show 2<=sizeLine; decide),fun r6 m6=>?_⟩;have t6:=aD.new (o:= .tup [V.int (z.2:Int),.int (S.rest aR z.2 day)]) m6;refine⟨rs,t6 _ _ f7,a9 (by lia),pT,_,rs ++ [.ref r6],rfl,(t3.trans t6).cG pT,ag,?_⟩;rw[lO,aK];have tk:=t6.tk.trans (dN (o:= .lst (rs ++ [.ref r6])) (t6 _ _ f7));exact cy (hP.mono tk) ⟨r6,rfl,dN (o:= .lst (rs ++ [.ref r6])) (t6 _ _ f7) _ _ ag⟩
    ·rintro D' σ H6 pT ⟨_,v,rs,rfl,t3,f7,hP⟩;refine k D' rs H6 (s3.trans t3) (s3.free pT) f7 ?_;rw[jO];rw[← Tx,ae,a7] at hP;exact hP
def yE {S:Bk}{aR:Bool}{aH:Str}{day:Int}{t:Nat×Int}(h:t∈S.fj aR aH day):t.1 < (S.rows aR).length:=by
 unfold Bk.fj at h;obtain⟨k,hk,rfl⟩:=bF.mp h;exact(kr.mp (eU.mp hk).1).1
def yF {S:Bk}{aR:Bool}{aH:Str}{day:Int}:(S.fj aR aH day).length<=(S.rows aR).length:=by
 rw[CB,ae,(c9 _).length_eq];exact Eg
def vT (fO:Int)(bO:List Int):L2.placeOf fO bO < bO.length + 2:=by
 unfold L2.placeOf;split
 ·lia
 ·have:=aX (fun l=>decide (l < fO)) bO;lia
def yG (l:List Int)(i:Nat)(x:Int):(iL l i x).length=l.length:=by unfold iL; rw[List.length_set]
def FK (n:Nat)(b:Int):(List.replicate n [V.int b]).flatten=(List.replicate n b).map V.int:=by
 induction n with
 |zero=>rfl
 |succ n ih=>rw[cK,iO,ih,cK]; rfl
inductive Eh (vs:List V)(H:Hp)(Q:VK)(E':XK):Prop
 |mk (sd pl:Addr)(S:Bk)(f:fu)(n:Nat)(aH:Str)(day:Int)(bO:List Int)(h1:vs=[.ref sd,.str aH,.int day,.ref pl])(h2:df H sd S f)(h3:WF S n)(h4:n<=60)(h5:H pl=some (.tup (bO.map V.int)))(h6:bO.length<=11)(h7: ∀D H',aD H H'->H D=none->H' D=some (.lst ((S.tU aH day bO).map V.int))->Q (.ref D) H'):Eh vs H Q E'
def rh:aS ["_law_state","_law_who","_law_day","_law_limits","_law_sums","_law_bill","_law_left","_law_late","_law_place"] ["_law_state","_law_who","_law_day","_law_limits"] (ay (top 65)):={}
def CC (T:Txt K mg):eI P w K mg base "_law_aged" 2 ["_law_state","_law_who","_law_day","_law_limits"] Eh:=by
 have kY:eI P w K mg base "_law_at_day" 1 ["_law_state","_law_who","_law_day","_law_spot"] ux:=oZ T;refine T.BS.eX (k:=1) rh (fun f cO A outer s H vs Q E hr h=>?_)
 ·obtain⟨sd,pl,S,g,n,aH,day,bO,rfl,hB,wf,hn,gw,Ee,k⟩:=h;have hu:=jG hr;have nd:=rh.nd;refine⟨_,(ah (sv 4 nd (aO zi (bP (aa ai av)) (aO cz (ma T.dB (pv 3)) ai)))
(ah (dW bw rfl (rH (fc kY hr (aa (pv 0) (aa (pv 1) (aa (pv 2) (aa ai av)))))) (gT (bX (gn 5 nd) (bX (gn 6 nd) gv)))
(ah (sv 7 nd (aO eL (pv 2) (xl (xl (cA hu (pv 0) aQ (fun _ _=>rfl)) (pv 5)) ai)))
(ah (sv 8 nd ai)
(iq (bN (aV iK (pv 7) ai (aZ _))
(au (sv 8 nd (aO cz ai (ma T.dB (gg (tn:=["_law_limit"]) (cn:=["_law_late"]) (cj:=[7]) rfl (gR (yk:=[(".0",.local),("_law_limit",.local),("_law_late",.cell)])) (IG (pv 3)) (fun _ _ _ _=>(dQ (i:=0) (show(["_law_limit","_law_late"]:List Str).Nodup by decide +kernel) rfl (Or.inl rfl))) (fun _ _ _ _=>(mV (aV jn (pv 0) (pv 1) (aZ _)))) (fun _ _ _ _=>(pv 0)))))))
bb)
(au (lT (aO cz (xl (pv 4) (pv 8)) (pv 6)) (pE (pv 4) (pv 8) set_list)))))))
(au (a0 (pv 4))))),?_⟩
  refine⟨(by show 1<=sizeLine; decide),fun p9 n9=>?_⟩;have t9:=aD.new (o:= .lst [V.int 0]) n9;have Kc:(bO.map V.int).length=bO.length:=ae _;refine⟨_,rfl,pl,_,rfl,.inr (cf.of (t9 _ _ gw)),_,_,rfl,rfl,p9,_,_,rfl,rfl,ag,by lia,by lia,?_,fun ps CD=>?_⟩
  ·show 1 * _<=sizeLine;rw[Kc,eD];lia
  have e2:(((bO.map V.int).length:Int) + 2).toNat=bO.length + 2:=by rw[Kc]; lia
  rw[e2,FK];have Ai:=aD.new (o:= .lst ((List.replicate (bO.length + 2) (0:Int)).map V.int)) CD;have Ef:=t9.trans Ai;have lp:upd (upd H p9 (.lst [V.int 0])) ps (.lst ((List.replicate (bO.length + 2) (0:Int)).map V.int)) ps=some (.lst ((List.replicate (bO.length + 2) (0:Int)).map V.int)):=ag;have HC:H ps=none:=t9.free CD;generalize upd (upd H p9 (.lst [V.int 0])) ps (.lst ((List.replicate (bO.length + 2) (0:Int)).map V.int))=H1 at Ef lp;refine⟨_,rfl,_,rfl,_,rfl,sd,S,g,n,true,aH,day,rfl,hB.same Ef,wf,hn,fun D ms H2 s2 nD hD hP=>?_⟩;refine⟨D,rfl,⟨_,bA.of hD⟩,?_⟩;have QU:=Ef.trans s2;have ub: ∀t∈S.fj true aH day,t.1 < S.aI.length:=fun t ht=>yE (aR:=true) ht;have Ra:S.tU aH day bO=(S.fj true aH day).foldl (fun l t=>iL l (L2.placeOf (day - (S.bl t.1).b) bO) t.2) (List.replicate (bO.length + 2) 0):=rfl;rw[Ra] at k;generalize S.fj true aH day=ts at hP ub k;have Yb:D≠ps:=fun e=>by rw[e,lp] at nD; cases nD
  refine fC (K:=K) (a:=D) (xs:=ms) (fun i σ H3=> ∃(l:List Int) (x5 x6 x7 x8:Option V),σ=[some (.ref sd),some (.str aH),some (.int day),some (.ref pl),some (.ref ps),x5,x6,x7,x8]/\aD H H3/\H3 D=some (.lst ms)/\iC H3 ts ms/\H3 ps=some (.lst (l.map V.int))/\l.length=bO.length + 2/\l=(ts.take i).foldl (fun l t=>iL l (L2.placeOf (day - (S.bl t.1).b) bO) t.2) (List.replicate (bO.length + 2) 0))
   ⟨_,none,none,none,none,rfl,QU,hD,hP,s2 _ _ lp,dH,rfl⟩ (fun i σ H3 _ ⟨_,_,_,_,_,_,_,h,_⟩=>bA.of h) ?_ ?_
  ·rintro i x σ H3 hx ⟨l,x5,x6,x7,x8,rfl,s3,Q7,MI,Jh,FL,he⟩;have hi:i < ts.length:=by have:=(ak.mp hx).1; have:=aL MI; lia
   have oK:=af hi;obtain⟨v,hv,p,rfl,hp⟩:=bI MI oK;rw[hx] at hv;obtain rfl:x= .ref p:=aF hv;have hm:=ub _ (bG hi);rw[jD (fun l t=>iL l (L2.placeOf (day - (S.bl t.1).b) bO) t.2) ts _ oK,← he];generalize ts[i]=t at hp hm;have B3:=hB.same s3;obtain⟨q,_,aq,hq⟩:=B3.lb hm;refine⟨p,_,rfl,cf.of hp,rfl,_,_,rfl,_,_,rfl,rfl,?_⟩;refine⟨_,rfl,_,rfl,sd,_,rfl,B3.gB,_,rfl,g.pb,_,_,.ref q,rfl,rfl,bA.of B3.hb,aq,q,_,_,.int (S.bl t.1).b,rfl,rfl,bA.of hq,rfl,_,_,rfl,rfl,?_⟩;refine⟨fun σ' H'=>σ'=[some (.ref sd),some (.str aH),some (.int day),some (.ref pl),some (.ref ps),some (.int (t.1:Int)),some (.int t.2),some (.int (day - (S.bl t.1).b)),some (.int (L2.placeOf (day - (S.bl t.1).b) bO:Int))]/\aD H3 H',?_,?_⟩
   ·refine⟨_,rfl,_,_,rfl,rfl,_,rfl,ck (fun z=>?_) (fun z=>?_)⟩
    ·have z':0 < (day - (S.bl t.1).b):=aN z;refine⟨_,rfl,pl,rfl,⟨_,cf.of (s3 _ _ gw)⟩,?_⟩;refine BB (K:=K) (a:=pl) (xs:=bO.map V.int) (fun D' j σ H6=>H3 D'=none/\ ∃v,σ=[v,some (.int (day - (S.bl t.1).b))]/\aD H3 H6/\H6 D'=some (.lst (((bO.take j).filter fun l=>decide (l < (day - (S.bl t.1).b))).map V.int))) (fun D' pT=>⟨pT,none,rfl,aD.new pT,ag⟩) (fun D' j σ H6 _ ⟨_,_,_,t3,_⟩=>cf.of (t3 _ _ (s3 _ _ gw))) ?_ ?_
     ·rintro D' j x σ H6 FC ⟨pT,v,rfl,t3,f7⟩;rw[aB] at FC;obtain⟨y,hy,rfl⟩:=bo.mp FC;have kX:=fk (fun l=>decide (l < (day - (S.bl t.1).b))) hy;have hlen:((bO.take j).filter fun l=>decide (l < (day - (S.bl t.1).b))).length<=100:=by
       have:=aX (fun l=>decide (l < (day - (S.bl t.1).b))) (bO.take j);rw[bf] at this;lia
      refine⟨_,rfl,_,rfl,_,_,rfl,rfl,_,rfl,ck (fun q=>?_) (fun q=>?_)⟩
      ·rw[a8 q] at kX;refine⟨_,rfl,_,f7,a9 (by rw[ae]; lia),pT,_,rfl,t3.cG pT,?_⟩;rw[ag,kX,aK];rfl
      ·rw[aU q,bR] at kX;refine⟨pT,_,rfl,t3,?_⟩;rw[kX];exact f7
     ·rintro D' σ H6 pT ⟨_,v,rfl,t3,f7⟩;refine⟨D',_,rfl,.inl (bA.of f7),_,_,rfl,rfl,?_,t3⟩;have e:L2.placeOf (day - (S.bl t.1).b) bO=1 + (bO.filter fun l=>decide (l < (day - (S.bl t.1).b))).length:=by
       unfold L2.placeOf;rw[aU (by lia)]
      rw[e,ae,ae,a7];simp
    ·have z': ¬ 0 < (day - (S.bl t.1).b):=fun q=>z (aG q);have e:L2.placeOf (day - (S.bl t.1).b) bO=0:=by
      unfold L2.placeOf;rw[a8 (by lia)]
     rw[e];exact⟨rfl,aD.refl _⟩
   ·rintro σ' H4 ⟨rfl,s4⟩;have hpo:=vT (day - (S.bl t.1).b) bO;generalize L2.placeOf (day - (S.bl t.1).b) bO=j at hpo;have Rb:=s4 _ _ Jh;refine⟨_,rfl,_,rfl,ps,_,_,.int (l.getD j 0),rfl,rfl,bA.of Rb,ny (by lia),_,rfl,_,_,rfl,rfl,?_⟩;refine⟨_,rfl,_,rfl,ps,_,_,j,rfl,rfl,Rb,qW (by rw[ae]; lia),?_⟩;have tk:=dN (o:= .lst ((l.map V.int).set j (.int (l.getD j 0 + t.2)))) Rb;refine⟨iL l j t.2,_,_,_,_,rfl,(s3.trans s4).cG HC,?_,(MI.mono s4.tk).mono tk,?_,?_,rfl⟩
    ·rw[az Yb]; exact s4 _ _ Q7
    ·rw[ag];unfold iL;rw[Ij]
    ·rw[yG]; exact FL
  ·rintro σ H3 ⟨l,x5,x6,x7,x8,rfl,s3,Q7,MI,Jh,FL,he⟩;rw[← aL MI,a7] at he;rw[he] at Jh;exact⟨_,rfl,k ps H3 s3 HC Jh⟩
def jV (H:Hp)(ok:Addr->Prop):Dc->V->Prop
 | .int i,v=>v= .int i
 | .txt s,v=>v= .str s
 | .sets l,v=> ∃D ms,v= .ref D/\ok D/\H D=some (.lst ms)/\hJ H l ms
 | .pairs l,v=> ∃D ms,v= .ref D/\ok D/\H D=some (.lst ms)/\iC H l ms
 | .ints l,v=> ∃D,v= .ref D/\ok D/\H D=some (.lst (l.map V.int))
def jV.keep {H H':Hp}{ok Rc:Addr->Prop}{a:Dc}{v:V}(h:jV H ok a v)(kl: ∀D xs,ok D->H D=some (.lst xs)->Rc D/\H' D=some (.lst xs))(kt:cF H H'):jV H' Rc a v:=by
 cases a with
 |int i=>exact h
 |txt s=>exact h
 |sets l=>
  obtain⟨D,ms,e,o,z,t⟩:=h;obtain⟨o',z'⟩:=kl _ _ o z;exact⟨D,ms,e,o',z',t.mono kt⟩
 |pairs l=>
  obtain⟨D,ms,e,o,z,t⟩:=h;obtain⟨o',z'⟩:=kl _ _ o z;exact⟨D,ms,e,o',z',iC.mono t kt⟩
 |«ints» l=>
  obtain⟨D,e,o,z⟩:=h;obtain⟨o',z'⟩:=kl _ _ o z;exact⟨D,e,o',z'⟩
inductive vU (vs:List V)(H:Hp)(Q:VK)(E':XK):Prop
 |mk (sd pd:Addr)(S:Bk)(f:fu)(n:Nat)(h1:vs=[.ref sd,.ref pd])(h2:df H sd S f)(h3:WF S n)(h4:n<=60)(h5:((∃(o:Bool) (aH:Str) (day:Int),H pd=some (.tup (br.vs (.ask o aH day)))/\ ∀v H',aD H H'->jV H' (fun D=>H D=none) (.pairs (S.fj o aH day)) v->Q v H')∨(∃(aH:Str) (day:Int) (bO:List Int) (pl:Addr),H pd=some (.tup [.str "ages",.str aH,.int day,.ref pl])/\H pl=some (.tup (bO.map V.int))/\bO.length<=11/\ ∀v H',aD H H'->jV H' (fun D=>H D=none) (.ints (S.tU aH day bO)) v->Q v H'))):vU vs H Q E'
def sC:aS ["_law_state","_law_deed"] ["_law_state","_law_deed"] (ay (top 66)):={}
def vV {H:Hp}: ∀l:List Int,g6 H (l.map Dt.int) (l.map V.int)
 |[]=>cL.mpr rfl
 |x :: l=>bC.mpr ⟨_,_,rfl,di.mpr rfl,vV l⟩
def uc (T:Txt K mg):eI P w K mg base "_law_reported" 3 ["_law_state","_law_deed"] vU:=by
 have kY:eI P w K mg base "_law_at_day" 1 ["_law_state","_law_who","_law_day","_law_spot"] ux:=oZ T;have CF:eI P w K mg base "_law_aged" 2 ["_law_state","_law_who","_law_day","_law_limits"] Eh:=CC T;refine T.tV.eX (k:=2) sC (fun f cO A outer s H vs Q E hr h=>?_)
 ·obtain⟨sd,pd,S,g,n,rfl,hB,wf,hn,hk⟩:=h;refine⟨_,(ah (bN (aV cH (xt (pv 1) ai) aQ (aZ _))
(au (a0 (fc CF hr (aa (pv 0) (aa (xt (pv 1) ai) (aa (xt (pv 1) ai) (aa (xt (pv 1) ai) av)))))))
bb)
(au (a0 (fc kY hr (aa (pv 0) (aa (xt (pv 1) ai) (aa (xt (pv 1) ai) (aa (gx jx (by rfl) T.vz boot_int (aa (ff cH (xt (pv 1) ai) aQ (aZ _)) av)) av)))))))),?_⟩
  rcases hk with⟨o,aH,day,hd,k⟩|⟨aH,day,bO,pl,hd,gw,Ee,k⟩
  ·have i9:(if o=true then("owed":Str) else "free")≠"ages":=by cases o <;> decide +kernel
   refine⟨_,rfl,pd,_,_,.str (if o=true then "owed" else "free"),rfl,rfl,cf.of hd,rfl,rfl,false,jk i9,bT ?_⟩;refine⟨_,rfl,_,rfl,pd,_,_,.str aH,rfl,rfl,cf.of hd,rfl,_,rfl,pd,_,_,.int day,rfl,rfl,cf.of hd,rfl,_,rfl,pd,_,_,.str (if o=true then "owed" else "free"),rfl,rfl,cf.of hd,rfl,rfl,.inr ⟨o,?_,sd,S,g,n,o,aH,day,rfl,hB,wf,hn,fun D ms H2 s2 nD hD hP=>?_⟩⟩
   ·cases o with
    |true=>exact cJ (fun x=>[x]) (yD _)
    |false=>exact cJ (fun x=>[x]) (jk (by decide +kernel))
   ·exact k _ _ s2 ⟨D,ms,rfl,nD,hD,hP⟩
  ·refine⟨_,rfl,pd,_,_,.str "ages",rfl,rfl,cf.of hd,rfl,rfl,true,yD _,fB ?_⟩;refine⟨_,rfl,_,rfl,pd,_,_,.str aH,rfl,rfl,cf.of hd,rfl,_,rfl,pd,_,_,.int day,rfl,rfl,cf.of hd,rfl,_,rfl,pd,_,_,.ref pl,rfl,rfl,cf.of hd,rfl,sd,pl,S,g,n,aH,day,bO,rfl,hB,wf,hn,gw,Ee,fun D H2 s2 nD hD=>?_⟩;exact k _ _ s2 ⟨D,rfl,nD,hD⟩
def fm {X:Cx}{K:Frag}{e:Expr}{f:Str}{pos:Pos}{ta:TE}(h:X.K=K)(he:PE X e ta)(hb:attributeBase e f X.env (eval e X.env)=eval e X.env):PE X (.Attribute e f pos) (Ot K ta f):=by subst h; exact IQ he hb
def CG (A:dU)(aR:Bool):Addr:=if aR=true then A.dR else A.dX
def Ao (aR:Bool)(k:Nat)(r:Rw):List (Str×V):=if aR=true then fv k r else eY k r
def yH (aR:Bool)(k:Nat)(r:Rw):(Ao aR k r).lookup ("number":Str)=some (V.int k):=by cases aR <;> rfl
def PN (aR:Bool)(k:Nat)(r:Rw):(Ao aR k r).lookup ("day":Str)=some (V.int r.a):=by cases aR <;> rfl
def HE (aR:Bool)(k:Nat)(r:Rw):(Ao aR k r).lookup ("amount":Str)=some (V.int (sX aR r)):=by cases aR <;> rfl
def Ap {A:dU}(G:jv K mg A)(aR:Bool):wL K (CG A aR):=by cases aR; exact G.de; exact G.dY
def yI {A:dU}(G:jv K mg A)(aR:Bool):bZ K (CG A aR) "number":=by cases aR; exact G.eK; exact G.eQ
def PQ {A:dU}(G:jv K mg A)(aR:Bool):bZ K (CG A aR) "day":=by cases aR; exact G.iZ; exact G.ng
def HF {A:dU}(G:jv K mg A)(aR:Bool):bZ K (CG A aR) "amount":=by cases aR; exact G.lD; exact G.nj
def MJ (A:dU)(H:Hp)(S:Bk)(aR:Bool)(ks:List Nat)(qs:List Addr):Prop:=Paired (fun(k:Nat) q=>en H q (CG A aR) (Ao aR k ((S.rows aR).getD k default))) ks qs
def pR (S:Bk)(aR:Bool)(day:Int)(k:Nat):Bool:=decide (((S.rows aR).getD k default).a<=day) && decide (0 < S.rest aR k day)
inductive rj (A:dU)(vs:List V)(H:Hp)(Q:VK)(E':XK):Prop
 |mk (pw pt:Addr)(S:Bk)(f:eJ)(n:Nat)(aR:Bool)(day:Int)(ks:List Nat)(qs:List Addr)(h1:vs=[.ref pw,.ref pt,.int (if aR=true then 1 else 0),.int day])(h2:dC A H pw S f)(h3:WF S n)(h4:S.made.length<=1000000)(h5:H pt=some (.lst (qs.map V.ref)))(h6:MJ A H S aR ks qs)(h7:ks.length<=100)(h8: ∀D ms H',aD H H'->H D=none->H' D=some (.lst ms)->iC H' ((ks.filter (pR S aR day)).map fun k=>(k,S.rest aR k day)) ms->Q (.ref D) H'):rj A vs H Q E'
def mz:aS ["work","told","place","day","counting","remaining","item","rest"] ["work","told","place","day"] (ay (top 38)):={}
def nN (T:Txt K mg){A:dU}(G:jv K mg A):eI P w K mg base "remaining_at" 4 ["work","told","place","day"] (rj A):=by
 have xE:eI P w K mg base "counting_at" 3 ["work","day"] (pW A):=xD T G;refine T.vx.eX (k:=3) mz (fun f cO A' outer s H vs Q E hr h=>?_)
 ·obtain⟨pw,pt,S,g,n,aR,day,ks,qs,rfl,hW,wf,hz,wB,hI,Fz,k⟩:=h;have nd:=mz.nd;have hlen:=aL hI;refine⟨_,(ah (sv 4 nd (fc xE hr (aa (pv 0) (aa (pv 3) av))))
(ah (sv 5 nd (bP av))
(ah (dW bw rfl (rH (pv 1)) (gn 6 nd)
(ah (sv 7 nd (aO eL (km (pv 6)) (eM (lu rfl) (by rfl) T.BU boot_sum (aa (gg (tn:=["setting"]) (cn:=["place","item"]) (cj:=[2,6]) rfl (Am (yk:=[(".0",.local),("setting",.local),("item",.cell),("place",.cell)])) (rH (pv 4)) (fun _ _ _ _=>(dQ (i:=0) (show(["setting","place","item"]:List Str).Nodup by decide +kernel) rfl (Or.inl rfl))) (fun _ _ _ _=>(mV (aV cH (i8 (lX (K:=K) rfl) (pv 0) (pv 1) (fun _ _=>rfl)) (fm (K:=K) rfl (pv 2) rfl) (aZ _)))) (fun _ _ _ _=>(i8 (lX (K:=K) rfl) (pv 0) ai (fun _ _=>rfl)))) av))))
(au (bN (PW.pt (pw_and (aV sO (km (pv 6)) (pv 3) (aZ _)) (pw_and1 (aV iK (pv 7) ai (aZ _)))))
(au (bK (oS (pv 5) (cD (aa (km (pv 6)) (aa (pv 7) av))))))
bb))))
(au (a0 (pv 5)))))),?_⟩
  refine⟨_,rfl,_,rfl,pw,S,g,n,day,rfl,hW,wf,hz,fun pc cs H1 s1 nc hc hT=>?_⟩;refine⟨bh _,fun pr nr=>?_⟩;have nr0:=s1.free nr;have sr:=aD.new (o:= .lst []) nr;refine⟨_,rfl,pt,rfl,⟨_,bA.of ((s1.trans sr) _ _ wB)⟩,?_⟩;refine fC (K:=K) (a:=pt) (xs:=qs.map V.ref) (fun i σ H2=> ∃(rs:List V) (x6 x7:Option V),σ=[some (.ref pw),some (.ref pt),some (.int (if aR=true then 1 else 0)),some (.int day),some (.ref pc),some (.ref pr),x6,x7]/\aD H1 H2/\H2 pr=some (.lst rs)/\iC H2 (((ks.take i).filter (pR S aR day)).map fun k=>(k,S.rest aR k day)) rs)
   ⟨[],none,none,rfl,sr,ag,.nil⟩ (fun i σ H2 _ ⟨_,_,_,_,s2,_⟩=>bA.of ((s1.trans s2) _ _ wB)) ?_ ?_
  ·rintro i x σ H2 hx ⟨rs,x6,x7,rfl,s2,yB,hP⟩;rw[aB] at hx;obtain⟨q,hq,rfl⟩:=bo.mp hx;have hi:i < ks.length:=by have:=(ak.mp hq).1; lia
   have oK:=af hi;obtain⟨q',sQ,lG⟩:=bI hI oK;rw[hq] at sQ;obtain rfl:q=q':=aF sQ;have kX:=fk (pR S aR day) oK;generalize ks[i]=kk at lG kX;have s02:=s1.trans s2;obtain⟨dq,A4⟩:=lG.same s02;have LZ:=s2 _ _ hc;have GL:=hT.mono s2.tk;have qL:=aL GL;have VO:=aX (fun t=>decide (S.fO t<=day)) S.made;have BC:rs.length<=100:=by
    have e1:=aL hP;have e2:=aX (pR S aR day) (ks.take i);rw[ae] at e1;rw[bf] at e2;lia
   refine⟨_,rfl,q,_,dq,_,_,rfl,A4,Ap G aR,HF G aR,HE aR _ _,_,rfl,pc,rfl,⟨_,bA.of LZ⟩,?_⟩;refine dJ (K:=K) (a:=pc) (xs:=cs) (fun D j σ H6=>H2 D=none/\ ∃v,σ=[v,some (.int (if aR=true then 1 else 0)),some (.ref q)]/\aD H2 H6/\H6 D=some (.lst (((((S.made.filter fun t=>decide (S.fO t<=day)).take j).filter fun t=>decide (spotOf aR t=kk)).map (·.2.2)).map V.int))) (fun D hD=>⟨hD,none,rfl,aD.new hD,ag⟩) (fun D j σ H6 _ ⟨_,_,_,t3,_⟩=>bA.of (t3 _ _ LZ)) ?_ ?_
   ·rintro D j x σ H6 FC ⟨hD,v,rfl,t3,f7⟩;have hj:j < (S.made.filter fun t=>decide (S.fO t<=day)).length:=by have:=(ak.mp FC).1; lia
    have TZ:=af hj;obtain⟨v',hv,p,rfl,hp⟩:=bI GL TZ;rw[FC] at hv;obtain rfl:x= .ref p:=aF hv;have Kd:=fk (fun t=>decide (spotOf aR t=kk)) TZ;generalize (S.made.filter fun t=>decide (S.fO t<=day))[j]=t at hp Kd;have hsz:((((S.made.filter fun t=>decide (S.fO t<=day)).take j).filter fun t=>decide (spotOf aR t=kk)).map (·.2.2)).length<=1000000:=by
     rw[ae];have e1:=aX (fun t=>decide (spotOf aR t=kk)) ((S.made.filter fun t=>decide (S.fO t<=day)).take j);rw[bf] at e1;lia
    have NK:=t3 _ _ hp;refine⟨_,rfl,_,rfl,p,_,_,_,rfl,rfl,cf.of NK,FJ aR t,_,rfl,q,_,dq,_,_,rfl,t3 _ _ A4,Ap G aR,yI G aR,yH aR _ _,rfl,_,rfl,ck (fun z=>?_) (fun z=>?_)⟩
    ·have z':spotOf aR t=kk:=by
      have:=aN z;injection this with this;lia
     rw[a8 (aG z')] at Kd;refine⟨_,rfl,p,_,_,.int t.2.2,rfl,rfl,cf.of NK,rfl,_,f7,iY (by rw[ae]; exact hsz),hD,_,rfl,t3.cG hD,?_⟩;rw[ag,Kd,aK,aK];rfl
    ·have z': ¬ spotOf aR t=kk:=fun e=>z (aG (by rw[e]));rw[aU (by rw[bp z']; exact aW),bR] at Kd;refine⟨hD,_,rfl,t3,?_⟩;rw[Kd];exact f7
   ·rintro D σ H6 hD ⟨_,v,rfl,t3,f7⟩;rw[← qL,a7,qh] at f7;refine⟨D,_,rfl,bA.of f7,_,_,rfl,rfl,?_⟩;have Fq:sX aR ((S.rows aR).getD kk default) - ((S.made.filter fun t=>decide (spotOf aR t=kk) && decide (S.fO t<=day)).map (·.2.2)).sum=S.rest aR kk day:=rfl;have NL:=t3 _ _ yB;have Rf:=hP.mono t3.tk;have s6:=s2.trans t3;have no:pR S aR day kk=false-> ∃(rs:List V) (x6 x7:Option V),[some (V.ref pw),some (.ref pt),some (.int (if aR=true then 1 else 0)),some (.int day),some (.ref pc),some (.ref pr),some (.ref q),some (.int (S.rest aR kk day))]=[some (.ref pw),some (.ref pt),some (.int (if aR=true then 1 else 0)),some (.int day),some (.ref pc),some (.ref pr),x6,x7]/\aD H1 H6/\H6 pr=some (.lst rs)/\iC H6 (((ks.take (i + 1)).filter (pR S aR day)).map fun k=>(k,S.rest aR k day)) rs:=fun z=>by
     rw[aU (by rw[z]; exact aW),bR] at kX;exact⟨rs,some (.ref q),some (.int (S.rest aR kk day)),rfl,s6,NL,by rw[kX]; exact Rf⟩
    refine⟨_,rfl,q,_,dq,_,_,rfl,t3 _ _ A4,Ap G aR,PQ G aR,PN aR _ _,_,rfl,_,_,rfl,rfl,_,rfl,ck (fun z1=>?_) (fun z1=>bT (no ?_))⟩
    ·refine⟨_,rfl,_,_,rfl,rfl,_,rfl,ck (fun z2=>?_) (fun z2=>no ?_)⟩
     ·have yes:pR S aR day kk=true:=by
       unfold pR;rw[aG (aN z1),aG (show 0 < S.rest aR kk day from aN z2)]; rfl
      rw[a8 yes] at kX;refine⟨_,rfl,.inl ⟨rfl,_,bA.of NL⟩,_,rfl,q,_,dq,_,_,rfl,t3 _ _ A4,Ap G aR,yI G aR,yH aR _ _,_,rfl,(by show 2<=sizeLine; decide),fun p8 n8=>?_⟩;have t8:=aD.new (o:= .tup [V.int (kk:Int),.int (S.rest aR kk day)]) n8;refine⟨pr,rs,_,rfl,rfl,t8 _ _ NL,a9 (by lia),rs ++ [.ref p8],some (.ref q),some (.int (S.rest aR kk day)),rfl,(s6.trans t8).cG nr,ag,?_⟩;rw[kX,aK];have tk:=t8.tk.trans (dN (o:= .lst (rs ++ [.ref p8])) (t8 _ _ NL));have fin:iC (upd (upd H6 p8 (.tup [V.int (kk:Int),.int (S.rest aR kk day)])) pr (.lst (rs ++ [.ref p8]))) ((((ks.take i).filter (pR S aR day)).map fun k=>(k,S.rest aR k day)) ++ [(kk,S.rest aR kk day)]) (rs ++ [.ref p8]):=cy (Rf.mono tk) ⟨p8,rfl,dN (o:= .lst (rs ++ [.ref p8])) (t8 _ _ NL) _ _ ag⟩;exact fin
     ·unfold pR;rw[bp (show ¬ 0 < S.rest aR kk day from fun e=>z2 (aG e)),lN]
    ·unfold pR;rw[bp (fun e=>z1 (aG e)),qo]
  ·rintro σ H2 ⟨rs,x6,x7,rfl,s2,yB,hP⟩;rw[ae,← hlen,a7] at hP;exact⟨_,rfl,k pr rs H2 (s1.trans s2) nr0 yB hP⟩
structure qm (K:Frag)(mg:Str->Option Value)(x:Str)(st:Stmt)(tb:Addr):Prop where
 ex: ∃(f c:Addr) (oc:Value) (od:Option Addr) (kV doc pm:Value) (an:Option Addr) (ct:Value) (Gx:Array (Option Value)),K.lookup f=some ⟨oc,od,.func (fnOf x x (gz st) (dz st) (ay st) .none kV doc pm an (.ref c) ct),Gx⟩/\codeIn K (.ref c) x=true/\
  keepIn K (.ref f)=true/\mg x=some (.ref f)/\codeHdIn K c tb=true
def qm.eX {x:Str}{st:Stmt}{tb:Addr}{N ps:List Str}{k:Nat}{sp:Sp}(D:qm K mg x st tb)(KB:K.In base)(S:aS N ps (ay st))
  (fS: ∀(f c:Addr) (A:Around) (outer:List Env) (s:Shared) (H:Hp) (vs:List V) (Q:VK) (E:XK),PySem.W.CodeHd base c tb->eW k (A.deeper (envOfC x (ay st) s.heap.objs.size f (.ref c)))->sp vs H Q E->
   ∃t,oO (kK rZ P w K mg base N x (ay st) f (.ref c) A outer s H E).Dr (dz st) t/\t {nx:=fun _ H'=>Q .eh H',rt:=Q} (L2.start N vs) H)
  (hb: ∀(kV doc pm:Value) (an:Option Addr) (cO ct:Value) (us:List Value),us.length=ps.length->bindArgs (fnOf x x (gz st) (dz st) (ay st) .none kV doc pm an cO ct) ⟨us,[]⟩=pure (ps.zip us):=by intro _ _ _ _ _ _ us hl; rcases us with _|⟨_,_|⟨_,_|⟨_,_⟩⟩⟩ <;> first|(cases hl; done)|rfl)
  (len: ∀vs H Q E,sp vs H Q E->vs.length=ps.length:=by intro _ _ _ _ h; first|(cases h; subst_vars; rfl)|(repeat (first|(obtain⟨rfl,_⟩:=h; rfl; done)|obtain⟨_,h⟩:=h))):eI P w K mg base x (k + 1) ps sp:=by
 obtain⟨f,c,oc,od,kV,doc,pm,an,ct,Gx,lk,rE,hk,hm,hh⟩:=D.ex;have F:gf K x x st f _:=pH lk rE hk;refine⟨f,_,IV lk rE S len fun A outer s H vs Q E hr y1=>?_,hm,hk,F.binds hb⟩;obtain⟨t,h,q⟩:=fS f c A outer s H vs Q E (PySem.W.codeHd_of_K KB hh) hr y1;exact⟨t,h.Dr,q⟩
def rm {th:List (Int×Nat)}{i:Nat}(h:i < th.length):(th.map Fy).getD i []=Fy (th.getD i (0,0)):=getD_map Fy th i (0,0) [] h
def vW {th:List (Int×Nat)}{p:List Nat}(h1: ∀x∈th,x.2 < 1000)(nd:(th.map (·.2)).Nodup)(hp:p.Perm (List.range th.length))(le:p.Pairwise (fun i j=>tW ((th.map Fy).getD i [])<=tW ((th.map Fy).getD j []))):p.map (fun i=>th.getD i (0,0))=ej th:=by
 have hr:(List.range th.length).map (fun i=>th.getD i (0,0))=th:=yo th (0,0);refine m9 tT _ _ ((hp.map _).trans ((List.Perm.of_eq hr).trans (c9 th).symm)) ?_ (BX h1 nd);rw[rN];refine le.imp_of_mem fun{a b} ha hb z=>?_;have la:a < th.length:=dh.mp (hp.mem_iff.mp ha);have lb:b < th.length:=dh.mp (hp.mem_iff.mp hb);rw[rm la,rm lb] at z;exact z
def nO {α β:Type}{F:α->β->Prop}{l₁:List α}{l₂:List β}(h:Paired F l₁ l₂)(d:α)(e:β): ∀p:List Nat,(∀i∈p,i < l₁.length)->Paired F (p.map fun i=>l₁.getD i d) (p.map fun i=>l₂.getD i e)
 |[],_=> .nil
 |i :: p,hi=>by
  have hl:=hi i bJ;obtain⟨b,e1,e2⟩:=bI h (af hl);refine .cons ?_ (nO h d e p fun j hj=>hi j (ba _ hj));show F (l₁.getD i d) (l₂.getD i e);rw[aj,aj,af hl,e1];exact e2
def bM {H H':Hp}{tb:Addr}{pos:Pos}{qual:Str}(t:Tb H tb pos qual)(s:aD H H'):Tb H' tb pos qual:=by
 obtain⟨ps,h1,h2,h3⟩:=t;refine⟨ps,s _ _ h1,h2,?_⟩;rcases h3 with h3|⟨c',h3,h4⟩
 ·exact .inl h3
 ·exact .inr ⟨c',h3,s _ _ h4⟩
def vX {H:Hp}{tb q C:Addr}{pos:Pos}{qual:Str}{fs:List (Str×V)}(t:Tb H tb pos qual)(h:en H q C fs):q∉[tb]:=fun z=>by
 obtain⟨ps,h1,_⟩:=t;obtain⟨dx,e⟩:=h;rw[ao.mp z,h1] at e;cases e
def PR:Pos:=⟨69,30,69,66⟩
def eZ (rows:List Rw)(aH:Str)(i:Nat):List Nat:=(List.range i).filter fun k=>decide ((rows.getD k default).aH=aH)
inductive uy (A:dU)(tb:Addr)(vs:List V)(H:Hp)(Q:VK)(E':XK):Prop
 |mk (pb:Addr)(ix:List Addr)(S:Bk)(aH:Str)(h1:vs=[.ref pb,.str aH])(h2:H pb=some (.lst (ix.map V.ref)))(h3:gp H A.dR fv S.aI ix)(h4:S.aI.length < 64)(h5:Tb H tb PR ((("bills_in_order":Str) ++ ".<locals>.") ++ "<lambda>"))(h6: ∀D qs H',Frame [tb] H H'->Tb H' tb PR ((("bills_in_order":Str) ++ ".<locals>.") ++ "<lambda>")->H D=none->H' D=some (.lst (qs.map V.ref))->iB A H' S (inOrder S.aI aH (·.b)) qs->Q (.ref D) H'):uy A tb vs H Q E'
def kG:aS ["bills","who","theirs"] ["bills","who"] (ay (top 17)):={}
def lH (T:Txt K mg){A:dU}{tb:Addr}(G:jv K mg A)(DL:qm K mg "bills_in_order" (top 17) tb)(KB:K.In base)(BM:BMain mg base):eI P w K mg base "bills_in_order" 2 ["bills","who"] (uy A tb):=by
 refine DL.eX (k:=1) KB kG (fun f c A' outer s H vs Q E CH hr h=>?_)
 ·obtain⟨pb,ix,S,aH,rfl,T2,hO,hl,Yc,k⟩:=h;have nd:=kG.nd;refine⟨_,(ah (jH (i:=2) nd rfl (Or.inl rfl) (tn:=["bill"]) (cn:=["who"]) (cj:=[1]) rfl (gR (yk:=[(".0",.local),("bill",.local),("who",.cell)])) (rH (pv 0)) (fun _ _ _ _=>(dQ (i:=0) (show(["bill","who"]:List Str).Nodup by decide +kernel) rfl (Or.inl rfl))) (fun _ _ _ _=>(mV (aV cH (fm (K:=K) rfl (pv 0) rfl) (pv 1) (aZ _)))) (fun _ _ _ _=>(pv 0)))
(au (a0 (vt (N:=["bill"]) (y:="bill") rfl T.qM BM rfl CH (hr.mono (by decide)) {} (fun _ _ _ _ _=>(cD (aa (fm (K:=K) rfl (pv 0) rfl) (aa (fm (K:=K) rfl (pv 0) rfl) av)))) (pv 2))))),?_⟩
  refine⟨_,rfl,pb,rfl,⟨_,bA.of T2⟩,?_⟩;refine dJ (K:=K) (a:=pb) (xs:=ix.map V.ref) (fun D i σ H6=>H D=none/\ ∃(v:Option V) (qs:List Addr),σ=[v,some (.str aH)]/\aD H H6/\H6 D=some (.lst (qs.map V.ref))/\iB A H6 S (eZ S.aI aH i) qs) (fun D hD=>⟨hD,none,[],rfl,aD.new hD,ag,.nil⟩) (fun D i σ H6 _ ⟨_,_,_,_,t3,_⟩=>bA.of (t3 _ _ T2)) ?_ ?_
  ·rintro D i x σ H6 hx ⟨hD,v,qs,rfl,t3,f7,hB⟩;rw[aB] at hx;obtain⟨q,hq,rfl⟩:=bo.mp hx;have hi:i < S.aI.length:=by have:=(ak.mp hq).1; have:=hO.1; lia
   obtain⟨dq,A4⟩:=(hO.2 i q hq).same t3;have Yd:qs.length<=100:=by
    have e1:=aL hB;have e2:(eZ S.aI aH i).length<=i:=aY (aX _ _) (by rw[dj]; exact aE _);lia
   have rn:eZ S.aI aH (i + 1)=eZ S.aI aH i ++ (if decide ((S.aI.getD i default).aH=aH)=true then[i] else[]):=by
    unfold eZ;rw[oy,kg]
    congr 1
    by_cases z:decide ((S.aI.getD i default).aH=aH)=true
    ·rw[a8 z,cu (p:=fun k=>decide ((S.aI.getD k default).aH=aH)) z]; rfl
    ·rw[aU z,gN (p:=fun k=>decide ((S.aI.getD k default).aH=aH)) z]; rfl
   refine⟨_,rfl,q,_,dq,_,_,rfl,A4,G.dY,G.kB,DZ _ _,_,rfl,rfl,_,rfl,ck (fun z=>?_) (fun z=>?_)⟩
   ·rw[a8 (aG (uq z))] at rn;refine⟨_,rfl,_,f7,a9 (by rw[ae]; lia),hD,_,qs ++ [q],rfl,t3.cG hD,by rw[ag,aK]; rfl,?_⟩;rw[rn];have kp: ∀{y C:Addr} {gs:List (Str×V)},en H6 y C gs->en (upd H6 D (.lst (qs.map V.ref ++ [V.ref q]))) y C gs:=fun{y C gs} ⟨dy,ey⟩=>⟨dy,by rw[az (mr ey f7 (by intro w; cases w))]; exact ey⟩;exact cy (Paired.gI hB fun _ _ w=>kp w) (kp ⟨dq,A4⟩)
   ·rw[aU (by rw[bp (q0 z)]; exact aW),bR] at rn;refine⟨hD,_,qs,rfl,t3,f7,?_⟩;rw[rn];exact hB
  ·rintro D σ H6 hD ⟨_,v,qs,rfl,t3,f7,hB⟩;have ME:(ix.map V.ref).length=S.aI.length:=by rw[ae]; exact hO.1
   rw[ME] at hB;have HG:=bM Yc t3;have hth:gi S.aI aH (·.b)=(eZ S.aI aH S.aI.length).map fun k=>((S.bl k).b,k):=rfl;have Fz: ∀x∈eZ S.aI aH S.aI.length,x < S.aI.length:=fun x hx=>dh.mp (eU.mp hx).1;have Mh:(eZ S.aI aH S.aI.length).Nodup:=mD.filter _;have Ye:(eZ S.aI aH S.aI.length).length<=S.aI.length:=aY (aX _ _) (by rw[dj]; exact aE _);have jO:inOrder S.aI aH (·.b)=(ej ((eZ S.aI aH S.aI.length).map fun k=>((S.bl k).b,k))).map (·.2):=rfl;generalize eZ S.aI aH S.aI.length=ks at hB Fz Mh Ye jO;have Yf:=aL hB;have Ke:((ks.map fun k=>((S.bl k).b,k)):List (Int×Nat)).length=ks.length:=ae _;have rq: ∀x∈(ks.map fun k=>((S.bl k).b,k)),x.2 < 1000:=fun x hx=>by
    obtain⟨k0,QV,rfl⟩:=bF.mp hx;have:=Fz k0 QV;show k0 < 1000;lia
   have hnd:((ks.map fun k=>((S.bl k).b,k)).map (·.2)).Nodup:=by
    rw[eu];have e:((fun x:Int×Nat=>x.2) ∘ fun k=>((S.bl k).b,k))=id:=rfl;rw[e,A8];exact Mh
   have xF: ∀i,i < ks.length->(ks.map fun k=>((S.bl k).b,k)).getD i (0,0)=((S.bl (ks.getD i 0)).b,ks.getD i 0):=fun i hi=>getD_map (fun k=>((S.bl k).b,k)) ks i 0 (0,0) hi;generalize Yg:(ks.map fun k=>((S.bl k).b,k))=th at Ke rq hnd xF jO;refine⟨_,rfl,D,qs.map V.ref,th.map Fy,tW,rfl,bA.of f7,by rw[ae]; lia,by rw[ae,ae]; lia,HG,(fun t ht=>?_),(fun t ht u hu=>?_),fun i hi H2 fr R hR=>?_,fun D2 p H2 hp le fr GL Iu Hy=>?_⟩
   ·obtain⟨x,_,rfl⟩:=bF.mp ht;simp[Fy]
   ·obtain⟨x,yp,rfl⟩:=bF.mp ht;obtain⟨y,Ae,rfl⟩:=bF.mp hu;exact qN (rq x yp) (rq y Ae) (fun e=>⟨rfl,lF hnd yp Ae e⟩) rfl
   ·rw[ae] at hi;have wR:i < ks.length:=by lia
    obtain⟨q,e1,e2⟩:=bI hB (af wR);have Yh:(qs.map V.ref).getD i .eh= .ref q:=by rw[aj,aB,e1]; rfl
    have Yi:ks.getD i 0=ks[i]:=by rw[aj,af wR]; rfl
    obtain⟨dq,A4⟩:=e2.frame fr (vX HG e2);rw[rm (by lia),xF i wR,Yi] at hR;rw[Yh];exact⟨_,rfl,q,_,dq,_,_,rfl,A4,G.dY,G.ni,JN _ _,_,rfl,q,_,dq,_,_,rfl,A4,G.dY,G.eQ,lz _ _,(by show 2<=sizeLine; decide),fun p np=>hR p np⟩
   ·rw[ae] at hp;have gw: ∀i∈p,i < ks.length:=fun i hi=>by have:=dh.mp (hp.mem_iff.mp hi); lia
    have PU:=vW rq hnd (by rw[Ke,Yf]; exact hp) le;have Lg:iB A H2 S ks qs:=Paired.gI hB fun _ _ w=>w.frame fr (vX HG w);refine k D2 (p.map fun i=>qs.getD i tb) H2 ((t3.frame).tr fr) GL (t3.free Iu) ?_ ?_
    ·rw[Hy,eu]
     congr 2
     apply gK;intro i hi;exact getD_map V.ref qs i tb .eh (by have:=gw i hi; lia)
    ·rw[jO,← PU,eu];have e:p.map ((fun x:Int×Nat=>x.2) ∘ fun i=>th.getD i (0,0))=p.map fun i=>ks.getD i 0:=gK fun i hi=>by
      show(th.getD i (0,0)).2=_;rw[xF i (gw i hi)]
     rw[e];exact nO Lg 0 tb p gw
def PV:Pos:=⟨72,30,72,72⟩
inductive uz (A:dU)(tb:Addr)(vs:List V)(H:Hp)(Q:VK)(E':XK):Prop
 |mk (pb:Addr)(ix:List Addr)(S:Bk)(aH:Str)(h1:vs=[.ref pb,.str aH])(h2:H pb=some (.lst (ix.map V.ref)))(h3:gp H A.dX eY S.credits ix)(h4:S.credits.length < 64)(h5:Tb H tb PV ((("credits_in_order":Str) ++ ".<locals>.") ++ "<lambda>"))(h6: ∀D qs H',Frame [tb] H H'->Tb H' tb PV ((("credits_in_order":Str) ++ ".<locals>.") ++ "<lambda>")->H D=none->H' D=some (.lst (qs.map V.ref))->gF A H' S (inOrder S.credits aH (·.a)) qs->Q (.ref D) H'):uz A tb vs H Q E'
def jr:aS ["all_credits","who","theirs"] ["all_credits","who"] (ay (top 18)):={}
def jW (T:Txt K mg){A:dU}{tb:Addr}(G:jv K mg A)(DL:qm K mg "credits_in_order" (top 18) tb)(KB:K.In base)(BM:BMain mg base):eI P w K mg base "credits_in_order" 2 ["all_credits","who"] (uz A tb):=by
 refine DL.eX (k:=1) KB jr (fun f c A' outer s H vs Q E CH hr h=>?_)
 ·obtain⟨pb,ix,S,aH,rfl,T2,hO,hl,Yc,k⟩:=h;have nd:=jr.nd;refine⟨_,(ah (jH (i:=2) nd rfl (Or.inl rfl) (tn:=["credit"]) (cn:=["who"]) (cj:=[1]) rfl (gR (yk:=[(".0",.local),("credit",.local),("who",.cell)])) (rH (pv 0)) (fun _ _ _ _=>(dQ (i:=0) (show(["credit","who"]:List Str).Nodup by decide +kernel) rfl (Or.inl rfl))) (fun _ _ _ _=>(mV (aV cH (fm (K:=K) rfl (pv 0) rfl) (pv 1) (aZ _)))) (fun _ _ _ _=>(pv 0)))
(au (a0 (vt (N:=["credit"]) (y:="credit") rfl T.qM BM rfl CH (hr.mono (by decide)) {} (fun _ _ _ _ _=>(cD (aa (fm (K:=K) rfl (pv 0) rfl) (aa (fm (K:=K) rfl (pv 0) rfl) av)))) (pv 2))))),?_⟩
  refine⟨_,rfl,pb,rfl,⟨_,bA.of T2⟩,?_⟩;refine dJ (K:=K) (a:=pb) (xs:=ix.map V.ref) (fun D i σ H6=>H D=none/\ ∃(v:Option V) (qs:List Addr),σ=[v,some (.str aH)]/\aD H H6/\H6 D=some (.lst (qs.map V.ref))/\gF A H6 S (eZ S.credits aH i) qs) (fun D hD=>⟨hD,none,[],rfl,aD.new hD,ag,.nil⟩) (fun D i σ H6 _ ⟨_,_,_,_,t3,_⟩=>bA.of (t3 _ _ T2)) ?_ ?_
  ·rintro D i x σ H6 hx ⟨hD,v,qs,rfl,t3,f7,hB⟩;rw[aB] at hx;obtain⟨q,hq,rfl⟩:=bo.mp hx;have hi:i < S.credits.length:=by have:=(ak.mp hq).1; have:=hO.1; lia
   obtain⟨dq,A4⟩:=(hO.2 i q hq).same t3;have Yd:qs.length<=100:=by
    have e1:=aL hB;have e2:(eZ S.credits aH i).length<=i:=aY (aX _ _) (by rw[dj]; exact aE _);lia
   have rn:eZ S.credits aH (i + 1)=eZ S.credits aH i ++ (if decide ((S.credits.getD i default).aH=aH)=true then[i] else[]):=by
    unfold eZ;rw[oy,kg]
    congr 1
    by_cases z:decide ((S.credits.getD i default).aH=aH)=true
    ·rw[a8 z,cu (p:=fun k=>decide ((S.credits.getD k default).aH=aH)) z]; rfl
    ·rw[aU z,gN (p:=fun k=>decide ((S.credits.getD k default).aH=aH)) z]; rfl
   refine⟨_,rfl,q,_,dq,_,_,rfl,A4,G.de,G.kP,JO _ _,_,rfl,rfl,_,rfl,ck (fun z=>?_) (fun z=>?_)⟩
   ·rw[a8 (aG (uq z))] at rn;refine⟨_,rfl,_,f7,a9 (by rw[ae]; lia),hD,_,qs ++ [q],rfl,t3.cG hD,by rw[ag,aK]; rfl,?_⟩;rw[rn];have kp: ∀{y C:Addr} {gs:List (Str×V)},en H6 y C gs->en (upd H6 D (.lst (qs.map V.ref ++ [V.ref q]))) y C gs:=fun{y C gs} ⟨dy,ey⟩=>⟨dy,by rw[az (mr ey f7 (by intro w; cases w))]; exact ey⟩;exact cy (Paired.gI hB fun _ _ w=>kp w) (kp ⟨dq,A4⟩)
   ·rw[aU (by rw[bp (q0 z)]; exact aW),bR] at rn;refine⟨hD,_,qs,rfl,t3,f7,?_⟩;rw[rn];exact hB
  ·rintro D σ H6 hD ⟨_,v,qs,rfl,t3,f7,hB⟩;have ME:(ix.map V.ref).length=S.credits.length:=by rw[ae]; exact hO.1
   rw[ME] at hB;have HG:=bM Yc t3;have hth:gi S.credits aH (·.a)=(eZ S.credits aH S.credits.length).map fun k=>((S.cr k).a,k):=rfl;have Fz: ∀x∈eZ S.credits aH S.credits.length,x < S.credits.length:=fun x hx=>dh.mp (eU.mp hx).1;have Mh:(eZ S.credits aH S.credits.length).Nodup:=mD.filter _;have Ye:(eZ S.credits aH S.credits.length).length<=S.credits.length:=aY (aX _ _) (by rw[dj]; exact aE _);have jO:inOrder S.credits aH (·.a)=(ej ((eZ S.credits aH S.credits.length).map fun k=>((S.cr k).a,k))).map (·.2):=rfl;generalize eZ S.credits aH S.credits.length=ks at hB Fz Mh Ye jO;have Yf:=aL hB;have Ke:((ks.map fun k=>((S.cr k).a,k)):List (Int×Nat)).length=ks.length:=ae _;have rq: ∀x∈(ks.map fun k=>((S.cr k).a,k)),x.2 < 1000:=fun x hx=>by
    obtain⟨k0,QV,rfl⟩:=bF.mp hx;have:=Fz k0 QV;show k0 < 1000;lia
   have hnd:((ks.map fun k=>((S.cr k).a,k)).map (·.2)).Nodup:=by
    rw[eu];have e:((fun x:Int×Nat=>x.2) ∘ fun k=>((S.cr k).a,k))=id:=rfl;rw[e,A8];exact Mh
   have xF: ∀i,i < ks.length->(ks.map fun k=>((S.cr k).a,k)).getD i (0,0)=((S.cr (ks.getD i 0)).a,ks.getD i 0):=fun i hi=>getD_map (fun k=>((S.cr k).a,k)) ks i 0 (0,0) hi;generalize Yg:(ks.map fun k=>((S.cr k).a,k))=th at Ke rq hnd xF jO;refine⟨_,rfl,D,qs.map V.ref,th.map Fy,tW,rfl,bA.of f7,by rw[ae]; lia,by rw[ae,ae]; lia,HG,(fun t ht=>?_),(fun t ht u hu=>?_),fun i hi H2 fr R hR=>?_,fun D2 p H2 hp le fr GL Iu Hy=>?_⟩
   ·obtain⟨x,_,rfl⟩:=bF.mp ht;simp[Fy]
   ·obtain⟨x,yp,rfl⟩:=bF.mp ht;obtain⟨y,Ae,rfl⟩:=bF.mp hu;exact qN (rq x yp) (rq y Ae) (fun e=>⟨rfl,lF hnd yp Ae e⟩) rfl
   ·rw[ae] at hi;have wR:i < ks.length:=by lia
    obtain⟨q,e1,e2⟩:=bI hB (af wR);have Yh:(qs.map V.ref).getD i .eh= .ref q:=by rw[aj,aB,e1]; rfl
    have Yi:ks.getD i 0=ks[i]:=by rw[aj,af wR]; rfl
    obtain⟨dq,A4⟩:=e2.frame fr (vX HG e2);rw[rm (by lia),xF i wR,Yi] at hR;rw[Yh];exact⟨_,rfl,q,_,dq,_,_,rfl,A4,G.de,G.iZ,JP _ _,_,rfl,q,_,dq,_,_,rfl,A4,G.de,G.eK,oh _ _,(by show 2<=sizeLine; decide),fun p np=>hR p np⟩
   ·rw[ae] at hp;have gw: ∀i∈p,i < ks.length:=fun i hi=>by have:=dh.mp (hp.mem_iff.mp hi); lia
    have PU:=vW rq hnd (by rw[Ke,Yf]; exact hp) le;have Lg:gF A H2 S ks qs:=Paired.gI hB fun _ _ w=>w.frame fr (vX HG w);refine k D2 (p.map fun i=>qs.getD i tb) H2 ((t3.frame).tr fr) GL (t3.free Iu) ?_ ?_
    ·rw[Hy,eu]
     congr 2
     apply gK;intro i hi;exact getD_map V.ref qs i tb .eh (by have:=gw i hi; lia)
    ·rw[jO,← PU,eu];have e:p.map ((fun x:Int×Nat=>x.2) ∘ fun i=>th.getD i (0,0))=p.map fun i=>ks.getD i 0:=gK fun i hi=>by
      show(th.getD i (0,0)).2=_;rw[xF i (gw i hi)]
     rw[e];exact nO Lg 0 tb p gw
def vY {A:dU}{H H':Hp}{pw tb:Addr}{S:Bk}{f:eJ}(h:dC A H pw S f)(ht: ∃ps,H tb=some (.mL ps))(fr:Frame [tb] H H'):dC A H' pw S f:=by
 obtain⟨ps,ht⟩:=ht;have kl: ∀{a:Addr} {xs:List V},H a=some (.lst xs)->H' a=some (.lst xs):=fun{a xs} e=>fr _ _ (fun z=>by rw[ao.mp z,ht] at e; cases e) e;have ki: ∀{a C dx:Addr} {gs:List (Str×V)},H a=some (.ins C dx gs)->H' a=some (.ins C dx gs):=fun{a C dx gs} e=>fr _ _ (fun z=>by rw[ao.mp z,ht] at e; cases e) e;have kt:cF H H':=fun a xs e=>fr _ _ (fun z=>by rw[ao.mp z,ht] at e; cases e) e;obtain⟨dw,hw⟩:=h.obj;obtain⟨ms,m1,m2⟩:=h.hm;exact⟨⟨dw,ki hw⟩,kl h.hb,kl h.hc,kl h.hl,kl h.hf,⟨ms,kl m1,m2.mono kt⟩,h.rb.keep fun _ _ _ e=>ki e,h.rc.keep fun _ _ _ e=>ki e,h.nd⟩
def lI (H:Hp)(tb:Addr):Prop:=Tb H tb PR ((("bills_in_order":Str) ++ ".<locals>.") ++ "<lambda>")
def mi (H:Hp)(tb:Addr):Prop:=Tb H tb PV ((("credits_in_order":Str) ++ ".<locals>.") ++ "<lambda>")
inductive Aq (A:dU)(tb:Addr)(vs:List V)(H:Hp)(Q:VK)(E':XK):Prop
 |mk (pw:Addr)(S:Bk)(f:eJ)(n:Nat)(aH:Str)(day:Int)(h1:vs=[.ref pw,.str aH,.int day])(h2:dC A H pw S f)(h3:WF S n)(h4:n<=60)(h5:lI H tb)(h6: ∀D ms H',Frame [tb] H H'->lI H' tb->H D=none->H' D=some (.lst ms)->iC H' (S.fj true aH day) ms->Q (.ref D) H'):Aq A tb vs H Q E'
inductive Ei (A:dU)(tb:Addr)(vs:List V)(H:Hp)(Q:VK)(E':XK):Prop
 |mk (pw:Addr)(S:Bk)(f:eJ)(n:Nat)(aH:Str)(day:Int)(h1:vs=[.ref pw,.str aH,.int day])(h2:dC A H pw S f)(h3:WF S n)(h4:n<=60)(h5:mi H tb)(h6: ∀D ms H',Frame [tb] H H'->mi H' tb->H D=none->H' D=some (.lst ms)->iC H' (S.fj false aH day) ms->Q (.ref D) H'):Ei A tb vs H Q E'
def Ej:aS ["work","who","day"] ["work","who","day"] (ay (top 36)):={}
def yJ (T:Txt K mg){A:dU}{tb:Addr}(G:jv K mg A)(DL:qm K mg "bills_in_order" (top 17) tb)(KB:K.In base)(BM:BMain mg base):eI P w K mg base "owed_at" 5 ["work","who","day"] (Aq A tb):=by
 have iV:eI P w K mg base "bills_in_order" 2 ["bills","who"] (uy A tb):=lH T G DL KB BM;have jX:eI P w K mg base "remaining_at" 4 ["work","told","place","day"] (rj A):=nN T G;refine T.G8.eX (k:=4) Ej (fun f cO A' outer s H vs Q E hr h=>?_)
 ·obtain⟨pw,S,g,n,aH,day,rfl,hW,wf,hn,hT,k⟩:=h;obtain⟨dw,hw⟩:=hW.obj;refine⟨_,(au (a0 (fc jX hr (aa (pv 0) (aa (fc iV hr (aa (km (pv 0)) (aa (pv 1) av))) (aa ai (aa (pv 2) av))))))),?_⟩;refine⟨_,rfl,_,rfl,pw,_,dw,_,_,rfl,hw,G.bH,G.dS,jc g,_,rfl,g.pb,g.ix,S,aH,rfl,hW.hb,hW.rb,(by have:=wf.lb; lia),hT,fun D qs H1 fr Iv nD hD hB=>?_⟩;have Dh:=vY hW (let⟨ps,e,_⟩:=hT; ⟨ps,e⟩) fr;have MK:(inOrder S.aI aH (·.b)).length<=100:=by
   have e:(inOrder S.aI aH (·.b)).length=((List.range S.aI.length).filter fun k=>decide ((S.aI.getD k default).aH=aH)).length:=by
    unfold inOrder gi;rw[ae,(c9 _).length_eq,ae]
   have:=aX (fun k=>decide ((S.aI.getD k default).aH=aH)) (List.range S.aI.length);rw[dj] at this;have:=wf.lb;lia
  refine⟨_,rfl,pw,D,S,g,n,true,day,inOrder S.aI aH (·.b),qs,rfl,Dh,wf,(by have:=wf.lm; lia),hD,hB,MK,fun D2 ms H2 s2 Iu Hy hP=>?_⟩;exact k D2 ms H2 (fr.cU s2) (bM Iv s2) (fr.free (fun z=>by
   obtain⟨ps,e,_⟩:=Iv;rw[ao.mp z,e] at Iu;cases Iu) Iu) Hy hP
def Ek:aS ["work","who","day"] ["work","who","day"] (ay (top 37)):={}
def HI (T:Txt K mg){A:dU}{tb:Addr}(G:jv K mg A)(DL:qm K mg "credits_in_order" (top 18) tb)(KB:K.In base)(BM:BMain mg base):eI P w K mg base "free_at" 5 ["work","who","day"] (Ei A tb):=by
 have gY:eI P w K mg base "credits_in_order" 2 ["all_credits","who"] (uz A tb):=jW T G DL KB BM;have jX:eI P w K mg base "remaining_at" 4 ["work","told","place","day"] (rj A):=nN T G;refine T.G9.eX (k:=4) Ek (fun f cO A' outer s H vs Q E hr h=>?_)
 ·obtain⟨pw,S,g,n,aH,day,rfl,hW,wf,hn,hT,k⟩:=h;obtain⟨dw,hw⟩:=hW.obj;refine⟨_,(au (a0 (fc jX hr (aa (pv 0) (aa (fc gY hr (aa (km (pv 0)) (aa (pv 1) av))) (aa ai (aa (pv 2) av))))))),?_⟩;refine⟨_,rfl,_,rfl,pw,_,dw,_,_,rfl,hw,G.bH,G.cB,gX g,_,rfl,g.pc,g.cps,S,aH,rfl,hW.hc,hW.rc,(by have:=wf.lc; lia),hT,fun D qs H1 fr Iv nD hD hB=>?_⟩;have Dh:=vY hW (let⟨ps,e,_⟩:=hT; ⟨ps,e⟩) fr;have MK:(inOrder S.credits aH (·.a)).length<=100:=by
   have e:(inOrder S.credits aH (·.a)).length=((List.range S.credits.length).filter fun k=>decide ((S.credits.getD k default).aH=aH)).length:=by
    unfold inOrder gi;rw[ae,(c9 _).length_eq,ae]
   have:=aX (fun k=>decide ((S.credits.getD k default).aH=aH)) (List.range S.credits.length);rw[dj] at this;have:=wf.lc;lia
  refine⟨_,rfl,pw,D,S,g,n,false,day,inOrder S.credits aH (·.a),qs,rfl,Dh,wf,(by have:=wf.lm; lia),hD,hB,MK,fun D2 ms H2 s2 Iu Hy hP=>?_⟩;exact k D2 ms H2 (fr.cU s2) (bM Iv s2) (fr.free (fun z=>by
   obtain⟨ps,e,_⟩:=Iv;rw[ao.mp z,e] at Iu;cases Iu) Iu) Hy hP
inductive Ar (vs:List V)(H:Hp)(Q:VK)(E':XK):Prop
 |mk (fO:Int)(pl:Addr)(bO:List Int)(h1:vs=[.int fO,.ref pl])(h2:H pl=some (.tup (bO.map V.int)))(h3:bO.length<=11)(h4: ∀H',aD H H'->Q (.int (L2.placeOf fO bO:Int)) H'):Ar vs H Q E'
def CI:aS ["late","limits"] ["late","limits"] (ay (top 1)):={}
def El (T:Txt K mg):eI P w K mg base "place_of" 1 ["late","limits"] Ar:=by
 refine T.DV.eX (k:=0) CI (fun f cO A' outer s H vs Q E hr h=>?_)
 ·obtain⟨fO,pl,bO,rfl,gw,Ee,k⟩:=h;refine⟨_,(ah (bN (aV sO (pv 0) ai (aZ _))
(au (a0 ai))
bb)
(au (a0 (aO cz ai (ma T.dB (gg (tn:=["limit"]) (cn:=["late"]) (cj:=[0]) rfl (gR (yk:=[(".0",.local),("limit",.local),("late",.cell)])) (IG (pv 1)) (fun _ _ _ _=>(dQ (i:=0) (show(["limit","late"]:List Str).Nodup by decide +kernel) rfl (Or.inl rfl))) (fun _ _ _ _=>(mV (aV jn (pv 0) (pv 1) (aZ _)))) (fun _ _ _ _=>(pv 0)))))))),?_⟩
  refine⟨_,rfl,_,_,rfl,rfl,_,rfl,ck (fun z=>?_) (fun z=>?_)⟩
  ·have z':fO<=0:=aN z;have e:L2.placeOf fO bO=0:=a8 z';have q:=k H (aD.refl _);rw[e] at q;exact q
  have z': ¬ fO<=0:=fun q=>z (aG q);have e:L2.placeOf fO bO=1 + (bO.filter fun l=>decide (l < fO)).length:=aU z';refine⟨_,rfl,pl,rfl,⟨_,cf.of gw⟩,?_⟩;refine BB (K:=K) (a:=pl) (xs:=bO.map V.int) (fun D' j σ H6=>H D'=none/\ ∃v,σ=[v,some (.int fO)]/\aD H H6/\H6 D'=some (.lst (((bO.take j).filter fun l=>decide (l < fO)).map V.int))) (fun D' pT=>⟨pT,none,rfl,aD.new pT,ag⟩) (fun D' j σ H6 _ ⟨_,_,_,t3,_⟩=>cf.of (t3 _ _ gw)) ?_ ?_
  ·rintro D' j x σ H6 FC ⟨pT,v,rfl,t3,f7⟩;rw[aB] at FC;obtain⟨y,hy,rfl⟩:=bo.mp FC;have kX:=fk (fun l=>decide (l < fO)) hy;have hlen:((bO.take j).filter fun l=>decide (l < fO)).length<=100:=by
    have:=aX (fun l=>decide (l < fO)) (bO.take j);rw[bf] at this;lia
   refine⟨_,rfl,_,rfl,_,_,rfl,rfl,_,rfl,ck (fun q=>?_) (fun q=>?_)⟩
   ·rw[a8 q] at kX;refine⟨_,rfl,_,f7,a9 (by rw[ae]; lia),pT,_,rfl,t3.cG pT,?_⟩;rw[ag,kX,aK];rfl
   ·rw[aU q,bR] at kX;refine⟨pT,_,rfl,t3,?_⟩;rw[kX];exact f7
  ·rintro D' σ H6 pT ⟨_,v,rfl,t3,f7⟩;refine⟨D',_,rfl,.inl (bA.of f7),_,_,rfl,rfl,?_⟩;have q:=k H6 t3;rw[e] at q;have e2:(1:Int) + ((((bO.take (bO.map V.int).length).filter fun l=>decide (l < fO)).map V.int).length:Int)=((1 + (bO.filter fun l=>decide (l < fO)).length:Nat):Int):=by
    rw[ae,ae,a7];simp
   rw[← e2] at q;exact q
inductive Em (A:dU)(tb:Addr)(vs:List V)(H:Hp)(Q:VK)(E':XK):Prop
 |mk (pw pl:Addr)(S:Bk)(f:eJ)(n:Nat)(aH:Str)(day:Int)(bO:List Int)(h1:vs=[.ref pw,.str aH,.int day,.ref pl])(h2:dC A H pw S f)(h3:WF S n)(h4:n<=60)(h5:lI H tb)(h6:H pl=some (.tup (bO.map V.int)))(h7:bO.length<=11)(h8: ∀D H',Frame [tb] H H'->lI H' tb->H D=none->H' D=some (.lst ((S.tU aH day bO).map V.int))->Q (.ref D) H'):Em A tb vs H Q E'
def vZ:aS ["work","who","day","limits","sums","number","left","place"] ["work","who","day","limits"] (ay (top 41)):={}
def HJ (T:Txt K mg){A:dU}{tb:Addr}(G:jv K mg A)(DL:qm K mg "bills_in_order" (top 17) tb)(KB:K.In base)(BM:BMain mg base):eI P w K mg base "ages_at" 6 ["work","who","day","limits"] (Em A tb):=by
 have sD:eI P w K mg base "owed_at" 5 ["work","who","day"] (Aq A tb):=yJ T G DL KB BM;have En:eI P w K mg base "place_of" 1 ["late","limits"] Ar:=El T;refine T.Hb.eX (k:=5) vZ (fun f cO A' outer s H vs Q E hr h=>?_)
 ·obtain⟨pw,pl,S,g,n,aH,day,bO,rfl,hW,wf,hn,hT,gw,Ee,k⟩:=h;have nd:=vZ.nd;refine⟨_,(ah (sv 4 nd (aO zi (bP (aa ai av)) (aO cz (ma T.dB (pv 3)) ai)))
(ah (dW bw rfl (rH (fc sD hr (aa (pv 0) (aa (pv 1) (aa (pv 2) av))))) (gT (bX (gn 5 nd) (bX (gn 6 nd) gv)))
(ah (sv 7 nd (fc En hr (aa (aO eL (pv 2) (km (xl (km (pv 0)) (pv 5)))) (aa (pv 3) av))))
(au (lT (aO cz (xl (pv 4) (pv 7)) (pv 6)) (pE (pv 4) (pv 7) set_list)))))
(au (a0 (pv 4))))),?_⟩
  refine⟨(by show 1<=sizeLine; decide),fun p9 n9=>?_⟩;have t9:=aD.new (o:= .lst [V.int 0]) n9;have Kc:(bO.map V.int).length=bO.length:=ae _;refine⟨_,rfl,pl,_,rfl,.inr (cf.of (t9 _ _ gw)),_,_,rfl,rfl,p9,_,_,rfl,rfl,ag,by lia,by lia,?_,fun ps CD=>?_⟩
  ·show 1 * _<=sizeLine;rw[Kc,eD];lia
  have e2:(((bO.map V.int).length:Int) + 2).toNat=bO.length + 2:=by rw[Kc]; lia
  rw[e2,FK];have Ai:=aD.new (o:= .lst ((List.replicate (bO.length + 2) (0:Int)).map V.int)) CD;have Ef:=t9.trans Ai;have lp:upd (upd H p9 (.lst [V.int 0])) ps (.lst ((List.replicate (bO.length + 2) (0:Int)).map V.int)) ps=some (.lst ((List.replicate (bO.length + 2) (0:Int)).map V.int)):=ag;have HC:H ps=none:=t9.free CD;generalize upd (upd H p9 (.lst [V.int 0])) ps (.lst ((List.replicate (bO.length + 2) (0:Int)).map V.int))=H1 at Ef lp;have Iv:=bM hT Ef;refine⟨_,rfl,_,rfl,_,rfl,pw,S,g,n,aH,day,rfl,hW.same Ef,wf,hn,Iv,fun D ms H2 fr GL nD hD hP=>?_⟩;refine⟨D,rfl,⟨_,bA.of hD⟩,?_⟩;have mL: ∃q,H1 tb=some (.mL q):=let⟨q,e,_⟩:=Iv; ⟨q,e⟩
  have off: ∀{a:Addr} {o:HO},H1 a=some o->(∀q,o≠ .mL q)->H2 a=some o:=fun{a o} e hq=>fr _ _ (fun z=>by
   obtain⟨q,eq⟩:=mL;rw[ao.mp z,eq] at e;exact hq q (aF e).symm) e
  have As:=vY (hW.same Ef) mL fr;have PX:=off lp (fun _ z=>by cases z);have PY:=off (Ef _ _ gw) (fun _ z=>by cases z);have fr0:Frame [tb] H H2:=fr.md Ef;have ub: ∀t∈S.fj true aH day,t.1 < S.aI.length:=fun t ht=>yE (aR:=true) ht;have Ra:S.tU aH day bO=(S.fj true aH day).foldl (fun l t=>iL l (L2.placeOf (day - (S.bl t.1).b) bO) t.2) (List.replicate (bO.length + 2) 0):=rfl;rw[Ra] at k;generalize S.fj true aH day=ts at hP ub k;have Yb:D≠ps:=fun e=>by rw[e,lp] at nD; cases nD
  refine fC (K:=K) (a:=D) (xs:=ms) (fun i σ H3=> ∃(l:List Int) (x5 x6 x7:Option V),σ=[some (.ref pw),some (.str aH),some (.int day),some (.ref pl),some (.ref ps),x5,x6,x7]/\Frame [ps] H2 H3/\H3 ps=some (.lst (l.map V.int))/\l.length=bO.length + 2/\l=(ts.take i).foldl (fun l t=>iL l (L2.placeOf (day - (S.bl t.1).b) bO) t.2) (List.replicate (bO.length + 2) 0))
   ⟨_,none,none,none,rfl,Frame.refl,PX,List.length_replicate,rfl⟩ (fun i σ H3 _ ⟨_,_,_,_,_,f3,_⟩=>bA.of (f3 _ _ (by simpa using Yb) hD)) ?_ ?_
  ·rintro i x σ H3 hx ⟨l,x5,x6,x7,rfl,f3,Jh,FL,he⟩;have VP: ∀{a:Addr} {o:HO},H2 a=some o->(∀q,o≠ .lst q)->H3 a=some o:=fun{a o} e hq=>f3 _ _ (fun z=>by
    rw[ao.mp z,PX] at e;exact hq _ (aF e).symm) e
   have hi:i < ts.length:=by have:=(ak.mp hx).1; have:=aL hP; lia
   have oK:=af hi;obtain⟨v,hv,p,rfl,hp⟩:=bI hP oK;rw[hx] at hv;obtain rfl:x= .ref p:=aF hv;have hm:=ub _ (bG hi);rw[jD (fun l t=>iL l (L2.placeOf (day - (S.bl t.1).b) bO) t.2) ts _ oK,← he];generalize ts[i]=t at hp hm;obtain⟨dw,hw⟩:=As.obj;obtain⟨q,q1,dq,q2⟩:=As.rb.get hm;have Yj:g.pb∉[ps]:=fun z=>by
    have e:=hW.hb;rw[ao.mp z,HC] at e;cases e
   have Rg:=VP hp (fun _ z=>by cases z);have hw3:=VP hw (fun _ z=>by cases z);have hq3:=VP q2 (fun _ z=>by cases z);have Yk:=VP PY (fun _ z=>by cases z);refine⟨p,_,rfl,cf.of Rg,rfl,_,_,rfl,_,_,rfl,rfl,?_⟩;refine⟨_,rfl,_,rfl,pw,_,dw,_,_,rfl,hw3,G.bH,G.dS,jc g,_,rfl,g.pb,_,_,.ref q,rfl,rfl,bA.of (f3 _ _ Yj As.hb),cw (by rw[aB,q1]; rfl),q,_,dq,_,_,rfl,hq3,G.dY,G.ni,JN _ _,_,_,rfl,rfl,_,rfl,_,pl,bO,rfl,Yk,Ee,fun H4 s4=>?_⟩;have hpo:=vT (day - (S.bl t.1).b) bO;have Rb:=s4 _ _ Jh;refine⟨_,rfl,_,rfl,ps,_,_,.int (l.getD (L2.placeOf (day - (S.bl t.1).b) bO) 0),rfl,rfl,bA.of Rb,ny (by show L2.placeOf (day - (S.bl t.1).b) bO < _; lia),_,rfl,_,_,rfl,rfl,?_⟩;refine⟨_,rfl,_,rfl,ps,_,_,L2.placeOf (day - (S.bl t.1).b) bO,rfl,rfl,Rb,qW (by rw[ae]; show L2.placeOf (day - (S.bl t.1).b) bO < _; lia),?_⟩;refine⟨iL l (L2.placeOf (day - (S.bl t.1).b) bO) t.2,_,_,_,rfl,(f3.cU s4).tr (Frame.upd (by simp)),?_,?_,rfl⟩
   ·rw[ag];unfold iL;rw[Ij]
   ·rw[yG]; exact FL
  ·rintro σ H3 ⟨l,x5,x6,x7,rfl,f3,Jh,FL,he⟩;rw[← aL hP,a7] at he;rw[he] at Jh;refine⟨_,rfl,k ps H3 (fun b o hb e=>f3 b o (fun z=>by rw[ao.mp z,HC] at e; cases e) (fr0 b o hb e)) ?_ HC Jh⟩;obtain⟨q,e1,Sn,e3⟩:=GL;have kx: ∀{a:Addr} {o:HO},H2 a=some o->(∀q,o≠ .lst q)->H3 a=some o:=fun{a o} e hq=>f3 _ _ (fun z=>by
    rw[ao.mp z,PX] at e;exact hq _ (aF e).symm) e
   refine⟨q,kx e1 (fun _ z=>by cases z),Sn,?_⟩;rcases e3 with e3|⟨c',e3,e4⟩
   ·exact .inl e3
   ·exact .inr ⟨c',e3,kx e4 (fun _ z=>by cases z)⟩
def eT (pk pw:Addr):List (Str×V):=[("kept",.ref pk),("work",.ref pw)]
def uA (pk pw:Addr):(eT pk pw).lookup ("kept":Str)=some (V.ref pk):=by rfl
def uB (pk pw:Addr):(eT pk pw).lookup ("work":Str)=some (V.ref pw):=by rfl
def Kf (pk pw:Addr):ez "work" (.ref pw) (ez "kept" (.ref pk) [])=eT pk pw:=by rfl
inductive Au (A:dU)(vs:List V)(H:Hp)(Q:VK)(E':XK):Prop
 |mk (x dx:Addr)(h1:vs=[.ref x])(h2:H x=some (.ins A.book dx []))(h3: ∀pk pw f H',Frame [x] H H'->H' x=some (.ins A.book dx (eT pk pw))->H' pk=some (.dK [])->dC A H' pw Bk.new f->H pk=none->H pw=none->(∀b∈f.fp,H b=none)->pk∉f.fp->Q .eh H'):Au A vs H Q E'
def ML:aS ["self"] ["self"] (ay (mem 29 0)):={}
def PZ {A:dU}(G:jv K mg A):tY P w K mg base "Book" A.book 3 ["self"] (Au A):=by
 have Eo:tY P w K mg base "Work" A.work 1 ["self"] (uu A):=J2 G;refine Mx (k:=2) G.Mv G.Mu ML (fun f cO A' outer s H vs Q E hr h=>?_)
 ·obtain⟨x,dx,rfl,hx,k⟩:=h;refine⟨_,(ah (l9 (pv 0) Bx) (au (l9 (pv 0) (JQ Eo (hr.mono (by decide)) rfl)))),?_⟩;intro pk nk;have ne1:pk≠x:=(aJ hx nk).symm;refine⟨_,rfl,x,_,dx,_,rfl,aD.new nk _ _ hx,G.eR,G.gA,lt1000 Cn (by decide),?_⟩;have F1:Frame [x] H (upd (upd H pk (.dK [])) x (.ins A.book dx (ez "kept" (.ref pk) []))):=(aD.new nk).frame.tr (Frame.upd (by simp));have g1:upd (upd H pk (.dK [])) x (.ins A.book dx (ez "kept" (.ref pk) [])) x=some (.ins A.book dx (ez "kept" (.ref pk) [])):=ag;have k1:upd (upd H pk (.dK [])) x (.ins A.book dx (ez "kept" (.ref pk) [])) pk=some (.dK []):=by rw[az ne1,ag]
  generalize upd (upd H pk (.dK [])) x (.ins A.book dx (ez "kept" (.ref pk) []))=H1 at F1 g1 k1 ⊢;intro xw Yl MM P0 ne;have s2:=lE (C:=A.work) (fs:=[]) MM P0 ne;refine⟨xw,Yl,rfl,ag,fun g H3 LB W3 nf=>⟨rfl,?_⟩⟩;have Ym:x≠xw:=aJ g1 MM;have nek:pk≠xw:=aJ k1 MM;have g3:=LB _ _ (by simpa using Ym) (s2 _ _ g1);have k3:=LB _ _ (by simpa using nek) (s2 _ _ k1);refine⟨_,rfl,x,_,dx,_,rfl,g3,G.eR,G.gE,lt1000 (pl Cn) (by decide),?_⟩;rw[Kf];have fw: ∀b∈g.fp,H1 b=none:=fun b hb=>s2.free (nf b hb);have off: ∀b,H1 b=none->b≠x->H b=none:=fun b e n=>F1.free (by simpa using n) e;have xf:x∉g.fp:=fun z=>by have:=fw x z; rw[g1] at this; cases this
  have T3:dC A (upd H3 x (.ins A.book dx (eT pk xw))) xw Bk.new g:=by
   obtain⟨dw,hw⟩:=W3.obj;obtain⟨ms,m1,m2⟩:=W3.hm;have nx: ∀p∈g.fp,p≠x:=fun p hp z=>xf (z▸hp);refine⟨⟨dw,by rw[az Ym.symm]; exact hw⟩,by rw[az (nx _ (by simp[eJ.fp]))]; exact W3.hb,by rw[az (nx _ (by simp[eJ.fp]))]; exact W3.hc,by rw[az (nx _ (by simp[eJ.fp]))]; exact W3.hl,by rw[az (nx _ (by simp[eJ.fp]))]; exact W3.hf,⟨ms,by rw[az (nx _ (by simp[eJ.fp]))]; exact m1,?_⟩,?_,?_,W3.nd⟩
   ·cases m2;exact .nil
   ·exact⟨W3.rb.1,fun i p e=>by have:=(ak.mp e).1; have h0:=W3.rb.1; rw[h0] at this; exact absurd this (iF _)⟩
   ·exact⟨W3.rc.1,fun i p e=>by have:=(ak.mp e).1; have h0:=W3.rc.1; rw[h0] at this; exact absurd this (iF _)⟩
  refine k pk xw g _ ?_ ag (by rw[az ne1]; exact k3) T3 nk (off xw MM Ym.symm) (fun b hb=>off b (fw b hb) (fun z=>xf (z▸hb))) (fun z=>by have:=fw pk z; rw[k1] at this; cases this);intro b o hb e;have bx:b≠x:=by simpa using hb
  rw[az bx];have e1:=F1 b o hb e;exact LB b o (by simpa using aJ e1 MM) (s2 b o e1)
def Av (r:List Bool):Dt:= .lst (r.map Dt.bl)
def Kg (t:Nat×Nat×Int):Dt:= .tup [.int t.1,.int t.2.1,.int t.2.2]
def g9 (fs ls:List Int)(al:List (List Bool)): ∀i,(bU fs ls al i).2.length<=i
 |0=>aE _
 |i + 1=>by
  have:=g9 fs ls al i;unfold bU;split
  ·lia
  ·rw[aC]; show _ + 1<=_; lia
def Yn:Option Nat->V
 |none=> .eh
 |some j=> .int j
def pX (bc:List (Key×V))(j:Nat):Bool:=(fZ bc (Sum.inl (j:Int):Key)).isSome
inductive Aw (K:Frag)(vs:List V)(H:Hp)(Q:VK)(E':XK):Prop
 |mk (f:Int)(pl:Addr)(ls:List Int)(pr:Addr)(row:List Bool)(pt:Addr)(bc:List (Key×V))(h1:vs=[.int f,.ref pl,.ref pr,.ref pt])(h2:bA K H pl (ls.map V.int))(h3:bA K H pr (row.map V.bl))(h4:row.length=ls.length)(h5:H pt=some (.dK bc))(h6: ∀H',aD H H'->Q (Yn (gW f ls row (pX bc))) H'):Aw K vs H Q E'
def nP (H:Hp)(ms:List (Nat×Nat×Int))(vs:List V):Prop:=Paired (fun(t:Nat×Nat×Int) v=> ∃p,v= .ref p/\H p=some (.tup [.int t.1,.int t.2.1,.int t.2.2])) ms vs
def nP.mono {H H':Hp}{ms:List (Nat×Nat×Int)}{vs:List V}(h:nP H ms vs)(k: ∀b xs,H b=some (.tup xs)->H' b=some (.tup xs)):nP H' ms vs:=
 Paired.gI h fun _ _ ⟨p,e,q⟩=>⟨p,e,k _ _ q⟩
def nP.rp {H:Hp}: ∀{ms:List (Nat×Nat×Int)} {vs:List V},nP H ms vs->g6 H (ms.map Kg) vs
 |_,_,.nil=>cL.mpr rfl
 |_,_,.cons ⟨p,e,q⟩ t=>bC.mpr ⟨_,_,rfl,e▸eA q (bC.mpr ⟨_,_,rfl,di.mpr rfl,bC.mpr ⟨_,_,rfl,di.mpr rfl,bC.mpr ⟨_,_,rfl,di.mpr rfl,cL.mpr rfl⟩⟩⟩),nP.rp t⟩
def MN {H:Hp}{p:Addr}{o:HO}{bc:List (Key×V)}(h:H p=some (.dK bc)): ∀b xs,H b=some (.tup xs)->upd H p o b=some (.tup xs):=fun b xs e=>by
 rw[az (mr e h (by intro z; cases z))]; exact e
def nQ:aS ["free","lefts","fitting","taken","bill","left"] ["free","lefts","fitting","taken"] (ay (top 21)):={}
def xG (T:Txt K mg):eI P w K mg base "first_alike" 1 ["free","lefts","fitting","taken"] (Aw K):=by
 refine T.wZ.eX (k:=0) nQ (fun f cO A outer s H vs Q E hr h=>?_)
 ·obtain⟨fr,pl,ls,pr,row,pt,bc,rfl,hL,hR,BC,hT,k⟩:=h;have hu:=jG hr;have nd:=nQ.nd;refine⟨_,(ah (dW bw rfl (qB rfl T.jb (aa (pv 1) av)) (gT (bX (gn 4 nd) (bX (gn 5 nd) gv)))
(au (bN (PW.pt (pw_and (f9 (xl (pv 2) (pv 4))) (pw_and (aV cH (pv 5) (pv 0) (aZ _)) (pw_and1 (yY (GD hu (pv 4) (pv 3)))))))
(au (a0 (pv 4)))
bb)))
(au (a0 Dq))),?_⟩
  refine⟨_,rfl,pl,rfl,⟨_,hL⟩,?_⟩;refine mW (K:=K) (a:=pl) (xs:=ls.map V.int) (fun i σ H2=> ∃x4 x5,σ=[some (.int fr),some (.ref pl),some (.ref pr),some (.ref pt),x4,x5]/\aD H H2/\ ∀j,j < i->(row.getD j false && decide (ls.getD j 0=fr) && !pX bc j)=false)
   ⟨none,none,rfl,aD.refl _,fun j hj=>absurd hj (iF _)⟩ (fun i σ H2 _ ⟨_,_,_,s2,_⟩=>s2.seq hL) ?_ ?_
  ·rintro i x p σ H2 hx hp ⟨x4,x5,rfl,s2,T4⟩;have hi:i < ls.length:=by have:=(ak.mp hx).1; rwa [ae] at this
   rw[aB,af hi] at hx;obtain rfl:V.int ls[i]=x:=aF hx;have s3:aD H2 (upd H2 p (.tup [.int i,.int ls[i]])):=aD.new hp;refine⟨p,_,rfl,cf.of ag,rfl,_,_,rfl,_,_,rfl,rfl,?_⟩;have s4:=s2.trans s3;generalize upd H2 p (.tup [.int i,.int ls[i]])=H3 at s4 ⊢;have T5:i < row.length:=by lia
   have P1:ls.getD i 0=ls[i]:=by rw[aj,af hi]; rfl
   have T6:row.getD i false=row[i]:=by rw[aj,af T5]; rfl
   have next:(row.getD i false && decide (ls.getD i 0=fr) && !pX bc i)=false-> ∀j,j < i + 1->(row.getD j false && decide (ls.getD j 0=fr) && !pX bc j)=false:=fun e j hj=>by
    rcases Nat.lt_succ_iff_lt_or_eq.mp hj with h|h
    ·exact T4 j h
    ·rw[h]; exact e
   refine⟨_,rfl,_,rfl,pr,_,_,.bl row[i],rfl,rfl,s4.seq hR,cw (by rw[aB,af T5]; rfl),_,rfl,?_⟩;refine ck (fun c1=>?_) (fun c1=>bT ?_)
   ·refine⟨_,rfl,_,rfl,rfl,_,rfl,ck (fun c2=>?_) (fun c2=>bT ?_)⟩
    ·have T7:ls[i]=fr:=by have:=aN c2; injection this
     refine⟨_,rfl,_,rfl,pt,_,rfl,mG.k (k:=Sum.inl (i:Int)) (s4 _ _ hT),_,rfl,ck (fun c3=>?_) (fun c3=>?_)⟩
     ·
      refine⟨_,rfl,?_⟩;have e:gW fr ls row (pX bc)=some i:=by
       unfold gW;refine List.find?_range_eq_some.mpr ⟨?_,dh.mpr hi,fun j hj=>?_⟩
       ·rw[T6,P1,c1,T7];simpa[pX] using c3
       ·rw[T4 j hj]; rfl
      have q:=k H3 s4;rw[e] at q;exact q
     ·refine⟨_,_,rfl,s4,next ?_⟩;have c3':pX bc i=true:=by
       unfold pX;cases h:(fZ bc (Sum.inl (i:Int):Key)).isSome with
       |true=>rfl
       |false=>rw[h] at c3; exact absurd rfl c3
      rw[c3']; simp
    ·have T7: ¬ ls[i]=fr:=fun z=>c2 (aG (by rw[z]));refine⟨_,_,rfl,s4,next ?_⟩;rw[P1,decide_eq_false T7]; simp
   ·refine⟨_,_,rfl,s4,next ?_⟩;rw[T6,Bool.eq_false_iff.mpr c1]; rfl
  ·rintro σ H2 ⟨x4,x5,rfl,s2,T4⟩;rw[ae] at T4;have e:gW fr ls row (pX bc)=none:=by
    unfold gW;refine List.find?_eq_none.mpr fun j hj=>?_;rw[T4 j (dh.mp hj)];exact aW
   have q:=k H2 s2;rw[e] at q;exact q
inductive v7 (K:Frag)(vs:List V)(H:Hp)(Q:VK)(E':XK):Prop
 |mk (pf pl pa:Addr)(fs ls:List Int)(al:List (List Bool))(h1:vs=[.ref pf,.ref pl,.ref pa])(h2:bA K H pf (fs.map V.int))(h3:bA K H pl (ls.map V.int))(h4:Rp H (.lst (al.map Av)) (.ref pa))(h5:fs.length<=1000)(h6:al.length=fs.length)(h7:(∀r∈al,r.length=ls.length))(h8: ∀v H',aD H H'->Rp H' (.lst ((bU fs ls al fs.length).2.map Kg)) v->Q v H'):v7 K vs H Q E'
def CJ:aS ["frees","lefts","allowed","taken","made","credit","free","bill"] ["frees","lefts","allowed"] (ay (top 20)):={}
def MO (T:Txt K mg):eI P w K mg base "alike" 2 ["frees","lefts","allowed"] (v7 K):=by
 have xH:eI P w K mg base "first_alike" 1 ["free","lefts","fitting","taken"] (Aw K):=xG T;refine T.Mi.eX (k:=1) CJ (fun f cO A outer s H vs Q E hr h=>?_)
 ·obtain⟨pf,pl,pa,fs,ls,al,rfl,hF,hL,hA,hf1,Xg,Kh,k⟩:=h;have hu:=jG hr;have nd:=CJ.nd;obtain⟨pa',refs,e0,Yo,Ep⟩:=jJ.mp hA;cases e0;refine⟨_,(ah (sv 3 nd Bx)
(ah (sv 4 nd (bP av))
(ah (dW bw rfl (qB rfl T.jb (aa (pv 0) av)) (gT (bX (gn 5 nd) (bX (gn 6 nd) gv)))
(ah (sv 7 nd (fc xH hr (aa (pv 6) (aa (pv 1) (aa (xl (pv 2) (pv 5)) (aa (pv 3) av))))))
(au (bN (yY (Lv (pv 7)))
(ah (E2 hu (pv 3) (pv 7) k8 rfl)
(au (bK (oS (pv 4) (cD (aa (pv 5) (aa (pv 7) (aa (pv 6) av))))))))
bb))))
(au (a0 (pv 4)))))),?_⟩
  intro pt nt;refine⟨bh _,fun pm nm=>?_⟩;have s1:aD H (upd H pt (.dK [])):=aD.new nt;have s2:aD H (upd (upd H pt (.dK [])) pm (.lst [])):=s1.trans (aD.new nm);have Yp:H pm=none:=s1.free nm;have NM:pt≠pm:=aJ ag nm;refine⟨_,rfl,pf,rfl,⟨_,s2.seq hF⟩,?_⟩;refine mW (K:=K) (a:=pf) (xs:=fs.map V.int) (fun i σ H2=> ∃x5 x6 x7 bc ms,σ=[some (.ref pf),some (.ref pl),some (.ref pa),some (.ref pt),some (.ref pm),x5,x6,x7]/\aD H H2/\H2 pt=some (.dK bc)/\(∀j:Nat,pX bc j=(bU fs ls al i).1 j)/\bc.length<=i/\H2 pm=some (.lst ms)/\nP H2 (bU fs ls al i).2 ms)
   ⟨none,none,none,[],[],rfl,s2,by rw[az NM]; exact ag,fun j=>rfl,aE _,ag,.nil⟩ (fun i σ H2 _ ⟨_,_,_,_,_,_,s3,_⟩=>s3.seq hF) ?_ ?_
  ·rintro i x p σ H2 hx hp ⟨x5,x6,x7,bc,ms,rfl,s3,hT,lO,Fz,hM,FN⟩;have hi:i < fs.length:=by have:=(ak.mp hx).1; rwa [ae] at this
   rw[aB,af hi] at hx;obtain rfl:V.int fs[i]=x:=aF hx;have s4:aD H2 (upd H2 p (.tup [.int i,.int fs[i]])):=aD.new hp;refine⟨p,_,rfl,cf.of ag,rfl,_,_,rfl,_,_,rfl,rfl,?_⟩;have s5:=s3.trans s4;have NN:=s4 _ _ hT;have nR:=s4 _ _ hM;have Er:=FN.mono (fW s4);generalize upd H2 p (.tup [.int i,.int fs[i]])=H3 at s5 NN nR Er ⊢;clear s4 hp;have T8:i < al.length:=by lia
   have g0:(al.map Av)[i]? =some (Av al[i]):=by rw[aB,af T8]; rfl
   obtain⟨rv,VQ,VR⟩:=Ep.get g0;obtain⟨pr,Yq,e1,Ld,yB⟩:=jJ.mp VR;subst e1;have hrx:Yq=al[i].map V.bl:=by
    clear Ld VQ VR;generalize al[i]=r at yB
    induction r generalizing Yq with
    |nil=>exact cL.mp yB
    |cons b r ih=>
     obtain⟨v,rest,e,h1,h2⟩:=bC.mp yB;rw[e,qD.mp h1,ih rest h2]; rfl
   subst hrx;have Yr:fs.getD i 0=fs[i]:=by rw[aj,af hi]; rfl
   have Ys:al.getD i []=al[i]:=by rw[aj,af T8]; rfl
   refine⟨_,rfl,_,rfl,_,rfl,_,rfl,pa,_,_,.ref pr,rfl,rfl,bA.of (s5 _ _ Yo),cw VQ,_,rfl,fs[i],pl,ls,pr,al[i],pt,bc,rfl,s5.seq hL,bA.of (s5 _ _ Ld),Kh _ (bG _),NN,fun H4 s6=>?_⟩;have etk:pX bc=(bU fs ls al i).1:=funext lO;have rF:bU fs ls al (i + 1)=match gW fs[i] ls al[i] (pX bc) with
     |none=>bU fs ls al i
     |some j=>(fun x=>x == j || (bU fs ls al i).1 x,(bU fs ls al i).2 ++ [(i,j,fs[i])]):=by
    rw[etk,← Yr,← Ys]; rfl
   cases hb:gW fs[i] ls al[i] (pX bc) with
   |none=>
    rw[hb] at rF;refine⟨_,rfl,_,rfl,bT ?_⟩;refine⟨_,_,_,bc,ms,rfl,s5.trans s6,s6 _ _ NN,?_,by lia,s6 _ _ nR,?_⟩
    ·intro j; rw[rF]; exact lO j
    ·rw[rF]; exact Er.mono (fW s6)
   |some j=>
    rw[hb] at rF;refine⟨_,rfl,_,rfl,fB ?_⟩;have Rh:=s6 _ _ NN;have v8:=s6 _ _ nR;refine⟨_,rfl,_,rfl,pt,_,rfl,GA.k (k:=Sum.inl (j:Int)) Rh (a9 (by lia)),?_⟩;have Ki:upd H4 pt (.dK (putK bc (Sum.inl (j:Int):Key) (.bl true))) pm=some (.lst ms):=by rw[az NM.symm]; exact v8
    have FD:=(Er.length);have Ri:=g9 fs ls al i;have s7:aD H (upd H4 pt (.dK (putK bc (Sum.inl (j:Int):Key) (.bl true)))):=(s5.trans s6).cG nt;have Es:nP (upd H4 pt (.dK (putK bc (Sum.inl (j:Int):Key) (.bl true)))) (bU fs ls al i).2 ms:=(Er.mono (fW s6)).mono (MN Rh);have HG:upd H4 pt (.dK (putK bc (Sum.inl (j:Int):Key) (.bl true))) pt=some (.dK (putK bc (Sum.inl (j:Int):Key) (.bl true))):=ag;generalize upd H4 pt (.dK (putK bc (Sum.inl (j:Int):Key) (.bl true)))=H5 at Ki s7 Es HG ⊢;refine⟨_,rfl,.inl ⟨rfl,_,bA.of Ki⟩,_,rfl,_,rfl,_,rfl,(by show 3<=sizeLine; decide),fun p8 n8=>?_⟩;have s8:aD H5 (upd H5 p8 (.tup [.int i,.int j,.int fs[i]])):=aD.new n8;refine⟨pm,ms,_,rfl,rfl,s8 _ _ Ki,a9 (by lia),?_⟩;refine⟨_,_,_,putK bc (Sum.inl (j:Int):Key) (.bl true),ms ++ [.ref p8],rfl,(s7.trans s8).cG Yp,?_,fun x=>?_,?_,ag,?_⟩
    ·rw[az NM]; exact s8 _ _ HG
    ·rw[rF];unfold pX;rw[Jc];by_cases hx:x=j
     ·subst hx; simp
     ·have: ¬ (Sum.inl (x:Int):Key)=Sum.inl (j:Int):=fun z=>hx (by injection z with z; lia);rw[aU this];have h2:=lO x;unfold pX at h2;rw[h2];simp[hx]
    ·have:=kq bc (Sum.inl (j:Int):Key) (.bl true);lia
    ·rw[rF];exact cy ((Es.mono (fW s8)).mono (dA (s8 _ _ Ki))) ⟨p8,rfl,dA (s8 _ _ Ki) _ _ ag⟩
  ·rintro σ H2 ⟨x5,x6,x7,bc,ms,rfl,s3,hT,lO,Fz,hM,FN⟩;rw[ae] at FN;refine⟨_,rfl,?_⟩;exact k _ _ s3 (jt hM FN.rp)
def cM (fs ls:List Int)(al:List (List Bool))(i:Nat):List (Nat×Int):=(bD (fs.getD i 0) (cg fs ls al i).1 (al.getD i []) (cg fs ls al i).1.length).2
def CK (fs ls:List Int)(al:List (List Bool))(i:Nat):(cg fs ls al (i + 1)).1=dE (cg fs ls al i).1 (cM fs ls al i):=rfl
def tF (fs ls:List Int)(al:List (List Bool))(i:Nat):(cg fs ls al (i + 1)).2=(cg fs ls al i).2 ++ (cM fs ls al i).map fun x=>(i,x.1,x.2):=rfl
def P2 (H:Hp)(ps:List (Nat×Int))(vs:List V):Prop:=Paired (fun(t:Nat×Int) v=> ∃p,v= .ref p/\H p=some (.tup [.int t.1,.int t.2])) ps vs
def P2.mono {H H':Hp}{ps:List (Nat×Int)}{vs:List V}(h:P2 H ps vs)(k: ∀b xs,H b=some (.tup xs)->H' b=some (.tup xs)):P2 H' ps vs:=
 Paired.gI h fun _ _ ⟨p,e,q⟩=>⟨p,e,k _ _ q⟩
def gj (f:Int)(l:List Int)(row:List Bool): ∀j,(bD f l row j).2.length<=j
 |0=>aE _
 |j + 1=>by
  have:=gj f l row j;rw[bD];split
  ·rw[aC]; show _ + 1<=_; lia
  ·lia
inductive Ax (K:Frag)(vs:List V)(H:Hp)(Q:VK)(E':XK):Prop
 |mk (f:Int)(pl:Addr)(ls:List Int)(pr:Addr)(row:List Bool)(h1:vs=[.int f,.ref pl,.ref pr])(h2:bA K H pl (ls.map V.int))(h3:bA K H pr (row.map V.bl))(h4:row.length=ls.length)(h5:ls.length<=100)(h6: ∀(q:Addr) (ms:List V) (H':Hp),aD H H'->H q=none->H' q=some (.lst ms)->P2 H' (bD f ls row ls.length).2 ms->Q (.ref q) H'):Ax K vs H Q E'
def tG:aS ["free","lefts","fitting","still_free","parts","bill","left","amount"] ["free","lefts","fitting"] (ay (top 23)):={}
def Et (T:Txt K mg):eI P w K mg base "parts_of" 1 ["free","lefts","fitting"] (Ax K):=by
 refine T.DX.eX (k:=0) tG (fun f cO A outer s H vs Q E hr h=>?_)
 ·obtain⟨fr,pl,ls,pr,row,rfl,hL,hR,BC,NF,k⟩:=h;have hu:=jG hr;have nd:=tG.nd;refine⟨_,(ah (sv 3 nd (pv 0))
(ah (sv 4 nd (bP av))
(ah (dW bw rfl (qB rfl T.jb (aa (pv 1) av)) (gT (bX (gn 5 nd) (bX (gn 6 nd) gv)))
(ah (sv 7 nd (eM (rW rfl) (by rfl) T.JJ boot_min (aa (pv 3) (aa (pv 6) av))))
(au (bN (PW.pt (pw_and (f9 (xl (pv 2) (pv 5))) (pw_and1 (aV iK (pv 7) ai (aZ _)))))
(ah (bK (oS (pv 4) (cD (aa (pv 5) (aa (pv 7) av)))))
(au (sv 3 nd (aO eL (pv 3) (pv 7)))))
bb))))
(au (a0 (pv 4)))))),?_⟩
  refine⟨_,rfl,?_⟩;refine⟨bh _,fun q nq=>?_⟩;have s1:aD H (upd H q (.lst [])):=aD.new nq;refine⟨_,rfl,pl,rfl,⟨_,s1.seq hL⟩,?_⟩;refine mW (K:=K) (a:=pl) (xs:=ls.map V.int) (fun i σ H2=> ∃(x5 x6 x7:Option V) (ms:List V),σ=[some (.int fr),some (.ref pl),some (.ref pr),some (.int (bD fr ls row i).1),some (.ref q),x5,x6,x7]/\aD H H2/\H2 q=some (.lst ms)/\P2 H2 (bD fr ls row i).2 ms)
   ⟨none,none,none,[],rfl,s1,ag,.nil⟩ (fun i σ H2 _ ⟨_,_,_,_,_,s2,_⟩=>s2.seq hL) ?_ ?_
  ·rintro i x p σ H2 hx hp ⟨x5,x6,x7,ms,rfl,s2,hM,hP⟩;have hi:i < ls.length:=by have:=(ak.mp hx).1; rwa [ae] at this
   rw[aB,af hi] at hx;obtain rfl:V.int ls[i]=x:=aF hx;have s3:aD H2 (upd H2 p (.tup [.int i,.int ls[i]])):=aD.new hp;refine⟨p,_,rfl,cf.of ag,rfl,_,_,rfl,_,_,rfl,rfl,?_⟩;have s4:=s2.trans s3;have MP:=s3 _ _ hM;have MI:=hP.mono (fW s3);generalize upd H2 p (.tup [.int i,.int ls[i]])=H3 at s4 MP MI ⊢;have T5:i < row.length:=by lia
   have P1:ls.getD i 0=ls[i]:=getD_at hi;have T6:row.getD i false=row[i]:=getD_at T5;have hlen:ms.length<=i:=by have:=hP.length; have:=gj fr ls row i; lia
   refine⟨_,rfl,_,rfl,_,_,rfl,?_⟩;have em:(if ls[i] < (bD fr ls row i).1 then ls[i] else(bD fr ls row i).1)=iH (bD fr ls row i).1 (ls.getD i 0):=by rw[P1]; rfl
   rw[em];have rF:bD fr ls row (i + 1)=if row.getD i false=true/\0 < iH (bD fr ls row i).1 (ls.getD i 0) then((bD fr ls row i).1 - iH (bD fr ls row i).1 (ls.getD i 0),(bD fr ls row i).2 ++ [(i,iH (bD fr ls row i).1 (ls.getD i 0))]) else bD fr ls row i:=by rw[bD]
   generalize iH (bD fr ls row i).1 (ls.getD i 0)=am at rF ⊢;have no: ¬ (row.getD i false=true/\0 < am)-> ∃(x5 x6 x7:Option V) (ms:List V),[some (.int fr),some (.ref pl),some (.ref pr),some (.int (bD fr ls row i).1),some (.ref q),some (V.int i),some (V.int ls[i]),some (V.int am)]=[some (.int fr),some (.ref pl),some (.ref pr),some (.int (bD fr ls row (i + 1)).1),some (.ref q),x5,x6,x7]/\aD H H3/\H3 q=some (.lst ms)/\P2 H3 (bD fr ls row (i + 1)).2 ms:=fun c=>by
    rw[rF,aU c];exact⟨_,_,_,ms,rfl,s4,MP,MI⟩
   refine⟨_,rfl,_,rfl,pr,_,_,.bl row[i],rfl,rfl,s4.seq hR,cw (by rw[aB,af T5]; rfl),_,rfl,?_⟩;refine ck (fun c1=>?_) (fun c1=>bT ?_)
   ·refine⟨_,rfl,_,_,rfl,rfl,_,rfl,ck (fun c2=>?_) (fun c2=>?_)⟩
    ·have T7:0 < am:=aN c2;rw[a8 ⟨by rw[T6]; exact c1,T7⟩] at rF;refine⟨_,rfl,.inl ⟨rfl,_,bA.of MP⟩,_,rfl,_,rfl,(by show 2<=sizeLine; decide),fun p8 n8=>?_⟩;have s8:aD H3 (upd H3 p8 (.tup [.int i,.int am])):=aD.new n8;refine⟨q,ms,_,rfl,rfl,s8 _ _ MP,a9 (by lia),?_⟩;refine⟨_,rfl,_,rfl,_,_,rfl,rfl,?_⟩;refine⟨_,_,_,ms ++ [.ref p8],by rw[rF]; rfl,(s4.trans s8).cG nq,ag,?_⟩;rw[rF];exact cy ((MI.mono (fW s8)).mono (dA (s8 _ _ MP))) ⟨p8,rfl,dA (s8 _ _ MP) _ _ ag⟩
    ·exact no fun z=>c2 (aG z.2)
   ·exact no fun z=>c1 (by rw[← T6]; exact z.1)
  ·rintro σ H2 ⟨x5,x6,x7,ms,rfl,s2,hM,hP⟩;rw[ae] at hP;refine⟨_,rfl,?_⟩;exact k _ _ _ s2 nq hM hP
def pY (f:Int)(l:List Int)(row:List Bool): ∀j,∀x∈(bD f l row j).2,x.1 < j
 |0,x,hx=>by cases hx
 |j + 1,x,hx=>by
  rw[bD] at hx;split at hx
  ·rcases bq.mp hx with hx|hx
   ·have:=pY f l row j x hx; lia
   ·rw[ao] at hx; subst hx; exact fV _
  ·have:=pY f l row j x hx; lia
def CL (fs ls:List Int)(al:List (List Bool)): ∀i,(cg fs ls al i).2.length<=i * ls.length
 |0=>by show 0<=_; lia
 |i + 1=>by
  have:=CL fs ls al i;have h2:=gj (fs.getD i 0) (cg fs ls al i).1 (al.getD i []) (cg fs ls al i).1.length;rw[tF,aC,ae,wF];unfold cM;rw[jA] at h2 ⊢;lia
inductive v9 (K:Frag)(vs:List V)(H:Hp)(Q:VK)(E':XK):Prop
 |mk (pf pl pa:Addr)(fs ls:List Int)(al:List (List Bool))(h1:vs=[.ref pf,.ref pl,.ref pa])(h2:bA K H pf (fs.map V.int))(h3:bA K H pl (ls.map V.int))(h4:Rp H (.lst (al.map Av)) (.ref pa))(h5:fs.length<=63)(h6:ls.length<=63)(h7:al.length=fs.length)(h8:(∀r∈al,r.length=ls.length))(h9: ∀(pm:Addr) (ms:List V) (H':Hp),aD H H'->H' pm=some (.lst ms)->nP H' (cg fs ls al fs.length).2 ms->Q (.ref pm) H'):v9 K vs H Q E'
def FO {H:Hp}: ∀(r:List Bool) {xs:List V},g6 H (r.map Dt.bl) xs->xs=r.map V.bl
 |[],_,h=>cL.mp h
 |b :: r,_,h=>by
  obtain⟨v,rest,e,h1,h2⟩:=bC.mp h;rw[e,qD.mp h1,FO r h2]; rfl
def P4 {H:Hp}{al:List (List Bool)}{refs:List V}(h:g6 H (al.map Av) refs){i:Nat}(hi:i < al.length): ∃pr,refs[i]? =some (.ref pr)/\H pr=some (.lst (al[i].map V.bl)):=by
 have g0:(al.map Av)[i]? =some (Av al[i]):=by rw[aB,af hi]; rfl
 obtain⟨rv,VQ,VR⟩:=h.get g0;obtain⟨pr,Yq,e1,Ld,yB⟩:=jJ.mp VR;rw[FO _ yB] at Ld;exact⟨pr,by rw[VQ,e1],Ld⟩
def o4:aS ["frees","lefts","allowed","still_left","made","credit","free","parts","bill","amount"] ["frees","lefts","allowed"] (ay (top 22)):={}
def Ay (T:Txt K mg):eI P w K mg base "shared_out" 2 ["frees","lefts","allowed"] (v9 K):=by
 have Eu:eI P w K mg base "parts_of" 1 ["free","lefts","fitting"] (Ax K):=Et T;refine T.zz.eX (k:=1) o4 (fun f cO A outer s H vs Q E hr h=>?_)
 ·obtain⟨pf,pl,pa,fs,ls,al,rfl,hF,hL,hA,hf1,NF,Xg,Kh,k⟩:=h;have hu:=jG hr;have nd:=o4.nd;obtain⟨pa',refs,e0,Yo,Ep⟩:=jJ.mp hA;cases e0;refine⟨_,(ah (sv 3 nd (gx zh (by rfl) T.vA boot_list (aa (pv 1) av)))
(ah (sv 4 nd (bP av))
(ah (dW bw rfl (qB rfl T.jb (aa (pv 0) av)) (gT (bX (gn 5 nd) (bX (gn 6 nd) gv)))
(ah (sv 7 nd (fc Eu hr (aa (pv 6) (aa (pv 3) (aa (xl (pv 2) (pv 5)) av)))))
(au (dW bw rfl (rH (pv 7)) (gT (bX (gn 8 nd) (bX (gn 9 nd) gv)))
(ah (lT (aO eL (xl (pv 3) (pv 8)) (pv 9)) (pE (pv 3) (pv 8) set_list))
(au (bK (oS (pv 4) (cD (aa (pv 5) (aa (pv 8) (aa (pv 9) av))))))))))))
(au (a0 (pv 4)))))),?_⟩
  refine⟨_,rfl,pl,_,rfl,.inl hL,fun q nq=>?_⟩;refine⟨bh _,fun pm nm=>?_⟩;have s1:aD H (upd H q (.lst (ls.map V.int))):=aD.new nq;have s2:aD H (upd (upd H q (.lst (ls.map V.int))) pm (.lst [])):=s1.trans (aD.new nm);have Yp:H pm=none:=s1.free nm;have Yt:q≠pm:=aJ ag nm;refine⟨_,rfl,pf,rfl,⟨_,s2.seq hF⟩,?_⟩;refine mW (K:=K) (a:=pf) (xs:=fs.map V.int) (fun i σ H2=> ∃(x5 x6 x7 x8 x9:Option V) (ms:List V),σ=[some (.ref pf),some (.ref pl),some (.ref pa),some (.ref q),some (.ref pm),x5,x6,x7,x8,x9]/\aD H H2/\H2 q=some (.lst ((cg fs ls al i).1.map V.int))/\H2 pm=some (.lst ms)/\nP H2 (cg fs ls al i).2 ms)
   ⟨none,none,none,none,none,[],rfl,s2,by rw[az Yt]; exact ag,ag,.nil⟩ (fun i σ H2 _ ⟨_,_,_,_,_,_,_,s3,_⟩=>s3.seq hF) ?_ ?_
  ·rintro i x p σ H2 hx hp ⟨x5,x6,x7,x8,x9,ms,rfl,s3,hQ,hM,FN⟩;have hi:i < fs.length:=by have:=(ak.mp hx).1; rwa [ae] at this
   rw[aB,af hi] at hx;obtain rfl:V.int fs[i]=x:=aF hx;have s4:aD H2 (upd H2 p (.tup [.int i,.int fs[i]])):=aD.new hp;refine⟨p,_,rfl,cf.of ag,rfl,_,_,rfl,_,_,rfl,rfl,?_⟩;have s5:=s3.trans s4;have VS:=s4 _ _ hQ;have nR:=s4 _ _ hM;have Er:=FN.mono (fW s4);generalize upd H2 p (.tup [.int i,.int fs[i]])=H3 at s5 VS nR Er ⊢;clear s4 hp;have T8:i < al.length:=by lia
   obtain⟨pr,Yu,Yv⟩:=P4 Ep T8;have Yr:fs.getD i 0=fs[i]:=getD_at hi;have Ys:al.getD i []=al[i]:=getD_at T8;have Ee:=jA fs ls al i;have P5:cM fs ls al i=(bD fs[i] (cg fs ls al i).1 al[i] (cg fs ls al i).1.length).2:=by unfold cM; rw[Yr,Ys]
   have aaF:(cM fs ls al i).length<=ls.length:=by rw[P5,Ee]; exact gj _ _ _ _
   have Yw: ∀x∈cM fs ls al i,x.1 < ls.length:=by rw[P5,Ee]; exact pY _ _ _ _
   have Ri:=CL fs ls al i;have adk:(cg fs ls al i).2.length<=3969:=aY Ri (qq (show i<=63 by lia) NF);refine⟨_,rfl,_,rfl,_,rfl,_,rfl,pa,_,_,.ref pr,rfl,rfl,bA.of (s5 _ _ Yo),cw Yu,fs[i],q,(cg fs ls al i).1,pr,al[i],rfl,bA.of VS,bA.of (s5 _ _ Yv),by rw[Ee]; exact Kh _ (bG _),by rw[Ee]; lia,fun r T9 H4 s6 P6 XY hP=>?_⟩;rw[← P5] at hP;have hQ5:=s6 _ _ VS;have v8:=s6 _ _ nR;have Yx:=Er.mono (fW s6);have hrq:r≠q:=(aJ VS P6).symm;have Sx:r≠pm:=(aJ nR P6).symm;have s7:=s5.trans s6;have PY:T9.length=(cM fs ls al i).length:=hP.length.symm;refine⟨_,rfl,r,rfl,⟨_,bA.of XY⟩,?_⟩;refine fC (K:=K) (a:=r) (xs:=T9) (fun m σ H5=> ∃(x8 x9:Option V) (ms:List V),σ=[some (.ref pf),some (.ref pl),some (.ref pa),some (.ref q),some (.ref pm),some (.int i),some (.int fs[i]),some (.ref r),x8,x9]/\aD H H5/\H5 q=some (.lst ((dE (cg fs ls al i).1 ((cM fs ls al i).take m)).map V.int))/\H5 pm=some (.lst ms)/\nP H5 ((cg fs ls al i).2 ++ ((cM fs ls al i).take m).map fun x=>(i,x.1,x.2)) ms/\H5 r=some (.lst T9)/\P2 H5 (cM fs ls al i) T9)
    ⟨_,_,ms,rfl,s7,hQ5,v8,by simpa using Yx,XY,hP⟩ (fun m σ H5 _ ⟨_,_,_,_,_,_,_,_,h,_⟩=>bA.of h) ?_ ?_
   ·rintro m x σ H5 hx ⟨y8,y9,Ua,rfl,t5,P7,Ki,Es,NL,Rf⟩;have hm:m < (cM fs ls al i).length:=by have:=(ak.mp hx).1; lia
    have g0:(cM fs ls al i)[m]? =some (cM fs ls al i)[m]:=af hm;obtain⟨v,hv,pp,e1,Iq⟩:=bI Rf g0;rw[hx] at hv;obtain rfl:x=v:=aF hv;subst e1;have hb:(cM fs ls al i)[m].1 < ls.length:=Yw _ (bG _);have lO:=jm hm;have Vu:(dE (cg fs ls al i).1 ((cM fs ls al i).take m)).length=ls.length:=by rw[pM,Ee]
    generalize (cM fs ls al i)[m]=pt at Iq hb lO g0;obtain⟨b,am⟩:=pt;dsimp only at Iq hb;refine⟨pp,_,rfl,cf.of Iq,rfl,_,_,rfl,_,_,rfl,rfl,?_⟩;refine⟨_,rfl,_,rfl,q,_,_,_,rfl,rfl,bA.of P7,ny (by rw[Vu]; exact hb),_,rfl,_,_,rfl,rfl,_,rfl,_,rfl,q,_,_,b,rfl,rfl,P7,qW (by rw[ae,Vu]; exact hb),?_⟩;rw[← Ij];have hap:dE (cg fs ls al i).1 ((cM fs ls al i).take (m + 1))=(dE (cg fs ls al i).1 ((cM fs ls al i).take m)).set b ((dE (cg fs ls al i).1 ((cM fs ls al i).take m)).getD b 0 - am):=by rw[lO,sW]
    rw[← hap];have t6:aD H (upd H5 q (.lst ((dE (cg fs ls al i).1 ((cM fs ls al i).take (m + 1))).map V.int))):=t5.cG nq;have HL:upd H5 q (.lst ((dE (cg fs ls al i).1 ((cM fs ls al i).take (m + 1))).map V.int)) pm=some (.lst Ua):=by rw[az Yt.symm]; exact Ki
    have hQ7:upd H5 q (.lst ((dE (cg fs ls al i).1 ((cM fs ls al i).take (m + 1))).map V.int)) q=some (.lst ((dE (cg fs ls al i).1 ((cM fs ls al i).take (m + 1))).map V.int)):=ag;have hr7:upd H5 q (.lst ((dE (cg fs ls al i).1 ((cM fs ls al i).take (m + 1))).map V.int)) r=some (.lst T9):=by rw[az hrq]; exact NL
    have P8:=Es.mono (dA (o:= .lst ((dE (cg fs ls al i).1 ((cM fs ls al i).take (m + 1))).map V.int)) P7);have hP7:=Rf.mono (dA (o:= .lst ((dE (cg fs ls al i).1 ((cM fs ls al i).take (m + 1))).map V.int)) P7);generalize upd H5 q (.lst ((dE (cg fs ls al i).1 ((cM fs ls al i).take (m + 1))).map V.int))=H6 at t6 HL hQ7 hr7 P8 hP7 ⊢;have FD:=P8.length;rw[aC,ae,bf] at FD;refine⟨_,rfl,.inl ⟨rfl,_,bA.of HL⟩,_,rfl,_,rfl,_,rfl,(by show 3<=sizeLine; decide),fun p8 n8=>?_⟩;have s8:aD H6 (upd H6 p8 (.tup [.int i,.int b,.int am])):=aD.new n8;refine⟨pm,Ua,_,rfl,rfl,s8 _ _ HL,iY (by lia),?_⟩;refine⟨_,_,Ua ++ [.ref p8],rfl,(t6.trans s8).cG Yp,?_,ag,?_,?_,?_⟩
    ·rw[az Yt]; exact s8 _ _ hQ7
    ·rw[lO,aK,← eG];exact cy ((P8.mono (fW s8)).mono (dA (s8 _ _ HL))) ⟨p8,rfl,dA (s8 _ _ HL) _ _ ag⟩
    ·rw[az Sx]; exact s8 _ _ hr7
    ·exact(hP7.mono (fW s8)).mono (dA (s8 _ _ HL))
   ·rintro σ H5 ⟨y8,y9,Ua,rfl,t5,P7,Ki,Es,NL,Rf⟩;rw[PY,a7] at P7 Es;exact⟨_,_,_,_,_,Ua,rfl,t5,by rw[CK]; exact P7,Ki,by rw[tF]; exact Es⟩
  ·rintro σ H2 ⟨x5,x6,x7,x8,x9,ms,rfl,s3,hQ,hM,FN⟩;rw[ae] at FN;refine⟨_,rfl,?_⟩;exact k _ _ _ s3 hM FN
def MQ {X:Cx}{K:Frag}{es:List Expr}{k:Nat}{pos:Pos}{t:Lw}{n:Nat}(hK:X.K=K)(hc:X.calm=true)(h:ID X es t)(hn:(assignEach es X.env).length=n)(rF:(assignEach es X.env).findIdx? (·.1)=none):PG X (.Tuple es k pos) (Oh K n t):=by
 subst hK;exact IE hc h hn rF
def fU {H H':Hp}{tb:Addr}{fp:List Addr}{pos:Pos}{qual:Str}(t:Tb H tb pos qual)(fr:Frame fp H H')(ht:tb∉fp)(hf: ∀a∈fp,∀φ,H a≠some (.ext φ)):Tb H' tb pos qual:=by
 obtain⟨ps,h1,h2,h3⟩:=t;refine⟨ps,fr _ _ ht h1,h2,?_⟩;rcases h3 with h3|⟨c',h3,h4⟩
 ·exact .inl h3
 ·exact .inr ⟨c',h3,fr _ _ (fun z=>hf _ z _ h4) h4⟩
def cY {H:Hp}{tb:Addr}{pos:Pos}{qual:Str}(t:Tb H tb pos qual): ∃ps,H tb=some (.mL ps):=let⟨ps,e,_⟩:=t; ⟨ps,e⟩
def dD {fp SH:List Addr}{H H':Hp}(f:Frame fp H H')(h: ∀x∈fp,x∈SH):Frame SH H H':=fun b o hb e=>f b o (fun z=>hb (h b z)) e
def uC {H:Hp}{p C D:Addr}{fs:List (Str×V)}{ys:List V}{o:HO}(h:en H p C fs)(e:H D=some (.lst ys)):en (upd H D o) p C fs:=let⟨dx,z⟩:=h; ⟨dx,by rw[az (mr z e (by intro q; cases q))]; exact z⟩
def gF.upd {A:dU}{H:Hp}{S:Bk}{cs:List Nat}{qs:List Addr}{D:Addr}{ys:List V}{o:HO}(h:gF A H S cs qs)(e:H D=some (.lst ys)):gF A (L2.upd H D o) S cs qs:=Paired.gI h fun _ _ z=>uC z e
def iB.upd {A:dU}{H:Hp}{S:Bk}{cs:List Nat}{qs:List Addr}{D:Addr}{ys:List V}{o:HO}(h:iB A H S cs qs)(e:H D=some (.lst ys)):iB A (L2.upd H D o) S cs qs:=Paired.gI h fun _ _ z=>uC z e
def gF.tb {A:dU}{H H':Hp}{S:Bk}{cs:List Nat}{qs:List Addr}{tb:Addr}{pos:Pos}{qual:Str}(h:gF A H S cs qs)(t:Tb H tb pos qual)(fr:Frame [tb] H H'):gF A H' S cs qs:=Paired.gI h fun _ _ z=>z.frame fr (vX t z)
def oj {rows:List Rw}{c:Nat}(h:c < rows.length):(rows.map fun r=>V.int r.d)[c]? =some (.int (rows.getD c default).d):=by
 rw[aB,af h,aj,af h]; rfl
def om (rows:List Rw)(aH:Str)(key:Rw->Int):(inOrder rows aH key).length<=rows.length:=by
 have e:(inOrder rows aH key).length=((List.range rows.length).filter fun k=>decide ((rows.getD k default).aH=aH)).length:=by
  unfold inOrder gi;rw[ae,(c9 _).length_eq,ae]
 have:=aX (fun k=>decide ((rows.getD k default).aH=aH)) (List.range rows.length);rw[dj] at this;lia
def mB (rows:List Rw)(k:Nat):Bool:=decide (0 < (rows.getD k default).d)
abbrev Kj:=List Int->List Int->List (List Bool)->List (Nat×Nat×Int)
def pZ:Kj:=fun fs ls al=>(bU fs ls al fs.length).2
def CM:Kj:=fun fs ls al=>(cg fs ls al fs.length).2
structure Kk (way:Kj):Prop where
 lt: ∀fs ls al,∀t∈way fs ls al,t.1 < fs.length/\t.2.1 < ls.length
 len: ∀fs ls al,fs.length<=63->ls.length<=63->(way fs ls al).length<=4000
def P9 (way:Kj)(sp:Sp):Prop:= ∀(pf pl pa:Addr) (fs ls:List Int) (al:List (List Bool)) (H:Hp) (Q:VK),H pf=some (.lst (fs.map V.int))->H pl=some (.lst (ls.map V.int))->Rp H (.lst (al.map Av)) (.ref pa)->fs.length<=63->ls.length<=63->al.length=fs.length->(∀r∈al,r.length=ls.length)->
 (∀(pm:Addr) (ms:List V) (H':Hp),aD H H'->H' pm=some (.lst ms)->hJ H' (way fs ls al) ms->Q (.ref pm) H')->sp [.ref pf,.ref pl,.ref pa] H Q E0
def i6 (H:Hp)(D:Addr)(al:List (List Bool))(rs:List V):Prop:=Paired (fun(r:List Bool) v=> ∃p,v= .ref p/\p≠D/\H p=some (.lst (r.map V.bl))) al rs
def i6.upd {H:Hp}{D:Addr}{al:List (List Bool)}{rs:List V}{o:HO}(h:i6 H D al rs):i6 (L2.upd H D o) D al rs:=Paired.gI h fun _ _ ⟨p,e,n,z⟩=>⟨p,e,n,by rw[az n]; exact z⟩
def i6.same {H H':Hp}{D:Addr}{al:List (List Bool)}{rs:List V}(h:i6 H D al rs)(s:aD H H'):i6 H' D al rs:=Paired.gI h fun _ _ ⟨p,e,n,z⟩=>⟨p,e,n,s _ _ z⟩
def yK {H:Hp}: ∀r:List Bool,g6 H (r.map Dt.bl) (r.map V.bl)
 |[]=>cL.mpr rfl
 |b :: r=>bC.mpr ⟨_,_,rfl,qD.mpr rfl,yK r⟩
def i6.rp {H:Hp}{D:Addr}: ∀{al:List (List Bool)} {rs:List V},i6 H D al rs->g6 H (al.map Av) rs
 |_,_,.nil=>cL.mpr rfl
 |_,_,.cons ⟨p,e,_,z⟩ t=>bC.mpr ⟨_,_,rfl,e▸jt z (yK _),i6.rp t⟩
def HM {S:Bk}{l:List (Nat×Nat×Int)}{i:Nat}{t:Nat×Nat×Int}(h:l[i]? =some t):kh S (l.take (i + 1))=(kh S (l.take i)).put t.1 t.2.1 t.2.2:=jD (fun(S:Bk) (t:Nat×Nat×Int)=>S.put t.1 t.2.1 t.2.2) l S h
def FP (S:Bk): ∀l,(kh S l).aI.length=S.aI.length/\(kh S l).credits.length=S.credits.length
 |[]=>⟨rfl,rfl⟩
 |t :: l=>by
  obtain⟨a,b⟩:=FP (S.put t.1 t.2.1 t.2.2) l;exact⟨a.trans d8,b.trans d8⟩
inductive Az (P:Program)(w:World)(K:Frag)(mg:Str->Option Value)(base:Heap)(A:dU)(tB tC:Addr)(vs:List V)(H:Hp)(Q:VK)(E':XK):Prop
 |mk (pw fa:Addr)(S:Bk)(f:eJ)(n:Nat)(aH:Str)(way:Kj)(sp:Sp)(h1:vs=[.ref pw,.str aH,.ref fa])(h2:dC A H pw S f)(h3:WF S n)(h4:n<=62)(h5:lI H tB)(h6:mi H tC)(h7:Kk way)(h8:XO P w K mg base 2 fa sp)(h9:P9 way sp)(K6: ∀gs ts fs ls al,vd S aH gs ts fs ls al-> ∀D ms H',Frame (tB :: tC :: f.fp) H H'->lI H' tB->mi H' tC->dC A H' pw (kh S ((way fs ls al).map (l5 gs ts))) f->H D=none->H' D=some (.lst ms)->hJ H' ((way fs ls al).map (l5 gs ts)) ms->Q (.ref D) H'):Az P w K mg base A tB tC vs H Q E'
def kH:aS ["self","who","way","givers","takers","frees","lefts","found","numbered","credit_number","bill_number","amount"] ["self","who","way"] (ay (mem 25 7)):={}
def CO (T:Txt K mg){A:dU}{tB tC:Addr}(G:jv K mg A)(DB:qm K mg "bills_in_order" (top 17) tB)(DC:qm K mg "credits_in_order" (top 18) tC)(i9:tB≠tC)(KB:K.In base)(BM:BMain mg base):gP rZ P w K mg base A.work "one_round" 3 ["self","who","way"] (Az P w K mg base A tB tC):=by
 have iV:eI P w K mg base "bills_in_order" 2 ["bills","who"] (uy A tB):=lH T G DB KB BM;have gY:eI P w K mg base "credits_in_order" 2 ["all_credits","who"] (uz A tC):=jW T G DC KB BM;have xI:eI P w K mg base "row_of_fits" 2 ["credit","bills"] (Ka A):=xu T G;have J0:gP rZ P w K mg base A.work "put" 1 ["self","credit_number","bill_number","amount"] (z6 A):=ND G;refine Mw (k:=2) G.qS G.bH kH (fun f cO A' outer s H vs Q E hr h=>?_)
 ·obtain⟨pw,fa,S,g,n,aH,way,sp,rfl,hW,wf,hn,j9,jE,Ub,hFv,hWC,k⟩:=h;have nd:=kH.nd;have hlc:S.credits.length<=62:=by have:=wf.lc; lia
  have hlb:S.aI.length<=62:=by have:=wf.lb; lia
  refine⟨_,(ah (sv 3 nd (gg (tn:=["credit"]) (cn:=["self"]) (cj:=[0]) rfl (gR (yk:=[(".0",.local),("credit",.local),("self",.cell)])) (rH (fc gY hr (aa (km (pv 0)) (aa (pv 1) av)))) (fun _ _ _ _=>(dQ (i:=0) (show(["credit","self"]:List Str).Nodup by decide +kernel) rfl (Or.inl rfl))) (fun _ _ _ _=>(mV (aV iK (i8 (lh (K:=K) rfl) (fm (K:=K) rfl (pv 1) rfl) (fm (K:=K) rfl (pv 0) rfl) (fun _ _=>rfl)) ai (aZ _)))) (fun _ _ _ _=>(pv 0))))
(ah (sv 4 nd (gg (tn:=["bill"]) (cn:=["self"]) (cj:=[0]) rfl (gR (yk:=[(".0",.local),("bill",.local),("self",.cell)])) (rH (fc iV hr (aa (km (pv 0)) (aa (pv 1) av)))) (fun _ _ _ _=>(dQ (i:=0) (show(["bill","self"]:List Str).Nodup by decide +kernel) rfl (Or.inl rfl))) (fun _ _ _ _=>(mV (aV iK (i8 (lh (K:=K) rfl) (fm (K:=K) rfl (pv 1) rfl) (fm (K:=K) rfl (pv 0) rfl) (fun _ _=>rfl)) ai (aZ _)))) (fun _ _ _ _=>(pv 0))))
(ah (jH (i:=5) nd rfl (Or.inl rfl) (tn:=["credit"]) (cn:=["self"]) (cj:=[0]) rfl (gR (yk:=[(".0",.local),("credit",.local),("self",.cell)])) (rH (pv 3)) (fun _ _ _ _=>(dQ (i:=0) (show(["credit","self"]:List Str).Nodup by decide +kernel) rfl (Or.inl rfl))) (fun _ _ _ _=>kM) (fun _ _ _ _=>(i8 (lh (K:=K) rfl) (fm (K:=K) rfl (pv 1) rfl) (fm (K:=K) rfl (pv 0) rfl) (fun _ _=>rfl))))
(ah (jH (i:=6) nd rfl (Or.inl rfl) (tn:=["bill"]) (cn:=["self"]) (cj:=[0]) rfl (gR (yk:=[(".0",.local),("bill",.local),("self",.cell)])) (rH (pv 4)) (fun _ _ _ _=>(dQ (i:=0) (show(["bill","self"]:List Str).Nodup by decide +kernel) rfl (Or.inl rfl))) (fun _ _ _ _=>kM) (fun _ _ _ _=>(i8 (lh (K:=K) rfl) (fm (K:=K) rfl (pv 1) rfl) (fm (K:=K) rfl (pv 0) rfl) (fun _ _=>rfl))))
(ah (sv 7 nd (Pm (i:=2) (k:=2) (hr.mono (by decide)) rfl (Or.inl rfl) (aa (pv 5) (aa (pv 6) (aa (gg (tn:=["credit"]) (cn:=["takers"]) (cj:=[4]) rfl (gR (yk:=[(".0",.local),("credit",.local),("row_of_fits",.globalImplicit),("takers",.cell)])) (rH (pv 3)) (fun _ _ _ _=>(dQ (i:=0) (show(["credit","takers"]:List Str).Nodup by decide +kernel) rfl (Or.inl rfl))) (fun _ _ _ _=>kM) (fun _ _ _ _=>(fc xI hr (aa (pv 0) (aa (pv 1) av))))) av)))))
(ah (jH (i:=8) nd rfl (Or.inl rfl) (tn:=["giver","taker","amount"]) (cn:=["takers","givers"]) (cj:=[4,3]) rfl (Am (yk:=[(".0",.local),("giver",.local),("taker",.local),("amount",.local),("givers",.cell),("takers",.cell)])) (rH (pv 7)) (fun _ _ _ _=>(MQ (K:=K) (n:=3) rfl rfl (bX (dQ (i:=0) (show(["giver","taker","amount","takers","givers"]:List Str).Nodup by decide +kernel) rfl (Or.inl rfl) (Or.inr rfl)) (bX (dQ (i:=1) (show(["giver","taker","amount","takers","givers"]:List Str).Nodup by decide +kernel) rfl (Or.inl rfl) (Or.inr rfl)) (bX (dQ (i:=2) (show(["giver","taker","amount","takers","givers"]:List Str).Nodup by decide +kernel) rfl (Or.inl rfl) (Or.inr rfl)) gv))) rfl rfl)) (fun _ _ _ _=>kM) (fun _ _ _ _=>(cD (aa (fm (K:=K) rfl (i8 (lh (K:=K) rfl) (pv 4) (pv 0) (fun _ _=>rfl)) rfl) (aa (fm (K:=K) rfl (i8 (lh (K:=K) rfl) (pv 3) (pv 1) (fun _ _=>rfl)) rfl) (aa (pv 2) av))))))
(ah (dW bw rfl (rH (pv 8)) (gT (bX (gn 9 nd) (bX (gn 10 nd) (bX (gn 11 nd) gv))))
(au (bK (nv J0 (hr.mono (by decide)) mU (pv 0) (aa (pv 9) (aa (pv 10) (aa (pv 11) av)))))))
(au (a0 (pv 8)))))))))),?_⟩
  obtain⟨dw,hw⟩:=hW.obj;refine⟨_,rfl,pw,_,dw,_,_,rfl,hw,G.bH,G.cB,gX g,_,rfl,g.pc,g.cps,S,aH,rfl,hW.hc,hW.rc,(by lia),jE,fun D1 Yy H1 Kl jY Uc Hx Jv=>?_⟩;have Dh:=vY hW (cY jE) Kl;have Km: ∀a∈[tC],∀φ,H a≠some (.ext φ):=fun a ha φ e=>by
   obtain⟨ps,z⟩:=cY jE;rw[ao.mp ha,z] at e;cases e
  have jl:lI H1 tB:=fU j9 Kl (by simpa using i9) Km;have F1:Frame (tB :: tC :: g.fp) H H1:=dD Kl (by intro x hx; rw[List.mem_singleton.mp hx]; simp);clear Km;refine⟨D1,rfl,⟨_,bA.of Hx⟩,?_⟩;have MK:=om S.credits aH (·.a);have Qa: ∀c∈inOrder S.credits aH (·.a),c < S.credits.length:=fun c hc=>(kr.mp hc).1;have L0:=g8 S.credits aH (·.a);generalize inOrder S.credits aH (·.a)=ord at Jv MK Qa L0;have Li:=aL Jv;refine dJ (K:=K) (a:=D1) (xs:=Yy.map V.ref) (fun D i σ H6=>H1 D=none/\ ∃(v:Option V) (rs:List Addr),σ=[v,some (.ref pw)]/\aD H1 H6/\H6 D=some (.lst (rs.map V.ref))/\gF A H6 S ((ord.take i).filter (mB S.credits)) rs) (fun D hD=>⟨hD,none,[],rfl,aD.new hD,ag,.nil⟩) (fun D i σ H6 _ ⟨_,_,_,_,t3,_⟩=>bA.of (t3 _ _ Hx)) ?_ ?_
  ·rintro D i x σ H6 hx ⟨hD,v,rs,rfl,t3,f7,Qb⟩;rw[aB] at hx;obtain⟨q,hq,rfl⟩:=bo.mp hx;have hi:i < ord.length:=by have:=(ak.mp hq).1; lia
   have oK:=af hi;obtain⟨q',sQ,lG⟩:=bI Jv oK;rw[hq] at sQ;obtain rfl:q=q':=aF sQ;have kX:=fk (mB S.credits) oK;have qL:=Qa _ (bG hi);generalize ord[i]=c at lG kX qL;obtain⟨dq,MR⟩:=lG.same t3;have Kn:=Dh.same t3;obtain⟨Qc,Qd⟩:=Kn.obj;have BC:rs.length<=1000:=by
    have e1:=aL Qb;have e2:=aX (mB S.credits) (ord.take i);rw[bf] at e2;lia
   refine⟨_,rfl,pw,_,Qc,_,_,rfl,Qd,G.bH,G.fA,lC g,_,rfl,q,_,dq,_,_,rfl,MR,G.de,G.eK,oh _ _,g.pf,_,_,.int (S.cr c).d,rfl,rfl,bA.of Kn.hf,cw (oj qL),_,_,rfl,rfl,_,rfl,ck (fun z=>?_) (fun z=>?_)⟩
   ·have z':mB S.credits c=true:=z;rw[a8 z'] at kX;refine⟨_,rfl,_,f7,a9 (by rw[ae]; exact BC),hD,_,rs ++ [q],rfl,t3.cG hD,(by rw[ag,aK]; rfl),?_⟩;rw[kX];exact cy (Qb.upd f7) (uC ⟨dq,MR⟩ f7)
   ·have z': ¬ mB S.credits c=true:=z;rw[aU z',bR] at kX;refine⟨hD,_,rs,rfl,t3,f7,?_⟩;rw[kX];exact Qb
  rintro pg σ H2 npg ⟨_,v,rs,rfl,s2,VT,MS⟩;rw[ae,← Li,a7] at MS;have egs:ord.filter (mB S.credits)=inTurn S.credits aH (·.a):=L0.symm;rw[egs] at MS;clear L0 egs Qa MK Jv Li Hx;have P1:(inTurn S.credits aH (·.a)).length<=62:=by
   rw[g8];have e1:=aX (fun k=>decide (0 < (S.credits.getD k default).d)) (inOrder S.credits aH (·.a));have e2:=om S.credits aH (·.a);lia
  have VU: ∀c∈inTurn S.credits aH (·.a),c < S.credits.length:=fun c hc=>(eN.mp hc).1;have As:=Dh.same s2;have ko:lI H2 tB:=bM jl s2;have mI:mi H2 tC:=bM jY s2;have F2:=F1.cU s2;clear Kl Dh jl jY s2 F1;obtain⟨Yz,Q5⟩:=As.obj;refine⟨_,rfl,pw,_,Yz,_,_,rfl,Q5,G.bH,G.dS,jc g,_,rfl,g.pb,g.ix,S,aH,rfl,As.hb,As.rb,(by lia),ko,fun D1 Yy H1 Kl jl Uc Hx Jv=>?_⟩;have Dh:=vY As (cY ko) Kl;have Km: ∀a∈[tB],∀φ,H2 a≠some (.ext φ):=fun a ha φ e=>by
   obtain⟨ps,z⟩:=cY ko;rw[ao.mp ha,z] at e;cases e
  have jY:mi H1 tC:=fU mI Kl (by simpa using i9.symm) Km;have F1:Frame (tB :: tC :: g.fp) H H1:=F2.tr (dD Kl (by intro x hx; rw[List.mem_singleton.mp hx]; simp));have hG1:=MS.tb ko Kl;have Ud:H1 pg=some (.lst (rs.map V.ref)):=Kl _ _ (fun z=>by
   obtain⟨ps,e⟩:=cY ko;rw[ao.mp z,e] at VT;cases VT) VT
  clear Km;refine⟨D1,rfl,⟨_,bA.of Hx⟩,?_⟩;have MK:=om S.aI aH (·.b);have Qa: ∀c∈inOrder S.aI aH (·.b),c < S.aI.length:=fun c hc=>(kr.mp hc).1;have L0:=g8 S.aI aH (·.b);generalize inOrder S.aI aH (·.b)=ord at Jv MK Qa L0;have Li:=aL Jv;refine dJ (K:=K) (a:=D1) (xs:=Yy.map V.ref) (fun D i σ H6=>H1 D=none/\ ∃(v:Option V) (us:List Addr),σ=[v,some (.ref pw)]/\aD H1 H6/\H6 D=some (.lst (us.map V.ref))/\iB A H6 S ((ord.take i).filter (mB S.aI)) us) (fun D hD=>⟨hD,none,[],rfl,aD.new hD,ag,.nil⟩) (fun D i σ H6 _ ⟨_,_,_,_,t3,_⟩=>bA.of (t3 _ _ Hx)) ?_ ?_
  ·rintro D i x σ H6 hx ⟨hD,v,us,rfl,t3,f7,Qb⟩;rw[aB] at hx;obtain⟨q,hq,rfl⟩:=bo.mp hx;have hi:i < ord.length:=by have:=(ak.mp hq).1; lia
   have oK:=af hi;obtain⟨q',sQ,lG⟩:=bI Jv oK;rw[hq] at sQ;obtain rfl:q=q':=aF sQ;have kX:=fk (mB S.aI) oK;have qL:=Qa _ (bG hi);generalize ord[i]=c at lG kX qL;obtain⟨dq,MR⟩:=lG.same t3;have Kn:=Dh.same t3;obtain⟨Qc,Qd⟩:=Kn.obj;have BC:us.length<=1000:=by
    have e1:=aL Qb;have e2:=aX (mB S.aI) (ord.take i);rw[bf] at e2;lia
   refine⟨_,rfl,pw,_,Qc,_,_,rfl,Qd,G.bH,G.fz,lB g,_,rfl,q,_,dq,_,_,rfl,MR,G.dY,G.eQ,lz _ _,g.pl,_,_,.int (S.bl c).d,rfl,rfl,bA.of Kn.hl,cw (oj qL),_,_,rfl,rfl,_,rfl,ck (fun z=>?_) (fun z=>?_)⟩
   ·have z':mB S.aI c=true:=z;rw[a8 z'] at kX;refine⟨_,rfl,_,f7,a9 (by rw[ae]; exact BC),hD,_,us ++ [q],rfl,t3.cG hD,(by rw[ag,aK]; rfl),?_⟩;rw[kX];exact cy (Qb.upd f7) (uC ⟨dq,MR⟩ f7)
   ·have z': ¬ mB S.aI c=true:=z;rw[aU z',bR] at kX;refine⟨hD,_,us,rfl,t3,f7,?_⟩;rw[kX];exact Qb
  rintro pt σ H3 npt ⟨_,v',us,rfl,s3,wB,FA⟩;rw[ae,← Li,a7] at FA;have ets:ord.filter (mB S.aI)=inTurn S.aI aH (·.b):=L0.symm;rw[ets] at FA;clear L0 ets Qa MK Jv Li Hx;have htl:(inTurn S.aI aH (·.b)).length<=62:=by
   rw[g8];have e1:=aX (fun k=>decide (0 < (S.aI.getD k default).d)) (inOrder S.aI aH (·.b));have e2:=om S.aI aH (·.b);lia
  have NM: ∀c∈inTurn S.aI aH (·.b),c < S.aI.length:=fun c hc=>(eN.mp hc).1;have z7:=Dh.same s3;have rz:lI H3 tB:=bM jl s3;have rA:mi H3 tC:=bM jY s3;have F3:=F1.cU s3;have Ue:=hG1.same s3;have MT:=s3 _ _ Ud;clear Kl Dh jl jY s3 F1 hG1 Ud F2 As ko mI MS VT Q5;generalize hgs:inTurn S.credits aH (·.a)=gs at Ue P1 VU;generalize hts:inTurn S.aI aH (·.b)=ts at FA htl NM;have hgq:=aL Ue;have htq:=aL FA;have hR:vd S aH gs ts (gs.map fun g=>(S.cr g).d) (ts.map fun t=>(S.bl t).d) (gs.map fun g=>ts.map fun t=>S.eF g t):=⟨hgs.symm,hts.symm,rfl,rfl,rfl⟩;refine⟨_,rfl,pg,rfl,⟨_,bA.of MT⟩,?_⟩;refine dJ (K:=K) (a:=pg) (xs:=rs.map V.ref) (fun D i σ H6=>H3 D=none/\ ∃(v:Option V),σ=[v,some (.ref pw)]/\aD H3 H6/\H6 D=some (.lst (((gs.take i).map fun g=>(S.cr g).d).map V.int))) (fun D hD=>⟨hD,none,rfl,aD.new hD,ag⟩) (fun D i σ H6 _ ⟨_,_,_,t3,_⟩=>bA.of (t3 _ _ MT)) ?_ ?_
  ·rintro D i x σ H6 hx ⟨hD,v,rfl,t3,f7⟩;rw[aB] at hx;obtain⟨q,hq,rfl⟩:=bo.mp hx;have hi:i < gs.length:=by have:=(ak.mp hq).1; lia
   obtain⟨q',sQ,lG⟩:=bI Ue (af hi);rw[hq] at sQ;obtain rfl:q=q':=aF sQ;have lO:=jm hi;have qL:=VU _ (bG hi);generalize gs[i]=c at lG lO qL;obtain⟨dq,MR⟩:=lG.same t3;have Kn:=z7.same t3;obtain⟨Qc,Qd⟩:=Kn.obj;refine⟨_,rfl,pw,_,Qc,_,_,rfl,Qd,G.bH,G.fA,lC g,_,rfl,q,_,dq,_,_,rfl,MR,G.de,G.eK,oh _ _,g.pf,_,_,.int (S.cr c).d,rfl,rfl,bA.of Kn.hf,cw (oj qL),_,f7,a9 (by rw[ae,ae,bf]; lia),hD,_,rfl,t3.cG hD,?_⟩;rw[ag,lO,aK,aK];rfl
  rintro pf σ H4 MU ⟨_,v4,rfl,s4,FH⟩;rw[ae,← hgq,a7] at FH;have hG4:=Ue.same s4;have NN:=FA.same s4;have T3:=z7.same s4;have sE:lI H4 tB:=bM rz s4;have sF:mi H4 tC:=bM rA s4;have F4:=F3.cU s4;have Ug:=s4 _ _ MT;have wa:=s4 _ _ wB;clear s4 F3 rz rA z7 FA Ue MT wB;refine⟨_,rfl,pt,rfl,⟨_,bA.of wa⟩,?_⟩;refine dJ (K:=K) (a:=pt) (xs:=us.map V.ref) (fun D i σ H6=>H4 D=none/\ ∃(v:Option V),σ=[v,some (.ref pw)]/\aD H4 H6/\H6 D=some (.lst (((ts.take i).map fun g=>(S.bl g).d).map V.int))) (fun D hD=>⟨hD,none,rfl,aD.new hD,ag⟩) (fun D i σ H6 _ ⟨_,_,_,t3,_⟩=>bA.of (t3 _ _ wa)) ?_ ?_
  ·rintro D i x σ H6 hx ⟨hD,v,rfl,t3,f7⟩;rw[aB] at hx;obtain⟨q,hq,rfl⟩:=bo.mp hx;have hi:i < ts.length:=by have:=(ak.mp hq).1; lia
   obtain⟨q',sQ,lG⟩:=bI NN (af hi);rw[hq] at sQ;obtain rfl:q=q':=aF sQ;have lO:=jm hi;have qL:=NM _ (bG hi);generalize ts[i]=c at lG lO qL;obtain⟨dq,MR⟩:=lG.same t3;have Kn:=T3.same t3;obtain⟨Qc,Qd⟩:=Kn.obj;refine⟨_,rfl,pw,_,Qc,_,_,rfl,Qd,G.bH,G.fz,lB g,_,rfl,q,_,dq,_,_,rfl,MR,G.dY,G.eQ,lz _ _,g.pl,_,_,.int (S.bl c).d,rfl,rfl,bA.of Kn.hl,cw (oj qL),_,f7,a9 (by rw[ae,ae,bf]; lia),hD,_,rfl,t3.cG hD,?_⟩;rw[ag,lO,aK,aK];rfl
  rintro pl σ H5 YA ⟨_,v5,rfl,s5,gw⟩;rw[ae,← htq,a7] at gw;have YB:=hG4.same s5;have Rh:=NN.same s5;have hW5:=T3.same s5;have Ko:lI H5 tB:=bM sE s5;have Kp:mi H5 tC:=bM sF s5;have F5:=F4.cU s5;have MV:=s5 _ _ Ug;have Qe:=s5 _ _ wa;have Uh:=s5 _ _ FH;clear s5 F4 sE sF T3 NN hG4 Ug wa FH;refine⟨fa,sp,rfl,hFv,_,rfl,_,rfl,_,rfl,pg,rfl,⟨_,bA.of MV⟩,?_⟩;refine dJ (K:=K) (a:=pg) (xs:=rs.map V.ref) (fun D i σ H6=>H5 D=none/\ ∃(v:Option V) (ws:List V),σ=[v,some (.ref pt)]/\aD H5 H6/\H6 D=some (.lst ws)/\i6 H6 D ((gs.take i).map fun g=>ts.map fun t=>S.eF g t) ws) (fun D hD=>⟨hD,none,[],rfl,aD.new hD,ag,.nil⟩) (fun D i σ H6 _ ⟨_,_,_,_,t3,_⟩=>bA.of (t3 _ _ MV)) ?_ ?_
  ·rintro D i x σ H6 hx ⟨hD,v,ws,rfl,t3,f7,Rj⟩;rw[aB] at hx;obtain⟨q,hq,rfl⟩:=bo.mp hx;have hi:i < gs.length:=by have:=(ak.mp hq).1; lia
   obtain⟨q',sQ,lG⟩:=bI YB (af hi);rw[hq] at sQ;obtain rfl:q=q':=aF sQ;have lO:=jm hi;have qL:=VU _ (bG hi);generalize gs[i]=c at lG lO qL;have E3:=aL Rj;rw[ae,bf] at E3;refine⟨_,rfl,_,rfl,q,pt,S,c,ts,us,rfl,lG.same t3,t3 _ _ Qe,Rh.same t3,(by lia),fun p H7 t7 np hp=>?_⟩;have YC:(ts.map fun b=>oT (S.cr c) (S.bl b) b)=ts.map fun t=>S.eF c t:=gK fun b hb=>yA wf qL (NM b hb);rw[YC] at hp;have Rk:=t7 _ _ f7;have Lh:p≠D:=(aJ f7 np).symm;refine⟨_,Rk,a9 (by lia),hD,_,ws ++ [.ref p],rfl,(t3.trans t7).cG hD,ag,?_⟩;rw[lO,aK];exact cy ((Rj.same t7).upd) ⟨p,rfl,Lh,by rw[az Lh]; exact hp⟩
  rintro pa σ H6 npa ⟨_,v6,ws,rfl,s6,MW,Rj⟩;rw[ae,← hgq,a7] at Rj;refine hWC pf pl pa _ _ _ H6 _ (s6 _ _ Uh) (s6 _ _ gw) (jt MW Rj.rp) (by rw[ae]; lia) (by rw[ae]; lia) (by rw[ae,ae]) (fun r hr=>by
   obtain⟨x,_,rfl⟩:=bF.mp hr;rw[ae,ae]) fun pm ms H7 s7 HN FN=>?_
  have ip:=Ub.lt (gs.map fun g=>(S.cr g).d) (ts.map fun t=>(S.bl t).d) (gs.map fun g=>ts.map fun t=>S.eF g t);have hlen:=Ub.len (gs.map fun g=>(S.cr g).d) (ts.map fun t=>(S.bl t).d) (gs.map fun g=>ts.map fun t=>S.eF g t) (by rw[ae]; lia) (by rw[ae]; lia);rw[ae,ae] at ip;have kk:=k _ _ _ _ _ hR;generalize way (gs.map fun g=>(S.cr g).d) (ts.map fun t=>(S.bl t).d) (gs.map fun g=>ts.map fun t=>S.eF g t)=fd at ip hlen FN kk;have xJ:=s6.trans s7;have hG7:=YB.same xJ;have hT7:=Rh.same xJ;have VW:=hW5.same xJ;have Qf:lI H7 tB:=bM Ko xJ;have Qg:mi H7 tC:=bM Kp xJ;have F7:=F5.cU xJ;have Ui:=xJ _ _ MV;have Uj:=xJ _ _ Qe;clear xJ s6 s7 F5 Ko Kp hW5 Rh YB MV Qe Uh gw Rj MW k hWC hFv;have VO:=aL FN;refine⟨_,rfl,pm,rfl,⟨_,bA.of HN⟩,?_⟩;refine dJ (K:=K) (a:=pm) (xs:=ms) (fun D i σ H6=>H7 D=none/\ ∃(v1 v2 v3:Option V) (ws:List V),σ=[v1,v2,v3,some (.ref pt),some (.ref pg)]/\aD H7 H6/\H6 D=some (.lst ws)/\hJ H6 ((fd.take i).map (l5 gs ts)) ws) (fun D hD=>⟨hD,none,none,none,[],rfl,aD.new hD,ag,.nil⟩) (fun D i σ H6 _ ⟨_,_,_,_,_,_,t3,_⟩=>bA.of (t3 _ _ HN)) ?_ ?_
  ·rintro D i x σ H6 hx ⟨hD,v1,v2,v3,ws,rfl,t3,f7,HG⟩;have hi:i < fd.length:=by have:=(ak.mp hx).1; lia
   obtain⟨v',hv,p,rfl,hp⟩:=bI FN (af hi);rw[hx] at hv;obtain rfl:x= .ref p:=aF hv;have lO:=jm hi;obtain⟨l1,l2⟩:=ip _ (bG hi);generalize fd[i]=t at hp lO l1 l2;have E3:=aL HG;rw[ae,bf] at E3;have g1:gs[t.1]? =some (gs.getD t.1 0):=by rw[aj,af l1]; rfl
   have g2:ts[t.2.1]? =some (ts.getD t.2.1 0):=by rw[aj,af l2]; rfl
   obtain⟨q1,Li,i1⟩:=bI hG7 g1;obtain⟨q2,A4,i2⟩:=bI hT7 g2;obtain⟨d1,e1⟩:=i1.same t3;obtain⟨d2,e2⟩:=i2.same t3;refine⟨p,_,rfl,cf.of (t3 _ _ hp),rfl,_,_,rfl,_,_,rfl,_,_,rfl,rfl,?_⟩;refine⟨_,rfl,_,rfl,pg,_,_,.ref q1,rfl,rfl,bA.of (t3 _ _ Ui),cw (by rw[aB,Li]; rfl),q1,_,d1,_,_,rfl,e1,G.de,G.eK,oh _ _,?_⟩;refine⟨_,rfl,_,rfl,pt,_,_,.ref q2,rfl,rfl,bA.of (t3 _ _ Uj),cw (by rw[aB,A4]; rfl),q2,_,d2,_,_,rfl,e2,G.dY,G.eQ,lz _ _,_,rfl,(by show 3<=sizeLine; decide),fun p8 n8=>?_⟩;have s8:=aD.new (o:= .tup [.int (gs.getD t.1 0:Nat),.int (ts.getD t.2.1 0:Nat),.int t.2.2]) n8;have Rl:=s8 _ _ f7;refine⟨_,Rl,iY (by lia),hD,_,_,_,ws ++ [.ref p8],rfl,(t3.trans s8).cG hD,ag,?_⟩;rw[lO,aK];have tk:=dN (o:= .lst (ws ++ [.ref p8])) Rl;exact cy ((HG.mono s8.tk).mono tk) ⟨p8,rfl,tk _ _ ag⟩
  rintro pn σ H8 Qh ⟨_,w1,w2,w3,ws,rfl,s8,Hs,Uk⟩;rw[← VO,a7] at Uk;have Rm:=VW.same s8;have Ul:lI H8 tB:=bM Qf s8;have Um:mi H8 tC:=bM Qg s8;have F8:=F7.cU s8;have YD:H pn=none:=by
   cases e:H pn with
   |none=>rfl
   |some o=>
    exfalso;by_cases jO:pn∈tB :: tC :: g.fp
    ·rcases aw.mp jO with z|jO
     ·obtain⟨ps,q⟩:=cY Qf;rw[← z,Qh] at q;cases q
     ·rcases aw.mp jO with z|jO
      ·obtain⟨ps,q⟩:=cY Qg;rw[← z,Qh] at q;cases q
      ·exact VW.new Qh jO
    ·have q:=F7 _ _ jO e;rw[Qh] at q;cases q
  have Uo:pn∉g.fp:=VW.new Qh;have ub: ∀t∈fd.map (l5 gs ts),t.1 < S.credits.length/\t.2.1 < S.aI.length:=fun t ht=>by
   obtain⟨u,hu,rfl⟩:=bF.mp ht;obtain⟨l1,l2⟩:=ip u hu;exact⟨VU _ (jM l1),NM _ (jM l2)⟩
  have Ee:(fd.map (l5 gs ts)).length<=4000:=by rw[ae]; exact hlen
  generalize fd.map (l5 gs ts)=L at Uk kk ub Ee;have E3:=aL Uk;clear ip hlen FN HN Ui Uj hG7 hT7 VW Qf Qg F7 s8;refine⟨_,rfl,pn,rfl,⟨_,bA.of Hs⟩,?_⟩;refine fC (K:=K) (a:=pn) (xs:=ws) (fun i σ H2=> ∃(x9 xK HP:Option V),σ=[some (.ref pw),some (.str aH),some (.ref fa),some (.ref pg),some (.ref pt),some (.ref pf),some (.ref pl),some (.ref pm),some (.ref pn),x9,xK,HP]/\Frame g.fp H8 H2/\dC A H2 pw (kh S (L.take i)) g)
   ⟨none,none,none,rfl,Frame.refl,Rm⟩ (fun i σ H2 _ ⟨_,_,_,_,f2,_⟩=>bA.of (f2 _ _ Uo Hs)) ?_ ?_
  ·rintro i x σ H2 hx ⟨x9,xK,HP,rfl,f2,As⟩;have hi:i < L.length:=by have:=(ak.mp hx).1; lia
   have oK:=af hi;obtain⟨v',hv,p,rfl,hp⟩:=bI Uk oK;rw[hx] at hv;obtain rfl:x= .ref p:=aF hv;have wB:=HM (S:=S) oK;obtain⟨m1,m2⟩:=ub _ (bG hi);generalize L[i]=t at hp wB m1 m2;obtain⟨b1,b2⟩:=FP S (L.take i);have FD:(kh S (L.take i)).made.length < sizeLine:=by
    rw[jz,aC,bf];have:=wf.lm;exact iY (by lia)
   obtain⟨Yz,Q5⟩:=As.obj;refine⟨p,_,rfl,cf.of (Rm.tk f2 _ _ hp),rfl,_,_,rfl,_,_,rfl,_,_,rfl,rfl,?_⟩;refine⟨_,rfl,pw,Yz,_,rfl,Q5,JY g,_,rfl,_,rfl,_,rfl,pw,_,g,t.1,t.2.1,t.2.2,rfl,As,(by rw[b2]; exact m1),(by rw[b1]; exact m2),FD,fun H3 f3 W3=>?_⟩;refine⟨_,_,_,rfl,f2.tr f3,?_⟩;rw[wB];exact W3
  ·rintro σ H2 ⟨x9,xK,HP,rfl,f2,As⟩;rw[← E3,a7] at As;have ext2: ∀a∈g.fp,∀φ,H8 a≠some (.ext φ):=fun a ha φ e=>by
    obtain⟨xs,z⟩:=Rm.lists a ha;rw[z] at e;cases e
   have HQ:tB∉g.fp:=Rm.off fun xs e=>by
    obtain⟨ps,z⟩:=cY Ul;rw[z] at e;cases e
   have HR:tC∉g.fp:=Rm.off fun xs e=>by
    obtain⟨ps,z⟩:=cY Um;rw[z] at e;cases e
   exact⟨_,rfl,kk pn ws H2 (F8.tr (dD f2 fun x hx=>by simp[hx])) (fU Ul f2 HQ ext2) (fU Um f2 HR ext2) As YD (f2 _ _ Uo Hs) (Uk.mono (Rm.tk f2))⟩
def rB (g:eJ):(lA g).lookup ("one_round":Str)=none:=by rfl
def o5 {α β:Type}{F:α->β->Prop}: ∀{l₁:List α} {r₁:List β} {l₂:List α} {r₂:List β},Paired F l₁ r₁->Paired F l₂ r₂->Paired F (l₁ ++ l₂) (r₁ ++ r₂)
 |_,_,_,_,.nil,h=>h
 |_,_,_,_,.cons a t,h=> .cons a (o5 t h)
def Ew:Kk pZ:=⟨fun fs ls al t h=>l6 fs ls al _ t h,fun fs ls al h1 _=>by
 have:=L2.g9 fs ls al fs.length;show(bU fs ls al fs.length).2.length<=4000;lia⟩
def Kq:Kk CM:=⟨fun fs ls al t h=>vi fs ls al _ t h,fun fs ls al h1 h2=>by
 have:=pN fs ls al fs.length;have h3:fs.length * ls.length<=63 * 63:=qq h1 h2;show(cg fs ls al fs.length).2.length<=4000;lia⟩
def tH {H:Hp}: ∀{ms:List (Nat×Nat×Int)} {xs:List V},g6 H (ms.map Kg) xs->hJ H ms xs
 |[],_,h=>by
  rw[cL.mp h];exact .nil
 |t :: ms,_,h=>by
  obtain⟨v,r,rfl,h1,h2⟩:=bC.mp h;obtain⟨a,ys,rfl,h3,h4⟩:=jI.mp h1;obtain⟨u1,r1,rfl,e1,h5⟩:=bC.mp h4;obtain⟨u2,r2,rfl,e2,h6⟩:=bC.mp h5;obtain⟨u3,r3,rfl,e3,h7⟩:=bC.mp h6;obtain rfl:=cL.mp h7;obtain rfl:=di.mp e1;obtain rfl:=di.mp e2;obtain rfl:=di.mp e3;exact .cons ⟨a,rfl,h3⟩ (tH h2)
def Kr:P9 pZ (v7 K):=fun pf pl pa fs ls al H Q h1 h2 h3 h4 h5 h6 h7 k=>
 ⟨pf,pl,pa,fs,ls,al,rfl,bA.of h1,bA.of h2,h3,by lia,h6,h7,fun v H' s r=>by
  obtain⟨a,xs,rfl,e,r'⟩:=jJ.mp r;exact k a xs H' s e (tH r')⟩
def Qi:P9 CM (v9 K):=fun pf pl pa fs ls al H Q h1 h2 h3 h4 h5 h6 h7 k=>
 ⟨pf,pl,pa,fs,ls,al,rfl,bA.of h1,bA.of h2,h3,h4,h5,h6,h7,fun pm ms H' s e r=>k pm ms H' s e r⟩
inductive AA (A:dU)(tB tC:Addr)(vs:List V)(H:Hp)(Q:VK)(E':XK):Prop
 |mk (pw:Addr)(S:Bk)(f:eJ)(n:Nat)(aH:Str)(h1:vs=[.ref pw,.str aH])(h2:dC A H pw S f)(h3:WF S n)(h4:n<=60)(h5:lI H tB)(h6:mi H tC)(h7: ∀D ms H',Frame (tB :: tC :: f.fp) H H'->lI H' tB->mi H' tC->dC A H' pw (S.jL aH) f->H D=none->H' D=some (.lst ms)->hJ H' ((S.jL aH).made.drop S.made.length) ms->Q (.ref D) H'):AA A tB tC vs H Q E'
def o6:aS ["self","who","first","second"] ["self","who"] (ay (mem 25 6)):={}
def MX (T:Txt K mg){A:dU}{tB tC:Addr}(G:jv K mg A)(DB:qm K mg "bills_in_order" (top 17) tB)(DC:qm K mg "credits_in_order" (top 18) tC)(i9:tB≠tC)(KB:K.In base)(BM:BMain mg base):gP rZ P w K mg base A.work "sweep" 4 ["self","who"] (AA A tB tC):=by
 have tI:gP rZ P w K mg base A.work "one_round" 3 ["self","who","way"] (Az P w K mg base A tB tC):=CO T G DB DC i9 KB BM;obtain⟨f1,m1,V1⟩:=eI.fnv (MO (P:=P) (w:=w) (base:=base) T);obtain⟨f2,m2,V2⟩:=eI.fnv (Ay (P:=P) (w:=w) (base:=base) T);refine Mw (k:=3) G.xm G.bH o6 (fun f cO A' outer s H vs Q E hr h=>?_)
 ·obtain⟨pw,S,g,n,aH,rfl,hW,wf,hn,j9,jE,k⟩:=h;have nd:=o6.nd;refine⟨_,(ah (sv 2 nd (nv tI (hr.mono (by decide)) mU (pv 0) (aa (pv 1) (aa (EK (v:= .ref f1) rfl m1 rfl) av))))
(ah (sv 3 nd (nv tI (hr.mono (by decide)) mU (pv 0) (aa (pv 1) (aa (EK (v:= .ref f2) rfl m2 rfl) av))))
(au (a0 (aO mS (pv 2) (pv 3)))))),?_⟩
  obtain⟨dw,hw⟩:=hW.obj;refine⟨_,rfl,pw,dw,_,rfl,hw,rB g,_,rfl,pw,f1,S,g,n,aH,pZ,_,rfl,hW,wf,(by lia),j9,jE,Ew,V1,Kr,fun gs ts fs ls al R D1 YE H1 F1 jl jY Dh Uc Hx Iv=>?_⟩;obtain⟨er,lr⟩:=Jr R;have YC:fs.length=gs.length:=by rw[R.ef,ae]
  have eS:kh S ((pZ fs ls al).map (l5 gs ts))=bQ aH S true:=by rw[er]; unfold pZ; rw[YC]
  have em:(bQ aH S true).made=S.made ++ (pZ fs ls al).map (l5 gs ts):=by rw[← eS]; exact jz _ _
  obtain⟨_,l1,e1,b1,n1⟩:=vj S aH true;have el1:l1=(pZ fs ls al).map (l5 gs ts):=List.append_cancel_left (e1.symm.trans em);rw[eS] at Dh;rw[← el1] at Iv;have hcb:S.credits.length * S.aI.length<=60 * 60:=qq (by have:=wf.lc; lia) (by have:=wf.lb; lia);have wf1:WF (bQ aH S true) (n + 1):=by
   refine wf.later lr (fun t ht=>?_) (dm _) ?_
   ·rw[e1] at ht;rcases bq.mp ht with ht|ht
    ·exact wf.m t ht
    ·exact b1 t ht
   ·rw[e1,aC];have:=wf.lm;have:=wf.lc;lia
  obtain⟨dw1,Ts⟩:=Dh.obj;refine⟨_,rfl,pw,dw1,_,rfl,Ts,rB g,_,rfl,pw,f2,_,g,n + 1,aH,CM,_,rfl,Dh,wf1,(by lia),jl,jY,Kq,V2,Qi,fun Up VX Uq VY VZ R2 D2 NH H2 F2 ko mI As Iu Hy GL=>?_⟩;obtain⟨er2,lr2⟩:=Jt R2;have YF:Uq.length=Up.length:=by rw[R2.ef,ae]
  have eS2:kh (bQ aH S true) ((CM Uq VY VZ).map (l5 Up VX))=S.jL aH:=by
   show _ =bQ aH (bQ aH S true) false;rw[er2]; unfold CM; rw[YF]
  have em2:(S.jL aH).made=(bQ aH S true).made ++ (CM Uq VY VZ).map (l5 Up VX):=by rw[← eS2]; exact jz _ _
  rw[eS2] at As;have FD:(S.jL aH).made.length<=8000 * 60 + 8000:=by
   obtain⟨_,l3,e3,_,n3⟩:=qI S aH;rw[e3,aC];have:=wf.lm;have:=wf.lc;lia
  have YG:D1∉tB :: tC :: g.fp:=fun z=>by
   rcases aw.mp z with z|z
   ·obtain⟨ps,e⟩:=cY j9;rw[← z,Uc] at e;cases e
   ·rcases aw.mp z with z|z
    ·obtain⟨ps,e⟩:=cY jE;rw[← z,Uc] at e;cases e
    ·exact hW.new Uc z
  have YH:=F2 _ _ YG Hx;have kt:cF H1 H2:=fun b xs e=>F2 b _ (fun z=>by
   rcases aw.mp z with z|z
   ·obtain⟨ps,e'⟩:=cY jl;rw[z,e'] at e;cases e
   ·rcases aw.mp z with z|z
    ·obtain⟨ps,e'⟩:=cY jY;rw[z,e'] at e;cases e
    ·obtain⟨ys,e'⟩:=Dh.lists b z;rw[e'] at e;cases e) e
  have t1:=aL Iv;have t2:=aL GL;have hlen:(S.jL aH).made.length=S.made.length + l1.length + ((CM Uq VY VZ).map (l5 Up VX)).length:=by
   rw[em2,e1,aC,aC]
  refine⟨_,rfl,_,rfl,D1,D2,YE,NH,rfl,rfl,YH,Hy,?_,fun p np=>?_⟩
  ·have:YE.length + NH.length<=1000000:=by lia
   exact dr (iY this)
  ·have s3:=aD.new (o:= .lst (YE ++ NH)) np;have F:=F1.tr F2;have np0:H p=none:=by
    cases e:H p with
    |none=>rfl
    |some o=>
     exfalso;by_cases jO:p∈tB :: tC :: g.fp
     ·rcases aw.mp jO with z|jO
      ·obtain⟨ps,q⟩:=cY ko;rw[← z,np] at q;cases q
      ·rcases aw.mp jO with z|jO
       ·obtain⟨ps,q⟩:=cY mI;rw[← z,np] at q;cases q
       ·exact As.new np jO
     ·have q:=F _ _ jO e;rw[np] at q;cases q
   refine k p _ _ (F.cU s3) (bM ko s3) (bM mI s3) (As.same s3) np0 ag ?_;have ed:(S.jL aH).made.drop S.made.length=l1 ++ (CM Uq VY VZ).map (l5 Up VX):=by
    rw[em2,e1,eG,List.drop_left]
   rw[ed];exact o5 ((Iv.mono kt).mono s3.tk) (GL.mono s3.tk)
def AB (g:eJ):(lA g).lookup ("tell_bill":Str)=none:=by rfl
def ud (g:eJ):(lA g).lookup ("tell_payment":Str)=none:=by rfl
def AD (g:eJ):(lA g).lookup ("tell_note":Str)=none:=by rfl
def wb (g:eJ):(lA g).lookup ("set_by_hand":Str)=none:=by rfl
def Ks (g:eJ):(lA g).lookup ("sweep":Str)=none:=by rfl
inductive uD (A:dU)(K:Frag)(tB tC:Addr)(vs:List V)(H:Hp)(Q:VK)(E:XK):Prop
 |mk (pw pd:Addr)(S:Bk)(f:eJ)(n:Nat)(d:br)(h1:vs=[.ref pw,.ref pd])(h2:dC A H pw S f)(h3:WF S n)(h4:n<=60)(h5:lI H tB)(h6:mi H tC)(h7:H pd=some (.tup (br.vs d)))(h8:d.tells=true)(h9:(S.bar d=""-> ∀v f' H',f'.fp=f.fp->Frame (tB :: tC :: f.fp) H H'->lI H' tB->mi H' tC->dC A H' pw (S.enter d) f'->jV H' (fun D=>H D=none) (S.L3 d) v->Q v H'))(K6:(S.bar d≠""->MB A K E (S.bar d) H)):uD A K tB tC vs H Q E
def FQ:aS ["work","deed","kind"] ["work","deed"] (ay (top 30)):={}
def Kt (T:Txt K mg){A:dU}{tB tC:Addr}(G:jv K mg A)(DB:qm K mg "bills_in_order" (top 17) tB)(DC:qm K mg "credits_in_order" (top 18) tC)(i9:tB≠tC)(KB:K.In base)(BM:BMain mg base):vC P w K mg base "done" 7 ["work","deed"] (uD A K tB tC):=by
 have CP:gP (mH P w mg) P w K mg base A.work "tell_bill" 5 ["self","who","day","due","amount"] (z8 A K):=Cq T G;have wc:gP (mH P w mg) P w K mg base A.work "tell_payment" 6 ["self","who","day","amount"] (Aa A K):=vI T G;have CQ:gP (mH P w mg) P w K mg base A.work "tell_note" 6 ["self","bill_number","day","amount"] (Ab A K):=Cr T G;have xM:gP (mH P w mg) P w K mg base A.work "set_by_hand" 5 ["self","credit_number","bill_number","amount"] (JZ A K):=xq T G;have MY:gP rZ P w K mg base A.work "sweep" 4 ["self","who"] (AA A tB tC):=MX T G DB DC i9 KB BM;refine Pr (k:=6) T.Ph FQ (fun f cO A' outer s H vs Q E hr mx h=>?_)
 ·obtain⟨pw,pd,S,g,n,d,rfl,hW,wf,hn,j9,jE,hd,ht,k1,k2⟩:=h;have nd:=FQ.nd;obtain⟨dw,hw⟩:=hW.obj;refine⟨_,(ah (sv 2 nd (xt (pv 1) ai))
(ah (bN (aV cH (pv 2) aQ (aZ _))
(au (a0 (nv CP (hr.mono (by decide)) mx.pass (pv 0) (aa (xt (pv 1) ai) (aa (xt (pv 1) ai) (aa (xt (pv 1) ai) (aa (xt (pv 1) ai) av)))))))
bb)
(ah (bN (aV cH (pv 2) aQ (aZ _))
(au (a0 (nv wc (hr.mono (by decide)) mx.pass (pv 0) (aa (xt (pv 1) ai) (aa (xt (pv 1) ai) (aa (xt (pv 1) ai) av))))))
bb)
(ah (bN (aV cH (pv 2) aQ (aZ _))
(au (a0 (nv CQ (hr.mono (by decide)) mx.pass (pv 0) (aa (xt (pv 1) ai) (aa (xt (pv 1) ai) (aa (xt (pv 1) ai) av))))))
bb)
(ah (bN (aV cH (pv 2) aQ (aZ _))
(au (a0 (nv xM (hr.mono (by decide)) mx.pass (pv 0) (aa (xt (pv 1) ai) (aa (xt (pv 1) ai) (aa (xt (pv 1) ai) av))))))
bb)
(au (a0 (nv MY (hr.mono (by decide)) mU (pv 0) (aa (xt (pv 1) ai) av))))))))),?_⟩
  have ext: ∀a∈g.fp,∀φ,H a≠some (.ext φ):=fun a ha φ e=>by
   obtain⟨xs,z⟩:=hW.lists a ha;rw[z] at e;cases e
  have HQ:tB∉g.fp:=hW.off fun xs e=>by
   obtain⟨ps,z⟩:=cY j9;rw[z] at e;cases e
  have HR:tC∉g.fp:=hW.off fun xs e=>by
   obtain⟨ps,z⟩:=cY jE;rw[z] at e;cases e
  cases d with
  |ie n=>cases ht
  |ask o w d=>cases ht
  |fN w d l=>cases ht
  |dR wh dy du am=>
   refine⟨_,rfl,pd,_,_,.str "bill",rfl,rfl,cf.of hd,rfl,?_⟩;refine⟨_,rfl,rfl,true,yD _,fB ⟨_,rfl,pw,dw,_,rfl,hw,AB g,_,rfl,pd,_,_,.str wh,rfl,rfl,cf.of hd,rfl,_,rfl,pd,_,_,.int dy,rfl,rfl,cf.of hd,rfl,_,rfl,pd,_,_,.int du,rfl,rfl,cf.of hd,rfl,_,rfl,pd,_,_,.int am,rfl,rfl,cf.of hd,rfl,pw,S,g,wh,dy,du,am,rfl,hW,(by have:=wf.lb; lia),fun hb f1 H1 e1 F1 W1=>?_,k2⟩⟩;exact k1 hb _ f1 H1 e1 (dD F1 fun x hx=>by simp[hx]) (fU j9 F1 HQ ext) (fU jE F1 HR ext) W1 rfl
  |rG wh dy am=>
   refine⟨_,rfl,pd,_,_,.str "pay",rfl,rfl,cf.of hd,rfl,?_⟩;refine⟨_,rfl,rfl,false,jk (show("pay":Str)≠"bill" by decide +kernel),bT ?_⟩;refine⟨_,rfl,rfl,true,yD _,fB ⟨_,rfl,pw,dw,_,rfl,hw,ud g,_,rfl,pd,_,_,.str wh,rfl,rfl,cf.of hd,rfl,_,rfl,pd,_,_,.int dy,rfl,rfl,cf.of hd,rfl,_,rfl,pd,_,_,.int am,rfl,rfl,cf.of hd,rfl,pw,S,g,wh,dy,am,rfl,hW,(by have:=wf.lc; lia),fun hb f1 H1 e1 F1 W1=>?_,k2⟩⟩;exact k1 hb _ f1 H1 e1 (dD F1 fun x hx=>by simp[hx]) (fU j9 F1 HQ ext) (fU jE F1 HR ext) W1 rfl
  |note b dy am=>
   refine⟨_,rfl,pd,_,_,.str "note",rfl,rfl,cf.of hd,rfl,?_⟩;refine⟨_,rfl,rfl,false,jk (show("note":Str)≠"bill" by decide +kernel),bT ?_⟩;refine⟨_,rfl,rfl,false,jk (show("note":Str)≠"pay" by decide +kernel),bT ?_⟩;refine⟨_,rfl,rfl,true,yD _,fB ⟨_,rfl,pw,dw,_,rfl,hw,AD g,_,rfl,pd,_,_,.int b,rfl,rfl,cf.of hd,rfl,_,rfl,pd,_,_,.int dy,rfl,rfl,cf.of hd,rfl,_,rfl,pd,_,_,.int am,rfl,rfl,cf.of hd,rfl,pw,S,g,b,dy,am,rfl,hW,(by have:=wf.lc; lia),fun hb f1 H1 e1 F1 W1=>?_,k2⟩⟩;exact k1 hb _ f1 H1 e1 (dD F1 fun x hx=>by simp[hx]) (fU j9 F1 HQ ext) (fU jE F1 HR ext) W1 rfl
  |set c b am=>
   refine⟨_,rfl,pd,_,_,.str "set",rfl,rfl,cf.of hd,rfl,?_⟩;refine⟨_,rfl,rfl,false,jk (show("set":Str)≠"bill" by decide +kernel),bT ?_⟩;refine⟨_,rfl,rfl,false,jk (show("set":Str)≠"pay" by decide +kernel),bT ?_⟩;refine⟨_,rfl,rfl,false,jk (show("set":Str)≠"note" by decide +kernel),bT ?_⟩;refine⟨_,rfl,rfl,true,yD _,fB ⟨_,rfl,pw,dw,_,rfl,hw,wb g,_,rfl,pd,_,_,.int c,rfl,rfl,cf.of hd,rfl,_,rfl,pd,_,_,.int b,rfl,rfl,cf.of hd,rfl,_,rfl,pd,_,_,.int am,rfl,rfl,cf.of hd,rfl,pw,S,g,n,c,b,am,rfl,hW,wf,(iY (by have:=wf.lm; lia)),fun hb f1 H1 e1 F1 W1=>?_,k2⟩⟩;exact k1 hb _ f1 H1 e1 (dD F1 fun x hx=>by simp[hx]) (fU j9 F1 HQ ext) (fU jE F1 HR ext) W1 rfl
  |fT wh=>
   refine⟨_,rfl,pd,_,_,.str "sweep",rfl,rfl,cf.of hd,rfl,?_⟩;refine⟨_,rfl,rfl,false,jk (show("sweep":Str)≠"bill" by decide +kernel),bT ?_⟩;refine⟨_,rfl,rfl,false,jk (show("sweep":Str)≠"pay" by decide +kernel),bT ?_⟩;refine⟨_,rfl,rfl,false,jk (show("sweep":Str)≠"note" by decide +kernel),bT ?_⟩;refine⟨_,rfl,rfl,false,jk (show("sweep":Str)≠"set" by decide +kernel),bT ?_⟩;refine⟨_,rfl,pw,dw,_,rfl,hw,Ks g,_,rfl,pd,_,_,.str wh,rfl,rfl,cf.of hd,rfl,pw,S,g,n,wh,rfl,hW,wf,(by lia),j9,jE,fun D ms H1 F1 jl jY W1 nD hD hT=>?_⟩;exact k1 rfl _ g H1 rfl F1 jl jY W1 ⟨D,ms,rfl,nD,hD,hT⟩
def Ku {α:Type}(x:α)(xs:List α):rY (x :: xs) 0=some x:=cw (xs:=x :: xs) (j:=0) rfl
def kZ (H:Hp)(ss:List (Int×br))(bc:List (Key×V)):Prop:=Paired (fun(st:Int×br) (kv:Key×V)=>kv.1=Sum.inl st.1/\ ∃pd,kv.2= .ref pd/\H pd=some (.tup (br.vs st.2))/\st.2.tells=true) ss bc
def kZ.mono {H H':Hp}{ss:List (Int×br)}{bc:List (Key×V)}(h:kZ H ss bc)(k:cF H H'):kZ H' ss bc:=Paired.gI h fun _ _ ⟨e,p,e2,z,t⟩=>⟨e,p,e2,k _ _ z,t⟩
structure fH (A:dU)(H:Hp)(pb pk pw:Addr)(T:gS)(f:eJ):Prop where
 obj:en H pb A.book (eT pk pw)
 kept: ∃bc,H pk=some (.dK bc)/\kZ H T.steps bc
 wk:dC A H pw T.bk f
def fH.same {A:dU}{H H':Hp}{pb pk pw:Addr}{T:gS}{f:eJ}(h:fH A H pb pk pw T f)(s:aD H H'):fH A H' pb pk pw T f:=by
 obtain⟨bc,k1,k2⟩:=h.kept;exact⟨h.obj.same s,⟨bc,s _ _ k1,k2.mono s.tk⟩,h.wk.same s⟩
def FR {A:dU}{H H':Hp}{pw:Addr}{S:Bk}{f:eJ}(h:dC A H pw S f)(kl: ∀a xs,H a=some (.lst xs)->H' a=some (.lst xs))(ki: ∀a C dx fs,fs.length=5->H a=some (.ins C dx fs)->H' a=some (.ins C dx fs))(kt:cF H H'):dC A H' pw S f:=by
 obtain⟨dw,hw⟩:=h.obj;obtain⟨ms,m1,m2⟩:=h.hm;exact⟨⟨dw,ki _ _ _ _ rfl hw⟩,kl _ _ h.hb,kl _ _ h.hc,kl _ _ h.hl,kl _ _ h.hf,⟨ms,kl _ _ m1,m2.mono kt⟩,⟨h.rb.1,fun i p e=>let⟨dx,z⟩:=h.rb.2 i p e; ⟨dx,ki _ _ _ _ rfl z⟩⟩,⟨h.rc.1,fun i p e=>let⟨dx,z⟩:=h.rc.2 i p e; ⟨dx,ki _ _ _ _ rfl z⟩⟩,h.nd⟩
def Kv (o:HO):Prop:=(∀xs,o≠ .lst xs)/\(∀xs,o≠ .tup xs)/\ ∀C dx fs,fs.length=5->o≠ .ins C dx fs
def we {A:dU}{H:Hp}{pw p:Addr}{S:Bk}{f:eJ}{o u:HO}(h:dC A H pw S f)(e:H p=some o)(n:Kv o):dC A (upd H p u) pw S f:=
 FR h (fun a xs z=>by rw[az (fun q=>by rw[q,e] at z; exact n.1 xs (aF z))]; exact z) (fun a C dx fs hl z=>by rw[az (fun q=>by rw[q,e] at z; exact n.2.2 C dx fs hl (aF z))]; exact z)
  (fun a xs z=>by rw[az (fun q=>by rw[q,e] at z; exact n.2.1 xs (aF z))]; exact z)
def uE (bc:List (Key×V)):Kv (.dK bc):=⟨fun _ z=>(by cases z),fun _ z=>(by cases z),fun _ _ _ _ z=>(by cases z)⟩
def Kw (φ:Heap->Prop):Kv (.ext φ):=⟨fun _ z=>(by cases z),fun _ z=>(by cases z),fun _ _ _ _ z=>(by cases z)⟩
def yL (C dx pk pw:Addr):Kv (.ins C dx (eT pk pw)):=⟨fun _ z=>(by cases z),fun _ z=>(by cases z),fun _ _ fs hl z=>(by injection z with _ _ z; rw[← z] at hl; cases hl)⟩
def AE {H:Hp}{p:Addr}{o u:HO}(e:H p=some o)(n:Kv o):cF H (upd H p u):=fun a xs z=>by rw[az (fun q=>by rw[q,e] at z; exact n.2.1 xs (aF z))]; exact z
def sG {H:Hp}{m:Int}: ∀{ss:List (Int×br)} {bc:List (Key×V)},kZ H ss bc->fZ bc (Sum.inl m:Key)=none-> ∀st∈ss,st.1≠m
 |_,_,.nil,_,_,h=>by cases h
 |_,_,.cons (a:=a) (b:=kv) ⟨e,_⟩ t,hv,st,h=>by
  by_cases q:kv.1=(Sum.inl m:Key)
  ·rw[fE q] at hv;cases hv
  ·rw[fh q] at hv;rcases aw.mp h with rfl|h
   ·intro z;rw[e,z] at q;exact q rfl
   ·exact sG t hv st h
def yM {H:Hp}{m:Int}{v:V}: ∀{ss:List (Int×br)} {bc:List (Key×V)},kZ H ss bc->fZ bc (Sum.inl m:Key)=some v-> ∃st∈ss,st.1=m/\ ∃pd,v= .ref pd/\H pd=some (.tup (br.vs st.2))/\st.2.tells=true
 |_,_,.nil,hv=>by cases hv
 |_,_,.cons (a:=a) (b:=kv) ⟨e,pd,e2,z,tl⟩ t,hv=>by
  by_cases q:kv.1=(Sum.inl m:Key)
  ·rw[fE q] at hv;rw[e] at q;refine⟨a,bJ,by injection q,pd,?_,z,tl⟩;rw[← aF hv,e2]
  ·rw[fh q] at hv;obtain⟨st,h1,h2⟩:=yM t hv;exact⟨st,ba _ h1,h2⟩
def CS {H:Hp}{m:Int}: ∀{ss:List (Int×br)} {bc:List (Key×V)},kZ H ss bc->(∀st∈ss,st.1≠m)->fZ bc (Sum.inl m:Key)=none
 |_,_,.nil,_=>rfl
 |_,_,.cons (a:=a) (b:=kv) ⟨e,_⟩ t,h=>by
  rw[fh (fun q=>by
   rw[e] at q;exact h a bJ (by injection q))]
  exact CS t fun st hs=>h st (ba _ hs)
def yN {H:Hp}{m:Int}: ∀{ss:List (Int×br)} {bc:List (Key×V)},kZ H ss bc->kZ H (ss.filter fun st=>decide (st.1≠m)) (k9 bc (Sum.inl m:Key))
 |_,_,.nil=> .nil
 |_,_,.cons (a:=a) (b:=kv) ⟨e,r⟩ t=>by
  have ih:=yN (m:=m) t;unfold k9 at ih ⊢;by_cases q:a.1=m
  ·have q':kv.1=(Sum.inl m:Key):=by rw[e,q]
   rw[List.filter_cons_of_neg (by simp[q]),List.filter_cons_of_neg (by simp[q'])];exact ih
  ·have q': ¬ kv.1=(Sum.inl m:Key):=by rw[e]; intro z; exact q (by injection z)
   rw[List.filter_cons_of_pos (by simp[q]),List.filter_cons_of_pos (by simp[q'])];exact .cons ⟨e,r⟩ ih
def wg: ∀{ss:List (Int×br)},ss.Pairwise (fun a b=>a.1 < b.1)-> ∀{x y:Int×br},x∈ss->y∈ss->x.1=y.1->x=y
 |[],_,_,_,h,_,_=>by cases h
 |a :: ss,hp,x,y,hx,hy,e=>by
  rw[ee] at hp;rcases aw.mp hx with hx|hx
  ·rcases aw.mp hy with hy|hy
   ·rw[hx,hy]
   ·have:=hp.1 y hy;rw[hx] at e;lia
  ·rcases aw.mp hy with hy|hy
   ·have:=hp.1 x hx;rw[hy] at e;lia
   ·exact wg hp.2 hx hy e
def HS (ss:List (Int×br))(m:Int):Bool:=ss.any fun st=>decide (st.1=m) && st.2.isSet
def qa (ss:List (Int×br))(m:Int):(ss.filter (cS m)).length=ss.length↔HS ss m=false:=by
 rw[List.length_filter_eq_length_iff];unfold HS;rw[rK];constructor
 ·intro h st hs;have:=h st hs;unfold cS at this;cases h2:decide (st.1=m) && st.2.isSet
  ·simp
  ·rw[h2] at this;cases this
 ·intro h st hs;have:=h st hs;unfold cS;cases h2:decide (st.1=m) && st.2.isSet
  ·rfl
  ·exact absurd h2 this
def Kx {ss:List (Int×br)}{m:Int}{st:Int×br}(hp:ss.Pairwise (fun a b=>a.1 < b.1))(hs:st∈ss)(e:st.1=m):HS ss m=st.2.isSet:=by
 unfold HS;cases h:st.2.isSet with
 |true=>exact List.any_eq_true.mpr ⟨st,hs,by simp[e,h]⟩
 |false=>
  rw[rK];intro x hx z;have z':x.1=m/\x.2.isSet=true:=by simpa using z
  have q:=wg hp hx hs (z'.1.trans e.symm);rw[q,h] at z';cases z'.2
def CU {ss:List (Int×br)}{m:Int}(h: ∀st∈ss,st.1≠m):HS ss m=false:=by
 unfold HS;rw[rK];intro x hx z;have z':x.1=m/\x.2.isSet=true:=by simpa using z
 exact h x hx z'.1
def Ky {ss:List (Int×br)}{m:Int}(hp:ss.Pairwise (fun a b=>a.1 < b.1))(h:HS ss m=true):ss.filter (cS m)=ss.filter fun st=>decide (st.1≠m):=by
 apply rO;intro st hs;unfold cS;by_cases e:st.1=m
 ·rw[← Kx hp hs e,h];simp[e]
 ·simp[e]
def CV (pk pw:Addr):(eT pk pw).lookup ("in_force":Str)=none:=by rfl
def MZ (pk pw:Addr):(eT pk pw).lookup ("undo":Str)=none:=by rfl
def Ur (pk pw:Addr):(eT pk pw).lookup ("do":Str)=none:=by rfl
inductive sH (A:dU)(vs:List V)(H:Hp)(Q:VK)(E':XK):Prop
 |mk (pb pk pw:Addr)(T:gS)(f:eJ)(n:Nat)(m:Int)(h1:vs=[.ref pb,.int m])(h2:fH A H pb pk pw T f)(h3:Good T n)(h4: ∀H',aD H H'->Q (.bl (HS T.steps m)) H'):sH A vs H Q E'
def sI:aS ["self","number"] ["self","number"] (ay (mem 29 3)):={}
def Ex {A:dU}(G:jv K mg A):gP rZ P w K mg base A.book "in_force" 1 ["self","number"] (sH A):=by
 refine Mw (k:=0) G.su G.eR sI (fun f cO A' outer s H vs Q E hr h=>?_)
 ·obtain⟨pb,pk,pw,T,g,n,m,rfl,hB,hG,k⟩:=h;have hu:=jG hr;obtain⟨db,hb⟩:=hB.obj;obtain⟨bc,hk,hK⟩:=hB.kept;refine⟨_,(au (a0 (rT (Oe (OG hu (pv 1) (km (pv 0)))) (pC (ff oa (xt (cA hu (km (pv 0)) (pv 1) (fun _ _=>rfl)) ai) (cD (aa aQ (aa aQ av))) (by rfl)))))),?_⟩;refine⟨_,rfl,_,rfl,pb,_,db,_,_,rfl,hb,G.eR,G.gA,uA _ _,pk,_,rfl,mG.k (k:=(Sum.inl m:Key)) hk,_,rfl,?_⟩;cases hv:fZ bc (Sum.inl m:Key) with
  |none=>
   refine bT ?_;have q:=k H (aD.refl _);rw[CU (sG hK hv)] at q;exact q
  |some v=>
   refine fB ?_;obtain⟨st,hs,e,pd,rfl,Ir,ht⟩:=yM hK hv;obtain⟨r,er⟩:=uw (.inl ht);rw[er] at Ir;refine⟨_,rfl,pb,_,db,_,_,rfl,hb,G.eR,G.gA,uA _ _,_,rfl,pk,.ref pd,rfl,(by have z:=mG.k (k:=(Sum.inl m:Key)) hk; rw[hv] at z; exact z),pd,_,_,.str (br.word st.2),rfl,rfl,cf.of Ir,Ku _ _,(by show 2<=sizeLine; decide),fun p np=>?_⟩;have s1:=aD.new (o:= .tup [.str "set",.str "sweep"]) np;refine⟨p,_,rfl,.inr (cf.of ag),rfl,rfl,?_⟩;have q:=k _ s1;rw[Kx hG.inc hs e,← FF ht] at q;exact q
inductive Qj (A:dU)(K:Frag)(tB tC:Addr)(vs:List V)(H:Hp)(Q:VK)(E:XK):Prop
 |mk (pb pd pk pw:Addr)(T:gS)(f:eJ)(n:Nat)(d:br)(h1:vs=[.ref pb,.int n,.ref pd])(h2:fH A H pb pk pw T f)(h3:Good T n)(h4:n<=59)(h5:lI H tB)(h6:mi H tC)(h7:H pd=some (.tup (br.vs d)))(h8:d.tells=true)(h9:(T.bk.bar d=""-> ∀v f' H',f'.fp=f.fp->Frame (tB :: tC :: pk :: f.fp) H H'->lI H' tB->mi H' tC->fH A H' pb pk pw ⟨T.steps ++ [((n:Int),d)],T.bk.enter d⟩ f'->jV H' (fun D=>H D=none) (T.bk.L3 d) v->Q v H'))(K6:(T.bk.bar d≠""->MB A K E (T.bk.bar d) H)):Qj A K tB tC vs H Q E
def wj:aS ["self","number","deed","answer"] ["self","number","deed"] (ay (mem 29 1)):={}
def YI (T:Txt K mg){A:dU}{tB tC:Addr}(G:jv K mg A)(DB:qm K mg "bills_in_order" (top 17) tB)(DC:qm K mg "credits_in_order" (top 18) tC)(i9:tB≠tC)(KB:K.In base)(BM:BMain mg base):gP (mH P w mg) P w K mg base A.book "do" 8 ["self","number","deed"] (Qj A K tB tC):=by
 have Ey:vC P w K mg base "done" 7 ["work","deed"] (uD A K tB tC):=Kt T G DB DC i9 KB BM;refine qU (k:=7) G.D7 G.eR wj (fun f cO A' outer s H vs Q E hr mx h=>?_)
 ·obtain⟨pb,pd,pk,pw,T,g,n,d,rfl,hB,hG,hn,j9,jE,hd,ht,k1,k2⟩:=h;have hu:=jG hr;have nd:=wj.nd;obtain⟨db,hb⟩:=hB.obj;obtain⟨bc,hk,hK⟩:=hB.kept;have hW:=hB.wk;refine⟨_,(ah (sv 3 nd (sx Ey (hr.mono (by decide)) rfl mx.pass (aa (km (pv 0)) (aa (pv 2) av))))
(ah (E2 hu (km (pv 0)) (pv 1) (pv 2) rfl)
(au (a0 (pv 3))))),?_⟩
  refine⟨_,rfl,pb,_,db,_,_,rfl,hb,G.eR,G.gE,uB _ _,_,rfl,pw,pd,T.bk,g,n,d,rfl,hW,hG.wf (by lia),(by lia),j9,jE,hd,ht,fun oJ v f1 H1 e1 F1 jl jY W1 hA=>?_,k2⟩;have Qk: ∀a o,H a=some o->(∀xs,o≠ .lst xs)->(∀ps,o≠ .mL ps)->a∉tB :: tC :: g.fp:=fun a o e n1 n2 z=>by
   rcases aw.mp z with z|z
   ·obtain⟨ps,q⟩:=cY j9;rw[z,q] at e;exact n2 ps (aF e).symm
   ·rcases aw.mp z with z|z
    ·obtain⟨ps,q⟩:=cY jE;rw[z,q] at e;exact n2 ps (aF e).symm
    ·obtain⟨xs,q⟩:=hW.lists a z;rw[q] at e;exact n1 xs (aF e).symm
  have kt:cF H H1:=fun a xs e=>F1 _ _ (Qk _ _ e (fun _ z=>by cases z) (fun _ z=>by cases z)) e;have Us:=F1 _ _ (Qk _ _ hb (fun _ z=>by cases z) (fun _ z=>by cases z)) hb;have HU:=F1 _ _ (Qk _ _ hk (fun _ z=>by cases z) (fun _ z=>by cases z)) hk;have hK1:=hK.mono kt;have lZ:=kt _ _ hd;have Fz:=aL hK;have hlen:=hG.len;refine⟨_,rfl,_,rfl,pb,_,db,_,_,rfl,Us,G.eR,G.gA,uA _ _,_,rfl,pk,_,rfl,GA.k (k:=(Sum.inl (n:Int):Key)) HU (a9 (by lia)),?_⟩;rw[Jd _ (CS hK1 fun st hs=>by have:=(hG.lt st hs).2; lia)];have s2: ∀a o,a≠pk->H1 a=some o->upd H1 pk (.dK (bc ++ [(Sum.inl (n:Int),V.ref pd)])) a=some o:=fun a o hn e=>by rw[az hn]; exact e
  have nbk:pb≠pk:=mr Us HU (by intro z; cases z);have YJ:=AE (u:= .dK (bc ++ [(Sum.inl (n:Int),V.ref pd)])) HU (uE bc);refine⟨_,rfl,k1 oJ v f1 _ e1 ((dD F1 fun x hx=>?_).tr (Frame.upd (by simp))) (fU jl (Frame.upd (fp:=[pk]) (by simp)) (fun z=>?_) (fun a ha φ e=>?_)) (fU jY (Frame.upd (fp:=[pk]) (by simp)) (fun z=>?_) (fun a ha φ e=>?_)) ⟨⟨db,s2 _ _ nbk Us⟩,⟨_,ag,?_⟩,we W1 HU (uE bc)⟩ ?_⟩
  ·rcases aw.mp hx with hx|hx
   ·simp[hx]
   ·rcases aw.mp hx with hx|hx
    ·simp[hx]
    ·simp[hx]
  ·obtain⟨ps,q⟩:=cY jl;rw[ao.mp z,HU] at q;cases q
  ·rw[ao.mp ha,HU] at e;cases e
  ·obtain⟨ps,q⟩:=cY jY;rw[ao.mp z,HU] at q;cases q
  ·rw[ao.mp ha,HU] at e;cases e
  ·exact cy (hK1.mono YJ) ⟨rfl,pd,rfl,YJ _ _ lZ,ht⟩
  ·exact hA.keep (fun D xs o e=>⟨o,s2 _ _ (mr e HU (by intro z; cases z)) e⟩) YJ
def CW: ∀{ss:List (Int×br)} {B S:Bk} {i:Nat} {k:Int} {d:br},cW (ss.take i) B=some S->ss[i]? =some (k,d)->S.bar d≠""->iw ss B=S.bar d/\cW ss B=none
 |[],_,_,_,_,_,_,h,_=>by simp at h
 |(k0,d0) :: ss,B,S,0,k,d,hw,h,hb=>by
  cases hw;have e:(k0,d0)=(k,d):=by simpa using h
  cases e;unfold iw cW;rw[aU hb,aU hb];exact⟨rfl,rfl⟩
 |(k0,d0) :: ss,B,S,i + 1,k,d,hw,h,hb=>by
  rw[List.take_succ_cons] at hw;unfold cW at hw;split at hw
  ·rename_i q;have ih:=CW hw (by simpa using h) hb;unfold iw cW;rw[a8 q,a8 q];exact ih
  ·cases hw
def CY {ss:List (Int×br)}{B S:Bk}{i:Nat}{k:Int}{d:br}(hw:cW (ss.take i) B=some S)(h:ss[i]? =some (k,d))(hb:S.bar d=""):cW (ss.take (i + 1)) B=some (S.enter d):=by
 obtain⟨hi,e⟩:=ak.mp h;rw[jm hi,kN,hw,e];show(if S.bar d="" then some (S.enter d) else none)=_;rw[a8 hb]
def YK (A:dU)(K:Frag)(tB tC:Addr)(fp:List Addr)(E:XK)(t:Str)(H:Hp):Prop:= ∀C dx H',gO K C A.refusal->Frame fp H H'->lI H' tB->mi H' tC->H dx=none->H' dx=some (.xd [("text",.str t)])->E (.ref C) (some dx) H'
inductive AF (A:dU)(K:Frag)(tB tC:Addr)(vs:List V)(H:Hp)(Q:VK)(E:XK):Prop
 |mk (pk:Addr)(ss:List (Int×br))(bc:List (Key×V))(h1:vs=[.ref pk])(h2:H pk=some (.dK bc))(h3:kZ H ss bc)(h4:ss.length<=59)(h5:(iw ss Bk.new=""∨iw ss Bk.new="too much"))(h6:lI H tB)(h7:mi H tC)(h8:(∀S,cW ss Bk.new=some S-> ∀pw f H',Frame [tB,tC] H H'->lI H' tB->mi H' tC->dC A H' pw S f->H pw=none->(∀b∈f.fp,H b=none)->Q (.ref pw) H'))(h9:(cW ss Bk.new=none->YK A K tB tC [tB,tC,pk] E "needed" H)):AF A K tB tC vs H Q E
def o7:aS ["kept","work","deed"] ["kept"] (ay (top 31)):={}
def NO {H:Hp}{tb d:Addr}{pos:Pos}{qual:Str}{φ:Heap->Prop}{u:HO}(t:Tb H tb pos qual)(e:H d=some (.ext φ))(n: ∀q:Str,φ≠fun h=>h.CodeRec (.ref d) q):Tb (upd H d u) tb pos qual:=by
 obtain⟨ps,h1,h2,h3⟩:=t;refine⟨ps,by rw[az (mr h1 e (by intro z; cases z))]; exact h1,h2,?_⟩;rcases h3 with h3|⟨c',h3,h4⟩
 ·exact .inl h3
 ·refine .inr ⟨c',h3,?_⟩;by_cases z:c'=d
  ·subst z;rw[e] at h4;have h5:=aF h4;injection h5 with h5;exact absurd h5 (n qual)
  ·rw[az z];exact h4
def AG (T:Txt K mg){A:dU}{tB tC:Addr}(G:jv K mg A)(DB:qm K mg "bills_in_order" (top 17) tB)(DC:qm K mg "credits_in_order" (top 18) tC)(i9:tB≠tC)(hnd:A.iU≠A.tooMuch)(KB:K.In base)(BM:BMain mg base):vC P w K mg base "done_again" 8 ["kept"] (AF A K tB tC):=by
 have Ey:vC P w K mg base "done" 7 ["work","deed"] (uD A K tB tC):=Kt T G DB DC i9 KB BM;have Eo:tY P w K mg base "Work" A.work 1 ["self"] (uu A):=J2 G;refine Pr (k:=7) T.zA o7 (fun f cO A' outer s H vs Q E hr mx h=>?_)
 ·obtain⟨pk,ss,bc,rfl,hk,hK,hl,hfb,j9,jE,k1,k2⟩:=h;have nd:=o7.nd;refine⟨_,(ah (sv 1 nd (JQ Eo (hr.mono (by decide)) rfl))
(ah (Mj mx.own rfl (pv 0) (gn 2 nd)
(au (BK mx rfl rfl G.vB G.pS (show mg "Needed"≠some (.ref A.tooMuch) from fun z=>hnd (by rw[G.yx] at z; injection z with z; injection z)) (Hr T G) (hr.h.mono (by decide)) rfl (fun xe pn E hx=>au (bK (sx Ey (hr.mono (by decide)) rfl hx (aa (pv 1) (aa (pv 2) av))))))))
(au (a0 (pv 1))))),?_⟩
  intro xw Yl MM P0 ne;have s1:=lE (C:=A.work) (fs:=[]) MM P0 ne;refine⟨xw,Yl,rfl,ag,fun g H1 F1 W1 nf=>⟨rfl,?_⟩⟩;have fg: ∀b∈g.fp,H b=none:=fun b hb=>s1.free (nf b hb);have S1:aD H H1:=fun b o e=>F1 b o (by simpa using aJ e MM) (s1 b o e);clear F1 nf s1;refine⟨_,rfl,?_⟩;have HU:=S1 _ _ hk;have hlen:=aL hK;refine JK (td:=fun _ _ _=>True) HU fun φ hφ=>⟨fun i σ H2=> ∃(S:Bk) (f:eJ) (x2:Option V),σ=[some (.ref pk),some (.ref xw),x2]/\cW (ss.take i) Bk.new=some S/\dC A H2 xw S f/\(∀b∈f.fp,H b=none)/\Frame [tB,tC,pk] H H2/\H2 pk=some (.ext φ)/\lI H2 tB/\mi H2 tC,?_,?_,?_,?_⟩
  ·have ext: ∀a∈[pk],∀φ,H1 a≠some (.ext φ):=fun a ha φ e=>by
    rw[ao.mp ha,HU] at e;cases e
   have nB:tB∉[pk]:=fun z=>by
    obtain⟨ps,q⟩:=cY j9;rw[ao.mp z,hk] at q;cases q
   have nC:tC∉[pk]:=fun z=>by
    obtain⟨ps,q⟩:=cY jE;rw[ao.mp z,hk] at q;cases q
   exact⟨Bk.new,g,none,rfl,rfl,we W1 HU (uE bc),fg,(S1.frame (fp:=[tB,tC,pk])).tr (Frame.upd (by simp)),ag,fU (bM j9 S1) (Frame.upd (fp:=[pk]) (by simp)) nB ext,fU (bM jE S1) (Frame.upd (fp:=[pk]) (by simp)) nC ext⟩
  ·rintro i σ H2 ⟨S,f,x2,_,_,_,_,_,e,_⟩;exact e
  ·rintro i x σ H2 hx ⟨S,f,x2,rfl,hw,hW,hf,F2,e2,ko,mI⟩;rw[aB] at hx;obtain⟨kv,VG,rfl⟩:=bo.mp hx;have hi:i < ss.length:=by have:=(ak.mp VG).1; lia
   have oK:=af hi;obtain⟨kv',Ut,ek,pd,epd,Ir,ht⟩:=bI hK oK;rw[VG] at Ut;obtain rfl:kv=kv':=aF Ut;generalize ss[i]=st at oK ek Ir ht;obtain⟨sn,d⟩:=st;rw[epd];have PH:H2 pd=some (.tup (br.vs d)):=F2 _ _ (fun z=>by
    simp only[List.mem_cons,List.not_mem_nil,or_false] at z;rcases z with z|z|z
    ·obtain⟨ps,q⟩:=cY j9;rw[← z,Ir] at q;cases q
    ·obtain⟨ps,q⟩:=cY jE;rw[← z,Ir] at q;cases q
    ·rw[z,hk] at Ir;cases Ir) Ir
   have wf:WF S (0 + (ss.take i).length):=sq _ WF.new hw (by rw[bf]; lia);refine⟨_,rfl,_,rfl,xw,pd,S,f,_,d,rfl,hW,wf,(by rw[bf]; lia),ko,mI,PH,ht,fun hb v f' H3 e3 F3 rz rA W3 _=>?_,fun hb=>?_⟩
   ·refine⟨S.enter d,f',_,rfl,CY hw oK hb,W3,(by rw[e3]; exact hf),F2.trans F3 (fun x hx=>?_),F3 _ _ (fun z=>?_) e2,rz,rA⟩
    ·rcases aw.mp hx with hx|hx
     ·exact .inl (by simp[hx])
     ·rcases aw.mp hx with hx|hx
      ·exact .inl (by simp[hx])
      ·exact .inr (hf x hx)
    ·rcases aw.mp z with z|z
     ·obtain⟨ps,q⟩:=cY ko;rw[← z,e2] at q;cases q
     ·rcases aw.mp z with z|z
      ·obtain⟨ps,q⟩:=cY mI;rw[← z,e2] at q;cases q
      ·have:=hf _ z;rw[hk] at this;cases this
   ·obtain⟨ef,ew⟩:=CW hw oK hb;have et:S.bar d="too much":=(hfb.resolve_left (by rw[ef]; exact hb)).symm.trans ef |>.symm;intro C hC hCt dx H3 s3 nd3 NJ;have Vh:C=A.tooMuch:=hCt et;refine⟨by rw[Vh],fun YL n2=>?_⟩;have s4:=aD.new (o:= .xd [("text",.str "needed")]) n2;have Kz:=s3.trans s4;refine k2 ew A.iU YL _ G.yy (F2.cU Kz) (bM ko Kz) (bM mI Kz) ?_ ag;have Uu:=s3.free n2;cases e:H YL with
    |none=>rfl
    |some o=>
     exfalso;by_cases jO:YL∈[tB,tC,pk]
     ·simp only[List.mem_cons,List.not_mem_nil,or_false] at jO;rcases jO with z|z|z
      ·obtain⟨ps,q⟩:=cY ko;rw[← z,Uu] at q;cases q
      ·obtain⟨ps,q⟩:=cY mI;rw[← z,Uu] at q;cases q
      ·rw[z,e2] at Uu;cases Uu
     ·have q:=F2 _ _ jO e;rw[Uu] at q;cases q
  ·rintro σ H2 ⟨S,f,x2,rfl,hw,hW,hf,F2,e2,ko,mI⟩;rw[← hlen,a7] at hw;refine⟨_,rfl,k1 S hw xw f _ (fun b o hb e=>?_) (NO ko e2 hφ.2) (NO mI e2 hφ.2) (we hW e2 (Kw φ)) MM hf⟩;by_cases z:b=pk
   ·subst z;rw[hk] at e;rw[ag];exact e
   ·rw[az z];exact F2 _ _ (by simp only[List.mem_cons,List.not_mem_nil,or_false,not_or] at hb ⊢; exact⟨hb.1,hb.2,z⟩) e
def Ql (pk pw rJ:Addr):ez "work" (.ref rJ) (eT pk pw)=eT pk rJ:=by rfl
def Qm (pk wm pw:Addr):ez "kept" (.ref wm) (eT pk pw)=eT wm pw:=by rfl
inductive Ez (A:dU)(K:Frag)(tB tC:Addr)(vs:List V)(H:Hp)(Q:VK)(E:XK):Prop
 |mk (pb pk pw:Addr)(T:gS)(f:eJ)(n:Nat)(m:Int)(h1:vs=[.ref pb,.int m])(h2:fH A H pb pk pw T f)(h3:Good T n)(h4:n<=59)(h5:lI H tB)(h6:mi H tC)(h7:(HS T.steps m=true-> ∀S,cW (T.steps.filter (cS m)) Bk.new=some S-> ∀wm rJ f' H',Frame [tB,tC,pb] H H'->lI H' tB->mi H' tC->fH A H' pb wm rJ ⟨T.steps.filter (cS m),S⟩ f'->H wm=none->(∀b∈f'.fp,H b=none)->Q (.str "undone") H'))(h8:(HS T.steps m=true->cW (T.steps.filter (cS m)) Bk.new=none->YK A K tB tC [tB,tC] E "needed" H))(h9:(HS T.steps m=false->YK A K tB tC [tB,tC] E "no setting" H)):Ez A K tB tC vs H Q E
def rC:aS ["self","number","kept"] ["self","number"] (ay (mem 29 2)):={}
def Qn (T:Txt K mg){A:dU}{tB tC:Addr}(G:jv K mg A)(DB:qm K mg "bills_in_order" (top 17) tB)(DC:qm K mg "credits_in_order" (top 18) tC)(i9:tB≠tC)(hnd:A.iU≠A.tooMuch)(KB:K.In base)(BM:BMain mg base):gP (mH P w mg) P w K mg base A.book "undo" 9 ["self","number"] (Ez A K tB tC):=by
 have AH:vC P w K mg base "done_again" 8 ["kept"] (AF A K tB tC):=AG T G DB DC i9 hnd KB BM;have EA:gP rZ P w K mg base A.book "in_force" 1 ["self","number"] (sH A):=Ex G;refine qU (k:=8) G.zR G.eR rC (fun f cO A' outer s H vs Q E hr mx h=>?_)
 ·obtain⟨pb,pk,pw,TT,g,n,m,rfl,hB,hG,hn,j9,jE,k1,k2,k3⟩:=h;have hu:=jG hr;have nd:=rC.nd;obtain⟨db,hb⟩:=hB.obj;refine⟨_,(ah (bN (kI (f9 (nv EA (hr.mono (by decide)) mU (pv 0) (aa (pv 1) av))))
(au (jQ mx (zV T G) (hr.h.mono (by decide)) rfl rfl))
bb)
(ah (sv 2 nd (gx BW (by rfl) T.Pk (by rfl) (aa (km (pv 0)) av)))
(ah (bK (Jf (pv 2) (pv 1) ⟨rfl,rfl,rfl,rfl⟩))
(ah (l9 (pv 0) (sx AH (hr.mono (by decide)) rfl mx.pass (aa (pv 2) av)))
(ah (l9 (pv 0) (pv 2))
(au (a0 aQ))))))),?_⟩
  refine⟨_,rfl,pb,db,_,rfl,hb,CV _ _,_,rfl,pb,pk,pw,TT,g,n,m,rfl,hB,hG,fun H1 s1=>⟨_,rfl,?_⟩⟩;refine ck (fun z=>?_) (fun z=>?_)
  ·have z':HS TT.steps m=false:=by simpa using z
   intro dx nn;have s2:=s1.trans (aD.new (o:= .xd [("text",.str "no setting")]) nn);exact k3 z' A.jC dx _ G.qP s2.frame (bM j9 s2) (bM jE s2) (s1.free nn) ag
  have z':HS TT.steps m=true:=by simpa using z
  have NG:=hB.same s1;obtain⟨bc,hk,hK⟩:=NG.kept;have Us:=s1 _ _ hb;refine⟨_,rfl,pb,_,db,_,_,rfl,Us,G.eR,G.gA,uA _ _,pk,bc,rfl,hk,fun p2 np2=>?_⟩;have s2:=aD.new (o:= .dK bc) np2;have tQ:upd H1 p2 (.dK bc) p2=some (.dK bc):=ag;have n2:H p2=none:=s1.free np2;have S2:=s1.trans s2;have hK2:=hK.mono s2.tk;generalize upd H1 p2 (.dK bc)=H2 at tQ S2 hK2;clear s2;cases hv:fZ bc (Sum.inl m:Key) with
  |none=>
   have:=CU (sG hK hv);rw[z'] at this;cases this
  |some v=>
  refine⟨_,rfl,p2,rfl,.inl ⟨bc,.inl tQ⟩,_,rfl,bc,(Sum.inl m:Key),v,tQ,rfl,hv,?_⟩;have V0:=(yN (m:=m) hK2).mono (AE (u:= .dK (k9 bc (Sum.inl m:Key))) tQ (uE bc));rw[← Ky hG.inc z'] at V0;have S3:aD H (upd H2 p2 (.dK (k9 bc (Sum.inl m:Key)))):=S2.cG n2;have Rg:upd H2 p2 (.dK (k9 bc (Sum.inl m:Key))) p2=some (.dK (k9 bc (Sum.inl m:Key))):=ag;generalize upd H2 p2 (.dK (k9 bc (Sum.inl m:Key)))=H3 at V0 S3 Rg;have VO:=aX (cS m) TT.steps;have P1:=hG.len;have Uv:(cW TT.steps Bk.new).isSome=true:=by rw[hG.w]; rfl
  refine⟨_,rfl,p2,_,_,rfl,Rg,V0,(by lia),OW m TT.steps (mZ.refl Bk.new) Uv,bM j9 S3,bM jE S3,fun S hS rJ f' H4 F4 sE sF W4 npw nf4=>?_,fun hS=>?_⟩
  case refine_2=>
   intro C dx H4 hC F4 sE sF nd4 hd4;refine k2 z' hS C dx H4 hC ((S3.frame (fp:=[tB,tC])).trans F4 (fun x hx=>?_)) sE sF (S3.free nd4) hd4;simp only[List.mem_cons,List.not_mem_nil,or_false] at hx;rcases hx with hx|hx|hx
   ·exact .inl (by simp[hx])
   ·exact .inl (by simp[hx])
   ·exact .inr (by rw[hx]; exact n2)
  have off: ∀a o,H3 a=some o->(∀ps,o≠ .mL ps)->a∉[tB,tC]:=fun a o e n1 z=>by
   simp only[List.mem_cons,List.not_mem_nil,or_false] at z;rcases z with z|z
   ·obtain⟨ps,q⟩:=cY (bM j9 S3);rw[z,q] at e;exact n1 ps (aF e).symm
   ·obtain⟨ps,q⟩:=cY (bM jE S3);rw[z,q] at e;exact n1 ps (aF e).symm
  have AI:=F4 _ _ (off _ _ (S3 _ _ hb) (fun _ z=>by cases z)) (S3 _ _ hb);have V3:=F4 _ _ (off _ _ Rg (fun _ z=>by cases z)) Rg;have hK4:=V0.mono (fun a xs e=>F4 _ _ (off _ _ e (fun _ z=>by cases z)) e);have F4':Frame [tB,tC,pb] H H4:=dD ((S3.frame (fp:=[tB,tC])).tr F4) (by simp);refine⟨_,rfl,pb,_,db,_,rfl,AI,G.eR,G.gE,(by show 2 < 1000; decide),?_⟩;rw[Ql];have e5:upd H4 pb (.ins A.book db (eT pk rJ)) pb=some (.ins A.book db (eT pk rJ)):=ag;have Uw:=yL A.book db pk pw;have W5:=we (u:= .ins A.book db (eT pk rJ)) W4 AI Uw;have nb2:p2≠pb:=(aJ hb n2).symm;have Rn:upd H4 pb (.ins A.book db (eT pk rJ)) p2=some (.dK (k9 bc (Sum.inl m:Key))):=by rw[az nb2]; exact V3
  have hK5:=hK4.mono (AE (u:= .ins A.book db (eT pk rJ)) AI Uw);have Ux: ∀a∈[pb],∀φ,H4 a≠some (.ext φ):=fun a ha φ e=>by
   rw[ao.mp ha,AI] at e;cases e
  have nB:tB∉[pb]:=fun z=>by
   obtain⟨ps,q⟩:=cY sE;rw[ao.mp z,AI] at q;cases q
  have nC:tC∉[pb]:=fun z=>by
   obtain⟨ps,q⟩:=cY sF;rw[ao.mp z,AI] at q;cases q
  have Ko:lI (upd H4 pb (.ins A.book db (eT pk rJ))) tB:=fU sE (Frame.upd (fp:=[pb]) (by simp)) nB Ux;have Kp:mi (upd H4 pb (.ins A.book db (eT pk rJ))) tC:=fU sF (Frame.upd (fp:=[pb]) (by simp)) nC Ux;have F5:Frame [tB,tC,pb] H (upd H4 pb (.ins A.book db (eT pk rJ))):=F4'.tr (Frame.upd (by simp));generalize upd H4 pb (.ins A.book db (eT pk rJ))=H5 at e5 W5 Rn hK5 Ko Kp F5;refine⟨_,rfl,_,rfl,pb,_,db,_,rfl,e5,G.eR,G.gA,(by show 2 < 1000; decide),?_⟩;rw[Qm];have NP:=yL A.book db pk rJ;have Uy: ∀a∈[pb],∀φ,H5 a≠some (.ext φ):=fun a ha φ e=>by
   rw[ao.mp ha,e5] at e;cases e
  refine k1 z' S hS p2 rJ f' _ (F5.tr (Frame.upd (by simp))) (fU Ko (Frame.upd (fp:=[pb]) (by simp)) nB Uy) (fU Kp (Frame.upd (fp:=[pb]) (by simp)) nC Uy) ⟨⟨db,ag⟩,⟨_,by rw[az nb2]; exact Rn,hK5.mono (AE e5 NP)⟩,we W5 e5 NP⟩ n2 (fun b hb=>S3.free (nf4 b hb))
def Dt.v:Dt->V
 | .int i=> .int i
 | .str s=> .str s
 | .bl b=> .bl b
 |_=> .eh
def Dt.flat:Dt->Bool
 | .int _=>true
 | .str _=>true
 | .bl _=>true
 |_=>false
def wo {H:Hp}: ∀{ds:List Dt} {xs:List V},ds.all Dt.flat=true->g6 H ds xs->xs=ds.map Dt.v
 |[],_,_,h=>cL.mp h
 |d :: ds,_,hf,h=>by
  obtain⟨v,r,rfl,h1,h2⟩:=bC.mp h;rw[List.all_cons,ug] at hf;rw[wo hf.2 h2];cases d with
  |int i=>rw[di.mp h1]; rfl
  |str s=>rw[fG.mp h1]; rfl
  |bl b=>rw[qD.mp h1]; rfl
  |eh=>cases hf.1
  |lst _=>cases hf.1
  |tup _=>cases hf.1
def sJ (H:Hp)(pd:Addr):br->Prop
 | .fN w dy l=> ∃pl,H pd=some (.tup [.str "ages",.str w,.int dy,.ref pl])/\H pl=some (.tup (l.map V.int))
 |d=>H pd=some (.tup (br.vs d))
def AJ {H:Hp}{d:br}{v:V}(h:Rp H d.dt v): ∃pd,v= .ref pd/\sJ H pd d:=by
 cases d with
 |fN w dy l=>
  obtain⟨a,xs,rfl,h1,h2⟩:=jI.mp h;obtain⟨v1,r1,rfl,e1,h2⟩:=bC.mp h2;obtain⟨v2,r2,rfl,e2,h2⟩:=bC.mp h2;obtain⟨v3,r3,rfl,e3,h2⟩:=bC.mp h2;obtain⟨v4,r4,rfl,e4,h2⟩:=bC.mp h2;obtain rfl:=cL.mp h2;obtain rfl:=fG.mp e1;obtain rfl:=fG.mp e2;obtain rfl:=di.mp e3;obtain⟨pl,ys,rfl,h4,h5⟩:=jI.mp e4;have e5:=wo (by rw[List.all_map]; exact List.all_eq_true.mpr fun _ _=>rfl) h5;rw[e5,eu] at h4;exact⟨a,rfl,pl,h1,h4⟩
 |_=>
  obtain⟨a,xs,rfl,h1,h2⟩:=jI.mp h;have e5:=wo (by rfl) h2;rw[e5] at h1;exact⟨a,rfl,h1⟩
def sJ.mono {H H':Hp}{pd:Addr}{d:br}(h:sJ H pd d)(k:cF H H'):sJ H' pd d:=by
 cases d with
 |fN w dy l=>
  obtain⟨pl,h1,h2⟩:=h;exact⟨pl,k _ _ h1,k _ _ h2⟩
 |_=>exact k _ _ h
def lJ {A:dU}{H H':Hp}{pb pk pw:Addr}{T:gS}{f:eJ}(h:fH A H pb pk pw T f)(k: ∀a o,H a=some o->(∀ps,o≠ .mL ps)->H' a=some o):fH A H' pb pk pw T f:=by
 obtain⟨db,hb⟩:=h.obj;obtain⟨bc,k1,k2⟩:=h.kept;have kt:cF H H':=fun a xs e=>k _ _ e (fun _ z=>by cases z);exact⟨⟨db,k _ _ hb (fun _ z=>by cases z)⟩,⟨bc,k _ _ k1 (fun _ z=>by cases z),k2.mono kt⟩,FR h.wk (fun a xs e=>k _ _ e (fun _ z=>by cases z)) (fun a C dx fs _ e=>k _ _ e (fun _ z=>by cases z)) kt⟩
def yO {H H':Hp}{fp:List Addr}{a:Addr}{o:HO}(F:Frame fp H H')(ht: ∀t∈fp,∃ps,H t=some (.mL ps))(e:H a=some o)(n: ∀ps,o≠ .mL ps):H' a=some o:=F _ _ (fun z=>by
 obtain⟨ps,q⟩:=ht a z;rw[q] at e;exact n ps (aF e).symm) e
def M0 {d:br}(h:d.tells=true):br.word d≠"owed"/\br.word d≠"free"/\br.word d≠"ages"/\br.word d≠"undo":=by
 cases d with
 |dR _ _ _ _=>show("bill":Str)≠"owed"/\("bill":Str)≠"free"/\("bill":Str)≠"ages"/\("bill":Str)≠"undo"; decide +kernel
 |rG _ _ _=>show("pay":Str)≠"owed"/\("pay":Str)≠"free"/\("pay":Str)≠"ages"/\("pay":Str)≠"undo"; decide +kernel
 |note _ _ _=>show("note":Str)≠"owed"/\("note":Str)≠"free"/\("note":Str)≠"ages"/\("note":Str)≠"undo"; decide +kernel
 |set _ _ _=>show("set":Str)≠"owed"/\("set":Str)≠"free"/\("set":Str)≠"ages"/\("set":Str)≠"undo"; decide +kernel
 |fT _=>show("sweep":Str)≠"owed"/\("sweep":Str)≠"free"/\("sweep":Str)≠"ages"/\("sweep":Str)≠"undo"; decide +kernel
 |ie _=>cases h
 |ask _ _ _=>cases h
 |fN _ _ _=>cases h
inductive wq (A:dU)(tB tC:Addr)(vs:List V)(H:Hp)(Q:VK)(E':XK):Prop
 |mk (pb pd pk pw:Addr)(T:gS)(f:eJ)(n:Nat)(d:br)(h1:vs=[.ref pb,.int n,.ref pd])(h2:fH A H pb pk pw T f)(h3:Good T n)(h4:n<=59)(h5:lI H tB)(h6:mi H tC)(h7:sJ H pd d)(h8:d.ok)(h9: ∀v wm rJ f' H',Frame (tB :: tC :: pb :: pk :: f.fp) H H'->lI H' tB->mi H' tC->fH A H' pb wm rJ (cE T n d).2 f'->(∀x∈wm :: f'.fp,x∈pk :: f.fp∨H x=none)->jV H' (fun D=>H D=none/\D∉wm :: f'.fp) (cE T n d).1 v->Q v H'):wq A tB tC vs H Q E'
def rD:aS ["book","number","deed","kind","refusal"] ["book","number","deed"] (ay (top 35)):={}
def CZ (T:Txt K mg){A:dU}{tB tC:Addr}(G:jv K mg A)(DB:qm K mg "bills_in_order" (top 17) tB)(DC:qm K mg "credits_in_order" (top 18) tC)(i9:tB≠tC)(hnd:A.iU≠A.tooMuch)(KB:K.In base)(BM:BMain mg base):eI P w K mg base "answer_of" 10 ["book","number","deed"] (wq A tB tC):=by
 have Qo:gP (mH P w mg) P w K mg base A.book "undo" 9 ["self","number"] (Ez A K tB tC):=Qn T G DB DC i9 hnd KB BM;have YM:gP (mH P w mg) P w K mg base A.book "do" 8 ["self","number","deed"] (Qj A K tB tC):=YI T G DB DC i9 KB BM;have sD:eI P w K mg base "owed_at" 5 ["work","who","day"] (Aq A tB):=yJ T G DB KB BM;have HV:eI P w K mg base "free_at" 5 ["work","who","day"] (Ei A tC):=HI T G DC KB BM;have HW:eI P w K mg base "ages_at" 6 ["work","who","day","limits"] (Em A tB):=HJ T G DB KB BM;refine T.BL.eX (k:=9) rD (fun f cO A' outer s H vs Q E hr h=>?_)
 ·obtain⟨pb,pd,pk,pw,TT,g,n,d,rfl,hB,hG,hn,j9,jE,hd,cq,k⟩:=h;have nd:=rD.nd;refine⟨_,(ah (sv 3 nd (xt (pv 2) ai))
(ah (bN (aV cH (pv 3) aQ (aZ _))
(au (a0 (fc sD hr (aa (km (pv 0)) (aa (xt (pv 2) ai) (aa (xt (pv 2) ai) av))))))
bb)
(ah (bN (aV cH (pv 3) aQ (aZ _))
(au (a0 (fc HV hr (aa (km (pv 0)) (aa (xt (pv 2) ai) (aa (xt (pv 2) ai) av))))))
bb)
(ah (bN (aV cH (pv 3) aQ (aZ _))
(au (a0 (fc HW hr (aa (km (pv 0)) (aa (xt (pv 2) ai) (aa (xt (pv 2) ai) (aa (xt (pv 2) ai) av)))))))
bb)
(au (G1 (i:=4) rfl rfl rfl nd rfl rfl rfl G.fP G.D3 (fun xe pn E hx=>(ah (bN (aV cH (pv 3) aQ (aZ _))
(au (a0 (nv Qo (hr.mono (by decide)) hx (pv 0) (aa (i8 (lX (K:=K) rfl) (pv 2) ai (fun _ _=>rfl)) av))))
bb)
(au (a0 (nv YM (hr.mono (by decide)) hx (pv 0) (aa (pv 1) (aa (pv 2) av))))))))))))),?_⟩
  obtain⟨db,hb⟩:=hB.obj;have hW:=hB.wk;have NQ: ∀t∈[tB,tC],∃ps,H t=some (.mL ps):=fun t z=>by
   simp only[List.mem_cons,List.not_mem_nil,or_false] at z;rcases z with rfl|rfl
   ·exact cY j9
   ·exact cY jE
  have big: ∀x∈[tB,tC],x∈tB :: tC :: pb :: pk :: g.fp:=fun x z=>by
   simp only[List.mem_cons,List.not_mem_nil,or_false] at z;rcases z with rfl|rfl <;> simp
  have Uz: ∀a∈[tB],∀φ,H a≠some (.ext φ):=fun a ha φ e=>by
   obtain⟨ps,q⟩:=cY j9;rw[ao.mp ha,q] at e;cases e
  have YN: ∀a∈[tC],∀φ,H a≠some (.ext φ):=fun a ha φ e=>by
   obtain⟨ps,q⟩:=cY jE;rw[ao.mp ha,q] at e;cases e
  obtain⟨bc,hk,hK⟩:=hB.kept;have Nz: ∀D,H D=none->D∉pk :: g.fp:=fun D e z=>by
   rcases aw.mp z with z|z
   ·rw[z,hk] at e;cases e
   ·exact hW.new e z
  have wf:=hG.wf (by lia:n<=60);by_cases ht:d.tells=true
  ·have Il:H pd=some (.tup (br.vs d)):=by cases d <;> first|exact hd|cases ht
   obtain⟨r,er⟩:=uw (.inl ht);have Q9:H pd=some (.tup (.str (br.word d) :: r)):=by rw[← er]; exact Il
   obtain⟨w1,w2,w3,w4⟩:=M0 ht;rw[vR ht] at k;refine⟨_,rfl,pd,_,_,.str (br.word d),rfl,rfl,cf.of Q9,Ku _ _,?_⟩;refine⟨_,rfl,rfl,false,jk w1,bT ?_⟩;refine⟨_,rfl,rfl,false,jk w2,bT ?_⟩;refine⟨_,rfl,rfl,false,jk w3,bT ?_⟩;refine⟨_,rfl,rfl,false,jk w4,bT ⟨_,rfl,pb,db,_,rfl,hb,Ur _ _,_,rfl,_,rfl,pb,pd,pk,pw,TT,g,n,d,rfl,hB,hG,hn,j9,jE,Il,ht,fun oJ v f1 H1 e1 F1 jl jY NG hA=>?_,fun oJ=>?_⟩⟩
   ·rw[a8 oJ] at k;refine k v pk pw f1 H1 (dD F1 fun x z=>?_) jl jY NG (by rw[e1]; exact fun x hx=> .inl hx) (hA.keep (fun D xs o e=>⟨⟨o,by rw[e1]; exact Nz D o⟩,e⟩) fun _ _ e=>e);rcases aw.mp z with z|z
    ·simp[z]
    ·rcases aw.mp z with z|z
     ·simp[z]
     ·rcases aw.mp z with z|z
      ·simp[z]
      ·simp[z]
   ·rw[aU oJ] at k;intro C hC _ dx H1 s1 JR De;exact⟨C,dx,_,rfl,rfl,hC,De,k _ pk pw g H1 s1.frame (bM j9 s1) (bM jE s1) (hB.same s1) (fun x hx=> .inl hx) rfl⟩
  cases d with
  |dR _ _ _ _=>exact absurd rfl ht
  |rG _ _ _=>exact absurd rfl ht
  |note _ _ _=>exact absurd rfl ht
  |set _ _ _=>exact absurd rfl ht
  |fT _=>exact absurd rfl ht
  |ask o wh dy=>
   have hd:H pd=some (.tup (br.vs (.ask o wh dy))):=hd;cases o with
   |true=>
    refine⟨_,rfl,pd,_,_,.str "owed",rfl,rfl,cf.of hd,rfl,?_⟩;refine⟨_,rfl,rfl,true,yD _,fB ⟨_,rfl,pb,_,db,_,_,rfl,hb,G.eR,G.gE,uB _ _,_,rfl,pd,_,_,.str wh,rfl,rfl,cf.of hd,rfl,_,rfl,pd,_,_,.int dy,rfl,rfl,cf.of hd,rfl,pw,TT.bk,g,n,wh,dy,rfl,hW,wf,(by lia),j9,fun D ms H1 F1 jl nD hD hP=>?_⟩⟩;have F2:Frame [tB,tC] H H1:=dD F1 (by simp);exact k _ pk pw g H1 (dD F2 big) jl (fU jE F1 (by simpa using i9.symm) Uz) (lJ hB fun a o e z=>yO F2 NQ e z) (fun x hx=> .inl hx) ⟨D,ms,rfl,⟨nD,Nz D nD⟩,hD,hP⟩
   |false=>
    refine⟨_,rfl,pd,_,_,.str "free",rfl,rfl,cf.of hd,rfl,?_⟩;refine⟨_,rfl,rfl,false,jk (show("free":Str)≠"owed" by decide +kernel),bT ?_⟩;refine⟨_,rfl,rfl,true,yD _,fB ⟨_,rfl,pb,_,db,_,_,rfl,hb,G.eR,G.gE,uB _ _,_,rfl,pd,_,_,.str wh,rfl,rfl,cf.of hd,rfl,_,rfl,pd,_,_,.int dy,rfl,rfl,cf.of hd,rfl,pw,TT.bk,g,n,wh,dy,rfl,hW,wf,(by lia),jE,fun D ms H1 F1 jY nD hD hP=>?_⟩⟩;have F2:Frame [tB,tC] H H1:=dD F1 (by simp);exact k _ pk pw g H1 (dD F2 big) (fU j9 F1 (by simpa using i9) YN) jY (lJ hB fun a o e z=>yO F2 NQ e z) (fun x hx=> .inl hx) ⟨D,ms,rfl,⟨nD,Nz D nD⟩,hD,hP⟩
  |fN wh dy bO=>
   obtain⟨pl,hd,gw⟩:=hd;refine⟨_,rfl,pd,_,_,.str "ages",rfl,rfl,cf.of hd,rfl,?_⟩;refine⟨_,rfl,rfl,false,jk (show("ages":Str)≠"owed" by decide +kernel),bT ?_⟩;refine⟨_,rfl,rfl,false,jk (show("ages":Str)≠"free" by decide +kernel),bT ?_⟩;refine⟨_,rfl,rfl,true,yD _,fB ⟨_,rfl,pb,_,db,_,_,rfl,hb,G.eR,G.gE,uB _ _,_,rfl,pd,_,_,.str wh,rfl,rfl,cf.of hd,rfl,_,rfl,pd,_,_,.int dy,rfl,rfl,cf.of hd,rfl,_,rfl,pd,_,_,.ref pl,rfl,rfl,cf.of hd,rfl,pw,pl,TT.bk,g,n,wh,dy,bO,rfl,hW,wf,(by lia),j9,gw,cq.1,fun D H1 F1 jl nD hD=>?_⟩⟩;have F2:Frame [tB,tC] H H1:=dD F1 (by simp);exact k _ pk pw g H1 (dD F2 big) jl (fU jE F1 (by simpa using i9.symm) Uz) (lJ hB fun a o e z=>yO F2 NQ e z) (fun x hx=> .inl hx) ⟨D,rfl,⟨nD,Nz D nD⟩,hD⟩
  |ie m=>
   have hd:H pd=some (.tup (br.vs (.ie m))):=hd;refine⟨_,rfl,pd,_,_,.str "undo",rfl,rfl,cf.of hd,rfl,?_⟩;refine⟨_,rfl,rfl,false,jk (show("undo":Str)≠"owed" by decide +kernel),bT ?_⟩;refine⟨_,rfl,rfl,false,jk (show("undo":Str)≠"free" by decide +kernel),bT ?_⟩;refine⟨_,rfl,rfl,false,jk (show("undo":Str)≠"ages" by decide +kernel),bT ?_⟩;have YO:cE TT n (.ie m)=if(TT.steps.filter (cS m)).length=TT.steps.length then(Dc.txt "no setting",TT) else
     match cW (TT.steps.filter (cS m)) Bk.new with
     |none=>(.txt "needed",TT)
     |some S=>(.txt "undone",⟨TT.steps.filter (cS m),S⟩):=rfl
   refine⟨_,rfl,rfl,true,yD _,fB ⟨_,rfl,pb,db,_,rfl,hb,MZ _ _,_,rfl,pd,_,_,.int m,rfl,rfl,cf.of hd,rfl,pb,pk,pw,TT,g,n,m,rfl,hB,hG,hn,j9,jE,fun hF S hS wm rJ f' H1 F1 jl jY NG nk nf=>?_,fun hF hS=>?_,fun hF=>?_⟩⟩
   ·have Tq: ¬ (TT.steps.filter (cS m)).length=TT.steps.length:=fun z=>by
     rw[(qa _ _).mp z] at hF;cases hF
    rw[YO,aU Tq,hS] at k;refine k _ wm rJ f' H1 (dD F1 (fun x z=>?_)) jl jY NG (fun x hx=> .inr ?_) rfl
    ·simp only[List.mem_cons,List.not_mem_nil,or_false] at z;rcases z with rfl|rfl|rfl <;> simp
    ·rcases aw.mp hx with hx|hx
     ·rw[hx]; exact nk
     ·exact nf x hx
   ·have Tq: ¬ (TT.steps.filter (cS m)).length=TT.steps.length:=fun z=>by
     rw[(qa _ _).mp z] at hF;cases hF
    rw[YO,aU Tq,hS] at k;intro C dx H1 hC F1 jl jY JR De;exact⟨C,dx,_,rfl,rfl,hC,De,k _ pk pw g H1 (dD F1 big) jl jY (lJ hB fun a o e z=>yO F1 NQ e z) (fun x hx=> .inl hx) rfl⟩
   ·rw[YO,a8 ((qa _ _).mpr hF)] at k;intro C dx H1 hC F1 jl jY JR De;exact⟨C,dx,_,rfl,rfl,hC,De,k _ pk pw g H1 (dD F1 big) jl jY (lJ hB fun a o e z=>yO F1 NQ e z) (fun x hx=> .inl hx) rfl⟩
def yP (d:br): ∀(l:List br) (T:gS) (n:Nat),dM (l ++ [d]) T n=((dM l T n).1 ++ [(cE (dM l T n).2 ((n + l.length:Nat):Int) d).1],(cE (dM l T n).2 ((n + l.length:Nat):Int) d).2)
 |[],T,n=>rfl
 |e :: l,T,n=>by
  show((cE T n e).1 :: (dM (l ++ [d]) (cE T n e).2 (n + 1)).1,(dM (l ++ [d]) (cE T n e).2 (n + 1)).2)=_;rw[yP d l,show n + 1 + l.length=n + (e :: l).length by rw[bS]; lia];rfl
def yQ {ds:List br}{i:Nat}(hi:i < ds.length):dM (ds.take (i + 1)) gS.new 0=((dM (ds.take i) gS.new 0).1 ++ [(cE (dM (ds.take i) gS.new 0).2 (i:Int) ds[i]).1],(cE (dM (ds.take i) gS.new 0).2 (i:Int) ds[i]).2):=by
 rw[jm hi,yP,bf,Nat.zero_add,Nat.min_eq_left (dr hi)]
def HX {A:dU}{H:Hp}{pb pk pw pt:Addr}{T:gS}{f:eJ}{ws:List V}{o:HO}(h:fH A H pb pk pw T f)(e:H pt=some (.lst ws))(n:pt∉f.fp):fH A (upd H pt o) pb pk pw T f:=by
 obtain⟨db,hb⟩:=h.obj;obtain⟨bc,k1,k2⟩:=h.kept;have kt:cF H (upd H pt o):=dN e;have ki: ∀{a C dx:Addr} {gs:List (Str×V)},H a=some (.ins C dx gs)->upd H pt o a=some (.ins C dx gs):=fun{a C dx gs} z=>by rw[az (mr z e (by intro q; cases q))]; exact z
 have kl: ∀p∈f.fp,∀xs,H p=some (.lst xs)->upd H pt o p=some (.lst xs):=fun p hp xs z=>by rw[az (fun(q:p=pt)=>n (q▸hp))]; exact z
 obtain⟨dw,hw⟩:=h.wk.obj;obtain⟨ms,m1,m2⟩:=h.wk.hm;have hW:=h.wk;exact⟨⟨db,ki hb⟩,⟨bc,by rw[az (mr k1 e (by intro q; cases q))]; exact k1,k2.mono kt⟩,
  ⟨⟨dw,ki hw⟩,kl _ (by simp[eJ.fp]) _ hW.hb,kl _ (by simp[eJ.fp]) _ hW.hc,kl _ (by simp[eJ.fp]) _ hW.hl,kl _ (by simp[eJ.fp]) _ hW.hf,⟨ms,kl _ (by simp[eJ.fp]) _ m1,m2.mono kt⟩,hW.rb.keep fun _ _ _ z=>ki z,hW.rc.keep fun _ _ _ z=>ki z,hW.nd⟩⟩
def FT {A:dU}{H:Hp}{pb pk pw tB tC a:Addr}{T:gS}{f:eJ}(h:fH A H pb pk pw T f)(j9:lI H tB)(jE:mi H tC)(z:a∈tB :: tC :: pb :: pk :: f.fp):(∃ps,H a=some (.mL ps))∨(∃C dx fs,H a=some (.ins C dx fs))∨(∃bc,H a=some (.dK bc))∨(∃xs,H a=some (.lst xs))/\a∈f.fp:=by
 rcases aw.mp z with rfl|z
 ·exact .inl (cY j9)
 rcases aw.mp z with rfl|z
 ·exact .inl (cY jE)
 rcases aw.mp z with rfl|z
 ·obtain⟨db,hb⟩:=h.obj;exact .inr (.inl ⟨_,_,_,hb⟩)
 rcases aw.mp z with rfl|z
 ·obtain⟨bc,k1,_⟩:=h.kept;exact .inr (.inr (.inl ⟨_,k1⟩))
 ·exact .inr (.inr (.inr ⟨h.wk.lists a z,z⟩))
def KA {A:dU}{H H':Hp}{pb pk pw tB tC:Addr}{T:gS}{f:eJ}(h:fH A H pb pk pw T f)(j9:lI H tB)(jE:mi H tC)(F:Frame (tB :: tC :: pb :: pk :: f.fp) H H'):cF H H':=fun a xs e=>F _ _ (fun z=>by
 rcases FT h j9 jE z with⟨_,q⟩|⟨_,_,_,q⟩|⟨_,q⟩|⟨⟨_,q⟩,_⟩ <;> (rw[e] at q; cases q)) e
def EB {A:dU}{H H':Hp}{pb pk pw tB tC a:Addr}{T:gS}{f:eJ}{xs:List V}(h:fH A H pb pk pw T f)(j9:lI H tB)(jE:mi H tC)(F:Frame (tB :: tC :: pb :: pk :: f.fp) H H')(e:H a=some (.lst xs))(n:a∉pk :: f.fp):H' a=some (.lst xs):=F _ _ (fun z=>by
 rcases FT h j9 jE z with⟨_,q⟩|⟨_,_,_,q⟩|⟨_,q⟩|⟨_,q⟩
 ·rw[e] at q; cases q
 ·rw[e] at q; cases q
 ·rw[e] at q; cases q
 ·exact n (ba _ q)) e
inductive AK (A:dU)(tB tC:Addr)(vs:List V)(H:Hp)(Q:VK)(E':XK):Prop
 |mk (pb pk pw ps:Addr)(f:eJ)(ds:List br)(ms:List V)(h1:vs=[.ref pb,.ref ps])(h2:fH A H pb pk pw gS.new f)(h3:H ps=some (.lst ms))(h4:ps∉f.fp)(h5:eO H ds ms)(h6:ds.length<=60)(h7:(∀d∈ds,d.ok))(h8:lI H tB)(h9:mi H tC)(K6: ∀pt ws wm rJ f' H',Frame (tB :: tC :: pb :: pk :: f.fp) H H'->lI H' tB->mi H' tC->H pt=none->H' pt=some (.lst ws)->Paired (jV H' (fun D=>D≠pt/\(D∈pk :: f.fp∨H D=none))) (dM ds gS.new 0).1 ws->fH A H' pb wm rJ (dM ds gS.new 0).2 f'->Q (.ref pt) H'):AK A tB tC vs H Q E'
def o8:aS ["book","deeds","told","number","deed"] ["book","deeds"] (ay (top 34)):={}
def eO.get {H:Hp}{i:Nat}: ∀{ds:List br} {ms:List V},eO H ds ms-> ∀{d:br},ds[i]? =some d-> ∃v,ms[i]? =some v/\Rp H d.dt v:=fun{ds ms} h {d} e=>g6.get h (by rw[aB,e]; rfl)
def AL (T:Txt K mg){A:dU}{tB tC:Addr}(G:jv K mg A)(DB:qm K mg "bills_in_order" (top 17) tB)(DC:qm K mg "credits_in_order" (top 18) tC)(i9:tB≠tC)(hnd:A.iU≠A.tooMuch)(KB:K.In base)(BM:BMain mg base):eI P w K mg base "answers_in" 11 ["book","deeds"] (AK A tB tC):=by
 have C0:eI P w K mg base "answer_of" 10 ["book","number","deed"] (wq A tB tC):=CZ T G DB DC i9 hnd KB BM;refine T.zB.eX (k:=10) o8 (fun f cO A' outer s H vs Q E hr h=>?_)
 ·obtain⟨pb,pk,pw,ps,g,ds,ms,rfl,hB,lp,CD,KC,hl,cq,j9,jE,k⟩:=h;have nd:=o8.nd;refine⟨_,(ah (sv 2 nd (bP av))
(ah (dW bw rfl (qB rfl T.jb (aa (pv 1) av)) (gT (bX (gn 3 nd) (bX (gn 4 nd) gv)))
(au (bK (oS (pv 2) (fc C0 hr (aa (pv 0) (aa (pv 3) (aa (pv 4) av))))))))
(au (a0 (pv 2))))),?_⟩
  refine⟨bh _,fun pt nt=>?_⟩;have s1:=aD.new (o:= .lst []) nt;have hlen:=eO.length KC;obtain⟨bc,hk,_⟩:=hB.kept;have npk:ps∉pk :: g.fp:=fun z=>by
   rcases aw.mp z with z|z
   ·rw[z,hk] at lp;cases lp
   ·exact CD z
  have ntk:pt∉pk :: g.fp:=fun z=>by
   rcases aw.mp z with z|z
   ·rw[z,hk] at nt;cases nt
   ·exact hB.wk.new nt z
  refine⟨_,rfl,ps,rfl,⟨_,bA.of (s1 _ _ lp)⟩,?_⟩;refine mW (K:=K) (a:=ps) (xs:=ms) (fun i σ H2=> ∃(x3 x4:Option V) (wm rJ:Addr) (f':eJ) (ws:List V),σ=[some (.ref pb),some (.ref ps),some (.ref pt),x3,x4]/\Frame (tB :: tC :: pb :: pk :: g.fp) H H2/\H2 pt=some (.lst ws)/\fH A H2 pb wm rJ (dM (ds.take i) gS.new 0).2 f'/\Good (dM (ds.take i) gS.new 0).2 i/\(∀x∈wm :: f'.fp,(x∈pk :: g.fp∨H x=none)/\x≠pt)/\lI H2 tB/\mi H2 tC/\Paired (jV H2 (fun D=>D≠pt/\D∉wm :: f'.fp/\(D∈pk :: g.fp∨H D=none))) (dM (ds.take i) gS.new 0).1 ws)
   ⟨none,none,pk,pw,g,[],rfl,s1.frame,ag,hB.same s1,Good.new,fun x hx=>⟨.inl hx,fun z=>ntk (z▸hx)⟩,bM j9 s1,bM jE s1,.nil⟩ (fun i σ H2 _ ⟨_,_,_,_,_,_,_,f2,_⟩=>bA.of (EB hB j9 jE f2 lp npk)) ?_ ?_
  ·rintro i x p σ H2 hx hp ⟨x3,x4,wm,rJ,f',ws,rfl,F2,wB,Lg,MS,V4,ko,mI,Ep⟩;have hi:i < ds.length:=by have:=(ak.mp hx).1; lia
   have oK:=af hi;obtain⟨v',hv,XJ⟩:=eO.get KC oK;rw[hx] at hv;obtain rfl:x=v':=aF hv;obtain⟨pd,rfl,hd⟩:=AJ XJ;have hd2:=hd.mono (KA hB j9 jE F2);have M3:=cq _ (bG hi);have V5:=yQ hi;have oY:Good (cE (dM (ds.take i) gS.new 0).2 (i:Int) ds[i]).2 (i + 1):=MS.step ds[i];rw[V5];generalize ds[i]=d at hd2 M3 oY;have BC:(dM (ds.take i) gS.new 0).1.length<=100:=by rw[kz,bf]; lia
   generalize dM (ds.take i) gS.new 0=R at Lg MS Ep oY BC;have s3:=aD.new (o:= .tup [.int i,.ref pd]) hp;refine⟨p,_,rfl,cf.of ag,rfl,_,_,rfl,_,_,rfl,rfl,?_⟩;have F3:=F2.cU s3;have KD:=s3 _ _ wB;have KG:=Lg.same s3;have rz:lI _ tB:=bM ko s3;have rA:mi _ tC:=bM mI s3;have NJ:=hd2.mono s3.tk;have YQ:Paired (jV (upd H2 p (.tup [.int i,.ref pd])) (fun D=>D≠pt/\D∉wm :: f'.fp/\(D∈pk :: g.fp∨H D=none))) R.1 ws:=Paired.gI Ep fun _ _ z=>z.keep (fun D xs o e=>⟨o,s3 _ _ e⟩) s3.tk;generalize upd H2 p (.tup [.int i,.ref pd])=H3 at F3 KD KG rz rA NJ YQ;have E3:=aL YQ;refine⟨_,rfl,.inl ⟨rfl,_,bA.of KD⟩,_,rfl,_,rfl,_,rfl,pb,pd,wm,rJ,R.2,f',i,d,rfl,KG,MS,(by lia),rz,rA,NJ,M3,fun v pk2 pw2 f2 H4 F4 sE sF hB4 jO hA4=>?_⟩;have YR:pt∉wm :: f'.fp:=fun z=>(V4 pt z).2 rfl;have wa:=EB KG rz rA F4 KD YR;have kt4:=KA KG rz rA F4;refine⟨pt,ws,v,rfl,rfl,wa,a9 (by lia),?_⟩;have frees: ∀x,H3 x=none->x∈pk :: g.fp∨H x=none:=fun x h1=>by
    by_cases q:x∈pk :: g.fp
    ·exact .inl q
    ·right;cases e:H x with
     |none=>rfl
     |some o=>
      exfalso;by_cases q2:x∈tB :: tC :: pb :: pk :: g.fp
      ·rcases aw.mp q2 with q2|q2
       ·obtain⟨_,z⟩:=cY rz;rw[← q2,h1] at z;cases z
       rcases aw.mp q2 with q2|q2
       ·obtain⟨_,z⟩:=cY rA;rw[← q2,h1] at z;cases z
       rcases aw.mp q2 with q2|q2
       ·obtain⟨_,z⟩:=KG.obj;rw[← q2,h1] at z;cases z
       exact q q2
      ·have z:=F3 _ _ q2 e;rw[h1] at z;cases z
   have UA: ∀x∈pk2 :: f2.fp,(x∈pk :: g.fp∨H x=none)/\x≠pt:=fun x hx=>by
    rcases jO x hx with h1|h1
    ·exact V4 x h1
    ·exact⟨frees x h1,fun z=>by rw[z,KD] at h1; cases h1⟩
   have YS:pt∉f2.fp:=fun z=>(UA pt (ba _ z)).2 rfl;have UB: ∀a∈[pt],∀φ,H4 a≠some (.ext φ):=fun a ha φ e=>by
    rw[ao.mp ha,wa] at e;cases e
   have nB:tB∉[pt]:=fun z=>by
    obtain⟨_,q⟩:=cY sE;rw[ao.mp z,wa] at q;cases q
   have nC:tC∉[pt]:=fun z=>by
    obtain⟨_,q⟩:=cY sF;rw[ao.mp z,wa] at q;cases q
   have F34:Frame (tB :: tC :: pb :: pk :: g.fp) H (upd H4 pt (.lst (ws ++ [v]))):=(F3.trans F4 fun x hx=>by
    rcases aw.mp hx with hx|hx
    ·exact .inl (by simp[hx])
    rcases aw.mp hx with hx|hx
    ·exact .inl (by simp[hx])
    rcases aw.mp hx with hx|hx
    ·exact .inl (by simp[hx])
    rcases(V4 x hx).1 with h1|h1
    ·exact .inl (by simp[List.mem_cons.mp h1])
    ·exact .inr h1).trans (Frame.upd (fp:=[pt]) (by simp)) (fun x hx=> .inr (by rw[List.mem_singleton.mp hx]; exact nt))
   refine⟨_,_,pk2,pw2,f2,ws ++ [v],rfl,F34,ag,HX hB4 wa YS,oY,UA,fU sE (Frame.upd (fp:=[pt]) (by simp)) nB UB,fU sF (Frame.upd (fp:=[pt]) (by simp)) nC UB,?_⟩;have ktl:=dN (o:= .lst (ws ++ [v])) wa;refine cy (Paired.gI YQ fun _ _ z=>z.keep (fun D xs o e=>?_) (kt4.trans ktl)) (hA4.keep (fun D xs o e=>?_) ktl)
   ·have e4:=EB KG rz rA F4 e o.2.1;refine⟨⟨o.1,fun q=>?_,o.2.2⟩,by rw[az o.1]; exact e4⟩;rcases jO D q with h1|h1
    ·exact o.2.1 h1
    ·rw[e] at h1;cases h1
   ·have nD:D≠pt:=fun z=>by
     have:=o.1;rw[z,KD] at this;cases this
    exact⟨⟨nD,o.2,frees D o.1⟩,by rw[az nD]; exact e⟩
  ·rintro σ H2 ⟨x3,x4,wm,rJ,f',ws,rfl,F2,wB,Lg,MS,V4,ko,mI,Ep⟩;rw[← hlen,a7] at Ep Lg;refine⟨_,rfl,k pt ws wm rJ f' H2 F2 ko mI nt wB (Paired.gI Ep fun _ _ z=>z.keep (fun D xs o e=>⟨⟨o.1,o.2.2⟩,e⟩) fun _ _ e=>e) Lg⟩
inductive sM (A:dU)(tB tC:Addr)(vs:List V)(H:Hp)(Q:VK)(E':XK):Prop
 |mk (ps:Addr)(ds:List br)(ms:List V)(h1:vs=[.ref ps])(h2:H ps=some (.lst ms))(h3:eO H ds ms)(h4:ds.length<=60)(h5:(∀d∈ds,d.ok))(h6:lI H tB)(h7:mi H tC)(h8: ∀pt ws H',Frame [tB,tC] H H'->lI H' tB->mi H' tC->H pt=none->H' pt=some (.lst ws)->Paired (jV H' (fun D=>D≠pt/\H D=none)) (dM ds gS.new 0).1 ws->Q (.ref pt) H'):sM A tB tC vs H Q E'
def wt:aS ["deeds","book"] ["deeds"] (ay (top 33)):={}
def HY (T:Txt K mg){A:dU}{tB tC:Addr}(G:jv K mg A)(DB:qm K mg "bills_in_order" (top 17) tB)(DC:qm K mg "credits_in_order" (top 18) tC)(i9:tB≠tC)(hnd:A.iU≠A.tooMuch)(KB:K.In base)(BM:BMain mg base):eI P w K mg base "answers" 12 ["deeds"] (sM A tB tC):=by
 have AM:eI P w K mg base "answers_in" 11 ["book","deeds"] (AK A tB tC):=AL T G DB DC i9 hnd KB BM;have Qp:tY P w K mg base "Book" A.book 3 ["self"] (Au A):=PZ G;refine T.G7.eX (k:=11) wt (fun f cO A' outer s H vs Q E hr h=>?_)
 ·obtain⟨ps,ds,ms,rfl,lp,KC,hl,cq,j9,jE,k⟩:=h;have nd:=wt.nd;refine⟨_,(ah (sv 1 nd (JQ Qp (hr.mono (by decide)) rfl))
(au (a0 (fc AM hr (aa (pv 1) (aa (pv 0) av)))))),?_⟩
  intro xb dxb YT YU ne;have s1:=lE (C:=A.book) (fs:=[]) YT YU ne;refine⟨xb,dxb,rfl,ag,fun pk pw g H1 F1 hx hk hW nk npw nf npk=>⟨rfl,?_⟩⟩;have S1:aD H H1:=fun b o e=>F1 b o (by simpa using aJ e YT) (s1 b o e);have fr: ∀b∈g.fp,H b=none:=fun b hb=>s1.free (nf b hb);have Ya:H pk=none:=s1.free nk;refine⟨_,rfl,_,rfl,xb,pk,pw,ps,g,ds,ms,rfl,⟨⟨dxb,hx⟩,⟨[],hk,.nil⟩,hW⟩,S1 _ _ lp,(fun z=>by
   have:=fr _ z;rw[lp] at this;cases this),KC.mono S1.tk,hl,cq,bM j9 S1,bM jE S1,fun pt ws _ _ _ H2 F2 ko mI nt wB hA _=>?_⟩
  refine k pt ws H2 ((S1.frame (fp:=[tB,tC])).trans F2 fun x hx=>?_) ko mI (S1.free nt) wB (Paired.gI hA fun _ _ z=>z.keep (fun D xs o e=>⟨⟨o.1,o.2.elim (fun q=>(aw.mp q).elim (fun q=>by rw[q]; exact Ya) (fr D)) S1.free⟩,e⟩) fun _ _ e=>e);rcases aw.mp hx with hx|hx
  ·exact .inl (by simp[hx])
  rcases aw.mp hx with hx|hx
  ·exact .inl (by simp[hx])
  rcases aw.mp hx with hx|hx
  ·exact .inr (by rw[hx]; exact YT)
  rcases aw.mp hx with hx|hx
  ·exact .inr (by rw[hx]; exact Ya)
  ·exact .inr (fr x hx)
inductive KH (K:Frag)(vs:List V)(H:Hp)(Q:VK)(E':XK):Prop
 |mk (a:Addr)(xs:List V)(m b:Int)(h1:vs=[.ref a,.int m,.int b])(h2:bA K H a xs)(h3:xs.length<=63)(h4:Q (.int m) H):KH K vs H Q E'
inductive AN (vs:List V)(H:Hp)(Q:VK)(E':XK):Prop
 |mk (d v:_)(h1:vs=[v])(h2:Rp H d v)(h3:Q (.bl (isW d)) H):AN vs H Q E'
def AO:aS ["_law_script","_law_most","_law_bound"] ["_law_script","_law_most","_law_bound"] (ay (top 43)):={}
def C1 (T:Txt K mg):eI P w K mg base "_law_room" 1 ["_law_script","_law_most","_law_bound"] (KH K):=by
 refine T.BO.eX (k:=0) AO (fun f cO A outer s H vs Q E hr h=>?_)
 ·obtain⟨a,xs,m,b,rfl,hS,hz,k⟩:=h;refine⟨_,(ah (bN (aV iK (ma T.dB (pv 0)) ai (aZ _))
   (au (a0 (pv 2)))
   bb)
   (au (a0 (pv 1)))),?_⟩
  refine⟨_,rfl,a,xs,rfl,.inl hS,_,_,rfl,rfl,_,rfl,?_⟩;refine ck (fun c=>?_) (fun c=>?_)
  ·have c':(63:Int) < (xs.length:Int):=aN c;lia
  ·exact⟨_,rfl,k⟩
def xN:aS ["_law_found"] ["_law_found"] (ay (top 45)):={}
def AQ (T:Txt K mg):eI P w K mg base "_law_whole" 1 ["_law_found"] AN:=by
 refine T.zC.eX (k:=0) xN (fun f cO A outer s H vs Q E hr h=>?_)
 ·obtain⟨d,v,rfl,r,k⟩:=h;refine⟨_,(au (a0 (rT (vv T.dg T.vz boot_int (pv 0)) (pC (Of (vv T.dg T.Pj boot_bool (pv 0))))))),?_⟩;refine⟨_,rfl,v,_,_,ZV d,rfl,r.ty,Sw d,_,rfl,?_⟩;cases d with
  |int i=>exact fB ⟨_,rfl,v,_,_,false,rfl,r.ty,Nt (.int i),_,rfl,k⟩
  |bl i=>exact fB ⟨_,rfl,v,_,_,true,rfl,r.ty,Nt (.bl i),_,rfl,k⟩
  |eh=>exact bT k
  |str x=>exact bT k
  |tup ds=>exact bT k
  |lst ds=>exact bT k
inductive FU (vs:List V)(H:Hp)(Q:VK)(E':XK):Prop
 |mk (d v1 v2:_)(h1:vs=[v1,v2])(h2:Rp H d v1)(h3:Rp H d v2)(h4:d.size<=100000)(h5:d.plain=true)(h6: ∀H',aD H H'->Q (.bl true) H'):FU vs H Q E'
def o9:aS ["_law_found","_law_due","_law_todo","_law_pair","_law_k"] ["_law_found","_law_due"] (ay (top 47)):={}
def AR (T:Txt K mg):eI P w K mg base "_law_alike" 2 ["_law_found","_law_due"] FU:=by
 have AS:eI P w K mg base "_law_whole" 1 ["_law_found"] AN:=AQ T;refine T.zE.eX (k:=1) o9 (fun f cO A outer s H vs Q E hr h=>?_)
 ·obtain⟨d,v1,v2,rfl,r1,r2,hsz,gw,k⟩:=h;have hu:=jG hr;have nd:=o9.nd;refine⟨_,(ah (sv 2 nd (bP (aa (cD (aa (pv 0) (aa (pv 1) av))) av)))
(ah (IF bw (aV (Jj hu) (pv 2) (bP av) (aZ _))
(ah (sv 3 nd (OB PySem.F.plainAttrs_list PySem.F.slot_list_pop PySem.F.type_list_pop OE (pv 2)))
(au (bN (f9 (eM DN (by rfl) T.dg boot_isinstance (aa (xt (pv 3) ai) (aa (cD (aa (yX (v:= .ty "list") (by rfl) T.vA boot_list rfl) (aa (yX (v:= .ty "tuple") (by rfl) T.um boot_tuple rfl) av))) av))))
(ah (bN (aV oQ (vv T.dg T.vA boot_list (xt (pv 3) ai)) (vv T.dg T.vA boot_list (xt (pv 3) ai)) (aZ _))
(au (a0 k8))
bb)
(ah (bN (aV oQ (vv T.dg T.um boot_tuple (xt (pv 3) ai)) (vv T.dg T.um boot_tuple (xt (pv 3) ai)) (aZ _))
(au (a0 k8))
bb)
(ah (bN (aV oQ (ma T.dB (xt (pv 3) ai)) (ma T.dB (xt (pv 3) ai)) (aZ _))
(au (a0 k8))
bb)
(au (dW bw rfl (iQ rfl T.ju (aa (ma T.dB (xt (pv 3) ai)) av)) (gn 4 nd)
(au (bK (oS (pv 2) (cD (aa (i8 Nr (xt (pv 3) ai) (pv 4) (fun _ _=>rfl)) (aa (i8 Nr (xt (pv 3) ai) (pv 4) (fun _ _=>rfl)) av)))))))))))
(au (bN (f9 (vv T.dg T.Fs boot_str (xt (pv 3) ai)))
(au (bN (PW.pt (pw_or (kI (f9 (vv T.dg T.Fs boot_str (xt (pv 3) ai)))) (pw_or1 (aV oQ (xt (pv 3) ai) (xt (pv 3) ai) (aZ _)))))
(au (a0 k8))
bb))
(au (bN (PW.pt (pw_or (kI (f9 (fc AS hr (aa (xt (pv 3) ai) av)))) (pw_or1 (aV oQ (xt (pv 3) ai) (xt (pv 3) ai) (aZ _)))))
(au (a0 k8))
bb))))))))
(au (a0 k8)))),?_⟩
  refine⟨_,rfl,_,rfl,(by show 2<=sizeLine; decide),fun t0 nt0=>⟨(by show 1<=sizeLine; decide),fun l nl=>?_⟩⟩;have sA:aD H (upd H t0 (.tup [v1,v2])):=aD.new nt0;have V6:H l=none:=sA.free nl;refine⟨fun m σ H2=> ∃td ds x3 x4,σ=[some v1,some v2,some (.ref l),x3,x4]/\aD H H2/\H2 l=some (.lst td)/\Paired (lY H H2) ds td/\Dt.fF ds=m/\m<=100000/\ ∀d∈ds,d.plain=true,
   ⟨d.size,[.ref t0],[d],none,none,rfl,sA.trans (aD.new nl),ag,.cons ⟨t0,v1,v2,rfl,Jl nl _ _ ag,r1,r2⟩ .nil,by simp[Dt.fF],hsz,by simpa using gw⟩,?_⟩
  rintro m σ H2 ⟨td,ds,x3,x4,rfl,s1,hl,hp,hm,X2,UC⟩;refine⟨_,rfl,bh _,fun p3 n3=>?_⟩;have s2:aD H2 (upd H2 p3 (.lst [])):=aD.new n3;refine⟨l,p3,td,rfl,rfl,bA.of (s2 _ _ hl),bA.of ag,_,rfl,?_⟩;generalize MD:upd H2 p3 (.lst [])=H3 at s2 ⊢;have FL:=s2 _ _ hl;cases htd:td with
  |nil=>exact bT (k _ (s1.trans s2))
  |cons z zs=>
  refine fB ⟨fun σ' H'=> ∃m',m' < m/\ ∃td ds x3 x4,σ'=[some v1,some v2,some (.ref l),x3,x4]/\aD H H'/\H' l=some (.lst td)/\Paired (lY H H') ds td/\Dt.fF ds=m'/\m'<=100000/\ ∀d∈ds,d.plain=true,fun _ _ h=>h,?_⟩;have i9:td.length - 1 < td.length:=by rw[htd]; simp
  obtain⟨y,hy⟩: ∃y,td[td.length - 1]? =some y:=⟨_,af i9⟩;obtain⟨M4,c,YV,⟨t,u1,u2,ey,ht,q1,q2⟩,Tu⟩:=sS hp hy;subst ey;have Td:c.plain=true:=UC c (by rw[YV]; simp);have VA: ∀d∈M4,d.plain=true:=fun d hd=>UC d (by rw[YV]; simp[hd]);have hmm:Dt.fF M4 + c.size=m:=by
   have:=hm;rw[YV,Dt.ir] at this;simpa[Dt.fF] using this
  refine⟨_,rfl,.inl ⟨rfl,_,bA.of FL⟩,l,td,.ref t,rfl,rfl,FL,hy,?_⟩;have ht3:=s2 _ _ ht;have s4:aD H (upd H3 l (.lst td.dropLast)):=(s1.trans s2).cG V6;have YW:upd H3 l (.lst td.dropLast) t=some (.tup [u1,u2]):=dA FL _ _ ht3;have V3:Paired (lY H (upd H3 l (.lst td.dropLast))) M4 td.dropLast:=Paired.gI Tu fun d v h=>h.mono fun b xs e=>dA FL _ _ (s2 _ _ e);have NR:upd H3 l (.lst td.dropLast) l=some (.lst td.dropLast):=ag;generalize upd H3 l (.lst td.dropLast)=H4 at s4 YW V3 NR ⊢;clear MD FL ht3 s2 n3 hp hl ht;refine⟨_,rfl,t,_,_,u2,rfl,rfl,cf.of YW,rfl,(by show 2<=sizeLine; decide),fun p5 n5=>?_⟩;have s5:aD H4 (upd H4 p5 (.tup [.ty "list",.ty "tuple"])):=aD.new n5;have q25:=Rp.mono (s4.trans s5) c q2;have q15:=Rp.mono (s4.trans s5) c q1;refine⟨u2,p5,["list","tuple"],_,isLT c,rfl,ag,q25.ty,OR c,_,rfl,?_⟩;have Di:=s5 _ _ YW;have YX:=s5 _ _ NR;have Rn:Paired (lY H (upd H4 p5 (.tup [.ty "list",.ty "tuple"]))) M4 td.dropLast:=Paired.gI V3 fun d v h=>h.mono fun b xs e=>s5 _ _ e;have s6:=s4.trans s5;generalize upd H4 p5 (.tup [.ty "list",.ty "tuple"])=H5 at s5 q25 q15 Di YX Rn s6 ⊢;clear s5 n5;refine ck (fun UD=>?_) (fun UD=>?_)
  ·
   obtain⟨a1,YY,e1,S1,R1⟩:=E7 q1 UD;obtain⟨a2,Qq,e2,S2,R2⟩:=E7 q2 UD;refine⟨_,rfl,t,_,_,u1,rfl,rfl,cf.of Di,rfl,u1,_,_,Xc c,rfl,q15.ty,E6 c,_,rfl,t,_,_,u2,rfl,rfl,cf.of Di,rfl,u2,_,_,Xc c,rfl,q25.ty,E6 c,rfl,_,rfl,Bz rfl ?_⟩;refine⟨_,rfl,t,_,_,u1,rfl,rfl,cf.of Di,rfl,u1,_,_,Xd c,rfl,q15.ty,Jk c,_,rfl,t,_,_,u2,rfl,rfl,cf.of Di,rfl,u2,_,_,Xd c,rfl,q25.ty,Jk c,rfl,_,rfl,Bz rfl ?_⟩;have hlen:YY.length=Qq.length:=by rw[← R1.length,← R2.length]
   refine⟨_,rfl,t,_,_,u1,rfl,rfl,cf.of Di,rfl,a1,YY,by rw[e1],S1 K H5 s6,_,rfl,t,_,_,u2,rfl,rfl,cf.of Di,rfl,a2,Qq,by rw[e2],S2 K H5 s6,rfl,_,rfl,Bz (by rw[hlen]) ?_⟩;have Np:Qq.length=(kids c).length:=R2.length.symm;have VL:=GN UD;have Fz:=Dt.qC (kids c);refine⟨_,rfl,t,_,_,u2,rfl,rfl,cf.of Di,rfl,a2,Qq,by rw[e2],S2 K H5 s6,(Qq.length:Int),rfl,by lia,by lia,?_⟩;rw[dI];refine iR (lo:=0) (n:=Qq.length) (fun i σ H6=> ∃NS x4,σ=[some v1,some v2,some (.ref l),some (.ref t),x4]/\aD H H6/\H6 l=some (.lst NS)/\H6 t=some (.tup [u1,u2])/\Paired (lY H H6) (M4 ++ (kids c).take i) NS)
    ⟨td.dropLast,x4,rfl,s6,YX,Di,by simpa using Rn⟩ ?_ ?_
   ·rintro i σ H6 hi ⟨NS,x4',rfl,s7,f7,V7,NK⟩;have Xf:i < (kids c).length:=by lia
    have g0:(kids c)[i]? =some (kids c)[i]:=af Xf;obtain⟨w1,g1,z1⟩:=R1.get g0;obtain⟨w2,g2,z2⟩:=R2.get g0;have Ri:NS.length < sizeLine:=by
     have h1:=NK.length;have h2:=Dt.qC (M4 ++ (kids c).take i);have h3:=wQ (kids c) i;rw[Dt.ir] at h2;exact iY (by lia)
    refine⟨_,rfl,.inl ⟨rfl,_,bA.of f7⟩,?_⟩;refine⟨_,rfl,t,_,_,u1,rfl,rfl,cf.of V7,rfl,_,rfl,a1,YY,_,w1,e1,rfl,S1 K H6 s7,by rw[iG]; exact cw g1,_,rfl,t,_,_,u2,rfl,rfl,cf.of V7,rfl,_,rfl,a2,Qq,_,w2,e2,rfl,S2 K H6 s7,by rw[iG]; exact cw g2,(by show 2<=sizeLine; decide),fun p7 n7=>?_⟩;have s8:aD H6 (upd H6 p7 (.tup [w1,w2])):=aD.new n7;have Rk:=s8 _ _ f7;refine⟨l,NS,.ref p7,rfl,rfl,Rk,Ri,?_⟩;refine⟨NS ++ [.ref p7],_,rfl,(s7.trans s8).cG V6,ag,dA Rk _ _ (s8 _ _ V7),?_⟩;rw[tS g0,← eG];exact cy (Paired.gI NK fun d v h=>h.mono fun b xs e=>dA Rk _ _ (s8 _ _ e)) ⟨p7,w1,w2,rfl,dA Rk _ _ ag,z1,z2⟩
   ·rintro σ H6 ⟨NS,x4',rfl,s7,f7,V7,NK⟩;rw[Np,a7] at NK;refine⟨Dt.fF (M4 ++ kids c),?_,NS,_,_,_,rfl,s7,f7,NK,rfl,?_,?_⟩
    ·rw[Dt.ir]; lia
    ·rw[Dt.ir]; lia
    ·intro d hd;rcases bq.mp hd with hd|hd
     ·exact VA d hd
     ·exact DO Td d hd
  ·
   have fin:(fun σ' H'=> ∃m',m' < m/\ ∃td ds x3 x4,σ'=[some v1,some v2,some (.ref l),x3,x4]/\aD H H'/\H' l=some (.lst td)/\Paired (lY H H') ds td/\Dt.fF ds=m'/\m'<=100000/\ ∀d∈ds,d.plain=true) [some v1,some v2,some (.ref l),some (.ref t),x4] H5:=by
    have:=c.size_pos;exact⟨Dt.fF M4,by lia,_,M4,_,_,rfl,s6,YX,Rn,rfl,by lia,VA⟩
   refine⟨_,rfl,t,_,_,u2,rfl,rfl,cf.of Di,rfl,u2,_,_,Vr c,rfl,q25.ty,yl c,_,rfl,?_⟩;refine ck (fun hS=>?_) (fun hS=>?_)
   ·have ec: ∃x,c= .str x:=by cases c <;> first|exact⟨_,rfl⟩|cases hS
    obtain⟨x,rfl⟩:=ec;obtain rfl:=fG.mp q1;obtain rfl:=fG.mp q2;refine⟨_,rfl,t,_,_,_,rfl,rfl,cf.of Di,rfl,_,_,_,true,rfl,mF.str x,yl (.str x),_,rfl,bT ?_⟩;refine⟨_,rfl,t,_,_,_,rfl,rfl,cf.of Di,rfl,_,rfl,t,_,_,_,rfl,rfl,cf.of Di,rfl,rfl,_,rfl,Bz rfl ?_⟩;exact fin
   ·have ec: ∃x,c= .int x:=by cases c <;> first|exact⟨_,rfl⟩|exact absurd rfl hS|exact absurd rfl UD|cases Td
    obtain⟨x,rfl⟩:=ec;obtain rfl:=di.mp q1;obtain rfl:=di.mp q2;refine⟨_,rfl,t,_,_,_,rfl,rfl,cf.of Di,rfl,.int x,_,rfl,di.mpr rfl,_,rfl,bT ?_⟩;refine⟨_,rfl,t,_,_,_,rfl,rfl,cf.of Di,rfl,_,rfl,t,_,_,_,rfl,rfl,cf.of Di,rfl,rfl,_,rfl,Bz rfl ?_⟩;exact fin
inductive wu (K:Frag)(vs:List V)(H:Hp)(Q:VK)(E':XK):Prop
 |mk (po:Addr)(os:List Str)(aH:Str)(cell i:Int)(h1:vs=[.ref po,.str aH,.int cell,.int i])(h2:bA K H po (os.map V.str))(h3:os.length<=1000)(h4: ∀(n:Int) (H':Hp),aD H H'->Q (.int n) H'):wu K vs H Q E'
def nS:aS ["_law_owners","_law_who","_law_cell","_law_k","_law_rest","_law_number","_law_spot","_law_one"] ["_law_owners","_law_who","_law_cell","_law_k"] (ay (top 50)):={}
def xO (T:Txt K mg):eI P w K mg base "_law_chosen" 1 ["_law_owners","_law_who","_law_cell","_law_k"] (wu K):=by
 refine T.xg.eX (k:=0) nS (fun f cO A outer s H vs Q E hr h=>?_)
 ·obtain⟨po,os,aH,cell,i,rfl,hS,ho,k⟩:=h;have nd:=nS.nd;refine⟨_,(ah (sv 4 nd (aO iX (pv 2) ai))
(ah (sv 5 nd (aO bW (aO cz (aO iX (pv 4) ai) (pv 3)) (aO cz (ma T.dB (pv 0)) ai)))
(ah (dW bw rfl (iQ rfl T.ju (aa (ma T.dB (pv 0)) av)) (gn 6 nd)
(ah (sv 7 nd (aO bW (aO cz (pv 5) (pv 6)) (ma T.dB (pv 0))))
(au (bN (PW.pt (pw_and (aV cH (xl (pv 0) (pv 7)) (pv 1) (aZ _)) (pw_and1 (aV iK (aO bW (pv 2) ai) ai (aZ _)))))
(au (a0 (pv 7)))
bb))))
(ah (bN (aV cH (aO bW (pv 2) ai) ai (aZ _))
(au (sv 5 nd (xl (bP (aa (oP kJ ai) (aa (aO ji ai ai) (aa (aO eL (oP kJ ai) (aO bW (pv 4) (aO ji ai ai))) av)))) (aO bW (pv 4) ai))))
bb)
(au (a0 (pv 5))))))),?_⟩
  refine⟨_,rfl,_,_,rfl,rfl,⟨by decide,by decide⟩,?_⟩;refine⟨_,rfl,_,_,rfl,rfl,⟨by decide,by decide⟩,_,rfl,_,_,rfl,rfl,_,rfl,po,_,rfl,.inl hS,_,_,rfl,rfl,_,_,rfl,rfl,(by show(0:Int) < ((os.map V.str).length:Int) + 1; lia),?_⟩;generalize YZ:(cell / 16 / 2 + i) % (((os.map V.str).length:Int) + 1)=num;show _;refine⟨_,rfl,po,_,rfl,.inl hS,((os.map V.str).length:Int),rfl,by lia,by rw[ae]; lia,?_⟩;rw[dI];refine iR (lo:=0) (n:=(os.map V.str).length) (fun j σ H2=> ∃x6 x7,σ=[some (.ref po),some (.str aH),some (.int cell),some (.int i),some (.int (cell / 16)),some (.int num),x6,x7]/\H2=H)
   ⟨none,none,by rw[← YZ]; rfl,rfl⟩ ?_ ?_
  ·rintro j σ H2 hj ⟨x6,x7,rfl,rfl⟩;have hm:0 < ((os.map V.str).length:Int):=by lia
   obtain⟨y,_,hy⟩:=kC (g:=V.str) (xs:=os) (m:=((os.map V.str).length:Int)) (x:=num + (0 + (j:Int))) (by rw[ae]) hm;refine⟨_,rfl,_,rfl,_,_,rfl,rfl,_,rfl,po,_,rfl,.inl hS,_,_,rfl,rfl,hm,?_⟩;refine⟨_,rfl,_,rfl,po,_,_,.str y,rfl,rfl,hS,hy,_,rfl,rfl,_,rfl,ck (fun c=>?_) (fun c=>bT ⟨_,_,rfl,rfl⟩)⟩;refine⟨_,rfl,_,_,rfl,rfl,(by show(0:Int) < 5; decide),_,_,rfl,rfl,_,rfl,ck (fun c=>?_) (fun c=>⟨_,_,rfl,rfl⟩)⟩;exact⟨_,rfl,k _ _ (aD.refl _)⟩
  ·rintro σ H2 ⟨x6,x7,rfl,rfl⟩;refine⟨_,rfl,_,_,rfl,rfl,(by show(0:Int) < 47; decide),rfl,_,rfl,ck (fun c=>?_) (fun c=>⟨_,rfl,k _ _ (aD.refl _)⟩)⟩;refine⟨_,rfl,_,_,rfl,rfl,⟨by decide,by decide,by decide⟩,_,rfl,_,rfl,_,_,rfl,rfl,⟨by decide,by decide,by decide⟩,_,_,rfl,rfl,(by show(0:Int) < _; decide +kernel),_,_,rfl,rfl,(by show 3<=sizeLine; decide),fun p4 n4=>?_⟩;obtain⟨y,_,hy⟩:=at3 (-1) (10 ^ (9:Int).toNat) (-2 - cell / 16 % 10 ^ (60:Int).toNat) (cell / 16);refine⟨_,rfl,_,_,rfl,rfl,(by show(0:Int) < 3; decide),p4,_,_,.int y,rfl,rfl,bA.of ag,hy,?_⟩;exact⟨_,rfl,k _ _ (aD.new n4)⟩
inductive AU (vs:List V)(H:Hp)(Q:VK)(E':XK):Prop
 |mk (c:Int)(h1:vs=[.int c])(h2: ∀r:Int,(r=0∨r=1)->Q (.int r) H):AU vs H Q E'
def xP:aS ["_law_cell"] ["_law_cell"] (ay (top 51)):={}
def AV (T:Txt K mg):eI P w K mg base "_law_hasty" 1 ["_law_cell"] AU:=by
 refine T.zF.eX (k:=0) xP (fun f cO A outer s H vs Q E hr h=>?_)
 ·obtain⟨c,rfl,k⟩:=h;refine⟨_,(au (a0 (gx jx (by rfl) T.vz boot_int (aa (RK (ff cH (aO bW (pv 0) ai) ai (aZ _)) (pC (rT (ff cH (aO bW (pv 0) ai) ai (aZ _)) (pC (ff cH (aO bW (aO iX (pv 0) ai) ai) ai (aZ _)))))) av)))),?_⟩;have fin: ∀b:Bool,Q (.int (if b then 1 else 0)) H:=fun b=>k _ (by cases b <;> simp);refine⟨_,rfl,_,_,rfl,rfl,(by show(0:Int) < 29; decide),rfl,_,rfl,ck (fun c=> .inr ⟨_,rfl,fin _⟩) (fun c=>?_)⟩;refine⟨_,rfl,_,_,rfl,rfl,(by show(0:Int) < 41; decide),rfl,_,rfl,ck (fun c=>?_) (fun c=> .inr ⟨_,rfl,fin _⟩)⟩;exact⟨_,rfl,_,_,rfl,rfl,⟨by decide,by decide⟩,_,_,rfl,rfl,(by show(0:Int) < 2; decide),rfl,.inr ⟨_,rfl,fin _⟩⟩
inductive AW (K:Frag)(vs:List V)(H:Hp)(Q:VK)(E':XK):Prop
 |mk (a:Addr)(cs:List Int)(i:Nat)(h1:vs=[.ref a,.int i])(h2:bA K H a (cs.map V.int))(h3:i < cs.length)(h4: ∀n:Int,Q (.int n) H):AW K vs H Q E'
def nU:aS ["_law_cells","_law_k","_law_days"] ["_law_cells","_law_k"] (ay (top 52)):={}
def xQ (T:Txt K mg):eI P w K mg base "_law_due_in" 2 ["_law_cells","_law_k"] (AW K):=by
 have AX:eI P w K mg base "_law_hasty" 1 ["_law_cell"] AU:=AV T;refine T.xh.eX (k:=1) nU (fun f cO A outer s H vs Q E hr h=>?_)
 ·obtain⟨a,cs,i,rfl,hS,hi,k⟩:=h;have nd:=nU.nd;refine⟨_,(ah (sv 2 nd (aO bW (aO cz (xl (pv 0) (aO bW (aO cz (pv 1) ai) (ma T.dB (pv 0)))) (pv 1)) ai))
(iq (bN (aV cH (aO bW (xl (pv 0) (pv 1)) ai) ai (aZ _))
(au (sv 2 nd (aO bW (xl (pv 0) (aO bW (aO cz (pv 1) ai) (ma T.dB (pv 0)))) (aO ji ai ai))))
bb)
(au (a0 (aO eL (pv 2) (aO lU (aO cz (pv 2) ai) (fc AX hr (aa (xl (pv 0) (pv 1)) av)))))))),?_⟩
  have hm:0 < ((cs.map V.int).length:Int):=by rw[ae]; lia
  obtain⟨y,_,hy⟩:=kC (g:=V.int) (xs:=cs) (m:=((cs.map V.int).length:Int)) (x:=(i:Int) + 1) (by rw[ae]) hm;refine⟨_,rfl,_,rfl,_,_,rfl,rfl,_,rfl,a,_,rfl,.inl hS,_,_,rfl,rfl,hm,a,_,_,.int y,rfl,rfl,hS,hy,_,rfl,_,_,rfl,rfl,_,_,rfl,rfl,(by show(0:Int) < 9; decide),?_⟩;refine⟨fun σ' H'=>H'=H/\ ∃d:Int,σ'=[some (.ref a),some (.int i),some (.int d)],?_,?_⟩
  ·refine⟨_,rfl,_,rfl,a,_,_,_,rfl,rfl,hS,ny hi,_,_,rfl,rfl,(by show(0:Int) < 13; decide),rfl,_,rfl,ck (fun c=>?_) (fun c=>⟨rfl,_,rfl⟩)⟩;refine⟨_,rfl,_,rfl,_,_,rfl,rfl,_,rfl,a,_,rfl,.inl hS,_,_,rfl,rfl,hm,a,_,_,.int y,rfl,rfl,hS,hy,_,_,rfl,rfl,⟨by decide,by decide,by decide⟩,_,_,rfl,rfl,(by show(0:Int) < _; decide +kernel),?_⟩;exact⟨rfl,_,rfl⟩
  rintro σ' H' ⟨rfl,d,rfl⟩;refine⟨_,rfl,_,rfl,_,_,rfl,rfl,_,rfl,_,rfl,a,_,_,_,rfl,rfl,hS,ny hi,_,rfl,fun r Y0=>?_⟩;exact⟨_,_,rfl,rfl,.inr (by rcases Y0 with rfl|rfl <;> exact⟨by decide,by decide⟩),_,_,rfl,rfl,k _⟩
def ue (H:Hp)(a pm lK:Addr)(i:Nat)(σ:L2.St)(H2:Hp):Prop:=
 ∃(pb ph:Addr) (bs hs:List Str) (sp:List Int) (ds:List br) (ms:List V) (x5 x6 x7 x8 x9 xK HP EC HZ Dj KI KJ:Option V),σ=[some (.ref a),some (.ref pm),some (.ref pb),some (.ref ph),some (.ref lK),x5,x6,x7,x8,x9,xK,HP,EC,HZ,Dj,KI,KJ]/\aD H H2/\
  H2 pm=some (.lst ms)/\eO H2 ds ms/\ds.length=i/\(∀d∈ds,d.ok)/\H2 pb=some (.lst (bs.map V.str))/\bs.length<=i/\H2 ph=some (.lst (hs.map V.str))/\hs.length<=i/\H2 lK=some (.lst (sp.map V.int))/\sp.length<=i/\pb≠pm/\pb≠lK/\ph≠pm/\ph≠lK
def ue.mk' {H:Hp}{a pm lK pb ph:Addr}{i:Nat}{H4 H6:Hp}{bs hs:List Str}{sp:List Int}{ds:List br}{d:br}{ms:List V}{p8:Addr}{x5 x6 x7 x8 x9 xK HP EC HZ Dj KI KJ:Option V}
  (hR:eO H4 ds ms) (hl:ds.length=i) (cq: ∀d∈ds,d.ok) (kp:cF H4 H6) (s6:aD H H6) (hM:H6 pm=some (.lst (ms ++ [.ref p8]))) (hd:Rp H6 d.dt (.ref p8)) (V8:d.ok)
  (hb:H6 pb=some (.lst (bs.map V.str))) (ME:bs.length<=i + 1) (hh:H6 ph=some (.lst (hs.map V.str))) (hhl:hs.length<=i + 1) (LV:H6 lK=some (.lst (sp.map V.int))) (Ri:sp.length<=i + 1)
  (n1:pb≠pm) (n2:pb≠lK) (n3:ph≠pm) (n4:ph≠lK):
  ue H a pm lK (i + 1) [some (.ref a),some (.ref pm),some (.ref pb),some (.ref ph),some (.ref lK),x5,x6,x7,x8,x9,xK,HP,EC,HZ,Dj,KI,KJ] H6:=by
 refine⟨pb,ph,bs,hs,sp,ds ++ [d],ms ++ [.ref p8],x5,x6,x7,x8,x9,xK,HP,EC,HZ,Dj,KI,KJ,rfl,s6,hM,(hR.mono kp).snoc hd,by rw[aC,hl]; rfl,fun d' Il=>?_,hb,ME,hh,hhl,LV,Ri,n1,n2,n3,n4⟩;rcases bq.mp Il with h|h
 ·exact cq d' h
 ·rw[ao.mp h]; exact V8
def bO (r:Int)(j:Nat):List Int:=(List.range j).map fun(t:Nat)=>1 + r % 9 + (0 + (t:Int)) * (2 + r % 30)
def C2 (r:Int)(j:Nat):(bO r j).length=j:=by unfold bO; rw[List.length_map,List.length_range]
def M5 {w:Str}{d:Int}(r:Int)(j:Nat)(hj:j<=11):(br.fN w d (bO r j)).ok:=by
 have h9:=ke r (show(9:Int)≠0 by decide);have h30:=ke r (show(30:Int)≠0 by decide);refine⟨by rw[C2]; exact hj,?_,fun x hx=>?_⟩
 ·unfold bO;rw[rN];refine List.pairwise_lt_range.imp fun{a b} Io=>?_;have:(0 + (a:Int)) * (2 + r % 30) < (0 + (b:Int)) * (2 + r % 30):=Int.mul_lt_mul_of_pos_right (by lia) (by lia);lia
 ·unfold bO at hx;obtain⟨t,_,rfl⟩:=bF.mp hx;have:0<=(0 + (t:Int)) * (2 + r % 30):=Int.mul_nonneg (by lia) (by lia);lia
def UE (x y:Int)(b:Bool):True/\rY [V.int x,V.int y] (if b=true then 1 else 0)=some (V.int (if b=true then y else x)):=⟨trivial,by cases b <;> rfl⟩
def NT {H H4:Hp}{pm p8 lK pb ph:Addr}{ms xs b' h' s':List V}(nm:H pm=none)(s4:aD H H4)(nR:H4 pm=some (.lst ms))(n8:H4 p8=none)(n1:pb≠pm)(n3:ph≠pm)(FV:lK≠pm)
  (AI:H4 pb=some (.lst b')) (Iw:H4 ph=some (.lst h')) (nV:H4 lK=some (.lst s')):
  cF H4 (upd (upd H4 p8 (.tup xs)) pm (.lst (ms ++ [.ref p8])))/\aD H (upd (upd H4 p8 (.tup xs)) pm (.lst (ms ++ [.ref p8])))/\upd (upd H4 p8 (.tup xs)) pm (.lst (ms ++ [.ref p8])) pm=some (.lst (ms ++ [.ref p8]))/\
  upd (upd H4 p8 (.tup xs)) pm (.lst (ms ++ [.ref p8])) p8=some (.tup xs)/\upd (upd H4 p8 (.tup xs)) pm (.lst (ms ++ [.ref p8])) pb=some (.lst b')/\upd (upd H4 p8 (.tup xs)) pm (.lst (ms ++ [.ref p8])) ph=some (.lst h')/\
  upd (upd H4 p8 (.tup xs)) pm (.lst (ms ++ [.ref p8])) lK=some (.lst s'):=by
 have s8:=aD.new (o:= .tup xs) n8;refine⟨s8.tk.trans (dN (s8 _ _ nR)),(s4.trans s8).cG nm,ag,dA (s8 _ _ nR) _ _ ag,?_,?_,?_⟩
 ·rw[az n1]; exact s8 _ _ AI
 ·rw[az n3]; exact s8 _ _ Iw
 ·rw[az FV]; exact s8 _ _ nV
def UG {H H4:Hp}{pm lK pb ph:Addr}{ms b' h':List V}{sp:List Int}{x:Int}(V9:H lK=none)(s4:aD H H4)(nR:H4 pm=some (.lst ms))(n2:pb≠lK)(n4:ph≠lK)(FV:lK≠pm)
  (AI:H4 pb=some (.lst b')) (Iw:H4 ph=some (.lst h')) (nV:H4 lK=some (.lst (sp.map V.int))):
  cF H4 (upd H4 lK (.lst (sp.map V.int ++ [.int x])))/\aD H (upd H4 lK (.lst (sp.map V.int ++ [.int x])))/\upd H4 lK (.lst (sp.map V.int ++ [.int x])) pm=some (.lst ms)/\upd H4 lK (.lst (sp.map V.int ++ [.int x])) pb=some (.lst b')/\
  upd H4 lK (.lst (sp.map V.int ++ [.int x])) ph=some (.lst h')/\upd H4 lK (.lst (sp.map V.int ++ [.int x])) lK=some (.lst ((sp ++ [x]).map V.int)):=by
 refine⟨dN nV,s4.cG V9,?_,?_,?_,?_⟩
 ·rw[az FV.symm]; exact nR
 ·rw[az n2]; exact AI
 ·rw[az n4]; exact Iw
 ·rw[ag,aK]; rfl
def gQ {H:Hp}{d:Dt}{v:V}{ds:List Dt}{vs:List V}(h:Rp H d v)(r:g6 H ds vs):g6 H (d :: ds) (v :: vs):=bC.mpr ⟨_,_,rfl,h,r⟩
def rI {H:Hp}(i:Int):Rp H (.int i) (.int i):=di.mpr rfl
def rS {H:Hp}(x:Str):Rp H (.str x) (.str x):=fG.mpr rfl
def r0 {H:Hp}:g6 H [] []:=cL.mpr rfl
def FW {H9:Hp}{p9 pb:Addr}{bs:List Str}{aH:Str}{b:Bool}{Q:VK}(h9:H9 p9=some (.lst [V.str aH]))(hb:H9 pb=some (.lst (bs.map V.str)))(hl:bs.length<=100)
  (q: ∀(KL:Addr) (NU:Hp) (n:Nat),n<=1->aD H9 NU->H9 KL=none->NU KL=some (.lst ((bs ++ List.replicate n aH).map V.str))->Q (.ref KL) NU):
  R8 (.ref p9) (.int (if b=true then 1 else 0)) H9 (fun v H=>R7 (.ref pb) v H Q):=by
 have hk:(if b=true then(1:Int) else 0).toNat<=1:=by split <;> decide
 refine⟨p9,_,_,rfl,rfl,h9,(by split <;> decide),(by split <;> decide),(by show 1 * _<=sizeLine; split <;> decide),fun Ro Y1=>?_⟩;generalize (if b=true then(1:Int) else 0).toNat=n at hk ⊢;rw[L4];have Ai:=aD.new (o:= .lst ((List.replicate n aH).map V.str)) Y1;refine⟨pb,Ro,_,_,rfl,rfl,Ai _ _ hb,ag,?_,fun KL Iy=>?_⟩
 ·refine dr (a9 ?_);rw[ae,ae,dH];lia
 ·rw[← aK];exact q KL _ n hk (Ai.trans (aD.new Iy)) (Ai.free Iy) ag
inductive FX (K:Frag)(vs:List V)(H:Hp)(Q:VK)(E':XK):Prop
 |mk (a:Addr)(cs:List Int)(h1:vs=[.ref a])(h2:bA K H a (cs.map V.int))(h3:cs.length<=100)(h4: ∀(pd:Addr) (ds:List br) (ms:List V) (H':Hp),aD H H'->H' pd=some (.lst ms)->eO H' ds ms->ds.length=cs.length->(∀d∈ds,d.ok)->Q (.ref pd) H'):FX K vs H Q E'
def pj:aS ["_law_cells","_law_made","_law_bills","_law_held","_law_spots","_law_k","_law_rest","_law_pick","_law_who","_law_day","_law_amount","_law_bill","_law_due","_law_part","_law_credit","_law_menu","_law_limits"] ["_law_cells"] (ay (top 53)):={}
def AY (T:Txt K mg):eI P w K mg base "_law_deeds" 3 ["_law_cells"] (FX K):=by
 have xR:eI P w K mg base "_law_penned" 2 ["_law_cells","_law_k"] (vG K):=xp T;have px:eI P w K mg base "_law_chosen" 1 ["_law_owners","_law_who","_law_cell","_law_k"] (wu K):=xO T;have xS:eI P w K mg base "_law_due_in" 2 ["_law_cells","_law_k"] (AW K):=xQ T;refine T.zG.eX (k:=2) pj (fun f cO A outer s H vs Q E hr h=>?_)
 ·obtain⟨a,cs,rfl,hS,hc,k⟩:=h;have nd:=pj.nd;refine⟨_,(ah (sv 1 nd (bP av))
(ah (sv 2 nd (bP av))
(ah (sv 3 nd (bP av))
(ah (sv 4 nd (bP av))
(ah (dW bw rfl (iQ rfl T.ju (aa (ma T.dB (pv 0)) av)) (gn 5 nd)
(ah (sv 6 nd (aO bW (aO iX (xl (pv 0) (pv 5)) ai) (aO ji ai ai)))
(ah (sv 7 nd (aO bW (aO cz (xl (pv 0) (pv 5)) (aO lU ai (pv 5))) ai))
(ah (lT (fc xR hr (aa (pv 0) (aa (pv 5) av))) (gT (bX (gn 8 nd) (bX (gn 9 nd) (bX (gn 10 nd) gv)))))
(ah (sv 11 nd (fc px hr (aa (pv 2) (aa (pv 8) (aa (xl (pv 0) (pv 5)) (aa (pv 5) av))))))
(au (bN (aV jn (pv 7) ai (aZ _))
(ah (sv 12 nd (aO cz (pv 9) (fc xS hr (aa (pv 0) (aa (pv 5) av)))))
(ah (bK (oS (pv 1) (cD (aa aQ (aa (pv 8) (aa (pv 9) (aa (pv 12) (aa (pv 10) av))))))))
(au (sv 2 nd (aO mS (pv 2) (aO zi (bP (aa (pv 8) av)) (gx jx (by rfl) T.vz boot_int (aa (rT (ff iK (pv 10) ai (aZ _)) (pC (ff II (pv 12) (pv 9) (aZ _)))) av))))))))
(au (bN (aV jn (pv 7) ai (aZ _))
(ah (bK (oS (pv 1) (cD (aa aQ (aa (pv 8) (aa (pv 9) (aa (pv 10) av)))))))
(au (sv 3 nd (aO mS (pv 3) (aO zi (bP (aa (pv 8) av)) (gx jx (by rfl) T.vz boot_int (aa (ff iK (pv 10) ai (aZ _)) av)))))))
(au (bN (aV cH (pv 7) ai (aZ _))
(ah (bK (oS (pv 1) (cD (aa aQ (aa (pv 11) (aa (pv 9) (aa (pv 10) av)))))))
(au (bN (PW.pt (pw_and (aV sO ai (pv 11) (aZ _)) (pw_and (aV jn (pv 11) (ma T.dB (pv 2)) (aZ _)) (pw_and1 (aV iK (pv 10) ai (aZ _))))))
(au (sv 3 nd (aO mS (pv 3) (bP (aa (xl (pv 2) (pv 11)) av)))))
bb)))
(au (bN (aV jn (pv 7) ai (aZ _))
(ah (bK (oS (pv 4) (pv 5)))
(iq (sv 13 nd (xl (bP (aa (pv 10) (aa (aO cz ai (aO bW (pv 6) ai)) av))) (gx jx (by rfl) T.vz boot_int (aa (rT (ff iK (pv 10) ai (aZ _)) (pC (ff iK (aO bW (pv 6) ai) ai (aZ _)))) av))))
(ah (sv 14 nd (fc px hr (aa (pv 3) (aa (pv 8) (aa (xl (pv 0) (pv 5)) (aa (aO cz (pv 5) ai) av))))))
(iq (bN (aV cH (aO bW (xl (pv 0) (pv 5)) ai) ai (aZ _))
(au (sv 14 nd (aO bW (aO iX (pv 6) ai) (aO cz (ma T.dB (pv 3)) ai))))
bb)
(au (bK (oS (pv 1) (cD (aa aQ (aa (pv 14) (aa (pv 11) (aa (pv 13) av))))))))))))
(au (bN (aV jn (pv 7) ai (aZ _))
(ah (bK (oS (pv 4) (pv 5)))
(au (bK (oS (pv 1) (cD (aa aQ (aa (pv 8) av)))))))
(au (bN (aV cH (pv 7) ai (aZ _))
(ah (sv 15 nd (aO mS (pv 4) (bP (aa (pv 5) (aa (oP kJ ai) (aa (aO ji ai ai) (aa ai (aa (aO eL (pv 5) ai) (aa (aO bW (aO iX (pv 6) ai) (aO cz (pv 5) ai)) (aa (aO eL (oP kJ ai) (pv 6)) av))))))))))
(au (bK (oS (pv 1) (cD (aa aQ (aa (xl (pv 15) (aO bW (pv 6) (ma T.dB (pv 15)))) av)))))))
(au (bN (aV cH (pv 7) ai (aZ _))
(au (bK (oS (pv 1) (cD (aa (xl (bP (aa aQ (aa aQ av))) (aO bW (pv 6) ai)) (aa (pv 8) (aa (pv 9) av)))))))
(ah (jH (i:=16) nd rfl (Or.inl rfl) (tn:=["_law_j"]) (cn:=["_law_rest"]) (cj:=[6]) rfl (gR (yk:=[(".0",.local),("_law_j",.local),("_law_rest",.cell)])) (iQ rfl T.ju (aa (aO bW (pv 6) ai) av)) (fun _ _ _ _=>(dQ (i:=0) (show(["_law_j","_law_rest"]:List Str).Nodup by decide +kernel) rfl (Or.inl rfl))) (fun _ _ _ _=>kM) (fun _ _ _ _=>(aO cz (aO cz ai (aO bW (pv 1) ai)) (aO lU (pv 0) (aO cz ai (aO bW (pv 1) ai))))))
(au (bK (oS (pv 1) (cD (aa aQ (aa (pv 8) (aa (pv 9) (aa (gx wO (by rfl) T.um boot_tuple (aa (pv 16) av)) av))))))))))))))))))))))))))))
(au (a0 (pv 1)))))))),?_⟩
  refine⟨bh _,fun pm nm=>⟨bh _,fun pb nb=>⟨bh _,fun ph nh=>⟨bh _,fun lK Rq=>?_⟩⟩⟩⟩;have s1:aD H (upd H pm (.lst [])):=aD.new nm;have t2:=aD.new (o:= .lst []) nb;have t3:=aD.new (o:= .lst []) nh;have t4:=aD.new (o:= .lst []) Rq;have s4:=((s1.trans t2).trans t3).trans t4;have V9:H lK=none:=((s1.trans t2).trans t3).free Rq;have g1:=((t2.trans t3).trans t4) _ _ (ag (H:=H) (a:=pm) (o:= .lst []));have g2:=(t3.trans t4) _ _ (ag (H:=upd H pm (.lst [])) (a:=pb) (o:= .lst []));have g3:=t4 _ _ (ag (H:=upd (upd H pm (.lst [])) pb (.lst [])) (a:=ph) (o:= .lst []));have g4:=ag (H:=upd (upd (upd H pm (.lst [])) pb (.lst [])) ph (.lst [])) (a:=lK) (o:= .lst []);have e12:pb≠pm:=(aJ ag nb).symm;have e13:ph≠pm:=(aJ (t2 _ _ ag) nh).symm;have FV:lK≠pm:=(aJ ((t2.trans t3) _ _ ag) Rq).symm;have e24:pb≠lK:=aJ (t3 _ _ ag) Rq;have e34:ph≠lK:=aJ ag Rq;generalize upd (upd (upd (upd H pm (.lst [])) pb (.lst [])) ph (.lst [])) lK (.lst [])=H4 at s4 g1 g2 g3 g4 ⊢;refine⟨_,rfl,a,_,rfl,.inl (s4.seq hS),((cs.map V.int).length:Int),rfl,by lia,by rw[ae]; lia,?_⟩;rw[dI];refine iR (lo:=0) (n:=(cs.map V.int).length) (ue H a pm lK)
   ⟨pb,ph,[],[],[],[],[],none,none,none,none,none,none,none,none,none,none,none,none,rfl,s4,g1,r0,rfl,(fun _ h=>by cases h),g2,aE _,g3,aE _,g4,aE _,e12,e24,e13,e34⟩ ?_ ?_
  ·clear t2 t3 t4 s1 g1 g2 g3 g4 s4 H4 e12 e24 e13 e34 nb nh Rq pb ph;rintro i σ H2 hi ⟨pb,ph,bs,hs,sp,ds,ms,x5,x6,x7,x8,x9,xK,HP,EC,HZ,Dj,KI,KJ,rfl,s2,hM,hR,FY,cq,hb,ME,hh,hhl,y1,adT,n1,n2,n3,n4⟩;have Y2:i < cs.length:=by rwa [ae] at hi
   have Rt:rY (cs.map V.int) (0 + (i:Int))=some (.int (cs.getD i 0)):=by rw[iG]; exact ny Y2
   have Pe:=s2.seq hS;generalize mv:cs.getD i 0=cell at Rt;refine⟨_,rfl,_,rfl,a,_,_,.int cell,rfl,rfl,Pe,Rt,_,_,rfl,rfl,⟨by decide,by decide⟩,_,_,rfl,rfl,⟨by decide,by decide,by decide⟩,_,_,rfl,rfl,(by show(0:Int) < _; decide +kernel),?_⟩;refine⟨_,rfl,_,rfl,a,_,_,.int cell,rfl,rfl,Pe,Rt,_,rfl,_,_,rfl,rfl,.inl ⟨by decide,by decide⟩,_,_,rfl,rfl,_,_,rfl,rfl,(by show(0:Int) < 16; decide),?_⟩;refine⟨_,rfl,_,rfl,a,cs,i,(by rw[iG]; rfl),Pe,Y2,fun p aH day dF H3 s3 hp oH=>?_⟩;refine⟨p,_,rfl,cf.of hp,rfl,_,_,rfl,_,_,rfl,_,_,rfl,rfl,?_⟩;refine⟨_,rfl,_,rfl,_,rfl,_,rfl,a,_,_,.int cell,rfl,rfl,s3.seq Pe,Rt,_,rfl,pb,bs,aH,cell,_,rfl,bA.of (s3 _ _ hb),by lia,fun bl H4 UH=>?_⟩;have Kz:=s3.trans UH;have s4:=s2.trans Kz;have nR:=Kz _ _ hM;have M6:=hR.mono Kz.tk;have AI:=Kz _ _ hb;have Iw:=Kz _ _ hh;have nV:=Kz _ _ y1;have Wa:=s4.seq hS;have Y3:=hS;have FD:ms.length<=100:=by have:=hR.length; lia
   clear Kz s3 UH hp hM hR hb hh y1 s2 Pe H2 H3;refine⟨_,rfl,_,_,rfl,rfl,_,rfl,ck (fun c1=>?_) (fun c1=>?_)⟩
   ·
    refine⟨_,rfl,_,rfl,_,rfl,a,cs,i,(by rw[iG]; rfl),Wa,Y2,fun n=>⟨_,_,rfl,rfl,?_⟩⟩;refine⟨_,rfl,.inl ⟨rfl,_,bA.of nR⟩,_,rfl,_,rfl,_,rfl,_,rfl,(by show 5<=sizeLine; decide),fun p8 n8=>?_⟩;refine⟨pm,ms,_,rfl,rfl,aD.new n8 _ _ nR,a9 (by lia),?_⟩;obtain⟨k5,s5,v8,h8,A5,Dk,mj⟩:=NT (xs:=[V.str "bill",.str aH,.int day,.int (day + n),.int dF]) nm s4 nR n8 n1 n3 FV AI Iw nV;refine⟨_,rfl,_,rfl,(by show 1<=sizeLine; decide),fun p9 n9=>?_⟩;have t9:=aD.new (o:= .lst [V.str aH]) n9;refine⟨_,rfl,_,_,rfl,rfl,_,rfl,ck (fun c=>⟨_,rfl,_,rfl,_,_,rfl,rfl,.inr ⟨_,rfl,?_⟩⟩) (fun c=> .inr ⟨_,rfl,?_⟩)⟩
    all_goals
     refine FW ag (t9 _ _ A5) (by lia) fun KL NU n hn Lj Iy Y4=>?_;have tE:=t9.trans Lj;exact ue.mk' (d:= .dR aH day _ dF) (pb:=KL) M6 FY cq (k5.trans tE.tk) (s5.trans tE) (tE _ _ v8) (eA (tE _ _ h8) (gQ (rS _) (gQ (rS _) (gQ (rI _) (gQ (rI _) (gQ (rI _) r0)))))) oH Y4 (by rw[aC,dH]; lia) (tE _ _ Dk) (by lia) (tE _ _ mj) (by lia) (aJ (t9 _ _ v8) Iy).symm (aJ (t9 _ _ mj) Iy).symm n3 n4
   refine⟨_,rfl,_,_,rfl,rfl,_,rfl,ck (fun c2=>?_) (fun c2=>?_)⟩
   ·
    refine⟨_,rfl,.inl ⟨rfl,_,bA.of nR⟩,_,rfl,_,rfl,_,rfl,(by show 4<=sizeLine; decide),fun p8 n8=>?_⟩;refine⟨pm,ms,_,rfl,rfl,aD.new n8 _ _ nR,a9 (by lia),?_⟩;obtain⟨k5,s5,v8,h8,A5,Dk,mj⟩:=NT (xs:=[V.str "pay",.str aH,.int day,.int dF]) nm s4 nR n8 n1 n3 FV AI Iw nV;refine⟨_,rfl,_,rfl,(by show 1<=sizeLine; decide),fun p9 n9=>?_⟩;have t9:=aD.new (o:= .lst [V.str aH]) n9;refine⟨_,rfl,_,_,rfl,rfl,.inr ⟨_,rfl,?_⟩⟩;refine FW ag (t9 _ _ Dk) (by lia) fun KL NU n hn Lj Iy Y4=>?_;have tE:=t9.trans Lj;exact ue.mk' (d:= .rG aH day dF) (ph:=KL) M6 FY cq (k5.trans tE.tk) (s5.trans tE) (tE _ _ v8) (eA (tE _ _ h8) (gQ (rS _) (gQ (rS _) (gQ (rI _) (gQ (rI _) r0))))) oH (tE _ _ A5) (by lia) Y4 (by rw[aC,dH]; lia) (tE _ _ mj) (by lia) n1 n2 (aJ (t9 _ _ v8) Iy).symm (aJ (t9 _ _ mj) Iy).symm
   refine⟨_,rfl,rfl,_,rfl,ck (fun c3=>?_) (fun c3=>?_)⟩
   ·
    refine⟨_,rfl,.inl ⟨rfl,_,bA.of nR⟩,_,rfl,_,rfl,_,rfl,(by show 4<=sizeLine; decide),fun p8 n8=>?_⟩;refine⟨pm,ms,_,rfl,rfl,aD.new n8 _ _ nR,a9 (by lia),?_⟩;obtain⟨k5,s5,v8,h8,A5,Dk,mj⟩:=NT (xs:=[V.str "note",.int bl,.int day,.int dF]) nm s4 nR n8 n1 n3 FV AI Iw nV;have no:=fun(EC HZ Dj KI KJ x5 x6 x7 x8 x9 xK HP:Option V)=>ue.mk' (a:=a) (x5:=x5) (x6:=x6) (x7:=x7) (x8:=x8) (x9:=x9) (xK:=xK) (HP:=HP) (EC:=EC) (HZ:=HZ) (Dj:=Dj) (KI:=KI) (KJ:=KJ) (d:= .note bl day dF) M6 FY cq k5 s5 v8 (eA h8 (gQ (rS _) (gQ (rI _) (gQ (rI _) (gQ (rI _) r0))))) oH A5 (by lia) Dk (by lia) mj (by lia) n1 n2 n3 n4;refine⟨_,rfl,_,_,rfl,rfl,_,rfl,ck (fun d1=>?_) (fun d1=>bT (no ..))⟩;refine⟨_,rfl,_,rfl,pb,_,rfl,.inl (bA.of A5),_,_,rfl,rfl,_,rfl,ck (fun d2=>?_) (fun d2=>bT (no ..))⟩;refine⟨_,rfl,_,_,rfl,rfl,_,rfl,ck (fun d3=>?_) (fun d3=>no ..)⟩;have Tw:0<=bl:=aN d1;have X4:bl < ((bs.map V.str).length:Int):=aN d2;obtain⟨bn,rfl⟩:=cv Tw;have hbn:bn < bs.length:=by rw[ae] at X4; lia
    refine⟨_,rfl,_,rfl,_,rfl,pb,_,_,.str bs[bn],rfl,rfl,bA.of A5,cw (by rw[aB,af hbn]; rfl),(by show 1<=sizeLine; decide),fun p9 n9=>?_⟩;have t9:=aD.new (o:= .lst [V.str bs[bn]]) n9;refine⟨ph,p9,_,_,rfl,rfl,t9 _ _ Dk,ag,dr (a9 (by rw[ae]; show hs.length + 1<=1000; lia)),fun KL Iy=>?_⟩;have tE:=t9.trans (aD.new (o:= .lst (hs.map V.str ++ [V.str bs[bn]])) Iy);exact ue.mk' (d:= .note (bn:Int) day dF) (ph:=KL) (hs:=hs ++ [bs[bn]]) M6 FY cq (k5.trans tE.tk) (s5.trans tE) (tE _ _ v8) (eA (tE _ _ h8) (gQ (rS _) (gQ (rI _) (gQ (rI _) (gQ (rI _) r0))))) oH (tE _ _ A5) (by lia) (by rw[aK]; exact ag) (by rw[aC]; show hs.length + 1<=_; lia) (tE _ _ mj) (by lia) n1 n2 (aJ (t9 _ _ v8) Iy).symm (aJ (t9 _ _ mj) Iy).symm
   refine⟨_,rfl,_,_,rfl,rfl,_,rfl,ck (fun c4=>?_) (fun c4=>?_)⟩
   ·
    refine⟨_,rfl,.inl ⟨rfl,_,bA.of nV⟩,_,rfl,lK,_,_,rfl,rfl,nV,a9 (by rw[ae]; lia),?_⟩;obtain⟨k0,s0,Ru,UI,Rv,M7⟩:=UG (x:=0 + (i:Int)) V9 s4 nR n2 n4 FV AI Iw nV;have hR0:=M6.mono k0;have Y5:=s0.seq Y3;generalize upd H4 lK (.lst (sp.map V.int ++ [.int (0 + (i:Int))]))=H5 at s0 Ru UI Rv M7 hR0 Y5 ⊢;refine⟨fun σ' H'=>aD H5 H'/\ ∃part:Int,σ'=[some (.ref a),some (.ref pm),some (.ref pb),some (.ref ph),some (.ref lK),some (.int (0 + (i:Int))),some (.int (cell / 16 % 10 ^ (60:Int).toNat)),some (.int ((cell + 5 * (0 + (i:Int))) % 16)),some (.str aH),some (.int day),some (.int dF),some (.int bl),EC,some (.int part),Dj,KI,KJ],?_,?_⟩
    ·refine⟨_,rfl,_,rfl,_,_,rfl,rfl,(by show(0:Int) < 3; decide),_,_,rfl,rfl,(by show 2<=sizeLine; decide),fun p9 n9=>?_⟩;refine⟨_,rfl,_,_,rfl,rfl,_,rfl,ck (fun d=>⟨_,rfl,_,_,rfl,rfl,(by show(0:Int) < 4; decide),_,_,rfl,rfl,.inr ⟨_,rfl,p9,_,_,_,rfl,rfl,bA.of ag,(UE _ _ _).2,?_⟩⟩) (fun d=> .inr ⟨_,rfl,p9,_,_,_,rfl,rfl,bA.of ag,(UE _ _ _).2,?_⟩)⟩
     ·exact⟨aD.new n9,_,rfl⟩
     ·exact⟨aD.new n9,_,rfl⟩
    rintro σ' H6 ⟨Y6,part,rfl⟩;refine⟨_,rfl,_,rfl,_,rfl,_,rfl,a,_,_,.int cell,rfl,rfl,Y6.seq Y5,Rt,_,rfl,_,_,rfl,rfl,ph,hs,aH,cell,_,rfl,bA.of (Y6 _ _ Rv),by lia,fun cr0 H7 s67=>?_⟩;have xJ:=Y6.trans s67;refine⟨fun σ' H'=>H'=H7/\ ∃cr:Int,σ'=[some (.ref a),some (.ref pm),some (.ref pb),some (.ref ph),some (.ref lK),some (.int (0 + (i:Int))),some (.int (cell / 16 % 10 ^ (60:Int).toNat)),some (.int ((cell + 5 * (0 + (i:Int))) % 16)),some (.str aH),some (.int day),some (.int dF),some (.int bl),EC,some (.int part),some (.int cr),KI,KJ],?_,?_⟩
    ·refine⟨_,rfl,_,rfl,a,_,_,.int cell,rfl,rfl,xJ.seq Y5,Rt,_,_,rfl,rfl,(by show(0:Int) < 41; decide),rfl,_,rfl,ck (fun d=>?_) (fun d=>⟨rfl,_,rfl⟩)⟩;refine⟨_,rfl,_,_,rfl,rfl,⟨by decide,by decide⟩,_,rfl,ph,_,rfl,.inl (bA.of (xJ _ _ Rv)),_,_,rfl,rfl,_,_,rfl,rfl,(by show(0:Int) < ((hs.map V.str).length:Int) + 1; lia),?_⟩;exact⟨rfl,_,rfl⟩
    rintro σ' H' ⟨rfl,cr,rfl⟩;have HL:=xJ _ _ Ru;refine⟨_,rfl,.inl ⟨rfl,_,bA.of HL⟩,_,rfl,_,rfl,_,rfl,(by show 4<=sizeLine; decide),fun p8 n8=>?_⟩;refine⟨pm,ms,_,rfl,rfl,aD.new n8 _ _ HL,a9 (by lia),?_⟩;obtain⟨k5,s5,v8,h8,A5,Dk,mj⟩:=NT (xs:=[V.str "set",.int cr,.int bl,.int part]) nm (s0.trans xJ) HL n8 n1 n3 FV (xJ _ _ UI) (xJ _ _ Rv) (xJ _ _ M7);exact ue.mk' (d:= .set cr bl part) (hR0.mono xJ.tk) FY cq k5 s5 v8 (eA h8 (gQ (rS _) (gQ (rI _) (gQ (rI _) (gQ (rI _) r0))))) trivial A5 (by lia) Dk (by lia) mj (by rw[aC]; show sp.length + 1<=_; lia) n1 n2 n3 n4
   refine⟨_,rfl,_,_,rfl,rfl,_,rfl,ck (fun c5=>?_) (fun c5=>?_)⟩
   ·
    refine⟨_,rfl,.inl ⟨rfl,_,bA.of nV⟩,_,rfl,lK,_,_,rfl,rfl,nV,a9 (by rw[ae]; lia),?_⟩;obtain⟨k0,s0,Ru,UI,Rv,M7⟩:=UG (x:=0 + (i:Int)) V9 s4 nR n2 n4 FV AI Iw nV;refine⟨_,rfl,.inl ⟨rfl,_,bA.of Ru⟩,_,rfl,(by show 2<=sizeLine; decide),fun p8 n8=>?_⟩;refine⟨pm,ms,_,rfl,rfl,aD.new n8 _ _ Ru,a9 (by lia),?_⟩;obtain⟨k5,s5,v8,h8,A5,Dk,mj⟩:=NT (xs:=[V.str "sweep",.str aH]) nm s0 Ru n8 n1 n3 FV UI Rv M7;exact ue.mk' (d:= .fT aH) (M6.mono k0) FY cq k5 s5 v8 (eA h8 (gQ (rS _) (gQ (rS _) r0))) trivial A5 (by lia) Dk (by lia) mj (by rw[aC]; show sp.length + 1<=_; lia) n1 n2 n3 n4
   refine⟨_,rfl,rfl,_,rfl,ck (fun c6=>?_) (fun c6=>?_)⟩
   ·
    refine⟨_,rfl,_,rfl,_,rfl,_,_,rfl,rfl,⟨by decide,by decide,by decide⟩,_,rfl,_,_,rfl,rfl,_,rfl,_,_,rfl,rfl,⟨by decide,by decide⟩,_,rfl,_,_,rfl,rfl,_,_,rfl,rfl,(by show(0:Int) < 0 + (i:Int) + 1; lia),_,rfl,_,rfl,_,_,rfl,rfl,(by show 7<=sizeLine; decide),fun p9 n9=>?_⟩;refine⟨lK,p9,_,_,rfl,rfl,aD.new n9 _ _ nV,ag,dr (a9 (by rw[ae]; show sp.length + 7<=1000; lia)),fun Ro Y1=>?_⟩;have Ai:=(aD.new (o:= .lst [V.int (0 + (i:Int)),.int (-1),.int (10 ^ (9:Int).toNat),.int 0,.int (0 + (i:Int) - 1),.int ((cell / 16 % 10 ^ (60:Int).toNat) / 3 % (0 + (i:Int) + 1)),.int (-2 - (cell / 16 % 10 ^ (60:Int).toNat))]) n9).trans (aD.new (o:= .lst (sp.map V.int ++ [V.int (0 + (i:Int)),.int (-1),.int (10 ^ (9:Int).toNat),.int 0,.int (0 + (i:Int) - 1),.int ((cell / 16 % 10 ^ (60:Int).toNat) / 3 % (0 + (i:Int) + 1)),.int (-2 - (cell / 16 % 10 ^ (60:Int).toNat))])) Y1);have UJ:=ag (H:=upd H4 p9 (.lst [V.int (0 + (i:Int)),.int (-1),.int (10 ^ (9:Int).toNat),.int 0,.int (0 + (i:Int) - 1),.int ((cell / 16 % 10 ^ (60:Int).toNat) / 3 % (0 + (i:Int) + 1)),.int (-2 - (cell / 16 % 10 ^ (60:Int).toNat))])) (a:=Ro) (o:= .lst (sp.map V.int ++ [V.int (0 + (i:Int)),.int (-1),.int (10 ^ (9:Int).toNat),.int 0,.int (0 + (i:Int) - 1),.int ((cell / 16 % 10 ^ (60:Int).toNat) / 3 % (0 + (i:Int) + 1)),.int (-2 - (cell / 16 % 10 ^ (60:Int).toNat))]));generalize upd (upd H4 p9 (.lst [V.int (0 + (i:Int)),.int (-1),.int (10 ^ (9:Int).toNat),.int 0,.int (0 + (i:Int) - 1),.int ((cell / 16 % 10 ^ (60:Int).toNat) / 3 % (0 + (i:Int) + 1)),.int (-2 - (cell / 16 % 10 ^ (60:Int).toNat))])) Ro (.lst (sp.map V.int ++ [V.int (0 + (i:Int)),.int (-1),.int (10 ^ (9:Int).toNat),.int 0,.int (0 + (i:Int) - 1),.int ((cell / 16 % 10 ^ (60:Int).toNat) / 3 % (0 + (i:Int) + 1)),.int (-2 - (cell / 16 % 10 ^ (60:Int).toNat))]))=H5 at Ai UJ ⊢;have UK:sp.map V.int ++ [V.int (0 + (i:Int)),.int (-1),.int (10 ^ (9:Int).toNat),.int 0,.int (0 + (i:Int) - 1),.int ((cell / 16 % 10 ^ (60:Int).toNat) / 3 % (0 + (i:Int) + 1)),.int (-2 - (cell / 16 % 10 ^ (60:Int).toNat))]=(sp ++ [0 + (i:Int),-1,10 ^ (9:Int).toNat,0,0 + (i:Int) - 1,(cell / 16 % 10 ^ (60:Int).toNat) / 3 % (0 + (i:Int) + 1),-2 - (cell / 16 % 10 ^ (60:Int).toNat)]).map V.int:=by rw[aK]; rfl
    rw[UK] at UJ;generalize Sy:sp ++ [0 + (i:Int),-1,10 ^ (9:Int).toNat,0,0 + (i:Int) - 1,(cell / 16 % 10 ^ (60:Int).toNat) / 3 % (0 + (i:Int) + 1),-2 - (cell / 16 % 10 ^ (60:Int).toNat)]=mn at UJ;have adW:0 < mn.length:=by rw[← Sy,aC]; show 0 < sp.length + 7; lia
    have hmp:0 < ((mn.map V.int).length:Int):=by rw[ae]; lia
    obtain⟨y,_,hy⟩:=kC (g:=V.int) (xs:=mn) (m:=((mn.map V.int).length:Int)) (x:=(cell / 16 % 10 ^ (60:Int).toNat)) (by rw[ae]) hmp;have Qr:=Ai _ _ nR;refine⟨_,rfl,.inl ⟨rfl,_,bA.of Qr⟩,_,rfl,_,rfl,_,rfl,Ro,_,rfl,.inl (bA.of UJ),_,_,rfl,rfl,hmp,Ro,_,_,.int y,rfl,rfl,bA.of UJ,hy,(by show 2<=sizeLine; decide),fun p8 n8=>?_⟩;refine⟨pm,ms,_,rfl,rfl,aD.new n8 _ _ Qr,a9 (by lia),?_⟩;obtain⟨k5,s5,v8,h8,A5,Dk,mj⟩:=NT (xs:=[V.str "undo",.int y]) nm (s4.trans Ai) Qr n8 n1 n3 FV (Ai _ _ AI) (Ai _ _ Iw) (Ai _ _ nV);exact ue.mk' (d:= .ie y) (M6.mono Ai.tk) FY cq k5 s5 v8 (eA h8 (gQ (rS _) (gQ (rI _) r0))) trivial A5 (by lia) Dk (by lia) mj (by lia) n1 n2 n3 n4
   refine⟨_,rfl,rfl,_,rfl,ck (fun c7=>?_) (fun c7=>?_)⟩
   ·
    refine⟨_,rfl,.inl ⟨rfl,_,bA.of nR⟩,(by show 2<=sizeLine; decide),fun p9 n9=>?_⟩;have t9:=aD.new (o:= .lst [V.str "owed",.str "free"]) n9;obtain⟨y,X1,hy⟩:=kC (g:=fun o:Bool=>V.str (if o then "owed" else "free")) (xs:=[true,false]) (m:=2) (x:=(cell / 16 % 10 ^ (60:Int).toNat)) rfl (by decide);refine⟨_,rfl,_,_,rfl,rfl,(by show(0:Int) < 2; decide),p9,_,_,_,rfl,rfl,bA.of ag,hy,_,rfl,_,rfl,(by show 3<=sizeLine; decide),fun p8 n8=>?_⟩;have hM9:=t9 _ _ nR;refine⟨pm,ms,_,rfl,rfl,aD.new n8 _ _ hM9,a9 (by lia),?_⟩;obtain⟨k5,s5,v8,h8,A5,Dk,mj⟩:=NT (xs:=[V.str (if y then "owed" else "free"),.str aH,.int day]) nm (s4.trans t9) hM9 n8 n1 n3 FV (t9 _ _ AI) (t9 _ _ Iw) (t9 _ _ nV);exact ue.mk' (d:= .ask y aH day) (M6.mono t9.tk) FY cq k5 s5 v8 (eA h8 (gQ (rS _) (gQ (rS _) (gQ (rI _) r0)))) trivial A5 (by lia) Dk (by lia) mj (by lia) n1 n2 n3 n4
   ·
    obtain⟨Rx,Y7,adX⟩:=zX (cell / 16 % 10 ^ (60:Int).toNat) 12 (by decide);refine⟨_,rfl,_,_,rfl,rfl,(by show(0:Int) < 12; decide),_,rfl,lQ (by decide) (ke _ (by decide)),Int.lt_trans (qj _ (by decide)) (by decide),?_⟩;show yi (Ly 0 ((cell / 16 % 10 ^ (60:Int).toNat) % 12).toNat) _ _ _ _ _ _;rw[Y7,dI];refine DI (lo:=0) (n:=Rx) (fun D j σ H6=>H4 D=none/\ ∃v,σ=[v,some (.int (cell / 16 % 10 ^ (60:Int).toNat))]/\aD H4 H6/\H6 D=some (.lst ((bO (cell / 16 % 10 ^ (60:Int).toNat) j).map V.int))) (fun D hD=>⟨hD,none,rfl,aD.new hD,ag⟩) ?_ ?_
    ·rintro D j σ H6 hj ⟨hD,v,rfl,t3,hl⟩;refine⟨_,rfl,_,_,rfl,rfl,(by show(0:Int) < 9; decide),_,_,rfl,rfl,_,rfl,_,rfl,_,_,rfl,rfl,(by show(0:Int) < 30; decide),_,_,rfl,rfl,_,_,rfl,rfl,.inl ⟨by lia,by lia⟩,_,_,rfl,rfl,?_⟩;refine⟨_,hl,a9 (by rw[ae,C2]; lia),hD,_,rfl,t3.cG hD,?_⟩;rw[ag];unfold bO;rw[oy,aK,aK]; rfl
    ·rintro D σ H6 _ ⟨hD,v,rfl,t3,hl⟩;have Ki:=t3 _ _ nR;refine⟨_,rfl,.inl ⟨rfl,_,bA.of Ki⟩,_,rfl,_,rfl,_,rfl,D,_,rfl,.inl ⟨bA.of hl,fun pt npt=>?_⟩⟩;have t7:=t3.trans (aD.new (o:= .tup ((bO (cell / 16 % 10 ^ (60:Int).toNat) Rx).map V.int)) npt);have g7:=ag (H:=H6) (a:=pt) (o:= .tup ((bO (cell / 16 % 10 ^ (60:Int).toNat) Rx).map V.int));generalize upd H6 pt (.tup ((bO (cell / 16 % 10 ^ (60:Int).toNat) Rx).map V.int))=H7 at t7 g7 ⊢;refine⟨(by show 4<=sizeLine; decide),fun p8 n8=>?_⟩;have HL:=t7 _ _ nR;refine⟨pm,ms,_,rfl,rfl,aD.new n8 _ _ HL,a9 (by lia),?_⟩;obtain⟨k5,s5,v8,h8,A5,Dk,mj⟩:=NT (xs:=[V.str "ages",.str aH,.int day,.ref pt]) nm (s4.trans t7) HL n8 n1 n3 FV (t7 _ _ AI) (t7 _ _ Iw) (t7 _ _ nV);exact ue.mk' (d:= .fN aH day (bO (cell / 16 % 10 ^ (60:Int).toNat) Rx)) (M6.mono t7.tk) FY cq k5 s5 v8 (eA h8 (gQ (rS _) (gQ (rS _) (gQ (rI _) (gQ (eA (k5 _ _ g7) (g6.ints _)) r0))))) (M5 (cell / 16 % 10 ^ (60:Int).toNat) Rx (by lia)) A5 (by lia) Dk (by lia) mj (by lia) n1 n2 n3 n4
  ·rintro σ H2 ⟨pb,ph,bs,hs,sp,ds,ms,x5,x6,x7,x8,x9,xK,HP,EC,HZ,Dj,KI,KJ,rfl,s2,hM,hR,FY,cq,_⟩;rw[ae] at FY;refine⟨_,rfl,?_⟩;exact k pm ds ms H2 s2 hM hR FY cq
def jV.rp {H:Hp}{ok:Addr->Prop}{a:Dc}{v:V}(h:jV H ok a v):Rp H a.dt v:=by
 cases a with
 |int i=>exact di.mpr h
 |txt s=>exact fG.mpr h
 |sets l=>
  obtain⟨D,ms,rfl,_,z,t⟩:=h;exact jt z (hJ.Q4 t)
 |pairs l=>
  obtain⟨D,ms,rfl,_,z,t⟩:=h;exact jt z (iC.Q4 t)
 |«ints» l=>
  obtain⟨D,rfl,_,z⟩:=h;exact jt z (vV l)
def oo {α:Type}(f:α->Dt)(n:Nat): ∀l:List α,(∀x∈l,(f x).size<=n)->Dt.fF (l.map f)<=l.length * n
 |[],_=>bh _
 |x :: l,h=>by
  have h1:=oo f n l fun y hy=>h y (ba _ hy);have h2:=h x bJ;rw[cZ,bS,wF];show(f x).size + Dt.fF (l.map f)<=_;lia
def qd {α:Type}(f:α->Dt)(l:List α)(h: ∀x∈l,(f x).plain=true):Dt.pI (l.map f)=true:=by
 rw[Dt.pJ];intro d hd;obtain⟨x,hx,rfl⟩:=bF.mp hd;exact h x hx
def KN (S:Bk)(aH:Str)(day:Int)(bO:List Int):(S.tU aH day bO).length=bO.length + 2:=by
 unfold Bk.tU;have: ∀(ts:List (Nat×Int)) (l:List Int),(ts.foldl (fun l t=>iL l (L2.placeOf (day - (S.bl t.1).b) bO) t.2) l).length=l.length:=fun ts=>by
  induction ts with
  |nil=>intro l; rfl
  |cons t ts ih=>intro l; rw[fL,ih]; exact d8
 rw[this,dH]
def Ia {H:Hp}{pd:Addr}{d:br}(h:sJ H pd d): ∃r,H pd=some (.tup (.str (br.word d) :: r)):=by
 cases d with
 |fN w dy l=>
  obtain⟨pl,h1,_⟩:=h;exact⟨_,h1⟩
 |_=>exact⟨_,h⟩
def yR (d:br):wN (.str (br.word d)) [.str "bill",.str "pay",.str "note",.str "set",.str "sweep"]=d.tells:=by
 cases d with
 |dR _ _ _ _=>show wN (.str "bill") _ =true; decide +kernel
 |rG _ _ _=>show wN (.str "pay") _ =true; decide +kernel
 |note _ _ _=>show wN (.str "note") _ =true; decide +kernel
 |set _ _ _=>show wN (.str "set") _ =true; decide +kernel
 |fT _=>show wN (.str "sweep") _ =true; decide +kernel
 |ie _=>show wN (.str "undo") _ =false; decide +kernel
 |ask o _ _=>
  cases o
  ·show wN (.str "free") _ =false; decide +kernel
  ·show wN (.str "owed") _ =false; decide +kernel
 |fN _ _ _=>show wN (.str "ages") _ =false; decide +kernel
def M8 (xs:List V)(a b:Nat)(h:a<=b):(qy xs (some (a:Int)) (some (b:Int))).length<=b - a:=by
 unfold qy;rw[HT.y2,HT.y2,bf];lia
def M9 (ns:List Int)(lo hi:Option Int): ∃cs:List Int,qy (ns.map V.int) lo hi=cs.map V.int:=by
 unfold qy;rw[← List.map_drop,← List.map_take];exact⟨_,rfl⟩
def Na {H:Hp}{ok:Addr->Prop}: ∀{as:List Dc} {ws:List V},Paired (jV H ok) as ws->g6 H (as.map Dc.dt) ws
 |_,_,.nil=>cL.mpr rfl
 |_,_,.cons h t=>bC.mpr ⟨_,_,rfl,h.rp,Na t⟩
def KO {H:Hp}{tb:Addr}{pos:Pos}{qual:Str}(h:H tb=some (.mL #[])):Tb H tb pos qual:=⟨#[],h,True.intro,.inl rfl⟩
def KP (K:Frag)(cps:List (Addr×Addr)):Sp:=fun vs H Q _=> ∃(a:Addr) (ns:List Int),vs=[.ref a]/\bA K H a (ns.map V.int)/\ns.length<=63/\(∀cp∈cps,H cp.2=some (.mL #[]))/\ ∀H',Q (.bl true) H'
def Nb {H:Hp}{sd p:Addr}{S:Bk}{f:fu}{ws:List V}{o:HO}(h:df H sd S f)(e:H p=some (.lst ws))(n:p∉f.fp):df (upd H p o) sd S f:=
 h.keep (fun b u hb z=>by
  have nb:b≠p:=by
   rcases hb with hb|hb
   ·rw[hb];exact mr h.dict e (by intro q; cases q)
   ·exact fun q=>n (q▸hb)
  rw[az nb];exact z) (dN e)
inductive KQ (vs:List V)(H:Hp)(Q:VK)(E':XK):Prop
 |mk (pa:Addr)(ds:List br)(ms:List V)(h1:vs=[.ref pa])(h2:H pa=some (.lst ms))(h3:eO H ds ms)(h4:ds.length<=59)(h5:(∀d∈ds,d.ok))(h6: ∀(t:Addr) (v:V) (ps sd:Addr) (us:List V) (f:fu) (H':Hp),aD H H'->H' t=some (.tup [v,.ref ps,.ref sd])->H' ps=some (.lst us)->gG H' (dM ds gS.new 0).2.steps us->df H' sd (dM ds gS.new 0).2.bk f->(∀x∈f.fp,H x=none)->ps∉f.fp->Good (dM ds gS.new 0).2 ds.length->Q (.ref t) H'):KQ vs H Q E'
def jd:aS ["_law_asked","_law_steps","_law_state","_law_due","_law_number","_law_deed","_law_answer"] ["_law_asked"] (ay (top 67)):={}
def oM (T:Txt K mg):eI P w K mg base "_law_gone_through" 6 ["_law_asked"] KQ:=by
 have mf:=qY (P:=P) (w:=w) (base:=base) T;have AZ:=Ak (P:=P) (w:=w) (base:=base) T;have C3:=Cy (P:=P) (w:=w) (base:=base) T;refine T.oE.eX (k:=5) jd (fun f cO A outer s H vs Q E hr h=>?_)
 ·obtain⟨pa,ds,ms,rfl,MW,KC,FY,cq,k⟩:=h;have nd:=jd.nd;have FD:=eO.length KC;refine⟨_,(ah (sv 1 nd (bP av))
(ah (sv 2 nd (Ji mf (hr.mono (by decide)) rfl))
(ah (sv 3 nd (bP av))
(ah (dW bw rfl (iQ rfl T.ju (aa (ma T.dB (pv 0)) av)) (gn 4 nd)
(ah (sv 5 nd (xl (pv 0) (pv 4)))
(ah (sv 6 nd aQ)
(iq (bN (PW.pt (pw_or (f9 (fc AZ hr (aa (pv 5) av))) (pw_or1 (aV cH (xt (pv 5) ai) aQ (aZ _)))))
(au (lT (fc C3 hr (aa (pv 1) (aa (pv 2) (aa (pv 4) (aa (pv 5) av))))) (gT (bX (gn 6 nd) (bX (gn 1 nd) (bX (gn 2 nd) gv))))))
bb)
(au (bK (oS (pv 3) (pv 6))))))))
(au (a0 (cD (aa (pv 3) (aa (pv 1) (aa (pv 2) av)))))))))),?_⟩
  refine⟨bh _,fun ps CD=>?_⟩;have s6:=aD.new (o:= .lst []) CD;have Qs:upd H ps (.lst []) ps=some (.lst []):=ag;generalize upd H ps (.lst [])=H6 at s6 Qs;refine⟨rfl,fun sd g H7 s7 UL Mn nf=>?_⟩;have UM:=s7 _ _ Qs;have xJ:=s6.trans s7;have Y8:ps∉g.fp:=fun z=>by
   have:=nf _ z;rw[Qs] at this;cases this
  have nf5: ∀b∈g.fp,H b=none:=fun b hb=>s6.free (nf b hb);refine⟨bh _,fun pu Qt=>?_⟩;have s8:=aD.new (o:= .lst []) Qt;have UN:upd H7 pu (.lst []) pu=some (.lst []):=ag;have UO:=s8 _ _ UM;have UP:=UL.same s8;have Y9:pu∉g.fp:=UL.off Qt;have Za:pu≠ps:=(aJ UM Qt).symm;have Zb:=xJ.trans s8;have Zc:H pu=none:=xJ.free Qt;generalize upd H7 pu (.lst [])=H8 at s8 UN UO UP Zb;refine⟨_,rfl,pa,_,rfl,.inl (bA.of (Zb _ _ MW)),(ms.length:Int),rfl,by lia,by lia,?_⟩;rw[dI];refine iR (lo:=0) (n:=ms.length) (fun i σ H2=> ∃(ps sd:Addr) (us ws:List V) (f:fu) (x4 x5 x6:Option V),σ=[some (.ref pa),some (.ref ps),some (.ref sd),some (.ref pu),x4,x5,x6]/\aD H H2/\H2 ps=some (.lst us)/\gG H2 (dM (ds.take i) gS.new 0).2.steps us/\df H2 sd (dM (ds.take i) gS.new 0).2.bk f/\(∀x∈f.fp,H x=none)/\ps∉f.fp/\Good (dM (ds.take i) gS.new 0).2 i/\H2 pu=some (.lst ws)/\ws.length=i/\pu∉f.fp/\pu≠ps)
   ⟨ps,sd,[],[],g,none,none,none,rfl,Zb,UO,.nil,UP,nf5,Y8,Good.new,UN,rfl,Y9,Za⟩ ?_ ?_
  ·rintro i σ H2 hi ⟨ps,sd,us,ws,f,x4,x5,x6,rfl,s2,lp,Ry,hB,Qu,CD,hG,hpu,E3,MU,Zd⟩;rw[iG];have wR:i < ds.length:=by lia
   have oK:=af wR;obtain⟨v0,QX,P6⟩:=eO.get KC oK;obtain⟨pd,rfl,hd5⟩:=AJ P6;have hd:=hd5.mono s2.tk;have M3:=cq _ (bG wR);have V5:=yQ wR;have oY:Good (cE (dM (ds.take i) gS.new 0).2 (i:Int) ds[i]).2 (i + 1):=hG.step ds[i];rw[V5];generalize ds[i]=d at hd M3 oY;generalize (dM (ds.take i) gS.new 0).2=TT at Ry hB hG oY;clear V5 P6 hd5 oK;refine⟨_,rfl,_,rfl,pa,_,_,.ref pd,rfl,rfl,bA.of (s2 _ _ MW),cw QX,?_⟩;refine⟨fun σ' H'=> ∃(v:V) (vQ Dg:Addr) (Al:List V) (f':fu),σ'=[some (.ref pa),some (.ref vQ),some (.ref Dg),some (.ref pu),some (.int (i:Int)),some (.ref pd),some v]/\aD H H'/\H' vQ=some (.lst Al)/\gG H' (cE TT i d).2.steps Al/\df H' Dg (cE TT i d).2.bk f'/\(∀x∈f'.fp,H x=none)/\vQ∉f'.fp/\H' pu=some (.lst ws)/\pu∉f'.fp/\pu≠vQ,?_,?_⟩
   ·obtain⟨r,hdw⟩:=Ia hd;refine⟨_,rfl,pd,br.word d,r,rfl,hdw,fun H3 s3=>⟨_,rfl,?_⟩⟩;have NJ:=hd.mono s3.tk;have Ze:=s3 _ _ hdw;have HA:=s3 _ _ lp;have Nc:gG H3 TT.steps us:=Ry.mono s3.tk;have KG:=hB.same s3;have Wb:=s2.trans s3;have KR:=s3 _ _ hpu;have NV: ∀(R:VK),(∀t v vQ Dg Al f' H',H' t=some (.tup [v,.ref vQ,.ref Dg])->aD H H'->H' vQ=some (.lst Al)->gG H' (cE TT i d).2.steps Al->df H' Dg (cE TT i d).2.bk f'->(∀x∈f'.fp,H x=none)->vQ∉f'.fp->H' pu=some (.lst ws)->pu∉f'.fp->pu≠vQ->R (.ref t) H')->NI R H3 ps f (cE TT i d):=fun R h t v vQ Dg f' Al H' ht hv hp hS hb fr fi np nq=>
     h t v vQ Dg Al f' H' ht (fr.same Wb Qu) hp hS hb (fun x hx=>(fi x hx).elim (Qu x) fun z=>Wb.free z) np (fr _ _ MU KR) (fun z=>(fi pu z).elim MU fun q=>by rw[KR] at q; cases q) (fun z=>Zd (z.trans (nq pu _ MU KR z.symm)))
    by_cases ht:d.tells=true
    ·rw[yR,ht];have Il:H3 pd=some (.tup (br.vs d)):=by cases d <;> first|exact NJ|cases ht
     refine fB (fB ⟨_,rfl,_,rfl,_,rfl,_,rfl,ps,sd,pd,i,TT,us,f,d,rfl,HA,Nc,KG,CD,Il,.inl ht,hG,(by lia),NV _ fun t v vQ Dg Al f' H' ht LV hp hS hb hn Zf u1 u2 u3=>?_⟩);refine⟨t,_,rfl,cf.of ht,rfl,_,_,rfl,_,_,rfl,_,_,rfl,rfl,?_⟩;exact⟨v,vQ,Dg,Al,f',rfl,LV,hp,hS,hb,hn,Zf,u1,u2,u3⟩
    ·rw[yR,Bool.eq_false_iff.mpr ht];refine bT ⟨_,rfl,pd,_,_,.str (br.word d),rfl,rfl,cf.of Ze,Ku _ _,rfl,?_⟩;cases d with
     |dR _ _ _ _=>exact absurd rfl ht
     |rG _ _ _=>exact absurd rfl ht
     |note _ _ _=>exact absurd rfl ht
     |set _ _ _=>exact absurd rfl ht
     |fT _=>exact absurd rfl ht
     |ie m=>
      refine⟨true,yD _,fB ⟨_,rfl,_,rfl,_,rfl,_,rfl,ps,sd,pd,i,TT,us,f,.ie m,rfl,HA,Nc,KG,CD,NJ,.inr ⟨m,rfl⟩,hG,(by lia),NV _ fun t v vQ Dg Al f' H' ht LV hp hS hb hn Zf u1 u2 u3=>?_⟩⟩;refine⟨t,_,rfl,cf.of ht,rfl,_,_,rfl,_,_,rfl,_,_,rfl,rfl,?_⟩;exact⟨v,vQ,Dg,Al,f',rfl,LV,hp,hS,hb,hn,Zf,u1,u2,u3⟩
     |ask o wh dy=>
      refine⟨false,jk (by cases o; exact(show("free":Str)≠"undo" by decide +kernel); exact(show("owed":Str)≠"undo" by decide +kernel)),bT ?_⟩;exact⟨_,ps,sd,us,f,rfl,Wb,HA,Nc,KG,Qu,CD,KR,MU,Zd⟩
     |fN wh dy bO=>
      refine⟨false,jk (show("ages":Str)≠"undo" by decide +kernel),bT ?_⟩;exact⟨_,ps,sd,us,f,rfl,Wb,HA,Nc,KG,Qu,CD,KR,MU,Zd⟩
   ·rintro σ' H' ⟨v,vQ,Dg,Al,f',rfl,s',Tu,Y3,hB',Zg,Zh,u1,u2,u3⟩;refine⟨_,rfl,.inl ⟨rfl,_,bA.of u1⟩,_,rfl,pu,ws,v,rfl,rfl,u1,a9 (by lia),?_⟩;exact⟨vQ,Dg,Al,ws ++ [v],f',_,_,_,rfl,s'.cG Zc,by rw[az u3.symm]; exact Tu,Y3.mono (dN u1),Nb hB' u1 u2,Zg,Zh,oY,ag,by rw[aC,E3]; rfl,u2,u3⟩
  ·rintro σ H2 ⟨ps,sd,us,ws,f,x4,x5,x6,rfl,s2,lp,Ry,hB,Qu,CD,hG,hpu,_⟩;rw[← FD,a7] at Ry hB hG;refine⟨_,rfl,_,rfl,_,rfl,(by show 3<=sizeLine; decide),fun t nt=>?_⟩;have s9:=aD.new (o:= .tup [V.ref pu,.ref ps,.ref sd]) nt;exact k t _ ps sd us f _ (s2.trans s9) ag (s9 _ _ lp) (Ry.mono s9.tk) (hB.same s9) Qu CD hG
end
end eB
namespace L2
open PySem
def yS: ∀(l:List Int) (i:Nat) (x:Int),i < l.length->(iL l i x).sum=l.sum + x
 |[],_,_,h=>absurd h (iF _)
 |y :: l,0,x,_=>by
  show((y + x) :: l).sum=_;rw[tO,tO];lia
 |y :: l,i + 1,x,h=>by
  have ih:=yS l i x (Nat.lt_of_succ_lt_succ h);show(y :: iL l i x).sum=_;rw[tO,tO,ih];lia
def ED (fO:Int)(bO:List Int):placeOf fO bO < bO.length + 2:=by
 unfold placeOf;split
 ·lia
 ·have:=aX (fun l=>decide (l < fO)) bO;lia
def wx (S:Bk)(aH:Str)(day:Int)(bO:List Int):(S.tU aH day bO).sum=((S.fj true aH day).map (·.2)).sum:=by
 unfold Bk.tU;have gen: ∀(ts:List (Nat×Int)) (l:List Int),l.length=bO.length + 2->(ts.foldl (fun l t=>iL l (placeOf (day - (S.bl t.1).b) bO) t.2) l).sum=l.sum + (ts.map (·.2)).sum:=fun ts=>by
  induction ts with
  |nil=>intro l _; rw[List.foldl_nil,qf,List.sum_nil]; lia
  |cons t ts ih=>
   intro l hl;rw[List.foldl_cons,ih _ (by unfold iL; rw[List.length_set]; exact hl),yS _ _ _ (by rw[hl]; exact ED _ _),List.map_cons,List.sum_cons];lia
 rw[gen _ _ dH];have z: ∀n,(List.replicate n (0:Int)).sum=0:=fun n=>by
  induction n with
  |zero=>rfl
  |succ n ih=>rw[cK,tO,ih]; rfl
 rw[z];lia
open PySem.Spec PyProof.Rows
def KS (n:Nat):It:=⟨fun i _=>i < n,fun i H x H'=>H'=H/\x= .int (4 * i),fun i _=>n<=i⟩
def C4 {P:Program}{w:World}{K:Frag}{tg:Expr}(it:Addr)(n:Nat):Turn P w K tg (KS n) [it] it (fun i h=>IsRangeIter h it (0 + (i:Nat) * 4) ((n:Int) - (i:Nat)) 4) where
 mem:=by simp
 obj:=fun i h st b hb=>by
  have e:b=it:=by simpa using hb
  subst e;exact⟨_,st,fun v z=>by
   have z':Data.fields _ =Data.cell v:=z;cases z'⟩
 keep:=fun i h h' st k=>k it (by simp) _ st
 item:=by
  intro X hP hw hK hc i pins s σ H E I hf st hg;subst hP hw hK;obtain⟨f0,f1,f2,f3,f4,f5⟩:=hf it (by simp);have W:=Walks.range (prog:=X.prog) (w:=X.w) (I.ok.hd hc) it 0 4 n;refine W.item i s _ _ hg st fun v h' tk hv wK kk=>?_;obtain⟨t,rfl⟩:=hv;have I1:Inv X pins σ H {s with heap:=h',toks:=tk}:=I.turned (fun b o hb e=>kk b o (by simpa using hb) e) f0 f1 f3 f4 f5;refine⟨_,rfl,Bl (s:={s with heap:=h',toks:=tk}) (n:="range_iterator") wK rfl rfl (by decide) ⟨.int (4 * i),H,I1,⟨t,?_⟩,⟨rfl,rfl⟩,wK,fun b hb=>(hf b hb).1⟩⟩;rw[iG,Int.mul_comm]
 done:=by
  intro X hP hw hK hc i pins s σ H E I hf st hg;subst hP hw hK;obtain⟨f0,f1,f2,f3,f4,f5⟩:=hf it (by simp);exact wpAny_pyNext_range_end (I.ok.hd hc) st (by have:n<=i:=hg; lia) fun h' eb=>⟨rfl,I.turned (t':=s.toks) (fun b o hb e=>eb b o hb e) f0 f1 f3 f4 f5⟩
 self:=fun _ _ _ _ _ st h=>wpAny_pyIter_rangeiter st h
section
variable {X:Cx}{tg:Expr}
def NW (n:Nat):Builtin.Range.rangeSize 0 (4 * (n:Int)) 4=n:=by
 unfold Builtin.Range.rangeSize;simp only[show(4:Int) > 0 by decide,if_true];split <;> lia
def Qv {n:Nat}(h:n<=1000):Builtin.Range.small 0 (4 * (n:Int)) 4=true:=by
 have fl: ∀i:Int,-1000000<=i->i<=1000000->Builtin.Range.rangeFitsLong i=true:=fun i h1 h2=>by
  unfold Builtin.Range.rangeFitsLong;rw[ug,decide_eq_true_eq,decide_eq_true_eq];lia
 unfold Builtin.Range.small;rw[NW,fl 0 (by lia) (by lia),fl (4 * (n:Int)) (by lia) (by lia),fl 4 (by lia) (by lia),fl n (by lia) (by lia),a8 (by decide),fl (4 * (n:Int) + (4 - 1)) (by lia) (by lia),Bool.or_true];rfl
def UQ (ta:TA):TI:=fun σ H R=>ta σ H fun vs H1=> ∃n:Nat,vs=[.int 0,.int (4 * (n:Int)),.int 4]/\n<=1000/\R (KS n) H1
def Ib {a b c:Expr}{ta:TA}{p pos:Pos}(hg:Gl X "range")(hm:X.mg "range"=none)(ha:PA X [a,b,c] ta)(hs:starEach [a,b,c] X.env=(false,eval a X.env) :: starEach [b,c] X.env:=by rfl)(gw:(backTo pos (starEach [b,c] X.env)).any (·.1)=false:=by rfl):
  PI X tg (.Call (.Name "range" p) [a,b,c] [] pos) (UQ ta):=by
 intro pins s σ H R I h;refine Call_ (lS I hg hm boot_range (fI (dO (ha pos pins s σ H _ I h) fun us s1 ⟨vs,H1,I1,r1,q1⟩=>?_) hs gw));obtain⟨n,e,hn,q⟩:=q1;subst e;cases r1 with
 |cons r rr=>
  cases rr with
  |cons r' rr=>
   cases rr with
   |cons r2 rr=>
    cases rr;obtain⟨t,rfl⟩:=r;obtain⟨t',rfl⟩:=r';obtain⟨t2,rfl⟩:=r2;refine call_range_3 (by decide) ?_ (Or.inl (PyProof.noPylong_small (by lia)));refine wpAny_pyIter_range (IsRange.new ..) (Qv hn) ?_;have I2:Inv X pins σ H1 {s1 with heap:=s1.heap.push {cls:= .type "range",data:= .fields #[.int 0 t,.int (4 * (n:Int)) t',.int 4 t2]},toks:=s1.toks}:=I1.kept fun b o e=>ax _ e;refine⟨(s1.heap.push {cls:= .type "range",data:= .fields #[.int 0 t,.int (4 * (n:Int)) t',.int 4 t2]}).objs.size,[(s1.heap.push {cls:= .type "range",data:= .fields #[.int 0 t,.int (4 * (n:Int)) t',.int 4 t2]}).objs.size],_,_,H1,rfl,
     I2.kept (t':=s1.toks) fun b o e=>ax _ e,C4 _ n,?_,fun b hb=>?_,q⟩
    ·have e1:(0:Int) + ((0:Nat):Int) * 4=0:=by simp
     have e2:(n:Int) - ((0:Nat):Int)=Builtin.Range.rangeSize 0 (4 * (n:Int)) 4:=by rw[NW]; lia
     show IsRangeIter _ _ ((0:Int) + ((0:Nat):Int) * 4) ((n:Int) - ((0:Nat):Int)) 4;rw[e1,e2];exact bL _ rfl
    ·have e:b=(s1.heap.push {cls:= .type "range",data:= .fields #[.int 0 t,.int (4 * (n:Int)) t',.int 4 t2]}).objs.size:=by simpa using hb
     subst e;exact I2.Du (aE _) (I2.cq.fresh (aE _))
end
def EE {n:Nat}{g:TG}{tb:TS}{D:Ends}{σ:St}{H:Hp}(Pv:Nat->St->Hp->Prop)(h0:Pv 0 σ H)
  (hs: ∀i σ H,i < n->Pv i σ H->g (.int (4 * i)) σ H fun σ2 H2=>tb {D with nx:=Pv (i + 1),ct:=Pv (i + 1),bk:=D.nx} σ2 H2) (hd: ∀σ H,Pv n σ H->D.nx σ H):
  ∃W:Nat->Nat->St->Hp->Prop,(∃m,W 0 m σ H)/\ ∀i m σ H,W i m σ H->
   ((KS n).stop i H/\D.nx σ H)∨((KS n).go i H/\ ∃N:St->Hp->Prop,(∀σ' H',N σ' H'-> ∃m',m' < m/\W (i + 1) m' σ' H')/\ ∀x H',(KS n).Ol i H x H'->g x σ H' fun σ2 H2=>tb {D with nx:=N,ct:=N,bk:=D.nx} σ2 H2):=by
 refine⟨fun i m σ H=>m=n - i/\i<=n/\Pv i σ H,⟨n,by simp,Nat.zero_le _,h0⟩,?_⟩;rintro i m σ H ⟨rfl,hi,p⟩;by_cases ip:i < n
 ·refine .inr ⟨ip,Pv (i + 1),fun σ' H' p'=>⟨n - (i + 1),by lia,rfl,ip,p'⟩,fun x H' y=>?_⟩;obtain⟨e,y⟩:=y;subst e y;exact hs i σ _ ip p
 ·have e:i=n:=by lia
  subst e;exact .inl ⟨aE _,hd σ H p⟩
end L2
namespace eB
open PySem L2 PyProof.Rows K7
seal L2.oO L2.PS L2.PE L2.PT L2.PW L2.PA L2.PC L2.PG L2.ID L2.PI L2.LO L2.K3 L2.PO L2.oA L2.Nk L2.gZ L2.IX L2.Nm
section
variable {P:Program}{w:World}{K:Frag}{mg:Str->Option Value}{base:Heap}
inductive UR (K:Frag)(vs:List V)(H:Hp)(Q:VK)(E':XK):Prop
 |mk (a:Addr)(ns:List Int)(k:Nat)(h1:vs=[.ref a,.int k])(h2:bA K H a (ns.map V.int))(h3: ∀i:Int,Q (.int i) H):UR K vs H Q E'
def EF:aS ["_law_script","_law_k"] ["_law_script","_law_k"] (ay (top 46)):={}
def Ic (T:Txt K mg):eI P w K mg base "_law_at" 1 ["_law_script","_law_k"] (UR K):=by
 refine T.Hc.eX (k:=0) EF (fun f cO A outer s H vs Q E hr h=>?_)
 ·obtain⟨a,ns,k,rfl,hS,q⟩:=h;refine⟨_,(ah (bN (aV jn (pv 1) (ma T.dB (pv 0)) (aZ _))
(au (a0 (xl (pv 0) (pv 1))))
bb)
(au (a0 ai))),?_⟩
  refine⟨_,rfl,_,rfl,a,_,rfl,.inl hS,_,_,rfl,rfl,_,rfl,ck (fun z=>?_) (fun _=>q 0)⟩;have z':(k:Int) < ((ns.map V.int).length:Int):=aN z;have hk:k < ns.length:=by rw[ae] at z'; lia
  exact⟨_,rfl,_,rfl,a,_,_,.int (ns.getD k 0),rfl,rfl,hS,ny hk,q _⟩
def tJ: ∀(l m:List br) (T:gS) (n:Nat),dM (l ++ m) T n=((dM l T n).1 ++ (dM m (dM l T n).2 (n + l.length)).1,(dM m (dM l T n).2 (n + l.length)).2)
 |[],m,T,n=>rfl
 |d :: l,m,T,n=>by
  show((cE T n d).1 :: (dM (l ++ m) (cE T n d).2 (n + 1)).1,(dM (l ++ m) (cE T n d).2 (n + 1)).2)=_;rw[tJ l m,show n + 1 + l.length=n + (d :: l).length by rw[bS]; lia];rfl
def yT: ∀(m:List br) (T:gS) (n:Nat),(∀d∈m,(∃o w y,d= .ask o w y)∨ ∃w y l,d= .fN w y l)->(dM m T n).2=T/\ ∀(i:Nat) (d:br),m[i]? =some d->(dM m T n).1[i]? =some (cE T 0 d).1
 |[],T,n,_=>⟨rfl,fun i d h=>by simp at h⟩
 |e :: m,T,n,h=>by
  have he:(cE T n e).2=T/\(cE T n e).1=(cE T 0 e).1:=by
   rcases h e bJ with⟨o,w,y,rfl⟩|⟨w,y,l,rfl⟩
   ·exact⟨rfl,rfl⟩
   ·exact⟨rfl,rfl⟩
  obtain⟨h1,h2⟩:=yT m T (n + 1) fun d hd=>h d (ba _ hd);have eq:dM (e :: m) T n=((cE T n e).1 :: (dM m T (n + 1)).1,(dM m T (n + 1)).2):=by
   show((cE T n e).1 :: (dM m (cE T n e).2 (n + 1)).1,(dM m (cE T n e).2 (n + 1)).2)=_;rw[he.1]
  rw[eq];refine⟨h1,fun i d hd=>?_⟩;cases i with
  |zero=>
   have e2:e=d:=by simpa using hd
   subst e2;show some (cE T n e).1=_;rw[he.2]
  |succ i=>exact h2 i d (by simpa using hd)
def yU {H:Hp}{rs:List Rw}{ps:List Addr}(h:eP H rs ps){a:Addr}(ha:a∈ps): ∃xs,H a=some (.lst xs):=by
 induction h with
 |nil=>cases ha
 | @cons r p rs ps hr t ih=>
  rcases aw.mp ha with ha|ha
  ·rw[ha];exact⟨_,hr⟩
  ·exact ih ha
def Nd {H:Hp}{sd a:Addr}{S:Bk}{f:fu}(h:df H sd S f)(hb:a∈f.fp): ∃xs,H a=some (.lst xs):=by
 obtain⟨ms,m1,_⟩:=h.hm;unfold fu.fp at hb;rcases aw.mp hb with z|z
 ·rw[z]; exact⟨_,h.hb⟩
 rcases aw.mp z with z|z
 ·rw[z]; exact⟨_,h.hc⟩
 rcases aw.mp z with z|z
 ·rw[z]; exact⟨_,m1⟩
 rcases bq.mp z with z|z
 ·exact yU h.rb z
 ·exact yU h.rc z
def Qw {H H':Hp}{sd:Addr}{S:Bk}{f:fu}(h:df H sd S f)(k: ∀a o,H a=some o->(∀ps,o≠ .mL ps)->H' a=some o):df H' sd S f:=by
 refine h.keep (fun b o hb e=>?_) (fun a xs e=>k _ _ e (fun _ z=>by cases z));refine k _ _ e (fun ps z=>?_);rcases hb with hb|hb
 ·rw[hb,h.dict,z] at e;cases e
 ·obtain⟨xs,q⟩:=Nd h hb;rw[q,z] at e;cases e
def wy (l1 l2:List Int)(x:Str×Int):List br:=[.ask true x.1 x.2,.fN x.1 x.2 l1,.fN x.1 x.2 l2,.fN x.1 x.2 []]
def eV (l1 l2:List Int)(pr:List (Str×Int)):List br:=pr.flatMap (wy l1 l2)
def EG (l1 l2:List Int)(pr:List (Str×Int))(x:Str×Int):eV l1 l2 (pr ++ [x])=eV l1 l2 pr ++ wy l1 l2 x:=by
 unfold eV;rw[List.flatMap_append];simp
def hZ (l1 l2:List Int)(pr:List (Str×Int)):(eV l1 l2 pr).length=4 * pr.length:=by
 induction pr with
 |nil=>rfl
 |cons x pr ih=>
  have e:eV l1 l2 (x :: pr)=wy l1 l2 x ++ eV l1 l2 pr:=rfl;rw[e,aC,ih,bS];show 4 + 4 * pr.length=_;lia
def yV {l1 l2:List Int}: ∀{pr:List (Str×Int)} {k:Nat} {x:Str×Int},pr[k]? =some x-> ∀(j:Nat) (d:br),(wy l1 l2 x)[j]? =some d->(eV l1 l2 pr)[4 * k + j]? =some d
 |[],_,_,h,_,_,_=>by simp at h
 |y :: pr,0,x,h,j,d,hj=>by
  have e:y=x:=by simpa using h
  subst e;have hl:j < 4:=(ak.mp hj).1;show(wy l1 l2 y ++ eV l1 l2 pr)[4 * 0 + j]? =_;rw[show 4 * 0 + j=j by lia,qp (show j < (wy l1 l2 y).length from hl)];exact hj
 |y :: pr,k + 1,x,h,j,d,hj=>by
  show(wy l1 l2 y ++ eV l1 l2 pr)[4 * (k + 1) + j]? =_;rw[iW (show(wy l1 l2 y).length<=4 * (k + 1) + j by show 4<=_; lia),show 4 * (k + 1) + j - (wy l1 l2 y).length=4 * k + j by show 4 * (k + 1) + j - 4=_; lia];exact yV (by simpa using h) j d hj
def Ie {l1 l2:List Int}{pr:List (Str×Int)}{d:br}(h:d∈eV l1 l2 pr): ∃w y,d= .ask true w y∨d= .fN w y l1∨d= .fN w y l2∨d= .fN w y []:=by
 unfold eV at h;obtain⟨y,_,hy⟩:=List.mem_flatMap.mp h;unfold wy at hy;simp only[List.mem_cons,List.not_mem_nil,or_false] at hy;exact⟨_,_,hy⟩
def C5 {T:gS}{n:Nat}{d:br}(wf:WF T.bk n)(hn:n<=60)(h:(∃o w y,d= .ask o w y)∨ ∃w y l,d= .fN w y l)(cq:d.ok):(cE T 0 d).1.dt.size<=200/\(cE T 0 d).1.dt.plain=true:=by
 rcases h with⟨o,w,y,rfl⟩|⟨w,y,l,rfl⟩
 ·have h1:=oo (fun t:Nat×Int=>Dt.tup [.int t.1,.int t.2]) 3 (T.bk.fj o w y) (fun x _=>aE _);have h2:(T.bk.fj o w y).length<=(T.bk.rows o).length:=yF;have h3:(T.bk.rows o).length<=60:=by
   have:=wf.lb;have:=wf.lc;cases o
   ·show T.bk.credits.length<=60; lia
   ·show T.bk.aI.length<=60; lia
  refine⟨?_,qd _ _ fun x _=>rfl⟩;show 1 + Dt.fF ((T.bk.fj o w y).map fun t=>Dt.tup [.int t.1,.int t.2])<=200;lia
 ·have h1:=oo Dt.int 1 (T.bk.tU w y l) (fun x _=>aE _);have h2:=KN T.bk w y l;have h3:l.length<=11:=cq.1;refine⟨?_,qd _ _ fun x _=>rfl⟩;show 1 + Dt.fF ((T.bk.tU w y l).map Dt.int)<=200;lia
def KU:aS ["_law_script","_law_cells","_law_asked","_law_state","_law_first","_law_limits","_law_more","_law_due","_law_who","_law_day","_law_one","_law_found","_law_k","_law_total","_law_j"] ["_law_script"] (ay (top 68)):={}
def Qx {cps:List (Addr×Addr)}{f:Addr}{fd:FuncData}(F:gf K "law" "law" (top 68) f fd)(T:Txt K mg){A:dU}{tB tC:Addr}(G:jv K mg A)(DB:qm K mg "bills_in_order" (top 17) tB)(DC:qm K mg "credits_in_order" (top 18) tC)(i9:tB≠tC)(hnd:A.iU≠A.tooMuch)(KB:K.In base)(BM:BMain mg base)(Xx: ∃c,(c,tB)∈cps)(hcC: ∃c,(c,tC)∈cps):lV P w K mg base rZ 13 f fd ["_law_script"] (KP K cps):=by
 have Ig:eI P w K mg base "answers" 12 ["deeds"] (sM A tB tC):=HY T G DB DC i9 hnd KB BM;have C6:=C1 (P:=P) (w:=w) (base:=base) T;have A0:=AY (P:=P) (w:=w) (base:=base) T;have A1:=AR (P:=P) (w:=w) (base:=base) T;have sN:=Ic (P:=P) (w:=w) (base:=base) T;have kQ:=oU (P:=P) (w:=w) (base:=base) T;have uf:=uc (P:=P) (w:=w) (base:=base) T;have oN:=oM (P:=P) (w:=w) (base:=base) T;refine F.ok (k:=12) KU (fun vs H Q E h=>?_) (fun cO A' outer s H vs Q E hr h=>?_)
 ·obtain⟨a,ns,rfl,_⟩:=h;rfl
 ·obtain⟨a,ns,rfl,hS,hz,hO,k⟩:=h;have j9:lI H tB:=let⟨c,hc⟩:=Xx; KO (hO _ hc)
  have jE:mi H tC:=let⟨c,hc⟩:=hcC; KO (hO _ hc)
  have nd:=KU.nd;refine⟨_,(ah (sv 1 nd (mQ Th (pv 0) (nZ ai) (nZ (aO cz ai (fc C6 hr (aa (pv 0) (aa ai (aa ai av))))))))
(ah (sv 2 nd (fc A0 hr (aa (pv 1) av)))
(ah (sv 3 nd (xt (fc oN hr (aa (pv 2) av)) ai))
(ah (sv 4 nd (aO cz ai (aO bW (fc sN hr (aa (pv 0) (aa ai av))) ai)))
(ah (sv 5 nd (bP (aa (cD (aa (pv 4) av)) (aa (cD (aa (pv 4) (aa (aO cz (aO cz (pv 4) ai) (aO bW (aO iX (fc sN hr (aa (pv 0) (aa ai av))) ai) ai)) av))) (aa (cD av) av)))))
(ah (sv 6 nd (bP av))
(ah (sv 7 nd (bP av))
(ah (dW bw rfl (rH (fc kQ hr (aa (pv 1) av))) (gn 8 nd)
(ah (sv 9 nd (aO eL (aO bW (fc sN hr (aa (pv 0) (aa ai av))) ai) ai))
(ah (bK (oS (pv 6) (cD (aa aQ (aa (pv 8) (aa (pv 9) av))))))
(au (dW bw rfl (rH (pv 5)) (gn 10 nd)
(au (bK (oS (pv 6) (cD (aa aQ (aa (pv 8) (aa (pv 9) (aa (pv 10) av)))))))))))))
(ah (sv 11 nd (fc Ig hr (aa (aO mS (pv 2) (pv 6)) av)))
(ah (bN (PW.pt (pw_or (kI (f9 (vv T.dg T.vA boot_list (pv 11)))) (pw_or1 (aV oQ (ma T.dB (pv 11)) (aO cz (ma T.dB (pv 2)) (ma T.dB (pv 6))) (aZ _)))))
(au (a0 k8))
bb)
(ah (jH (i:=7) nd rfl (Or.inl rfl) (tn:=["_law_deed"]) (cn:=["_law_state"]) (cj:=[3]) rfl (gR (yk:=[(".0",.local),("_law_deed",.local),("_law_reported",.globalImplicit),("_law_state",.cell)])) (rH (pv 6)) (fun _ _ _ _=>(dQ (i:=0) (show(["_law_deed","_law_state"]:List Str).Nodup by decide +kernel) rfl (Or.inl rfl))) (fun _ _ _ _=>kM) (fun _ _ _ _=>(fc uf hr (aa (pv 1) (aa (pv 0) av)))))
(ah (sv 11 nd (mQ Th (pv 11) (nZ (ma T.dB (pv 2))) uj))
(ah (bN (kI (f9 (fc A1 hr (aa (pv 11) (aa (pv 7) av)))))
(au (a0 k8))
bb)
(ah (dW bw rfl (Ib rfl T.ju (aa ai (aa (ma T.dB (pv 6)) (aa ai av)))) (gn 12 nd)
(ah (sv 13 nd (eM (lu rfl) (by rfl) T.BU boot_sum (aa (gg (tn:=["_law_one"]) (cn:=[]) (cj:=[]) rfl zk (rH (xl (pv 11) (pv 12))) (fun _ _ _ _=>(dQ (i:=0) (show(["_law_one"]:List Str).Nodup by decide +kernel) rfl (Or.inl rfl))) (fun _ _ _ _=>kM) (fun _ _ _ _=>(i8 (lX (K:=K) rfl) (pv 0) ai (fun _ _=>rfl)))) av)))
(au (dW bw rfl (Gr rfl T.ju (aa ai (aa ai av))) (gn 14 nd)
(au (bN (aV oQ (eM (lu rfl) (by rfl) T.BU boot_sum (aa (xl (pv 11) (aO cz (pv 12) (pv 14))) av)) (pv 13) (aZ _))
(au (a0 k8))
bb))))))
(au (a0 k8)))))))))))))))),?_⟩
  refine⟨_,rfl,_,rfl,_,rfl,a,_,28,140,rfl,hS,(by rw[ae]; exact hz),_,_,rfl,rfl,_,rfl,a,_,rfl,hS,fun pc nc=>?_⟩;obtain⟨cs,ecs⟩:=M9 ns (some 2) (some (2 + 28));have qL:cs.length<=28:=by
   have h:=M8 (ns.map V.int) 2 30 (by decide);have e:qy (ns.map V.int) (some ((2:Nat):Int)) (some ((30:Nat):Int))=cs.map V.int:=ecs;rw[e,ae] at h;exact h
  rw[ecs];have s1:=aD.new (o:= .lst (cs.map V.int)) nc;have Wc:upd H pc (.lst (cs.map V.int)) pc=some (.lst (cs.map V.int)):=ag;generalize upd H pc (.lst (cs.map V.int))=H1 at s1 Wc;refine⟨_,rfl,pc,cs,rfl,bA.of Wc,(by lia),fun pa ds ms H2 s2 MW KC FY cq=>?_⟩;have S2:=s1.trans s2;have US:=s2 _ _ Wc;refine⟨_,rfl,pa,ds,ms,rfl,MW,KC,(by lia),cq,fun t v ps sd us g H3 s3 ht lp Ry UL Qu CD hG=>?_⟩;refine⟨t,_,_,.ref sd,rfl,rfl,cf.of ht,rfl,?_⟩;have UT:=s3 _ _ MW;have Qy:=KC.mono s3.tk;have UU:=s3 _ _ US;have S3:=S2.trans s3;have rz:lI H3 tB:=bM j9 S3;have rA:mi H3 tC:=bM jE S3;have Wd:=S3.seq hS;clear s1 s2 s3 S2 S3 j9 jE MW KC Wc US hS;have FD:=eO.length Qy;refine⟨_,rfl,a,ns,1,rfl,Wd,fun i1=>⟨_,_,rfl,rfl,(by show(0:Int) < 9; decide),_,_,rfl,rfl,?_⟩⟩;dsimp only;have We:1<=1 + i1 % 9:=by lia
  generalize 1 + i1 % 9=f0 at We;refine⟨_,rfl,(by show 1<=sizeLine; decide),fun q1 n1=>?_⟩;have u1:=aD.new (o:= .tup [V.int f0]) n1;have Li:upd H3 q1 (.tup [V.int f0]) q1=some (.tup [V.int f0]):=ag;refine⟨_,rfl,_,rfl,_,_,rfl,rfl,_,rfl,a,ns,1,rfl,u1.seq Wd,fun i2=>⟨_,_,rfl,rfl,⟨by decide,by decide⟩,_,_,rfl,rfl,(by show(0:Int) < 9; decide),_,_,rfl,rfl,(by show 2<=sizeLine; decide),fun q2 n2=>?_⟩⟩;dsimp only at n2 ⊢;have Zi:f0 < f0 + 1 + i2 / 9 % 9:=by lia
  generalize f0 + 1 + i2 / 9 % 9=f2 at Zi;have u2:=aD.new (o:= .tup [V.int f0,.int f2]) n2;refine⟨bh _,fun q3 n3=>?_⟩;have u3:=aD.new (o:= .tup []) n3;refine⟨(by show 3<=sizeLine; decide),fun pl YA=>?_⟩;have u4:=aD.new (o:= .lst [V.ref q1,.ref q2,.ref q3]) YA;have NR: ∀x,x∈[(q1,[f0]),(q2,[f0,f2]),(q3,[])]->(upd (upd (upd (upd H3 q1 (.tup [V.int f0])) q2 (.tup [V.int f0,.int f2])) q3 (.tup [])) pl (.lst [V.ref q1,.ref q2,.ref q3])) x.1=some (.tup (x.2.map V.int)):=fun x hx=>by
   simp only[List.mem_cons,List.not_mem_nil,or_false] at hx;rcases hx with rfl|rfl|rfl
   ·exact u4 _ _ (u3 _ _ (u2 _ _ Li))
   ·exact u4 _ _ (u3 _ _ ag)
   ·exact u4 _ _ ag
  have Nf:(upd (upd (upd (upd H3 q1 (.tup [V.int f0])) q2 (.tup [V.int f0,.int f2])) q3 (.tup [])) pl (.lst [V.ref q1,.ref q2,.ref q3])) pl=some (.lst [V.ref q1,.ref q2,.ref q3]):=ag;have s4:=((u1.trans u2).trans u3).trans u4;generalize (upd (upd (upd (upd H3 q1 (.tup [V.int f0])) q2 (.tup [V.int f0,.int f2])) q3 (.tup [])) pl (.lst [V.ref q1,.ref q2,.ref q3]))=H4 at NR Nf s4;have UW:=s4 _ _ UT;have UX:=Qy.mono s4.tk;have UY:=s4 _ _ UU;have sE:lI H4 tB:=bM rz s4;have sF:mi H4 tC:=bM rA s4;have UZ:=UL.same s4;have Wa:=s4.seq Wd;clear u1 u2 u3 u4 Li s4 n1 n2 n3 YA UT Qy UU rz rA UL Wd;have U0:(br.fN "" 0 [f0]).ok:=⟨by show 1<=11; decide,kb _ _,fun x hx=>by rw[ao.mp hx]; exact We⟩;have U1:(br.fN "" 0 [f0,f2]).ok:=⟨by show 2<=11; decide,ee.mpr ⟨fun x hx=>by rw[ao.mp hx]; exact Zi,kb _ _⟩,fun x hx=>by
   simp only[List.mem_cons,List.not_mem_nil,or_false] at hx;rcases hx with rfl|rfl
   ·exact We
   ·lia⟩
  have Zj:(br.fN "" 0 []).ok:=⟨bh _,List.Pairwise.nil,fun x hx=>by cases hx⟩;generalize e1:[f0]=l1 at NR U0;generalize e2:[f0,f2]=l2 at NR U1;clear e1 e2 We Zi;refine⟨bh _,fun pm U2=>?_⟩;have s5:=aD.new (o:= .lst []) U2;have Qz:upd H4 pm (.lst []) pm=some (.lst []):=ag;generalize upd H4 pm (.lst [])=H5 at s5 Qz;refine⟨bh _,fun pu Qt=>?_⟩;have s6:=aD.new (o:= .lst []) Qt;have QA:=s6 _ _ Qz;have QB:=s6 _ _ (s5 _ _ UY);have QC:=s5.trans s6;generalize upd H5 pu (.lst [])=H6 at s6 QA QB QC;refine⟨_,rfl,pc,cs,rfl,bA.of QB,fun pn names H7 s7 Hs Zk Tq=>?_⟩;have QD:=s7 _ _ QA;have Wf:=QC.trans s7;have Qh:pn≠pm:=fun z=>by
   rw[z,QD] at Hs;cases names with
   |nil=>exact Zk rfl
   |cons x l=>cases Hs
  refine⟨pn,rfl,⟨_,bA.of Hs⟩,?_⟩;refine fC (K:=K) (a:=pn) (xs:=names.map V.str) (fun i σ H'=> ∃(x8 x9 xK:Option V) (ws:List V) (pr:List (Str×Int)),σ=[some (.ref a),some (.ref pc),some (.ref pa),some (.ref sd),some (.int f0),some (.ref pl),some (.ref pm),some (.ref pu),x8,x9,xK,none,none,none,none]/\Frame [pm] H7 H'/\H' pm=some (.lst ws)/\eO H' (eV l1 l2 pr) ws/\pr.length=i)
   ⟨none,none,none,[],[],rfl,Frame.refl,QD,cL.mpr rfl,rfl⟩ (fun i σ H' _ ⟨_,_,_,_,_,_,f2,_⟩=>bA.of (f2 _ _ (by simpa using Qh) Hs)) ?_ ?_
  ·rintro i x σ H' hx ⟨x8,x9,xK,ws,pr,rfl,f2,HN,hM,gw⟩;rw[aB] at hx;obtain⟨aH,hw,rfl⟩:=bo.mp hx;have hi:i < names.length:=(ak.mp hw).1;have UH:aD H4 H':=fun b o e=>f2 _ _ (by simpa using aJ e U2) (Wf _ _ e);have E3:=eO.length hM;rw[hZ] at E3;refine⟨_,rfl,a,ns,0,rfl,UH.seq Wa,fun i0=>⟨_,_,rfl,rfl,(by show(0:Int) < 35; decide),_,_,rfl,rfl,?_⟩⟩;dsimp only;generalize i0 % 35 - 5=day;refine⟨_,rfl,.inl ⟨rfl,_,bA.of HN⟩,_,rfl,_,rfl,(by show 3<=sizeLine; decide),fun p8 n8=>?_⟩;have u8:=aD.new (o:= .tup [V.str "owed",.str aH,.int day]) n8;refine⟨pm,ws,_,rfl,rfl,u8 _ _ HN,a9 (by lia),?_⟩;have tk:=u8.tk.trans (dN (o:= .lst (ws ++ [V.ref p8])) (u8 _ _ HN));have h8:(upd (upd H' p8 (.tup [V.str "owed",.str aH,.int day])) pm (.lst (ws ++ [V.ref p8]))) p8=some (.tup [V.str "owed",.str aH,.int day]):=dN (u8 _ _ HN) _ _ ag;have f3:Frame [pm] H7 (upd (upd H' p8 (.tup [V.str "owed",.str aH,.int day])) pm (.lst (ws ++ [V.ref p8]))):=(f2.cU u8).tr (Frame.upd (by simp));have U3:(upd (upd H' p8 (.tup [V.str "owed",.str aH,.int day])) pm (.lst (ws ++ [V.ref p8]))) pm=some (.lst (ws ++ [V.ref p8])):=ag;have MP:eO (upd (upd H' p8 (.tup [V.str "owed",.str aH,.int day])) pm (.lst (ws ++ [V.ref p8]))) (eV l1 l2 pr ++ [.ask true aH day]) (ws ++ [V.ref p8]):=by
    have e1:Rp (upd (upd H' p8 (.tup [V.str "owed",.str aH,.int day])) pm (.lst (ws ++ [V.ref p8]))) (br.dt (.ask true aH day)) (.ref p8):=eA h8 (bC.mpr ⟨_,_,rfl,fG.mpr rfl,bC.mpr ⟨_,_,rfl,fG.mpr rfl,bC.mpr ⟨_,_,rfl,di.mpr rfl,cL.mpr rfl⟩⟩⟩);exact(hM.mono tk).snoc e1
   generalize (upd (upd H' p8 (.tup [V.str "owed",.str aH,.int day])) pm (.lst (ws ++ [V.ref p8])))=H8 at f3 U3 MP;clear u8 tk h8 n8 UH HN hM f2;have Rl: ∀{b:Addr} {o:HO},H4 b=some o-> ∀{r9:Hp},Frame [pm] H7 r9->r9 b=some o:=fun{b o} e {r9} f4=>f4 _ _ (by simpa using aJ e U2) (Wf _ _ e);refine⟨_,rfl,pl,rfl,⟨_,bA.of (Rl Nf f3)⟩,?_⟩;refine fC (K:=K) (a:=pl) (xs:=[(q1,l1),(q2,l2),(q3,[])].map fun x=>V.ref x.1) (fun j σ r9=> ∃(xK:Option V) (ws:List V),σ=[some (.ref a),some (.ref pc),some (.ref pa),some (.ref sd),some (.int f0),some (.ref pl),some (.ref pm),some (.ref pu),some (.str aH),some (.int day),xK,none,none,none,none]/\Frame [pm] H7 r9/\r9 pm=some (.lst ws)/\eO r9 (eV l1 l2 pr ++ [.ask true aH day] ++ (([(q1,l1),(q2,l2),(q3,[])]:List (Addr×List Int)).take j).map fun x=>br.fN aH day x.2) ws)
    ⟨_,_,rfl,f3,U3,by simpa using MP⟩ (fun j σ r9 _ ⟨_,_,_,f4,_⟩=>bA.of (Rl Nf f4)) ?_ ?_
   ·rintro j x σ r9 hx2 ⟨Zl,QE,rfl,f4,Ih,nR⟩;rw[aB] at hx2;obtain⟨⟨ql,lq⟩,O1,rfl⟩:=bo.mp hx2;have hj:j < 3:=(ak.mp O1).1;have Yd:=Rl (NR _ (fq O1)) f4;have Zm:([(q1,l1),(q2,l2),(q3,[])]:List (Addr×List Int)).take (j + 1)=([(q1,l1),(q2,l2),(q3,[])]:List (Addr×List Int)).take j ++ [(ql,lq)]:=by rw[jm (show j < ([(q1,l1),(q2,l2),(q3,[])]:List (Addr×List Int)).length from hj),(ak.mp O1).2]
    have ad1:QE.length<=100:=by
     have h5:=eO.length nR;rw[aC,aC,hZ,ae,bf] at h5;have e2:[br.ask true aH day].length=1:=rfl;lia
    refine⟨_,rfl,.inl ⟨rfl,_,bA.of Ih⟩,_,rfl,_,rfl,_,rfl,(by show 4<=sizeLine; decide),fun p9 n9=>?_⟩;have u9:=aD.new (o:= .tup [V.str "ages",.str aH,.int day,.ref ql]) n9;refine⟨pm,QE,_,rfl,rfl,u9 _ _ Ih,a9 (by lia),?_⟩;have tk:=u9.tk.trans (dN (o:= .lst (QE ++ [V.ref p9])) (u9 _ _ Ih));refine⟨_,QE ++ [.ref p9],rfl,(f4.cU u9).tr (Frame.upd (by simp)),ag,?_⟩;rw[Zm,aK,← eG];have e1:Rp _ (br.dt (.fN aH day lq)) (.ref p9):=eA (dN (o:= .lst (QE ++ [V.ref p9])) (u9 _ _ Ih) _ _ ag) (bC.mpr ⟨_,_,rfl,fG.mpr rfl,bC.mpr ⟨_,_,rfl,fG.mpr rfl,bC.mpr ⟨_,_,rfl,di.mpr rfl,bC.mpr ⟨_,_,rfl,eA (tk _ _ Yd) (vV lq),cL.mpr rfl⟩⟩⟩⟩);exact(nR.mono tk).snoc e1
   ·rintro σ r9 ⟨Zl,QE,rfl,f4,Ih,nR⟩;refine⟨_,_,_,QE,pr ++ [(aH,day)],rfl,f4,Ih,?_,by rw[aC,gw]; rfl⟩;rw[EG];rw[eG] at nR;exact nR
  rintro σ H8 ⟨x8,x9,xK,mw,pr,rfl,f8,HN,hM,gw⟩;rw[ae] at gw;have Rz:aD H4 H8:=fun b o e=>f8 _ _ (by simpa using aJ e U2) (Wf _ _ e);have QF:=Rz _ _ UW;have U4:=UX.mono Rz.tk;have QG:lI H8 tB:=bM sE Rz;have QH:mi H8 tC:=bM sF Rz;have U5:=UZ.same Rz;have Zn:=eO.length hM;rw[hZ] at Zn;clear s5 Qz s6 QA QB QC s7 QD Wf f8 Rz Hs UY Nf NR UW UX sE sF UZ Wa U2 Qt;refine⟨_,rfl,_,rfl,pa,pm,ms,mw,rfl,rfl,QF,HN,?_,fun ph nh=>?_⟩
  ·refine dr (a9 ?_);lia
  have u9:=aD.new (o:= .lst (ms ++ mw)) nh;have hda:eO (upd H8 ph (.lst (ms ++ mw))) (ds ++ eV l1 l2 pr) (ms ++ mw):=by
   unfold eO;rw[aK];exact g6.append (U4.mono u9.tk) (hM.mono u9.tk)
  have wz: ∀d∈eV l1 l2 pr,((∃o w y,d= .ask o w y)∨ ∃w y l,d= .fN w y l)/\d.ok:=fun d hd=>by
   obtain⟨w',y',z⟩:=Ie hd;rcases z with rfl|rfl|rfl|rfl
   ·exact⟨.inl ⟨_,_,_,rfl⟩,trivial⟩
   ·exact⟨.inr ⟨_,_,_,rfl⟩,U0⟩
   ·exact⟨.inr ⟨_,_,_,rfl⟩,U1⟩
   ·exact⟨.inr ⟨_,_,_,rfl⟩,Zj⟩
  refine⟨ph,ds ++ eV l1 l2 pr,ms ++ mw,rfl,ag,hda,?_,?_,bM QG u9,bM QH u9,fun pt vs PD F10 U6 U7 nt wB hA=>?_⟩
  ·rw[aC,hZ];lia
  ·intro d hd;rcases bq.mp hd with hd|hd
   ·exact cq d hd
   ·exact(wz d hd).2
  have NQ: ∀t∈[tB,tC],∃ps,(upd H8 ph (.lst (ms ++ mw))) t=some (.mL ps):=fun t z=>by
   simp only[List.mem_cons,List.not_mem_nil,or_false] at z;rcases z with rfl|rfl
   ·exact cY (bM QG u9)
   ·exact cY (bM QH u9)
  have kk: ∀a o,H8 a=some o->(∀ps,o≠ .mL ps)->PD a=some o:=fun a o e n=>yO F10 NQ (u9 _ _ e) n;have KW:=kk _ _ QF (fun _ z=>by cases z);have C7:=kk _ _ HN (fun _ z=>by cases z);have U8:=hM.mono (fun b xs e=>kk _ _ e (fun _ z=>by cases z));have FZ:=Qw U5 kk;rw[tJ] at hA;obtain⟨_,xF⟩:=yT (eV l1 l2 pr) (dM ds gS.new 0).2 (0 + ds.length) (fun d hd=>(wz d hd).1);have NF:=kz ds gS.new 0;have Vn:=kz (eV l1 l2 pr) (dM ds gS.new 0).2 (0 + ds.length);have hvl:=aL hA;dsimp only at hvl;rw[aC,NF,Vn,hZ] at hvl;have wf:=hG.wf (by lia:ds.length<=60);have hrp:Rp PD (.lst (((dM ds gS.new 0).1 ++ (dM (eV l1 l2 pr) (dM ds gS.new 0).2 (0 + ds.length)).1).map Dc.dt)) (.ref pt):=jt wB (Na hA);refine⟨_,rfl,_,_,_,true,rfl,hrp.ty,E6 (.lst _),_,rfl,bT ?_⟩;refine⟨_,rfl,pt,_,rfl,.inl (bA.of wB),_,rfl,pa,_,rfl,.inl (bA.of KW),_,rfl,pm,_,rfl,.inl (bA.of C7),_,_,rfl,rfl,rfl,_,rfl,ck (fun z=>?_) (fun _=>?_)⟩
  ·exfalso;have e:(vs.length:Int)=(ms.length:Int) + (mw.length:Int):=by lia
   simp[e] at z
  have Ep:=nH ds.length hA;rw[List.drop_append_of_le_length (by lia),List.drop_of_length_le (by lia),List.nil_append] at Ep;have U9:(dM (eV l1 l2 pr) (dM ds gS.new 0).2 (0 + ds.length)).1=(eV l1 l2 pr).map fun d=>(cE (dM ds gS.new 0).2 0 d).1:=by
   apply Ge;intro i;rw[aB];cases c:(eV l1 l2 pr)[i]? with
   |none=>
    rw[Option.map_none];exact lP (by rw[Vn]; exact jg.mp c)
   |some d=>exact xF i d c
  rw[U9] at Ep;generalize hTT:(dM ds gS.new 0).2=TT at Ep FZ wf;clear hA hrp xF U9 kk NQ u9 hda F10 U6 U7 QG QH QF HN U5 U4 hM nt nh NF Vn;refine⟨_,rfl,pm,rfl,⟨_,bA.of C7⟩,?_⟩;refine dJ (K:=K) (a:=pm) (xs:=mw) (fun D i σ H'=>PD D=none/\ ∃(v:Option V) (us:List V),σ=[v,some (.ref sd)]/\aD PD H'/\H' D=some (.lst us)/\Paired (jV H' (fun b=>b≠D)) (((eV l1 l2 pr).take i).map fun d=>(cE TT 0 d).1) us) (fun D hD=>⟨hD,none,[],rfl,aD.new hD,ag,.nil⟩) (fun D i σ H' _ ⟨_,_,_,_,t3,_⟩=>bA.of (t3 _ _ C7)) ?_ ?_
  ·rintro D i x σ H' hx ⟨hD,v,Al,rfl,t3,FL,hU⟩;have hi:i < (eV l1 l2 pr).length:=by rw[hZ]; have:=(ak.mp hx).1; lia
   obtain⟨v0,QX,P6⟩:=eO.get U8 (af hi);rw[hx] at QX;obtain rfl:x=v0:=aF QX;obtain⟨pd,rfl,Q9⟩:=AJ P6;have hd:=Q9.mono t3.tk;obtain⟨hdk,V8⟩:=wz _ (bG hi);have lO:=jm hi;have hil:i < mw.length:=(ak.mp hx).1;have hul:=aL hU;rw[ae,bf] at hul;generalize (eV l1 l2 pr)[i]=d at hd hdk V8 lO;have fin: ∀(v:V) (H4:Hp),aD H' H4->jV H4 (fun b=>H' b=none) (cE TT 0 d).1 v-> ∃ys,H4 D=some (.lst ys)/\ys.length < sizeLine/\PD D=none/\ ∃(w:Option V) (us:List V),[some (V.ref pd),some (.ref sd)]=[w,some (.ref sd)]/\aD PD (upd H4 D (.lst (ys ++ [v])))/\(upd H4 D (.lst (ys ++ [v]))) D=some (.lst us)/\Paired (jV (upd H4 D (.lst (ys ++ [v]))) (fun b=>b≠D)) (((eV l1 l2 pr).take (i + 1)).map fun d=>(cE TT 0 d).1) us:=fun v H4 t4 hv=>by
    have Zo:=t4 _ _ FL;refine⟨Al,Zo,a9 (by lia),hD,_,Al ++ [v],rfl,(t3.trans t4).cG hD,ag,?_⟩;rw[lO,aK];refine cy (Paired.gI hU fun _ _ q=>q.keep (fun b xs ok e=>⟨ok,by rw[az ok]; exact t4 _ _ e⟩) (t4.tk.trans (dN Zo))) (hv.keep (fun b xs ok e=>?_) (dN Zo));have nb:b≠D:=fun z=>by rw[z,FL] at ok; cases ok
    exact⟨nb,by rw[az nb]; exact e⟩
   rcases hdk with⟨o,w',y',rfl⟩|⟨w',y',l',rfl⟩
   ·exact⟨_,rfl,_,rfl,sd,pd,TT.bk,g,_,rfl,FZ.same t3,wf,(by lia),.inl ⟨o,w',y',hd,fun v H4 t4 hv=>fin v H4 t4 hv⟩⟩
   ·obtain⟨pq,h6,h7⟩:=hd;exact⟨_,rfl,_,rfl,sd,pd,TT.bk,g,_,rfl,FZ.same t3,wf,(by lia),.inr ⟨w',y',l',pq,h6,h7,V8.1,fun v H4 t4 hv=>fin v H4 t4 hv⟩⟩
  rintro pD σ NU npD ⟨_,v11,ad4,rfl,Lj,Lh,hU⟩;rw[List.take_of_length_le (by rw[hZ]; lia)] at hU;have NX:=Lj _ _ wB;have Va:=Paired.gI Ep fun _ _ q=>jV.keep (Rc:=fun _=>True) q (fun b xs ok e=>⟨trivial,Lj _ _ e⟩) Lj.tk;refine⟨_,rfl,_,rfl,pa,_,rfl,.inl (bA.of (Lj _ _ KW)),_,rfl,pt,_,rfl,bA.of NX,fun pf MU=>?_⟩;rw[show((ms.length:Nat):Int)=((ds.length:Nat):Int) by lia,yC vs ds.length (by lia)] at *;have NY:=aD.new (o:= .lst (vs.drop ds.length)) MU;have FH:upd NU pf (.lst (vs.drop ds.length)) pf=some (.lst (vs.drop ds.length)):=ag;have KY:=Paired.gI Va fun _ _ q=>jV.keep (Rc:=fun _=>True) q (fun b xs ok e=>⟨trivial,NY _ _ e⟩) NY.tk;have QI:=Paired.gI hU fun _ _ q=>jV.keep (Rc:=fun _=>True) q (fun b xs ok e=>⟨trivial,NY _ _ e⟩) NY.tk;have KZ:=NY _ _ Lh;have K0:=NY _ _ (Lj _ _ C7);generalize upd NU pf (.lst (vs.drop ds.length))=H12 at NY FH KY QI KZ K0;generalize vs.drop ds.length=fw at FH KY;clear Ep Va hU Lh NX wB KW C7 FZ U8 Lj NY MU npD;have hsz:(Dt.lst (((eV l1 l2 pr).map fun d=>(cE TT 0 d).1).map Dc.dt)).size<=100000/\(Dt.lst (((eV l1 l2 pr).map fun d=>(cE TT 0 d).1).map Dc.dt)).plain=true:=by
   rw[eu];have h1:=oo (Dc.dt ∘ fun d=>(cE TT 0 d).1) 200 (eV l1 l2 pr) fun d hd=>(C5 wf (by lia) (wz d hd).1 (wz d hd).2).1;rw[hZ] at h1;refine⟨?_,qd _ _ fun d hd=>(C5 wf (by lia) (wz d hd).1 (wz d hd).2).2⟩;show 1 + Dt.fF _<=100000;lia
  refine⟨_,rfl,_,rfl,_,.ref pf,.ref pD,rfl,jt FH (Na KY),jt KZ (Na QI),hsz.1,hsz.2,fun Vb Vc=>⟨_,rfl,bT ?_⟩⟩;have NZ:=Vc _ _ FH;have Zp:=Paired.gI KY fun _ _ q=>jV.keep (Rc:=fun _=>True) q (fun b xs ok e=>⟨trivial,Vc _ _ e⟩) Vc.tk;have Vd:=Vc _ _ K0;clear FH KY QI KZ K0 Vc hsz;refine⟨_,rfl,pm,_,rfl,.inl (bA.of Vd),pr.length,?_,(by lia),?_⟩
  ·rw[show((mw.length:Nat):Int)=4 * ((pr.length:Nat):Int) by lia]
  refine EE (fun i σ H'=> ∃(EC HZ Dj:Option V),σ=[some (.ref a),some (.ref pc),some (.ref pa),some (.ref sd),some (.int f0),some (.ref pl),some (.ref pm),some (.ref pD),x8,x9,xK,some (.ref pf),EC,HZ,Dj]/\aD Vb H') ⟨_,_,_,rfl,aD.refl _⟩ ?_ ?_
  ·rintro i σ H' hi ⟨EC,HZ,Dj,rfl,t1⟩;have hgk:=af hi;have got: ∀(j:Nat) (d:br),(wy l1 l2 pr[i])[j]? =some d-> ∃v,fw[4 * i + j]? =some v/\jV Vb (fun _=>True) (cE TT 0 d).1 v:=fun j d hj=>by
    have h1:=yV hgk j d hj;exact bI Zp (by rw[aB,h1]; rfl)
   generalize pr[i]=y at got;obtain⟨aH,day⟩:=y;obtain⟨v0,g0,D0,m0,rfl,_,z0,p0⟩:=got 0 _ rfl;have p0:iC Vb (TT.bk.fj true aH day) m0:=p0;have V6:=aL p0;have UI:(TT.bk.fj true aH day).length<=TT.bk.aI.length:=yF (S:=TT.bk) (aR:=true);have hlb:=wf.lb;have z0':=t1 _ _ z0;refine⟨_,rfl,_,rfl,pf,_,_,.ref D0,rfl,rfl,bA.of (t1 _ _ NZ),(by rw[show 4 * ((i:Nat):Int)=((4 * i + 0:Nat):Int) by lia]; exact cw g0),D0,rfl,⟨_,bA.of z0'⟩,?_⟩;refine dJ (K:=K) (a:=D0) (xs:=m0) (fun D j σ Wg=>H' D=none/\ ∃v,σ=[v]/\aD H' Wg/\Wg D=some (.lst ((((TT.bk.fj true aH day).take j).map (·.2)).map V.int))) (fun D hD=>⟨hD,none,rfl,aD.new hD,ag⟩) (fun D j σ Wg _ ⟨_,_,_,t3,_⟩=>bA.of (t3 _ _ z0')) ?_ ?_
   ·rintro D j x σ Wg hx ⟨hD,v,rfl,t3,f7⟩;have hj:j < (TT.bk.fj true aH day).length:=by have:=(ak.mp hx).1; lia
    obtain⟨v2,VF,q,rfl,hq⟩:=bI p0 (af hj);rw[hx] at VF;obtain rfl:x= .ref q:=aF VF;have lO:=jm hj;generalize (TT.bk.fj true aH day)[j]=y at hq lO;refine⟨_,rfl,q,_,_,.int y.2,rfl,rfl,cf.of (t3 _ _ (t1 _ _ hq)),rfl,_,f7,a9 (by rw[ae,ae,bf]; lia),hD,_,rfl,t3.cG hD,?_⟩;rw[ag,lO,aK,aK];rfl
   rintro Ds σ HD nDs ⟨_,vD,rfl,tD,Ve⟩;rw[← V6,a7] at Ve;refine⟨Ds,_,rfl,bA.of Ve,?_⟩;have t2:=t1.trans tD;have Ra: ∀j:Nat,j < 3-> ∃(D:Addr) (ls:List Int),fw[4 * i + (1 + j)]? =some (.ref D)/\Vb D=some (.lst (ls.map V.int))/\ls.sum=((TT.bk.fj true aH day).map (·.2)).sum:=fun j hj=>by
    obtain rfl|rfl|rfl:j=0∨j=1∨j=2:=by lia
    ·obtain⟨v,g1,D,rfl,_,zD⟩:=got 1 _ rfl;exact⟨D,_,g1,zD,wx _ _ _ _⟩
    ·obtain⟨v,g1,D,rfl,_,zD⟩:=got 2 _ rfl;exact⟨D,_,g1,zD,wx _ _ _ _⟩
    ·obtain⟨v,g1,D,rfl,_,zD⟩:=got 3 _ rfl;exact⟨D,_,g1,zD,wx _ _ _ _⟩
   generalize ((TT.bk.fj true aH day).map (·.2)).sum=total at Ra;refine⟨1,4,rfl,⟨by decide,by decide,by decide,by decide⟩,?_⟩;refine iR (lo:=1) (n:=3) (fun j σ r9=> ∃(Dj:Option V),σ=[some (.ref a),some (.ref pc),some (.ref pa),some (.ref sd),some (.int f0),some (.ref pl),some (.ref pm),some (.ref pD),x8,x9,xK,some (.ref pf),some (.int (4 * (i:Int))),some (.int total),Dj]/\aD Vb r9) ⟨_,rfl,t2⟩ ?_ ?_
   ·rintro j σ r9 hj ⟨Zq,rfl,t4⟩;obtain⟨D,ls,g1,zD,Zr⟩:=Ra j hj;refine⟨_,rfl,_,rfl,_,rfl,_,_,rfl,rfl,pf,_,_,.ref D,rfl,rfl,bA.of (t4 _ _ NZ),(by rw[show 4 * ((i:Nat):Int) + (1 + (j:Int))=((4 * i + (1 + j):Nat):Int) by lia]; exact cw g1),D,ls,rfl,bA.of (t4 _ _ zD),_,rfl,rfl,_,rfl,ck (fun z=>?_) (fun _=>⟨_,rfl,t4⟩)⟩;exfalso;rw[Bool.not_eq_true',decide_eq_false_iff_not] at z;exact z (cJ V.int Zr)
   ·rintro σ r9 ⟨Zq,rfl,t4⟩;exact⟨_,_,_,rfl,t4⟩
  ·rintro σ H' ⟨EC,HZ,Dj,rfl,_⟩;exact k H'
section
variable {h:Heap}{x q:Str}{st:Stmt}{f C R:Addr}{oc kV dc pm cd ct:Value}{od an:Option Addr}{sl:Array (Option Value)}
abbrev N0 (K:Frag)(f:Addr)(x q:Str)(st:Stmt)(oc:Value)(od an:Option Addr)(kV dc pm cd ct:Value)(sl:Array (Option Value)):Prop:=K.lookup f=some ⟨oc,od,.func (fnOf x q (gz st) (dz st) (ay st) .none kV dc pm an cd ct),sl⟩
def cI (X:K.In h)(G:h.Ns mainGlobals mg)(a:nsIn K mainGlobals x=some (some (.ref f)))(l:N0 K f x x st oc od an kV dc pm cd ct sl)(c:codeIn K cd x=true)(k:keepIn K (.ref f)=true):Df K mg x st:=⟨_,_,pH l c k,c8 X G a⟩
def lL (a:findIn K (.ref C) x=some (some (.ref f)))(i:PySem.W.isFn K (.ref f)=true)(l:N0 K f x q st oc od an kV dc pm cd ct sl)(c:codeIn K cd q=true)(k:keepIn K (.ref f)=true): ∃f fd,gf K x q st f fd/\Meth K C x f:=⟨_,_,pH l c k,a,i,k⟩
def F6 (a:findIn K (.ref C) "__init__"=some (some (.ref f)))(i:PySem.W.isFn K (.ref f)=true)(l:N0 K f "__init__" q st oc od an kV dc pm cd ct sl)(c:codeIn K cd q=true)(k:keepIn K (.ref f)=true)(m:makesIn K C=true)(kc:keepIn K (.ref C)=true): ∃f fd,gf K "__init__" q st f fd/\Mk K C f:=⟨_,_,pH l c k,m,a,i,kc⟩
def tK (a:findIn K (.ref C) "__init__"=some (some (.ref f)))(t:typeIn K (.ref f)=some (.type "function"))(l:N0 K f "__init__" q st oc od an kV dc pm cd ct sl)(c:codeIn K cd q=true)(k:keepIn K (.ref f)=true): ∃f fd,gf K "__init__" q st f fd/\findIn K (.ref C) "__init__"=some (some (.ref f))/\typeIn K (.ref f)=some (.type "function"):=⟨_,_,pH l c k,a,t⟩
def QJ (r:readsIn K C (.type "type")=true)(s:specialIn K (.ref C) "__getattribute__"=some (some (.builtin "type.__getattribute__")))(a:findCls K (.ref C) (.type "type") "__init__"=some (.val (.ref f)))(l:N0 K f "__init__" q st oc od an kV dc pm cd ct sl)(c:codeIn K cd q=true)(k:keepIn K (.ref f)=true): ∃f fd,gf K "__init__" q st f fd/\Fm K C f:=⟨_,_,pH l c k,r,s,a,k⟩
def tL {nm:Str}{N:Addr}{bs:List Value}{sn:List Str}{sub:List Value}{ab:Bool}{col:Option Bool}{dd:Option Addr}{k0 k1 k2 k3 k5:Option Value}(o:K.lookup C=some (excClassObj nm q C N bs [.ref R,.type "Exception",.type "BaseException",.type "object"] true sn sub ab col dd k0 k1 k2 k3 k5 "Exception.__new__"))
  (a:findIn K (.ref C) "__setattr__"=some (some (.builtin "object.__setattr__"))) (b:findIn K (.ref C) "__getattribute__"=some (some (.builtin "BaseException.__getattribute__"))) (c:findIn K (.ref C) "__getattr__"=some none) (d:findIn K (.ref C) "text"=some none):gO K C R:=⟨⟨_,_,_,_,_,_,_,_,_,_,_,_,_,_,_,o,.inr rfl⟩,a,b,c,d⟩
def QK {nm:Str}{N:Addr}{bs:List Value}{sn:List Str}{sub:List Value}{ab:Bool}{col:Option Bool}{dd:Option Addr}{k0 k1 k2 k3 k5:Option Value}(o:K.lookup C=some (excClassObj nm q C N bs [.type "Exception",.type "BaseException",.type "object"] true sn sub ab col dd k0 k1 k2 k3 k5 "Exception.__new__"))
  (a:findIn K (.ref C) "__setattr__"=some (some (.builtin "object.__setattr__"))) (b:findIn K (.ref C) "__getattribute__"=some (some (.builtin "BaseException.__getattribute__"))) (c:findIn K (.ref C) "__getattr__"=some none) (d:findIn K (.ref C) "text"=some none):gO K C C:=⟨⟨_,_,_,_,_,_,_,_,_,_,_,_,_,_,_,o,.inl ⟨rfl,rfl⟩⟩,a,b,c,d⟩
def N1 {c tb:Addr}(X:K.In h)(G:h.Ns mainGlobals mg)(a:nsIn K mainGlobals x=some (some (.ref f)))(l:N0 K f x x st oc od an kV dc pm (.ref c) ct sl)(cd:codeIn K (.ref c) x=true)(k:keepIn K (.ref f)=true)(hd:codeHdIn K c tb=true)(n:K.lookup tb=none):qm K mg x st tb/\ ∃c,codeHdIn K c tb=true/\K.lookup tb=none:=⟨⟨f,c,oc,od,kV,dc,pm,an,ct,sl,l,cd,k,c8 X G a,hd⟩,c,hd,n⟩
end
end
def QL {K:Frag}{mg:Str->Option Value}{mm iD fQ mq eo jZ nW je j7 j8 lM jf nX:Addr}(h1:mg "Refusal"=some (.ref eo))(h2:gO K eo eo)(h3:keepIn K (.ref eo)=true)(h4: ∃f fd,gf K "__init__" "Refusal.__init__" (mem 3 0) f fd/\Fm K eo f)(h5:mg "NoCredit"=some (.ref jZ))(h6:gO K jZ eo)(h7:keepIn K (.ref jZ)=true)(h8: ∃f fd,gf K "__init__" "NoCredit.__init__" (mem 4 0) f fd/\findIn K (.ref jZ) "__init__"=some (some (.ref f))/\typeIn K (.ref f)=some (.type "function"))(h9:mg "NoBill"=some (.ref nW))(K6:gO K nW eo)(Xm:keepIn K (.ref nW)=true)(QU: ∃f fd,gf K "__init__" "NoBill.__init__" (mem 5 0) f fd/\findIn K (.ref nW) "__init__"=some (some (.ref f))/\typeIn K (.ref f)=some (.type "function"))(h13:mg "NotTheirs"=some (.ref je))(h14:gO K je eo)(WY:keepIn K (.ref je)=true)(h16: ∃f fd,gf K "__init__" "NotTheirs.__init__" (mem 6 0) f fd/\findIn K (.ref je) "__init__"=some (some (.ref f))/\typeIn K (.ref f)=some (.type "function"))(h17:mg "NoAmount"=some (.ref j7))(h18:gO K j7 eo)(h19:keepIn K (.ref j7)=true)(h20: ∃f fd,gf K "__init__" "NoAmount.__init__" (mem 7 0) f fd/\findIn K (.ref j7) "__init__"=some (some (.ref f))/\typeIn K (.ref f)=some (.type "function"))(h21:mg "TooEarly"=some (.ref j8))(h22:gO K j8 eo)(h23:keepIn K (.ref j8)=true)(XU: ∃f fd,gf K "__init__" "TooEarly.__init__" (mem 8 0) f fd/\findIn K (.ref j8) "__init__"=some (some (.ref f))/\typeIn K (.ref f)=some (.type "function"))(h25:mg "TooMuch"=some (.ref lM))(h26:gO K lM eo)(h27:keepIn K (.ref lM)=true)(h28: ∃f fd,gf K "__init__" "TooMuch.__init__" (mem 9 0) f fd/\findIn K (.ref lM) "__init__"=some (some (.ref f))/\typeIn K (.ref f)=some (.type "function"))(h29:mg "NoSetting"=some (.ref jf))(h30:gO K jf eo)(h31:keepIn K (.ref jf)=true)(h32: ∃f fd,gf K "__init__" "NoSetting.__init__" (mem 10 0) f fd/\findIn K (.ref jf) "__init__"=some (some (.ref f))/\typeIn K (.ref f)=some (.type "function"))(h33:mg "Needed"=some (.ref nX))(XW:gO K nX eo)(h35:keepIn K (.ref nX)=true)(h36: ∃f fd,gf K "__init__" "Needed.__init__" (mem 11 0) f fd/\findIn K (.ref nX) "__init__"=some (some (.ref f))/\typeIn K (.ref f)=some (.type "function"))(h37:mg "Bill"=some (.ref mm))(h38:wL K mm)(h39:bZ K mm "number")(h40:bZ K mm "who")(h41:bZ K mm "day")(h42:bZ K mm "due")(h43:bZ K mm "amount")(h44: ∃f fd,gf K "__init__" "Bill.__init__" (mem 13 0) f fd/\Mk K mm f)(h45:mg "Credit"=some (.ref iD))(h46:wL K iD)(h47:bZ K iD "number")(h48:bZ K iD "who")(h49:bZ K iD "day")(h50:bZ K iD "amount")(h51:bZ K iD "only")(h52: ∃f fd,gf K "__init__" "Credit.__init__" (mem 14 0) f fd/\Mk K iD f)(h53:mg "Work"=some (.ref fQ))(XX:wL K fQ)(h55:bZ K fQ "bills")(h56:bZ K fQ "all_credits")(h57:bZ K fQ "lefts")(h58:bZ K fQ "frees")(h59:bZ K fQ "made")(h60: ∃f fd,gf K "__init__" "Work.__init__" (mem 25 0) f fd/\Mk K fQ f)(h61: ∃f fd,gf K "tell_bill" "Work.tell_bill" (mem 25 1) f fd/\Meth K fQ "tell_bill" f)(h62: ∃f fd,gf K "tell_payment" "Work.tell_payment" (mem 25 2) f fd/\Meth K fQ "tell_payment" f)(h63: ∃f fd,gf K "tell_note" "Work.tell_note" (mem 25 3) f fd/\Meth K fQ "tell_note" f)(C9: ∃f fd,gf K "tell_credit" "Work.tell_credit" (mem 25 4) f fd/\Meth K fQ "tell_credit" f)(h65: ∃f fd,gf K "set_by_hand" "Work.set_by_hand" (mem 25 5) f fd/\Meth K fQ "set_by_hand" f)(h66: ∃f fd,gf K "sweep" "Work.sweep" (mem 25 6) f fd/\Meth K fQ "sweep" f)(h67: ∃f fd,gf K "one_round" "Work.one_round" (mem 25 7) f fd/\Meth K fQ "one_round" f)(h68: ∃f fd,gf K "put" "Work.put" (mem 25 8) f fd/\Meth K fQ "put" f)(h69: ∃f fd,gf K "credit_at" "Work.credit_at" (mem 25 9) f fd/\Meth K fQ "credit_at" f)(h70: ∃f fd,gf K "bill_at" "Work.bill_at" (mem 25 10) f fd/\Meth K fQ "bill_at" f)(h71:mg "Book"=some (.ref mq))(h72:wL K mq)(h73:bZ K mq "kept")(h74:bZ K mq "work")(h75: ∃f fd,gf K "__init__" "Book.__init__" (mem 29 0) f fd/\Mk K mq f)(h76: ∃f fd,gf K "do" "Book.do" (mem 29 1) f fd/\Meth K mq "do" f)(h77: ∃f fd,gf K "undo" "Book.undo" (mem 29 2) f fd/\Meth K mq "undo" f)(h78: ∃f fd,gf K "in_force" "Book.in_force" (mem 29 3) f fd/\Meth K mq "in_force" f):jv K mg ⟨mm,iD,fQ,mq,eo,jZ,nW,je,j7,j8,lM,jf,nX⟩:=⟨h1,h2,h3,h4,h5,h6,h7,h8,h9,K6,Xm,QU,h13,h14,WY,h16,h17,h18,h19,h20,h21,h22,h23,XU,h25,h26,h27,h28,h29,h30,h31,h32,h33,XW,h35,h36,h37,h38,h39,h40,h41,h42,h43,h44,h45,h46,h47,h48,h49,h50,h51,h52,h53,XX,h55,h56,h57,h58,h59,h60,h61,h62,h63,C9,h65,h66,h67,h68,h69,h70,h71,h72,h73,h74,h75,h76,h77,h78⟩
def all_mk {l:PySem.W.OpenLaw}{w:World}{K:Frag}{h:Heap}{mg:Str->Option Value}{f fa:Addr}{oc kV dc pm cd ct:Value}{od an:Option Addr}{sl:Array (Option Value)}(X:K.In h)(G:h.Ns mainGlobals mg)(hfa:mg "law"=some (.ref fa)){A:dU}(GP:jv K mg A)(hnd:A.iU≠A.tooMuch)(T:Txt K mg)(DB:qm K mg "bills_in_order" (top 17) 249/\ ∃c,codeHdIn K c 249=true/\K.lookup 249=none)(DC:qm K mg "credits_in_order" (top 18) 254/\ ∃c,codeHdIn K c 254=true/\K.lookup 254=none)(a:nsIn K mainGlobals "law"=some (some (.ref f)))(lk:N0 K f "law" "law" (top 68) oc od an kV dc pm cd ct sl)(c:codeIn K cd "law"=true)(k:keepIn K (.ref f)=true):
  ∃(fd:FuncData) (cps:List (Addr×Addr)),(∀cp∈cps,cp.2∈[254,249])/\(∀cp∈cps,codeHdIn K cp.1 cp.2=true/\K.lookup cp.2=none)/\(∀(s:Shared) (u:Value),BindsTo s fd ⟨[u],[]⟩ [("_law_script",u)])/\
   ∀base:Heap,K.In base->base.Ns mainGlobals mg->BMain mg base->lV l.prog w K mg base rZ 13 fa fd ["_law_script"] (KP K cps):=by
 have e:=hfa.symm.trans (c8 X G a);cases e;obtain⟨DB,cb,b1,b2⟩:=DB;obtain⟨DC,cc,c1,c2⟩:=DC;refine⟨_,[(cb,249),(cc,254)],fun cp hc=>?_,fun cp hc=>?_,fun s v=> .of_eq rfl,fun base KB _ BM=>Qx (pH (st:=top 68) lk c k) T GP DB DC (by decide) hnd KB BM ⟨cb,by simp⟩ ⟨cc,by simp⟩⟩
 ·simp only[List.mem_cons,List.not_mem_nil,or_false] at hc;rcases hc with rfl|rfl <;> simp
 ·simp only[List.mem_cons,List.not_mem_nil,or_false] at hc;rcases hc with rfl|rfl
  ·exact⟨b1,b2⟩
  ·exact⟨c1,c2⟩
end eB
open PySem PySem.W PyProof.Rows L2
set_option maxRecDepth 100000 in
set_option maxHeartbeats 0 in
theorem PySem.Challenge.cw_spikebook_k09_ages_holds : PySem.Challenge.rw_spikebook_k09_ages.Holds := by
 w_on; o_law; k_head; (case hw=>w_witness2)
 k_fill
 refine L2.JH (n:=63) (k:=13) (ts:=[254,249]) (x:="_law_script") (sp:=fun K cps=>eB.KP K cps) rfl (by decide) rfl ⟨rfl,by decide,by decide⟩ (fun w h Y=>⟨PySem.W.km_in_of Y,PySem.W.km_tabs_of Y⟩) ?F (fun _ cps _ a ns hl hO hS=>⟨a,ns,rfl,hS,hl,hO,fun _=>rfl⟩)
 case F=>
  intro w mg fa h KX G Sk
  refine' eB.all_mk KX G Sk (eB.QL (c8 KX G ?q1) (eB.QK ?q2 ?q3 ?q4 ?q5 ?q6) ?q7 (eB.QJ ?q8 ?q9 ?q10 ?q11 ?q12 ?q13) (c8 KX G ?q14) (eB.tL ?q15 ?q16 ?q17 ?q18 ?q19) ?q20 (eB.tK ?q21 ?q22 ?q23 ?q24 ?q25) (c8 KX G ?q26) (eB.tL ?q27 ?q28 ?q29 ?q30 ?q31) ?q32 (eB.tK ?q33 ?q34 ?q35 ?q36 ?q37) (c8 KX G ?q38) (eB.tL ?q39 ?q40 ?q41 ?q42 ?q43) ?q44 (eB.tK ?q45 ?q46 ?q47 ?q48 ?q49) (c8 KX G ?q50) (eB.tL ?q51 ?q52 ?q53 ?q54 ?q55) ?q56 (eB.tK ?q57 ?q58 ?q59 ?q60 ?q61) (c8 KX G ?q62) (eB.tL ?q63 ?q64 ?q65 ?q66 ?q67) ?q68 (eB.tK ?q69 ?q70 ?q71 ?q72 ?q73) (c8 KX G ?q74) (eB.tL ?q75 ?q76 ?q77 ?q78 ?q79) ?q80 (eB.tK ?q81 ?q82 ?q83 ?q84 ?q85) (c8 KX G ?q86) (eB.tL ?q87 ?q88 ?q89 ?q90 ?q91) ?q92 (eB.tK ?q93 ?q94 ?q95 ?q96 ?q97) (c8 KX G ?q98) (eB.tL ?q99 ?q100 ?q101 ?q102 ?q103) ?q104 (eB.tK ?q105 ?q106 ?q107 ?q108 ?q109) (c8 KX G ?q110) ⟨?q111,?q112,?q113,?q114⟩ ?q115 ?q116 ?q117 ?q118 ?q119 (eB.F6 ?q120 ?q121 ?q122 ?q123 ?q124 ?q125 ?q126) (c8 KX G ?q127) ⟨?q128,?q129,?q130,?q131⟩ ?q132 ?q133 ?q134 ?q135 ?q136 (eB.F6 ?q137 ?q138 ?q139 ?q140 ?q141 ?q142 ?q143) (c8 KX G ?q144) ⟨?q145,?q146,?q147,?q148⟩ ?q149 ?q150 ?q151 ?q152 ?q153 (eB.F6 ?q154 ?q155 ?q156 ?q157 ?q158 ?q159 ?q160) (eB.lL ?q161 ?q162 ?q163 ?q164 ?q165) (eB.lL ?q166 ?q167 ?q168 ?q169 ?q170) (eB.lL ?q171 ?q172 ?q173 ?q174 ?q175) (eB.lL ?q176 ?q177 ?q178 ?q179 ?q180) (eB.lL ?q181 ?q182 ?q183 ?q184 ?q185) (eB.lL ?q186 ?q187 ?q188 ?q189 ?q190) (eB.lL ?q191 ?q192 ?q193 ?q194 ?q195) (eB.lL ?q196 ?q197 ?q198 ?q199 ?q200) (eB.lL ?q201 ?q202 ?q203 ?q204 ?q205) (eB.lL ?q206 ?q207 ?q208 ?q209 ?q210) (c8 KX G ?q211) ⟨?q212,?q213,?q214,?q215⟩ ?q216 ?q217 (eB.F6 ?q218 ?q219 ?q220 ?q221 ?q222 ?q223 ?q224) (eB.lL ?q225 ?q226 ?q227 ?q228 ?q229) (eB.lL ?q230 ?q231 ?q232 ?q233 ?q234) (eB.lL ?q235 ?q236 ?q237 ?q238 ?q239)) ?hnd ⟨eB.cI KX G ?q240 ?q241 ?q242 ?q243,eB.cI KX G ?q244 ?q245 ?q246 ?q247,eB.cI KX G ?q248 ?q249 ?q250 ?q251,eB.cI KX G ?q252 ?q253 ?q254 ?q255,eB.cI KX G ?q256 ?q257 ?q258 ?q259,eB.cI KX G ?q260 ?q261 ?q262 ?q263,eB.cI KX G ?q264 ?q265 ?q266 ?q267,eB.cI KX G ?q268 ?q269 ?q270 ?q271,eB.cI KX G ?q272 ?q273 ?q274 ?q275,eB.cI KX G ?q276 ?q277 ?q278 ?q279,eB.cI KX G ?q280 ?q281 ?q282 ?q283,eB.cI KX G ?q284 ?q285 ?q286 ?q287,eB.cI KX G ?q288 ?q289 ?q290 ?q291,eB.cI KX G ?q292 ?q293 ?q294 ?q295,eB.cI KX G ?q296 ?q297 ?q298 ?q299,eB.cI KX G ?q300 ?q301 ?q302 ?q303,eB.cI KX G ?q304 ?q305 ?q306 ?q307,eB.cI KX G ?q308 ?q309 ?q310 ?q311,eB.cI KX G ?q312 ?q313 ?q314 ?q315,eB.cI KX G ?q316 ?q317 ?q318 ?q319,eB.cI KX G ?q320 ?q321 ?q322 ?q323,eB.cI KX G ?q324 ?q325 ?q326 ?q327,eB.cI KX G ?q328 ?q329 ?q330 ?q331,eB.cI KX G ?q332 ?q333 ?q334 ?q335,eB.cI KX G ?q336 ?q337 ?q338 ?q339,eB.cI KX G ?q340 ?q341 ?q342 ?q343,eB.cI KX G ?q344 ?q345 ?q346 ?q347,eB.cI KX G ?q348 ?q349 ?q350 ?q351,eB.cI KX G ?q352 ?q353 ?q354 ?q355,eB.cI KX G ?q356 ?q357 ?q358 ?q359,eB.cI KX G ?q360 ?q361 ?q362 ?q363,eB.cI KX G ?q364 ?q365 ?q366 ?q367,eB.cI KX G ?q368 ?q369 ?q370 ?q371,eB.cI KX G ?q372 ?q373 ?q374 ?q375,eB.cI KX G ?q376 ?q377 ?q378 ?q379,eB.cI KX G ?q380 ?q381 ?q382 ?q383,eB.cI KX G ?q384 ?q385 ?q386 ?q387,eB.cI KX G ?q388 ?q389 ?q390 ?q391,eB.cI KX G ?q392 ?q393 ?q394 ?q395,eB.cI KX G ?q396 ?q397 ?q398 ?q399,eB.cI KX G ?q400 ?q401 ?q402 ?q403,eB.cI KX G ?q404 ?q405 ?q406 ?q407,eB.cI KX G ?q408 ?q409 ?q410 ?q411,eB.cI KX G ?q412 ?q413 ?q414 ?q415,eB.cI KX G ?q416 ?q417 ?q418 ?q419,eB.cI KX G ?q420 ?q421 ?q422 ?q423,eB.cI KX G ?q424 ?q425 ?q426 ?q427,eB.cI KX G ?q428 ?q429 ?q430 ?q431,bV KX G ?q432,bV KX G ?q433,bV KX G ?q434,bV KX G ?q435,bV KX G ?q436,bV KX G ?q437,bV KX G ?q438,bV KX G ?q439,bV KX G ?q440,bV KX G ?q441,bV KX G ?q442,bV KX G ?q443,bV KX G ?q444,bV KX G ?q445,bV KX G ?q446⟩ (eB.N1 KX G ?q447 ?q448 ?q449 ?q450 ?u1 ?u2) (eB.N1 KX G ?q451 ?q452 ?q453 ?q454 ?u3 ?u4) ?q455 ?q456 ?q457 ?q458
  case q1|q2|q3|q4|q5|q6|q7|q8|q9|q10|q11|q12|q13|q14|q15|q16|q17|q18|q19|q20|q21|q22|q23|q24|q25|q26|q27|q28|q29|q30|q31|q32|q33|q34|q35|q36|q37|q38|q39|q40|q41|q42|q43|q44|q45|q46|q47|q48|q49|q50|q51|q52|q53|q54|q55|q56|q57|q58|q59|q60|q61|q62|q63|q64|q65|q66|q67|q68|q69|q70|q71|q72|q73|q74|q75|q76|q77|q78|q79|q80|q81|q82|q83|q84|q85|q86|q87|q88|q89|q90|q91|q92|q93|q94|q95|q96|q97|q98|q99|q100|q101|q102|q103|q104|q105|q106|q107|q108|q109|q110|q111|q112|q113|q114|q115|q116|q117|q118|q119|q120|q121|q122|q123|q124|q125|q126|q127|q128|q129|q130|q131|q132|q133|q134|q135|q136|q137|q138|q139|q140|q141|q142|q143|q144|q145|q146|q147|q148|q149|q150|q151|q152|q153|q154|q155|q156|q157|q158|q159|q160|q161|q162|q163|q164|q165|q166|q167|q168|q169|q170|q171|q172|q173|q174|q175|q176|q177|q178|q179|q180|q181|q182|q183|q184|q185|q186|q187|q188|q189|q190|q191|q192|q193|q194|q195|q196|q197|q198|q199|q200|q201|q202|q203|q204|q205|q206|q207|q208|q209|q210|q211|q212|q213|q214|q215|q216|q217|q218|q219|q220|q221|q222|q223|q224|q225|q226|q227|q228|q229|q230|q231|q232|q233|q234|q235|q236|q237|q238|q239|q240|q241|q242|q243|q244|q245|q246|q247|q248|q249|q250|q251|q252|q253|q254|q255|q256|q257|q258|q259|q260|q261|q262|q263|q264|q265|q266|q267|q268|q269|q270|q271|q272|q273|q274|q275|q276|q277|q278|q279|q280|q281|q282|q283|q284|q285|q286|q287|q288|q289|q290|q291|q292|q293|q294|q295|q296|q297|q298|q299|q300|q301|q302|q303|q304|q305|q306|q307|q308|q309|q310|q311|q312|q313|q314|q315|q316|q317|q318|q319|q320|q321|q322|q323|q324|q325|q326|q327|q328|q329|q330|q331|q332|q333|q334|q335|q336|q337|q338|q339|q340|q341|q342|q343|q344|q345|q346|q347|q348|q349|q350|q351|q352|q353|q354|q355|q356|q357|q358|q359|q360|q361|q362|q363|q364|q365|q366|q367|q368|q369|q370|q371|q372|q373|q374|q375|q376|q377|q378|q379|q380|q381|q382|q383|q384|q385|q386|q387|q388|q389|q390|q391|q392|q393|q394|q395|q396|q397|q398|q399|q400|q401|q402|q403|q404|q405|q406|q407|q408|q409|q410|q411|q412|q413|q414|q415|q416|q417|q418|q419|q420|q421|q422|q423|q424|q425|q426|q427|q428|q429|q430|q431|q432|q433|q434|q435|q436|q437|q438|q439|q440|q441|q442|q443|q444|q445|q446|q447|q448|q449|q450|q451|q452|q453|q454|q455|q456|q457|q458=>((try unfold eB.N0); (try unfold L2.bZ); k_is)
  (case hnd=>decide)
  (case u1=>kernel_rfl)
  (case u2=>kernel_rfl)
  (case u3=>kernel_rfl)
  (case u4=>kernel_rfl)
