import PyProof.Rows.All
import Wide.All
import OpenK.AllK
import Wide.FinOn
import Lean
import PyProof.EqAt
import PyProof.EqKinds
import PyProof.TupleCall
import PySem.Str
import PyProof.StationsW
import PyProof.PassesOwn
import PyProof.RulesAs
import PyProof.ExcClass2
import PyProof.InstStore
import PyProof.ExcArgs
import PyProof.ExcClass
import PyProof.InstStoreFacts
import PyProof.ExcBaseAll.Exception
import PyProof.ExcAttrAll.Exception
import PyProof.DictValues
import PyProof.DictWalks
import PySem.Challenge.RW_spikebook_k05_whole_nothing_lost
set_option Elab.async false
set_option linter.all false
set_option maxRecDepth 100000
set_option maxHeartbeats 4000000
def ae:=@List.length_map
def af:=@List.getElem?_eq_getElem
def aj:=@List.getD_eq_getElem?_getD
def ak:=@List.getElem?_eq_some_iff
def ao:=@List.mem_singleton
def aw:=@List.mem_cons
def ay:=@PySem.Heap.get?_push_of_some
def az:=@PySem.wpAny_bind
def aB:=@List.getElem?_map
def aD:=@Option.some.inj
def aG:=@decide_eq_true
def aH:=@List.length_append
def aI:=@Nat.le_refl
def aJ:=@List.map_append
def aL:=@PySem.Paired.length
def aM:=@of_decide_eq_true
def aN:=@PySem.Heap.lt_size
def aO:=@if_neg
def aR:=@Bool.false_ne_true
def aS:=@List.mem_cons_of_mem
def aY:=@List.take_length
def aZ:=@if_pos
def a0:=@Nat.le_trans
def a7:=@List.length_filter_le
def a8:=@Nat.ne_of_lt
def ba:=@decide_eq_false
def bb:=@List.length_take
def bc:=@List.mem_cons_self
def bo:=@Nat.lt_of_lt_of_le
def bp:=@Nat.zero_le
def bq:=@List.mem_append
def br:=@Option.map_eq_some_iff
def bu:=@PySem.PassesOwn.never
def bz:=@List.mem_append_right
def bA:=@PySem.wpAny_loadPart_at
def bC:=@List.size_toArray
def bF:=@PySem.wpAny_pure
def bG:=@List.mem_map
def bH:=@List.length_cons
def bM:=@List.map_cons
def bN:=@List.getElem_mem
def bO:=@PySem.Heap.get?_push_size
def bS:=@List.filter_cons_of_pos
def bU:=@List.append_nil
def bY:=@PySem.W.mg_none_of
def cg:=@PySem.mem_of_lookup
def ck:=@PySem.wpAny_mono
def cv:=@Int.eq_ofNat_of_zero_le
def cw:=@PySem.Paired.snoc
def cH:=@List.sum_cons
def cS:=@List.mem_range
def cU:=@PySem.wpAny_isSubtype_exc
def cW:=@List.mem_append_left
def cY:=@congrArg
def cZ:=@PySem.W.mg_of
def df:=@Nat.le_of_lt
def dg:=@List.replicate_succ
def dm:=@Int.toNat_natCast
def dr:=@List.length_range
def dA:=@Nat.le_succ
def dB:=@List.map_map
def dJ:=@List.mem_filter
def dQ:=@PySem.wpAny_passesOwn
def dR:=@List.append_assoc
def eh:=@PySem.W.kia_one
def ej:=@List.nodup_cons
def en:=@PySem.W.kia_tup
def eo:=@List.filter_cons_of_neg
def eG:=@PySem.wpAny_Call_Name_kw
def eU:=@List.length_set
def eV:=@List.foldl_cons
def eX:=@PySem.sizeLine_eq
def fh:=@List.pairwise_cons
def fk:=@Int.le_refl
def fJ:=@List.map_congr_left
def fQ:=@PySem.wpAny_truthy_bool
def fR:=@List.getElem?_append_right
def fW:=@Nat.lt_succ_self
def f9:=@List.filter_append
def gA:=@List.mem_of_getElem?
def gG:=@Nat.not_lt_zero
def gQ:=@PyProof.Rows.take_snoc
def gS:=@Int.zero_add
def gU:=@beq_eq_false_iff_ne
def hV:=@Bool.and_false
def iw:=@List.filter_filter
def iy:=@PySem.wpAny_holding
def iz:=@PySem.wpAny_standAt
def iL:=@Nat.le_of_eq
def iM:=@List.length_replicate
def iS:=@Nat.lt_irrefl
def iT:=@PySem.Calls.callWith_builtin
def iU:=@List.flatten_cons
def iV:=@Nat.lt_succ_of_lt
def iW:=@List.filter_congr
def jq:=@PySem.wpAny_execs_nil
def jv:=@List.nodup_range
def jw:=@decide_eq_decide
def km:=@PySem.W.callWith_K
def ko:=@Int.emod_nonneg
def k9:=@List.getElem?_set_self
def lg:=@PySem.W.cellsFrom_some
def lS:=@Int.le_trans
def mC:=@List.length_drop
def mJ:=@List.getElem?_set_ne
def mK:=@PySem.Heap.get?_update_other
def mM:=@PySem.Heap.get?_push_ne
def nW:=@PySem.Heap.size_push
def om:=@PyProof.Rows.callWith_type1
def oo:=@Bool.eq_iff_iff
def oq:=@List.of_mem_zip
def ou:=@Option.map_some
def ow:=@Array.length_toList
def ox:=@List.sum_append
def oy:=@List.range_succ
def px:=@PySem.Heap.size_update
def qg:=@Nat.ne_of_gt
def qh:=@Nat.lt_of_le_of_lt
def qj:=@Int.emod_lt_of_pos
def qp:=@List.getElem?_eq_none_iff
def qq:=@Bool.false_and
def qr:=@Nat.mul_le_mul
def rO:=@List.any_eq_false
def rP:=@PySem.W.kitx_list
def rQ:=@PySem.W.kitx_dict
def rR:=@List.pairwise_map
def rT:=@List.foldl_append
def rV:=@PySem.Heap.SameBut.update
def rW:=@Array.size_setIfInBounds
def tN:=@PySem.wpAny_newFunctionEnv_cells
def tO:=@List.any_cons
def tP:=@List.map_id
def ud:=@Bool.and_eq_true
def ue:=@PySem.tupleKind_room_in1
def wx:=@PyProof.Rows.listUpdate_at
def wy:=@Ne.symm
def wz:=@PySem.W.methodCall_KW
def wA:=@List.map_nil
def wB:=@Nat.succ_mul
def wC:=@List.length_nil
def wD:=@List.getElem?_eq_none
def xQ:=@Nat.not_lt
def yQ:=@List.getElem?_of_mem
def AV:=@List.take_succ
def A3:=@PySem.W.plainGet_of
def A4:=@PySem.W.callWith_K0
def A5:=@List.toList_toArray
def Dn:=@PySem.codeAny_mono
def Dp:=@PySem.Heap.get?_update_self
def EG:=@PySem.wpAny_call
def FY:=@beq_iff_eq
def FZ:=@PySem.Calls.evalArgs_plain
def F6:=@Option.isSome_map
def F9:=@List.take_add_one
def Ga:=@Classical.not_not
def Gb:=@Nat.le_succ_of_le
def Gd:=@PySem.codeAny_call_builtin
def IB:=@PySem.Heap.get?_update_ne
def IC:=@PySem.wpAny_field
def Li:=@Array.getD_eq_getD_getElem?
def Lj:=@Array.Perm.refl
def Lk:=@PySem.wpAny_newList
def Ll:=@List.filter_map
def Na:=@PyProof.Rows.get?_update_seq
def NY:=@PySem.plainObj_wpAny_Assign_Attribute
def NZ:=@List.Perm.refl
def N0:=@List.mem_of_find?_eq_some
def N1:=@List.getElem?_append_left
def N2:=@PySem.F.excBase_Exception
def N3:=@List.drop_eq_getElem_cons
def N4:=@PyProof.Rows.boot_int
def QM:=@Option.isSome_iff_exists
def QN:=@PySem.F.slot_dict_values
open PySem.W (Frag findIn keepIn typeIn fnOf nsIn codeIn codeHdIn mg_of mg_none_of specialIn readsIn findCls makesIn hasDictIn plainGet plainOver)
namespace PySem.W.Fast
def tw13898608588507150910:=0
def tw7968876205184608793:=0
def tw5962608537928016392:=0
def tw9003325551022284633:=0
def tw17809628302376435915:=0
def tw6154484249102325140:=0
def tw13920877801253590112:=0
def tw4720735010777665951:=0
def tw18396585741845314572:=0
def tw4102237826005855224:=0
def tw12494198686627622728:=0
def tw2731868507430054096:=0
def tw1118283620093819726:=0
def tw14205502990062813972:=0
def tw7607769804996705105:=0
def tw15430732304171390282:=0
def tw10007398466123601476:=0
def tw16406029799992214659:=0
def tw17836508720315958772:=0
def tw5833461353845014054:=0
def tw14516463793770886622:=0
def tw6194328723376715228:=0
def tw3972078243511461851:=0
def tw11162832392630752338:=0
def tw14711032019884711676:=0
def tw15952051630442228405:=0
def tw3870111194374891323:=0
def tw8116694935660318475:=0
def tw15594551990037577705:=0
def tw13589266214901287884:=0
def tw2921036693884376786:=0
def tw16096223722616354827:=0
def tw6583325458350519579:=0
def tw10972371903743983945:=0
def tw15868487931226730163:=0
def tw6864031944977360656:=0
def tw13327551066636365046:=0
def tw6503497761341679212:=0
def tw5850302204272565764:=0
def tw12743915690994368602:=0
def tw928641443082021159:=0
def tw17427659086423579956:=0
def tw7490379872402410332:=0
def tw14140146505402620115:=0
def tw2781104809259922440:=0
def tw17047849748605469512:=0
def tw14355677876761385534:=0
def tw11545232244581565019:=0
def tw18055705536791843030:=0
def tw17668702660517738121:=0
def tw13520373486638888682:=0
def tw11987071673356341964:=0
def tw4198714355890738631:=0
def tw3473966805803068796:=0
def tw4317015610681843574:=0
def tw7399479028936668743:=0
def tw9011309122448736747:=0
def tw6726101675724703179:=0
def tw1281759563949136337:=0
def tw7954275095194103691:=0
def tw14652085541189228646:=0
def tw8804281566812529684:=0
def tw8885018383717270893:=0
def tw13096399525026062394:=0
def tw3467616603411751131:=0
def tw16134953076496558296:=0
def tw13401579766800674600:=0
def tw13489307422286042463:=0
def tw4517891147550501525:=0
def tw14657170011251460083:=0
def tw16911921075405660336:=0
def tw7656292853617007641:=0
def tw4436603539535677329:=0
def tw4093551068249609056:=0
def tw12041239689557046348:=0
def tw3196938502674743855:=0
def tw6462972953298716615:=0
def tw6567406467630798562:=0
def tw53108440808935463:=0
def tw4870215495609273207:=0
def tw8335220447437457935:=0
def tw6456871435247618811:=0
def tw5267850601683859045:=0
def tw3016707960096911093:=0
def tw14061045321447725360:=0
def tw16646796399679290101:=0
def tw15886868877105623536:=0
def tw14409647513132796478:=0
def tw15143081263550698212:=0
def tw14971617069334589642:=0
def tw6830677442126151507:=0
def tw10377906109275656025:=0
def tw10671173497934501528:=0
def tw10077351260249541727:=0
def tw9998698100223239644:=0
def tw6207698752535736698:=0
def tw12438916562270008574:=0
def tw13980301462957703209:=0
def tw17531541347592223909:=0
def tw47034908070763053:=0
def tw12581736162047410568:=0
def tw6765775527196485357:=0
def tw3154953835448481764:=0
def tw10748945286116779521:=0
def tw17801499923089100027:=0
def tw6451085177456427481:=0
def tw2705169398851453463:=0
def tw9003856681803458:=0
def tw2851046755579428975:=0
def tw13122975531174099655:=0
def tw13140917085397003241:=0
def tw17063458106821287262:=0
def tw6203814202543238856:=0
def tw12215543845746153587:=0
def tw2923297411503611251:=0
def tw10260443030177362533:=0
def tw10919800211232500287:=0
def tw8699649803704674920:=0
def tw4589627807895684520:=0
def tw4132943125103056118:=0
def tw15937507156083221621:=0
def tw17704177554439253145:=0
def tw9108863732547388940:=0
def tw15812158981805981908:=0
def tw8277832796408471270:=0
def tw6798279973689240854:=0
def tw17992611882819566094:=0
def tw13200071393739576964:=0
def tw3612583267966406879:=0
def tw12752357686978861323:=0
def tw886843683073540281:=0
def tw3635111312941830300:=0
def tw5575572374204393279:=0
def tw331934386988257623:=0
def tw11029892570062993456:=0
def tw1348262801268440221:=0
def tw3409707193800029461:=0
def tw12094031298455442094:=0
def tw4457535477416671818:=0
def tw6813986525752224139:=0
def tw15829469898866195599:=0
def tw9735367875704039282:=0
def tw5239862572979904253:=0
def tw1097788763728066311:=0
def tw11934000691655557316:=0
def tw13914022829154889387:=0
def tw11755030687164839391:=0
def tw12484275337793779276:=0
def tw13898370340091923418:=0
def tw16542607946248593993:=0
def tw919645993904641943:=0
def tw12500663147173171926:=0
def tw17478439411615051534:=0
def tw87570845771460592:=0
def tw6967656543583031400:=0
def tw16686120574936131930:=0
def tw2180589886077539568:=0
def tw7179893188869197496:=0
def tw11961421775644095116:=0
def tw11635064333615238301:=0
def tw13844518580924179615:=0
def tw11793901201648858377:=0
def tw14901057825224458913:=0
def tw17584289205746398747:=0
def tw5852994694387332466:=0
def tw10259517291030855459:=0
def tw14392923495479253929:=0
def tw9659102557232630478:=0
def tw7071245903726848291:=0
def tw12980803404440188335:=0
def tw1385474319090138597:=0
def tw7515519797598901628:=0
def tw4936887355039126566:=0
def tw11295948710489710935:=0
def tw7016329239610127529:=0
def tw14691475240731548475:=0
def tw4018898729043778531:=0
def tw7962744359039913381:=0
def tw924554641632636525:=0
def tw17888416718482589053:=0
def tw11233615637370358483:=0
def tw6372612602035261975:=0
def tw8129973975194050180:=0
def tw3887225798216370906:=0
def tw13324387283177923904:=0
def tw6528310500850538742:=0
def tw16239131750025748304:=0
def tw5170170525306041790:=0
def tw11706989878285570500:=0
def tw1141359165582856285:=0
def tw17855784469980363642:=0
def tw17938777467611011938:=0
def tw13338485372266765307:=0
def tw15110733485949358794:=0
def tw17227740593191062063:=0
def tw11828345766284956184:=0
def tw14047478205280114249:=0
def tw13508315105638606778:=0
def tw236271138765266833:=0
def tw17316336148901495069:=0
def tw10213597762438151931:=0
def tw1105196549586215276:=0
def tw3864890164354136940:=0
def tw1912367256119232751:=0
def tw4614289344034479085:=0
def tw17422478202229795984:=0
def tw16687154337793262059:=0
def tw3568096105306269937:=0
def tw12053335665947721014:=0
def tw14598843815756228389:=0
def tw1085270173320149289:=0
def tw12354305154361760063:=0
def tw16721038480759695859:=0
def tw16543166825525659565:=0
def tw6037082507257665500:=0
def tw13087400360978142982:=0
def tw2534541598596319704:=0
def tw11911970459712820880:=0
def tw4849332925470884293:=0
def tw9598854447886589661:=0
def tw16368309251017824171:=0
def tw8491985247140032527:=0
def tw1121573012430451211:=0
def tw14972982402226448019:=0
def tw17032409447223364766:=0
def tw2641460421118469130:=0
def tw16950163440306743607:=0
def tw10643257079831915584:=0
def tw11811188166860739757:=0
def tw7235238507708609678:=0
def tw8431492373148980166:=0
def tw17324668928413846399:=0
def tw452658264806500521:=0
def tw16878619519123894037:=0
def tw17581417230131429748:=0
def tw8008932385832529566:=0
def tw16221108711885790392:=0
def tw15221881911203542195:=0
def tw11551397617482486064:=0
def tw12367748971300427453:=0
def tw9770285111027626873:=0
def tw3272378834782388975:=0
def tw8643889305300617530:=0
def tw7194808707248777666:=0
def tw9977476856840078505:=0
def tw11240134043992149626:=0
def tw2681047287096201676:=0
def tw980565397569900104:=0
def tw14287956665453684934:=0
def tw15100598977410213208:=0
def tw4884768280522733655:=0
def tw10567224522349872816:=0
def tw12160124300578382778:=0
def tw899096384680870090:=0
def tw10068270442431523287:=0
def tw16579877646932875179:=0
def tw3749560028062144129:=0
def tw3862456597036918731:=0
def tw17571705616907870868:=0
def tw6995382807559173540:=0
def tw11955567569231399591:=0
def tw13426159371525668495:=0
def tw3831649324520167525:=0
def tw1708638213326504558:=0
def tw9730210083860026480:=0
def tw9286869754031543225:=0
def tw4061167003739074875:=0
def tw9182374157840126176:=0
def tw9899029953747234986:=0
def tw16635878870966070279:=0
def tw15199524669323417505:=0
def tw9525962476843029200:=0
def tw15834829542834016346:=0
def tw4363589136158222917:=0
def tw3210979941396831871:=0
def tw11217825368695250207:=0
def tw13114719732404788018:=0
def tw17330516588967151220:=0
def tw619969483099329037:=0
def tw3850222385191618005:=0
def tw11591485385672535236:=0
def tw5245645336421982218:=0
def tw9909206583969171293:=0
def tw2229501849877016265:=0
def tw4060721056505687989:=0
def tw210132295714071772:=0
def tw11943493856466245907:=0
def tw2264507548876263206:=0
def tw8542361648945308030:=0
def tw16411276706437033220:=0
def tw14218656124823360004:=0
def tw2172930009635755861:=0
def tw11833616221382584324:=0
def tw5098465275230352279:=0
def tw1242894344484286025:=0
def tw3864321922953766932:=0
def tw11258640010802559545:=0
def tw12567179661576816197:=0
def tw6800682302861481483:=0
def tw12899502849720566050:=0
def tw9101219301161443058:=0
def tw13543004346950135867:=0
def tw6121323475113774622:=0
def tw17892806669074666248:=0
def tw17159144515265271272:=0
def tw14042358191068746882:=0
def tw3047255307484160101:=0
def tw4579817773895716016:=0
def tw3908321085243044288:=0
def tw10116315863305253682:=0
def tw6118619757088272461:=0
def tw4762240937108596490:=0
def tw11894523965562579778:=0
def tw1000190366728956248:=0
def tw4989577540098767119:=0
def tw4663654861999961440:=0
def tw5073891804017360873:=0
def tw815631461038224897:=0
def tw16763217440905622462:=0
def tw5395345824834141798:=0
def tw2042156515781749113:=0
def tw12929140563533522271:=0
def tw13043126688613190000:=0
def tw2471916525055871513:=0
def tw17266887199924648491:=0
def tw2598036733258379082:=0
def tw12031890381630331394:=0
def tw16229458677005231423:=0
def tw11042078099762775438:=0
def tw1729822955721960602:=0
def tw1016461323952408760:=0
def tw16851200550973574688:=0
def tw3429555816884776540:=0
def tw14250026913413889112:=0
def tw13521785456218018828:=0
def tw2575019588971124888:=0
def tw12159385172652694517:=0
def tw2423464978411228448:=0
def tw5022860774343791182:=0
def tw3863483123171548752:=0
def tw15341328142251371731:=0
def tw6555738100167880567:=0
def tw6668964569751532180:=0
def tw16206025761596552239:=0
def tw6648611635954713729:=0
def tw7156230380229584700:=0
def tw5167098548763180034:=0
def tw14671019924825030368:=0
def tw16335024293751501542:=0
def tw2063723852899465620:=0
def tw481595152656719166:=0
def tw5428407959962801094:=0
def tw15252390364993402034:=0
def tw4517239659908510219:=0
def tw16680344051019208970:=0
def tw12449323113483422574:=0
def tw16391797928286210301:=0
def tw11350296557295648932:=0
def tw6400873904073112437:=0
def tw5068947565796243572:=0
def tw12012567407111447030:=0
def tw10013507353430707119:=0
def tw2900062473137628836:=0
def tw12565897694466815541:=0
def tw10425719520440034052:=0
def tw11843119830349154427:=0
def tw4636835924424280569:=0
def tw10608156514334426630:=0
def tw13464706659993606658:=0
def tw9022115512079510754:=0
def tw10580371599415028575:=0
def tw7699045896728501887:=0
def tw5206195806893885946:=0
def tw1089874061098918886:=0
def tw6873081735549089329:=0
def tw16355088104529216836:=0
def tw2418661171340140846:=0
def tw15408623384973131768:=0
def tw9930752961243972007:=0
def tw4994569130255309571:=0
def tw6605269309225153117:=0
def tw5344657643388733307:=0
def tw4641662346774525835:=0
def tw4421697256783566060:=0
def tw2972321212200113790:=0
def tw16353707803527189557:=0
def tw1696265472093495396:=0
def tw11691167656860968709:=0
def tw14000376685628301563:=0
def tw8772150713257085140:=0
def tw15102467366167151537:=0
def tw8420620355628935354:=0
def tw9177418541440069427:=0
def tw11841778509182426782:=0
def tw3203810827765490276:=0
def tw14905534328662189860:=0
def tw3986825675242278752:=0
def tw7049915402878485293:=0
def tw17729319507782206354:=0
def tw14306725986325221116:=0
end PySem.W.Fast
namespace L2
open PySem PySem.Spec PyProof.Rows
abbrev Key:=Sum Int Str
def xR:Key->Value->Bool
 | .inl k,v=>Value.isInt k v
 | .inr x,v=>Value.isStrOf x v
def We (w:World):Key->Int
 | .inl k=>hashInt k
 | .inr x=>hashStr w x
def fm: ∀{k:Key} {v:Value},xR k v=true->(∃i t,k=Sum.inl i/\v=Value.int i t)∨(∃x t,k=Sum.inr x/\v=Value.str x t)
 | .inl i,v,h=>by
  obtain⟨t,e⟩:=Value.isInt_shape (k:=i) (v:=v) h;exact .inl ⟨i,t,rfl,e⟩
 | .inr x,v,h=>by
  obtain⟨t,e⟩:=Value.isStrOf_shape (x:=x) (v:=v) h;exact .inr ⟨x,t,rfl,e⟩
def Ge (i:Int)(t:Tok):xR (.inl i) (.int i t)=true:=by simp[xR,Value.isInt]
def Gf (x:Str)(t:Tok):xR (.inr x) (.str x t)=true:=by simp[xR,Value.isStrOf]
def N5 (a b:Int):decide ((Sum.inl a:Key)=Sum.inl b)=(a == b):=by
 by_cases e:a=b
 ·subst e; simp
 ·have h: ¬ (Sum.inl a:Key)=Sum.inl b:=fun q=>e (Sum.inl.inj q);rw[ba h];exact(gU.mpr e).symm
def N6 (a b:Str):decide ((Sum.inr a:Key)=Sum.inr b)=decide (a=b):=by
 by_cases e:a=b
 ·subst e; simp
 ·have h: ¬ (Sum.inr a:Key)=Sum.inr b:=fun q=>e (Sum.inr.inj q);rw[ba h,ba e]
def N7 (a:Int)(b:Str):decide ((Sum.inl a:Key)=Sum.inr b)=false:=ba (fun q=>nomatch q)
def N8 (a:Str)(b:Int):decide ((Sum.inr a:Key)=Sum.inl b)=false:=ba (fun q=>nomatch q)
def dX (prog:Program)(w:World):PySem.KeyKind prog w Key where
 is:=xR
 hash:=We w
 inj:=fun v a b ha hb=>by
  rcases fm ha with⟨i,t,rfl,rfl⟩|⟨x,t,rfl,rfl⟩
  ·rcases fm hb with⟨j,u,rfl,e⟩|⟨y,u,rfl,e⟩
   ·injection e with e1 _; rw[e1]
   ·exact nomatch e
  ·rcases fm hb with⟨j,u,rfl,e⟩|⟨y,u,rfl,e⟩
   ·exact nomatch e
   ·injection e with e1 _; rw[e1]
 byValue:=fun k v h=>by
  rcases fm h with⟨i,t,rfl,rfl⟩|⟨x,t,rfl,rfl⟩ <;> rfl
 pyHash:=fun hv h=>by
  rcases fm hv with⟨i,t,rfl,rfl⟩|⟨x,t,rfl,rfl⟩
  ·exact wpAny_pyHash_int h
  ·exact wpAny_pyHash_str h
 eqBool:=fun hu hv h=>by
  rcases fm hu with⟨i,t,rfl,rfl⟩|⟨x,t,rfl,rfl⟩
  ·rcases fm hv with⟨j,u,rfl,rfl⟩|⟨y,u,rfl,rfl⟩
   ·rw[N5] at h; exact wpAny_eqBool_int h
   ·rw[N7] at h; exact SeqAt.EqAt.int_str i t y u _ _ _ _ h
  ·rcases fm hv with⟨j,u,rfl,rfl⟩|⟨y,u,rfl,rfl⟩
   ·rw[N8] at h; exact SeqAt.EqAt.str_int x t j u _ _ _ _ h
   ·rw[N6] at h; exact wpAny_eqBool_str h
 «strs»:=fun k x t v h=>by
  rcases fm h with⟨i,u,rfl,e⟩|⟨y,u,rfl,e⟩
  ·exact nomatch e
  ·injection e with e1 _;subst e1;cases v <;> rfl
def A6 (prog:Program)(w:World)(i:Int)(t:Tok):(dX prog w).is (.inl i) (.int i t)=true:=Ge i t
def A7 (prog:Program)(w:World)(x:Str)(t:Tok):(dX prog w).is (.inr x) (.str x t)=true:=Gf x t
inductive V where
 |eu|bl (b:Bool)|int (i:Int)|str (x:Str)|Gg (b:Array UInt8)|Lm (b:UInt64)|ref (a:Addr)|ty (n:String)
 deriving DecidableEq
def RelV:V->Value->Prop
 | .eu,u=>u=Value.none
 | .bl b,u=>u=Value.bool b
 | .int i,u=> ∃t,u=Value.int i t
 | .str x,u=> ∃t,u=Value.str x t
 | .Gg b,u=> ∃t,u=Value.bytes b t
 | .Lm b,u=> ∃t,u=Value.float b t
 | .ref a,u=>u=Value.ref a
 | .ty n,u=>u=Value.type n
abbrev Vals:List V->List Value->Prop:=Paired RelV
def Vals.length {xs:List V}{us:List Value}(r:Vals xs us):xs.length=us.length:=aL r
def Vals.get: ∀{xs:List V} {us:List Value} {i:Nat} {x:V},Vals xs us->xs[i]? =some x-> ∃u,us[i]? =some u/\RelV x u
 |_,_,_,_,.nil,e=>by simp at e
 |_,_,0,_,.cons r _,e=>by simp at e; subst e; exact⟨_,rfl,r⟩
 |_,_,i + 1,x,.cons _ t,e=>by
  obtain⟨u,h1,h2⟩:=Vals.get (i:=i) (x:=x) t (by simpa using e);exact⟨u,by simpa using h1,h2⟩
def Vals.set {x:V}{u:Value}(r:RelV x u): ∀{xs:List V} {us:List Value} (i:Nat),Vals xs us->Vals (xs.set i x) (us.set i u)
 |_,_,_,.nil=> .nil
 |_,_,0,.cons _ t=> .cons r t
 |_,_,i + 1,.cons q t=> .cons q (Vals.set r i t)
def Vals.append: ∀{xs ys:List V} {us ws:List Value},Vals xs us->Vals ys ws->Vals (xs ++ ys) (us ++ ws)
 |_,_,_,_,.nil,s=>s
 |_,_,_,_,.cons r t,s=> .cons r (Vals.append t s)
def Vals.take: ∀{xs:List V} {us:List Value} (n:Nat),Vals xs us->Vals (xs.take n) (us.take n)
 |_,_,0,_=> .nil
 |_,_,_ + 1,.nil=> .nil
 |_,_,n + 1,.cons r t=> .cons r (Vals.take n t)
def Vals.drop: ∀{xs:List V} {us:List Value} (n:Nat),Vals xs us->Vals (xs.drop n) (us.drop n)
 |_,_,0,r=>r
 |_,_,_ + 1,.nil=> .nil
 |_,_,n + 1,.cons _ t=>Vals.drop n t
def Vals.none_of: ∀{xs:List V} {us:List Value} {i:Nat},Vals xs us->xs[i]? =none->us[i]? =none:=fun{xs us i} r e=>by
 have h1:=r.length;have h2:xs.length<=i:=qp.mp e;exact qp.mpr (by lia)
def lj:Option V->Option Value->Prop
 |some v,some u=>RelV v u
 |none,none=>True
 |_,_=>False
def KV {κ:Type}:List (κ×V)->List (κ×Value)->Prop:=Paired fun(p:κ×V) (q:κ×Value)=>p.1=q.1/\RelV p.2 q.2
def kV:Key->V
 | .inl i=> .int i
 | .inr x=> .str x
inductive HO where
 |lst (xs:List V)
 |tup (xs:List V)
 |dK (bg:List (Key×V))|dT (bg:List (List Key×V))
 |set (S:Int->Bool) (n:Nat)
 |ins (C dx:Addr) (fs:List (Str×V))
 |own (x:Addr)
 |xd (fs:List (Str×V))
 |met (f x:Addr)
 |Wf (lo hi:Int)
 |Dc (o:Obj) (u:HO)
 |mL (ps:Array Value)
 |ext (φ:Heap->Prop)
abbrev Hp:=Addr->Option HO
def upd (H:Hp)(a:Addr)(o:HO):Hp:=fun b=>if b=a then some o else H b
def ag {H:Hp}{a:Addr}{o:HO}:upd H a o a=some o:=by unfold upd; rw[if_pos rfl]
def aA {H:Hp}{a b:Addr}{o:HO}(h:b≠a):upd H a o b=H b:=by unfold upd; rw[if_neg h]
def mm {H:Hp}{a b:Addr}{o u:HO}(h:H a=some o)(h':H b=some u)(d:o≠u):a≠b:=by
 intro e; subst e; rw[h] at h'; exact d (aD h')
def aK {H:Hp}{a b:Addr}{o:HO}(h:H a=some o)(h':H b=none):a≠b:=by
 intro e; subst e; rw[h] at h'; cases h'
section
variable (P:Program)(w:World)
def dC (H:Hp)(h:Heap)(a:Addr):HO->Prop
 | .lst xs=>xs.length<=sizeLine/\ ∃(bZ:List Value) (n:Nat),Vals xs bZ/\h.get? a=some {cls:= .type "list",data:= .seq bZ.toArray n}
 | .tup xs=>xs.length<=sizeLine/\ ∃bZ:List Value,Vals xs bZ/\IsTup h a bZ.toArray
 | .dK bg=>bg.length<=sizeLine/\(a == sysModules)=false/\ ∃vs,KV bg vs/\h.DictOf (dX P w) a vs
 | .dT bg=>bg.length<=sizeLine/\(a == sysModules)=false/\ ∃xs:List (List Key×Addr×Value),
   Paired (fun(p:List Key×V) (q:List Key×Addr×Value)=>p.1=q.1/\H q.2.1=some (.tup (p.1.map kV))/\RelV p.2 q.2.2) bg xs/\
   ∃o es ep,h.get? a=some o/\o.ExactDict/\o.data= .dict es ep/\es.toList=xs.map (entryOfKey (tupleKind (dX P w)))/\(xs.map (·.1)).Nodup
 | .set S n=>h.SetOf (intKind P w) a S n
 | .ins C dx fs=>H dx=some (.own a)/\fs.length<=1000/\dx≠a/\h.get? a=some (PySem.W.instObj C dx)/\
   ∃mA,h.Ns1 dx mA/\(∀f,lj (fs.lookup f) (mA f))/\PySem.Within mA (fs.map (·.1))
 | .own _=> ∃o,h.get? a=some o
 | .xd fs=> ∃mA,h.Ns1 a mA/\ ∀f,lj (fs.lookup f) (mA f)
 | .Wf lo hi=> ∃t u v,h.get? a=some {cls:= .type "range",data:= .fields #[.int lo t,.int hi u,.int 1 v]}
 | .Dc o u=>h.get? a=some o/\dC H h a u
 | .mL ps=>h.get? a=some {cls:= .none,data:= .fields ps}
 | .met f x=>h.get? a=some (PySem.W.methodObj (.ref f) (.ref x))
 | .ext φ=>φ h/\(∃o,h.get? a=some o)/\ ∀h1 h2:Heap,φ h1->(∀o,h1.get? a=some o->h2.get? a=some o)->φ h2
def oz (H:Hp)(h:Heap):Prop:= ∀a o,H a=some o->dC P w H h a o
end
section
variable {P:Program}{w:World}{H H':Hp}{h h':Heap}{a:Addr}{o:HO}
def dC.lt (x:dC P w H h a o):a < h.objs.size:=by
 cases o with
 |lst xs=>obtain⟨_,_,_,_,e⟩:=x; exact aN e
 |tup xs=>obtain⟨_,_,_,p⟩:=x; exact p.lt
 |dK bg=>obtain⟨_,_,_,_,o,_,_,e,_⟩:=x; exact aN e
 |dT bg=>obtain⟨_,_,_,_,o,_,_,e,_⟩:=x; exact aN e
 |set S n=>obtain⟨o,_,_,_,e,_⟩:=x; exact aN e
 |ins C dx fs=>obtain⟨_,_,_,e,_⟩:=x; exact aN e
 |own y=>obtain⟨_,e⟩:=x; exact aN e
 |xd fs=>obtain⟨_,⟨_,_,_,e,_⟩,_⟩:=x; exact aN e
 |Wf lo hi=>obtain⟨_,_,_,e⟩:=x; exact aN e
 |Dc ob u=>obtain⟨e,_⟩:=x; exact aN e
 |mL ps=>exact aN (show h.get? a=some _ from x)
 |met f y=>exact aN (show h.get? a=some _ from x)
 |ext φ=>obtain⟨_,⟨_,e⟩,_⟩:=x; exact aN e
def Paired.iA {α β:Type}{F G:α->β->Prop}: ∀{l₁:List α} {l₂:List β},Paired F l₁ l₂->(∀a b,F a b->G a b)->Paired G l₁ l₂
 |_,_,.nil,_=> .nil
 |_,_,.cons r t,f=> .cons (f _ _ r) (Paired.iA t f)
def dC.tQ (x:dC P w H h a o)(k: ∀b u,(b=a∨H b=some (.own a))->h.get? b=some u->h'.get? b=some u)
  (ho: ∀b,H b=some (.own a)->H' b=some (.own a)) (ht: ∀b xs,H b=some (.tup xs)->H' b=some (.tup xs)):dC P w H' h' a o:=by
 induction o with
 |lst xs=>obtain⟨z,bZ,n,r,e⟩:=x; exact⟨z,bZ,n,r,k _ _ (.inl rfl) e⟩
 |tup xs=>obtain⟨z,bZ,r,ob,e,c⟩:=x; exact⟨z,bZ,r,ob,k _ _ (.inl rfl) e,c⟩
 |dK bg=>obtain⟨z,y,vs,r,ob,es,ep,e,c⟩:=x; exact⟨z,y,vs,r,ob,es,ep,k _ _ (.inl rfl) e,c⟩
 |dT bg=>
  obtain⟨z,y,xs,r,ob,es,ep,e,c⟩:=x;exact⟨z,y,xs,Paired.iA r fun p q z=>⟨z.1,ht _ _ z.2.1,z.2.2⟩,ob,es,ep,k _ _ (.inl rfl) e,c⟩
 |set S n=>obtain⟨ob,es,ep,t,e,c⟩:=x; exact⟨ob,es,ep,t,k _ _ (.inl rfl) e,c⟩
 |ins C dx fs=>
  obtain⟨d,z,ne,e,mA,⟨od,es,ep,e2,c⟩,r⟩:=x;exact⟨ho _ d,z,ne,k _ _ (.inl rfl) e,mA,⟨od,es,ep,k _ _ (.inr d) e2,c⟩,r⟩
 |own y=>obtain⟨ob,e⟩:=x; exact⟨ob,k _ _ (.inl rfl) e⟩
 |xd fs=>obtain⟨mA,⟨od,es,ep,e,c⟩,r⟩:=x; exact⟨mA,⟨od,es,ep,k _ _ (.inl rfl) e,c⟩,r⟩
 |Wf lo hi=>obtain⟨t,u,v,e⟩:=x; exact⟨t,u,v,k _ _ (.inl rfl) e⟩
 |Dc ob u ih=>obtain⟨e,q⟩:=x; exact⟨k _ _ (.inl rfl) e,ih q⟩
 |mL ps=>
  have e:h.get? a=some {cls:= .none,data:= .fields ps}:=x;show h'.get? a=some {cls:= .none,data:= .fields ps};exact k a _ (.inl rfl) e
 |met f y=>
  have e:h.get? a=some (PySem.W.methodObj (.ref f) (.ref y)):=x;show h'.get? a=some (PySem.W.methodObj (.ref f) (.ref y));exact k a _ (.inl rfl) e
 |ext φ=>obtain⟨p,⟨o,e⟩,st⟩:=x; exact⟨st _ _ p fun o q=>k _ _ (.inl rfl) q,⟨o,k _ _ (.inl rfl) e⟩,st⟩
def oz.lt (x:oz P w H h)(e:H a=some o):a < h.objs.size:=(x a o e).lt
def oz.fresh (x:oz P w H h)(e:h.objs.size<=a):H a=none:=by
 cases q:H a with
 |none=>rfl
 |some u=>exact absurd (bo (x.lt q) e) (iS _)
def oz.kept (x:oz P w H h)(k: ∀b u,h.get? b=some u->h'.get? b=some u):oz P w H h':=fun a o e=>
 (x a o e).tQ (fun b u _ q=>k b u q) (fun _ q=>q) fun _ _ q=>q
def oz.laid (x:oz P w H h)(k: ∀b u,h.get? b=some u->h'.get? b=some u)(hp:h.objs.size<=a)(new:dC P w (upd H a o) h' a o):oz P w (upd H a o) h':=fun b u e=>by
 have hn:=x.fresh hp;by_cases hb:b=a
 ·subst hb; rw[ag] at e; cases e; exact new
 ·rw[aA hb] at e;exact(x b u e).tQ (fun c v _ q=>k c v q) (fun c q=>by rw[aA (aK q hn)]; exact q) fun c xs q=>by rw[aA (aK q hn)]; exact q
end
def Rd (H:Hp)(a:Addr)(u:HO):Prop:=H a=some u∨ ∃o,H a=some (.Dc o u)
def Rd.ok {P:Program}{w:World}{H:Hp}{h:Heap}{a:Addr}{u:HO}(r:Rd H a u)(x:oz P w H h):dC P w H h a u:=by
 rcases r with r|⟨o,r⟩
 ·exact x a u r
 ·obtain⟨_,q⟩:=x a _ r;exact q
def Rz:Option HO->Prop
 |some (.lst _)=>True
 |some (.dK _)=>True
 |some (.dT _)=>True
 |some (.set _ _)=>True
 |some (.ins _ _ _)=>True
 |some (.ext _)=>True
 |_=>False
section
variable {P:Program}{w:World}{H:Hp}{h h':Heap}{x e:Addr}{o':HO}
def oz.write (ok:oz P w H h)(mu:Rz (H x))(he:e=x∨H e=some (.own x))(k: ∀b u,b≠e->h.get? b=some u->h'.get? b=some u)(QO: ∃u,h'.get? e=some u)
  (new:dC P w (upd H x o') h' x o'):oz P w (upd H x o') h':=fun b u q=>by
 have RA: ∀c y,H c=some (.own y)->c≠x:=fun c y r z=>by subst z; rw[r] at mu; exact mu
 have Wg: ∀c xs,H c=some (.tup xs)->c≠x:=fun c xs r z=>by subst z; rw[r] at mu; exact mu
 by_cases hb:b=x
 ·subst hb; rw[ag] at q; cases q; exact new
 ·rw[aA hb] at q;by_cases N9:b=e
  ·have q':H b=some (.own x):=by
    rcases he with z|z
    ·exact absurd (N9.trans z) hb
    ·rw[N9]; exact z
   rw[q] at q'; cases q';obtain⟨v,hv⟩:=QO;exact⟨v,by rw[N9]; exact hv⟩
  ·refine(ok b u q).tQ (fun c v hc r=>k c v ?_ r) (fun c r=>by rw[aA (RA c b r)]; exact r) fun c xs r=>by rw[aA (Wg c xs r)]; exact r
   rcases hc with rfl|hc
   ·exact N9
   ·rintro rfl;rcases he with z|z
    ·exact RA c b hc z
    ·rw[hc] at z; cases z; exact hb rfl
end
structure Un (fs ex:List Addr)(H H':Hp)(h h':Heap):Prop where
 keep: ∀b o,h.get? b=some o->H b=none->b∉fs->b∉ex->h'.get? b=some o
 slot: ∀b o,h.get? b=some o->H b=none->b∈fs->b∉ex-> ∃sl,h'.get? b=some {o with slots:=sl}
 free: ∀b o,h.get? b=some o->H b=none->b∉ex->H' b=none
 there: ∀b o,h.get? b=some o->b∉ex-> ∃o',h'.get? b=some o'
 qt: ∀b xs,H b=some (.tup xs)->H' b=some (.tup xs)
 pz: ∀b o u,H b=some (.Dc o u)->H' b=some (.Dc o u)
 pA: ∀b ps,H b=some (.mL ps)-> ∃more,H' b=some (.mL (ps ++ more))
section
variable {fs fs' ex ex':List Addr}{H H1 H2:Hp}{h h1 h2 h':Heap}{a x e:Addr}{o:HO}
def Un.any (u:Un fs ex H H1 h h1){b:Addr}{ob:Obj}(q:h.get? b=some ob)(n:H b=none)(hx:b∉ex): ∃sl,h1.get? b=some {ob with slots:=sl}:=by
 by_cases hb:b∈fs
 ·exact u.slot b ob q n hb hx
 ·exact⟨ob.slots,u.keep b ob q n hb hx⟩
def Un.kept (k: ∀b u,h.get? b=some u->h'.get? b=some u):Un fs ex H H h h':=
 ⟨fun b ob q _ _ _=>k b ob q,fun b ob q _ _ _=>⟨ob.slots,k b ob q⟩,fun _ _ _ n _=>n,fun b ob q _=>⟨ob,k b ob q⟩,fun _ _ q=>q,fun _ _ _ q=>q,fun _ ps q=>⟨#[],by rw[q]; simp⟩⟩
def Un.refl:Un fs ex H H h h:=Un.kept fun _ _ q=>q
def Un.laid (k: ∀b u,h.get? b=some u->h'.get? b=some u)(hp:h.objs.size<=a)(hn:H a=none):Un fs ex H (upd H a o) h h' where
 keep:=fun b u q _ _ _=>k b u q
 slot:=fun b u q _ _ _=>⟨u.slots,k b u q⟩
 free:=fun b u q n _=>by rw[aA (a8 (bo (aN q) hp))]; exact n
 there:=fun b u q _=>⟨u,k b u q⟩
 qt:=fun b xs q=>by rw[aA (aK q hn)]; exact q
 pz:=fun b u xs q=>by rw[aA (aK q hn)]; exact q
 pA:=fun b ps q=>⟨#[],by rw[aA (aK q hn),q]; simp⟩
def Un.write (mu:Rz (H x))(he:e=x∨H e=some (.own x))(k: ∀b u,b≠e->h.get? b=some u->h'.get? b=some u)(QO: ∃u,h'.get? e=some u):Un fs ex H (upd H x o) h h':=by
 have hx: ∀b,H b=none->b≠x:=fun b n z=>by subst z; rw[n] at mu; exact mu
 have hb: ∀b,H b=none->b≠e:=fun b n z=>by
  subst z;rcases he with r|r
  ·exact hx b n r
  ·rw[n] at r; cases r
 have hm: ∀b u,H b=some u-> ¬ Rz (some u)->b≠x:=fun b u q nm z=>by subst z; rw[q] at mu; exact nm mu
 refine⟨fun b u q n _ _=>k b u (hb b n) q,fun b u q n _ _=>⟨u.slots,k b u (hb b n) q⟩,fun b u q n _=>by rw[aA (hx b n)]; exact n,fun b u q _=>?_,
  fun b xs q=>by rw[aA (hm b _ q fun z=>z)]; exact q,fun b u xs q=>by rw[aA (hm b _ q fun z=>z)]; exact q,fun b ps q=>⟨#[],by rw[aA (hm b _ q fun z=>z),q]; simp⟩⟩
 by_cases N9:b=e
 ·subst N9; exact QO
 ·exact⟨u,k b u N9 q⟩
end
def Vc (h:Heap)(H:Hp):List Addr:=(List.range h.objs.size).filter fun a=>(H a).isSome
def wF (h:Heap)(H:Hp):Heap:=PySem.W.hideAll h (Vc h H)
def Gh (h:Heap)(H:Hp):(wF h H).objs.size=h.objs.size:=PySem.W.hideAll_size _ _
def ID {h:Heap}{H:Hp}{b:Addr}{o:Obj}(e:h.get? b=some o)(n:H b=none):(wF h H).get? b=some o:=
 PySem.W.hideAll_get _ e fun hm=>by
  have q:(H b).isSome=true:=(dJ.mp hm).2;rw[n] at q; simp at q
def Ln {h:Heap}{H:Hp}{b:Addr}{o:Obj}(e:(wF h H).get? b=some o):h.get? b=some o/\H b=none:=by
 have e':h.get? b=some o:=PySem.W.of_hideAll (Vc h H) e;refine⟨e',?_⟩;cases q:H b with
 |none=>rfl
 |some x=>
  have hm:b∈Vc h H:=List.mem_filter.mpr ⟨List.mem_range.mpr (Heap.lt_size e'),by simp[q]⟩;have z:(wF h H).get? b=none:=PySem.W.hideAll_none (Vc h H) hm;rw[z] at e; cases e
structure Mod (K:Frag)(mg:Str->Option Value)(base:Heap):Prop where
 Lo:K.In base
 glob:base.Ns mainGlobals mg
 blt: ∃mb,base.Ns builtinsNs mb/\ ∀x:Str,x≠"__name__"->mb x=bootBuiltins x
 nolimit:base.NoLimit
structure Cx where
 prog:Program
 w:World
 K:Frag
 mg:Str->Option Value
 base:Heap
 A:Around
 N:List Str
 s₀:Shared
 H₀:Hp
 env:Env
 outer:List Env
 stack:List Env
 ex:List Addr
 fn:Str->Bool
 calm:Bool
 pn:List (Addr×Obj)
 xe:Value->Shared->Prop
def Dq (l:List Env):List Addr:=l.filterMap (·.frame)
abbrev Cx.fs (X:Cx):List Addr:=Dq X.outer
def RB (sc:Scope)(x:Str):Prop:=sc.names.lookup x=some .local∨sc.names.lookup x=some .cell∨sc.names.lookup x=some .free
def Loc (sc:Scope)(x:Str):Prop:=sc.names.lookup x=some .local∨sc.names.lookup x=some .cell
def Look (env:Env)(h:Heap)(m:Str->Option Value)(x:Str)(u:Value):Prop:=
 (env.kindOf x=some .local/\m x=some u)∨((env.kindOf x=some .cell∨env.kindOf x=some .free)/\ ∃c,env.cells.lookup x=some c/\h.IsCell c (some u))
structure Cx.Ok (X:Cx):Prop where
 mod:Mod X.K X.mg X.base
 kind:X.env.scope.kind= .function
 glob:X.env.globals=mainGlobals
 blt:X.env.builtins=builtinsNs
 above:X.s₀.heap.objs.size<=X.env.locals
 inj: ∀x y c,X.env.cells.lookup x=some c->X.env.cells.lookup y=some c->x=y
 has: ∀x,(X.env.kindOf x=some .cell∨X.env.kindOf x=some .free)-> ∃c,X.env.cells.lookup x=some c
 K0: ∀x c,X.fn x=true->X.env.cells.lookup x=some c->X.s₀.heap.objs.size<=c
 hd:X.calm=true->X.A.handled=none
 frames:X.A.frames=some X.stack
 Io:X.stack=X.outer∨(X.stack=X.env :: X.outer/\X.env.frame=some X.env.locals)
 Lp: ∀b∈X.ex,b≠X.env.locals/\ ∀x c,X.env.cells.lookup x=some c->c≠b
 bs: ∀b o,X.base.get? b=some o->X.s₀.heap.get? b=some o/\X.H₀ b=none
 A8:X.base.objs.size<=X.s₀.heap.objs.size
 wG: ∀b o,X.base.get? b=some o->b∉X.ex
 wH: ∀b∈X.ex,b∉X.fs
 lT:X.s₀.heap.FunFrames X.base X.outer
 EH: ∀b∈X.fs,X.H₀ b=none
structure Inv (X:Cx)(pins:List (Addr×Obj))(σ:List (Option V))(H:Hp)(s:Shared):Prop where
 ok:X.Ok
 os:s.os=X.s₀.os
 bare:AllBare s.gens
 base:Un X.fs X.ex X.H₀ H X.s₀.heap s.heap
 loc: ∃m,s.heap.Ns X.env.locals m/\ ∀(i:Nat) (x:Str) (v:V),X.N[i]? =some x->σ[i]? =some (some v)->RB X.env.scope x-> ∃u,RelV v u/\Look X.env s.heap m x u
 cell: ∀x c,X.env.cells.lookup x=some c-> ∃v,s.heap.IsCell c v
 free:H X.env.locals=none
 iP: ∀x c,X.env.cells.lookup x=some c->H c=none
 pin: ∀p∈X.pn ++ pins,s.heap.get? p.1=some p.2/\H p.1=none/\p.1≠X.env.locals/\p.1∉X.fs/\ ∀v,p.2.data≠ .cell v
 cy:oz X.prog X.w H s.heap
 len:σ.length=X.N.length
section
variable {X:Cx}{pins:List (Addr×Obj)}{σ:List (Option V)}{H H':Hp}{s:Shared}{h':Heap}
def Cx.Ok.Wh (ok:X.Ok){b:Addr}{o:Obj}(e:X.base.get? b=some o):b∉X.fs:=fun hb=>by
 have:=(ok.lT.mem hb).1;rw[e] at this; cases this
def Inv.bs (I:Inv X pins σ H s): ∀b o,X.base.get? b=some o->s.heap.get? b=some o/\H b=none:=fun b o e=>
 ⟨I.base.keep b o (I.ok.bs b o e).1 (I.ok.bs b o e).2 (I.ok.Wh e) (I.ok.wG b o e),I.base.free b o (I.ok.bs b o e).1 (I.ok.bs b o e).2 (I.ok.wG b o e)⟩
def Inv.bk (I:Inv X pins σ H s): ∀b o,X.base.get? b=some o->s.heap.get? b=some o:=fun b o e=>(I.bs b o e).1
def Inv.mod (I:Inv X pins σ H s):Mod X.K X.mg X.base:=I.ok.mod
def Inv.gR (I:Inv X pins σ H s):X.K.In s.heap:=I.ok.mod.Lo.keeps I.bk
def Inv.nolimit (I:Inv X pins σ H s):s.heap.NoLimit:=I.ok.mod.nolimit.keeps I.bk
def Inv.fr (I:Inv X pins σ H s): ∃m,Fr X.base X.env.locals s.heap m:=
 let⟨m,hn,_⟩:=I.loc
 ⟨m,hn,I.bk,a0 I.ok.A8 I.ok.above⟩
def Inv.lt (I:Inv X pins σ H s):X.env.locals < s.heap.objs.size:=let⟨_,hn,_⟩:=I.loc; hn.lt
def Inv.sz (I:Inv X pins σ H s):X.s₀.heap.objs.size<=s.heap.objs.size:=a0 I.ok.above (df I.lt)
def Inv.Gi (I:Inv X pins σ H s){a:Addr}(h:s.heap.objs.size<=a):a∉X.fs:=fun hb=>by
 obtain⟨_,o,ho,_⟩:=I.ok.lT.mem hb;exact absurd (bo (aN ho) (a0 I.sz h)) (iS _)
def Inv.Nb (I:Inv X pins σ H s): ∀x c,X.env.cells.lookup x=some c->c≠X.env.locals:=fun x c e z=>by
 obtain⟨v,o,ho,hd⟩:=I.cell x c e;obtain⟨m,⟨o',es,ep,Lq,Iq,_⟩,_⟩:=I.loc;rw[z,Lq] at ho; cases ho; rw[Iq] at hd; cases hd
def Inv.lT (I:Inv X pins σ H s):s.heap.FunFrames X.base X.outer:=by
 have all: ∀(l:List Env),(∀b∈Dq l,b∈X.fs)->X.s₀.heap.FunFrames X.base l->s.heap.FunFrames X.base l:=by
  intro l
  induction l with
  |nil=>intro _ _; trivial
  |cons env r ih=>
   intro hs hl;obtain⟨hk,⟨L,o,hf,hn,ho,hd⟩,hr⟩:=hl;have hL:L∈X.fs:=hs L (by unfold Dq; rw[List.filterMap_cons,hf]; exact List.mem_cons_self);obtain⟨sl,e⟩:=I.base.slot L o ho (I.ok.EH L hL) hL fun z=>I.ok.wH L z hL;exact⟨hk,⟨L,_,hf,hn,e,hd⟩,ih (fun b hb=>hs b (by unfold Dq; rw[List.filterMap_cons,hf]; exact List.mem_cons_of_mem _ hb)) hr⟩
 exact all X.outer (fun _ hb=>hb) I.ok.lT
def Inv.stack (I:Inv X pins σ H s):s.heap.FunFrames X.base X.stack:=by
 rcases I.ok.Io with e|⟨e,hf⟩
 ·rw[e]; exact I.lT
 ·rw[e];obtain⟨m,hn,_⟩:=I.loc;refine .cons (by rw[I.ok.kind]; decide) hf hn ?_ I.lT;exact Heap.get?_none_of_le (a0 I.ok.A8 I.ok.above)
def Inv.uD (I:Inv X pins σ H s): ∀b∈Dq X.stack,b∈X.env.locals :: X.fs:=fun b hb=>by
 rcases I.ok.Io with e|⟨e,hf⟩
 ·rw[e] at hb; exact aS _ hb
 ·rw[e] at hb;unfold Dq at hb;rw[List.filterMap_cons,hf] at hb;exact hb
def Inv.qu (I:Inv X pins σ H s): ∀b∈Dq X.stack,H b=none:=fun b hb=>by
 rcases aw.mp (I.uD b hb) with e|hb
 ·rw[e]; exact I.free
 ·obtain⟨_,o,ho,_⟩:=I.ok.lT.mem hb;exact I.base.free b o ho (I.ok.EH b hb) fun z=>I.ok.wH b z hb
def Inv.step {g':Array GenState}{t':Nat}{d':Drawn}{ch:List Addr}(I:Inv X pins σ H s)
  (A9: ∀b∈ch,(b∈X.ex∨X.s₀.heap.objs.size<=b)/\b≠X.env.locals/\(∀x c,X.env.cells.lookup x=some c->c≠b)/\ ∀p∈X.pn ++ pins,p.1≠b)
  (keep: ∀b o,b≠X.env.locals->b∉X.fs->b∉ch->s.heap.get? b=some o->H b=none->h'.get? b=some o)
  (slot: ∀b o,b≠X.env.locals->b∈X.fs->b∉ch->s.heap.get? b=some o->H b=none-> ∃sl,h'.get? b=some {o with slots:=sl}) (free: ∀b o,b∉ch->s.heap.get? b=some o->H b=none->H' b=none)
  (there: ∀b o,b∉ch->s.heap.get? b=some o-> ∃o',h'.get? b=some o')
  (qt: ∀b xs,H b=some (.tup xs)->H' b=some (.tup xs)) (pz: ∀b o u,H b=some (.Dc o u)->H' b=some (.Dc o u)) (pA: ∀b ps,H b=some (.mL ps)-> ∃more,H' b=some (.mL (ps ++ more)))
  (ns: ∀m,s.heap.Ns X.env.locals m->h'.Ns X.env.locals m) (cy:oz X.prog X.w H' h') (hg:AllBare g'):
  Inv X pins σ H' {s with heap:=h',gens:=g',drawn:=d',toks:=t'}:=by
 have Zq: ∀b o,X.s₀.heap.get? b=some o->b≠X.env.locals:=fun b o e=>a8 (bo (aN e) I.ok.above);have Vd: ∀b o,X.s₀.heap.get? b=some o->b∉X.ex->b∉ch:=fun b o e hx hb=>by
  rcases(A9 b hb).1 with z|z
  ·exact hx z
  ·exact absurd (bo (aN e) z) (iS _)
 have cellK: ∀x c,X.env.cells.lookup x=some c-> ∀v,s.heap.IsCell c v->h'.IsCell c v:=fun x c e v ⟨o,ho,hd⟩=>by
  have RC:c∉ch:=fun z=>(A9 c z).2.2.1 x c e rfl;by_cases hc:c∈X.fs
  ·obtain⟨sl,q⟩:=slot c o (I.Nb x c e) hc RC ho (I.iP x c e);exact⟨_,q,hd⟩
  ·exact⟨o,keep c o (I.Nb x c e) hc RC ho (I.iP x c e),hd⟩
 refine⟨I.ok,I.os,hg,⟨fun b o e n hb hx=>?_,fun b o e n hb hx=>?_,fun b o e n hx=>?_,fun b o e hx=>?_,fun b xs e=>qt b xs (I.base.qt b xs e),fun b o xs e=>pz b o xs (I.base.pz b o xs e),fun b ps e=>?_⟩,?_,fun x c e=>?_,?_,fun x c e=>?_,fun p hp=>?_,cy,I.len⟩
 ·exact keep b o (Zq b o e) hb (Vd b o e hx) (I.base.keep b o e n hb hx) (I.base.free b o e n hx)
 ·obtain⟨sl,e1⟩:=I.base.slot b o e n hb hx;obtain⟨sl',e2⟩:=slot b _ (Zq b o e) hb (Vd b o e hx) e1 (I.base.free b o e n hx);exact⟨sl',e2⟩
 ·obtain⟨o',e1⟩:=I.base.there b o e hx;exact free b o' (Vd b o e hx) e1 (I.base.free b o e n hx)
 ·obtain⟨o',e1⟩:=I.base.there b o e hx;exact there b o' (Vd b o e hx) e1
 ·obtain⟨m1,e1⟩:=I.base.pA b ps e;obtain⟨m2,e2⟩:=pA b _ e1;exact⟨m1 ++ m2,by rw[e2,Array.append_assoc]⟩
 ·obtain⟨m,hn,hl⟩:=I.loc;refine⟨m,ns m hn,fun i x v e1 e2 e3=>?_⟩;obtain⟨u,r,l⟩:=hl i x v e1 e2 e3;refine⟨u,r,?_⟩;rcases l with l|⟨k,c,e,z⟩
  ·exact .inl l
  ·exact .inr ⟨k,c,e,cellK x c e _ z⟩
 ·obtain⟨v,z⟩:=I.cell x c e;exact⟨v,cellK x c e v z⟩
 ·obtain⟨m,⟨o,_,_,ho,_⟩,_⟩:=I.loc;exact free _ o (fun z=>(A9 _ z).2.1 rfl) ho I.free
 ·obtain⟨v,o,ho,hd⟩:=I.cell x c e;exact free c o (fun z=>(A9 c z).2.2.1 x c e rfl) ho (I.iP x c e)
 ·obtain⟨e,n,ne,nf,d⟩:=I.pin p hp;have RC:p.1∉ch:=fun z=>(A9 p.1 z).2.2.2 p hp rfl;exact⟨keep p.1 p.2 ne nf RC e n,free p.1 p.2 RC e n,ne,nf,d⟩
def Inv.un {t':Nat}(I:Inv X pins σ H s)(u:Un X.fs [] H H' s.heap h')(cy:oz X.prog X.w H' h'):Inv X pins σ H' {s with heap:=h',toks:=t'}:=by
 obtain⟨m,⟨o,es,ep,ho,r⟩,_⟩:=id I.loc;obtain⟨sl,hL⟩:=u.any ho I.free (by simp);exact I.step (g':=s.gens) (d':=s.drawn) (ch:=[]) (fun _ z=>nomatch z) (fun b o _ hb _ e n=>u.keep b o e n hb (by simp)) (fun b o _ hb _ e n=>u.slot b o e n hb (by simp)) (fun b o _ e n=>u.free b o e n (by simp)) (fun b o _ e=>u.there b o e (by simp)) u.qt u.pz u.pA (fun m' hm=>by
  obtain⟨o',Wi,Wj,Lq,r'⟩:=hm;rw[ho] at Lq; cases Lq;exact⟨_,Wi,Wj,hL,r'⟩) cy I.bare
def Inv.call {g':Array GenState}{t':Nat}{d':Drawn}{ch:List Addr}(I:Inv X pins σ H s)(u:Un (Dq X.stack) ch H H' s.heap h')(cy:oz X.prog X.w H' h')(hg:AllBare g')
  (A9: ∀b∈ch,(b∈X.ex∨X.s₀.heap.objs.size<=b)/\b≠X.env.locals/\(∀x c,X.env.cells.lookup x=some c->c≠b)/\ ∀p∈X.pn ++ pins,p.1≠b):
  Inv X pins σ H' {s with heap:=h',gens:=g',drawn:=d',toks:=t'}:=by
 obtain⟨m,⟨o,es,ep,ho,r⟩,_⟩:=id I.loc;obtain⟨sl,hL⟩:=u.any ho I.free fun z=>(A9 _ z).2.1 rfl;exact I.step (ch:=ch) A9 (fun b o hL hb hc e n=>u.keep b o e n (fun z=>(aw.mp (I.uD b z)).elim hL hb) hc) (fun b o _ _ hc e n=>u.any e n hc) (fun b o hc e n=>u.free b o e n hc) (fun b o hc e=>u.there b o e hc) u.qt u.pz u.pA (fun m' hm=>by
  obtain⟨o',Wi,Wj,Lq,r'⟩:=hm;rw[ho] at Lq; cases Lq;exact⟨_,Wi,Wj,hL,r'⟩) cy hg
def Inv.turned {t':Nat}{it:Addr}(I:Inv X pins σ H s)(k: ∀b o,b≠it->s.heap.get? b=some o->h'.get? b=some o)(hn:H it=none)(hL:it≠X.env.locals)
  (h1:it∈X.ex∨X.s₀.heap.objs.size<=it) (h2: ∀x c,X.env.cells.lookup x=some c->c≠it) (h3: ∀p∈X.pn ++ pins,p.1≠it):Inv X pins σ H {s with heap:=h',toks:=t'}:=by
 have RD: ∀b u,H b=some u->b≠it:=fun b u e z=>by rw[z,hn] at e; cases e
 refine I.step (g':=s.gens) (d':=s.drawn) (ch:=[it]) (fun b hb=>?_) (fun b o _ _ hc e _=>k b o (fun z=>hc (by simp[z])) e) (fun b o _ _ hc e _=>⟨o.slots,k b o (fun z=>hc (by simp[z])) e⟩) (fun _ _ _ _ n=>n)
  (fun b o hc e=>⟨o,k b o (fun z=>hc (by simp[z])) e⟩) (fun _ _ e=>e) (fun _ _ _ e=>e) (fun b ps e=>⟨#[],by rw[e]; simp⟩) (fun m hm=>?_) (fun b u e=>?_) I.bare
 ·have e:b=it:=by simpa using hb
  subst e;exact⟨h1,hL,h2,h3⟩
 ·obtain⟨o,es,ep,ho,r⟩:=hm;exact⟨o,es,ep,k _ o (wy hL) ho,r⟩
 ·refine(I.cy b u e).tQ (fun c v hc q=>k c v ?_ q) (fun _ q=>q) fun _ _ q=>q;rcases hc with z|z
  ·rw[z]; exact RD b u e
  ·exact RD c _ z
def Inv.tok (I:Inv X pins σ H s)(t:Nat):Inv X pins σ H {s with toks:=t}:=I.un (h':=s.heap) (t':=t) Un.refl I.cy
def Inv.kept {t':Nat}(I:Inv X pins σ H s)(k: ∀b u,s.heap.get? b=some u->h'.get? b=some u):Inv X pins σ H {s with heap:=h',toks:=t'}:=I.un (Un.kept k) (I.cy.kept k)
def Inv.laid {a:Addr}{o:HO}{t':Nat}(I:Inv X pins σ H s)(k: ∀b u,s.heap.get? b=some u->h'.get? b=some u)(hp:s.heap.objs.size<=a)(new:dC X.prog X.w (upd H a o) h' a o):
  Inv X pins σ (upd H a o) {s with heap:=h',toks:=t'}:=I.un (Un.laid k hp (I.cy.fresh hp)) (I.cy.laid k hp new)
def Inv.write {x e:Addr}{o:HO}{t':Nat}(I:Inv X pins σ H s)(mu:Rz (H x))(he:e=x∨H e=some (.own x))(k: ∀b u,b≠e->s.heap.get? b=some u->h'.get? b=some u)(QO: ∃u,h'.get? e=some u)
  (new:dC X.prog X.w (upd H x o) h' x o):Inv X pins σ (upd H x o) {s with heap:=h',toks:=t'}:=I.un (Un.write mu he k QO) (I.cy.write mu he k QO new)
def Inv.uf {Ba:List (Addr×Obj)}(I:Inv X pins σ H s)(h: ∀p∈Ba,s.heap.get? p.1=some p.2/\H p.1=none/\p.1≠X.env.locals/\p.1∉X.fs/\ ∀v,p.2.data≠ .cell v):Inv X Ba σ H s:=
 ⟨I.ok,I.os,I.bare,I.base,I.loc,I.cell,I.free,I.iP,fun p hp=>(bq.mp hp).elim (fun z=>I.pin p (cW _ z)) (h p),I.cy,I.len⟩
def Bb {N:List Str}(hN:N.Nodup){i j:Nat}{x:Str}(a:N[i]? =some x)(b:N[j]? =some x):i=j:=by
 obtain⟨h1,e1⟩:=ak.mp a;obtain⟨h2,e2⟩:=ak.mp b;exact(List.getElem_inj hN).mp (e1.trans e2.symm)
def xS {M:Model}{A:Around}{E:Value->Shared->Prop}{i:Nat}{x:Str}{v:V}{u:Value}{Q:Unit->Shared->Prop}(I:Inv X pins σ H s)(hN:X.N.Nodup)(hi:X.N[i]? =some x)(hx:Loc X.env.scope x)(r:RelV v u)
  (h: ∀s',Inv X pins (σ.set i (some v)) H s'->(∃a,Heap.SameBut a s.heap s'.heap/\(a=X.env.locals∨X.env.cells.lookup x=some a))->Q () s') (hf:X.fn x=true∨X.env.scope.names.lookup x=some .local:=by first|exact .inl rfl|exact .inr rfl|assumption):wpAny M A (storeName X.env x u) Q E s:=by
 obtain⟨m,hn,hl⟩:=id I.loc;have Oa:(X.env.scope.kind == .class || (X.env.scope.kind == .module && X.env.locals != X.env.globals))=false:=by rw[I.ok.kind]; rfl
 have Zr:i < σ.length:=by rw[I.len]; exact(ak.mp hi).1
 have Nb:=I.Nb;have tracked: ∀{a:Addr} {h':Heap},(∃o,s.heap.get? a=some o/\H a=none)->Heap.SameBut a s.heap h'->oz X.prog X.w H h':=fun{a h'} ha hs b ob e=>by
  obtain⟨_,_,xT⟩:=ha;refine(I.cy b ob e).tQ (fun c w' hc q=>(hs.2 c ?_).trans q) (fun _ q=>q) fun _ _ q=>q;rintro rfl;rcases hc with rfl|hc
  ·rw[xT] at e; cases e
  ·rw[xT] at hc; cases hc
 rcases hx with hk|hk
 ·refine wpAny_storeName_local hk hn (fun h' Wk hs=>?_) Oa;obtain⟨oL,_,_,Ob,_⟩:=id hn;refine h _ ⟨I.ok,I.os,I.bare,⟨fun b o e n hb hx=>?_,fun b o e n hb hx=>?_,I.base.free,fun b o e hx=>?_,I.base.qt,I.base.pz,I.base.pA⟩,⟨_,Wk,fun j y v' e1 e2 e3=>?_⟩,fun y c e=>?_,I.free,I.iP,fun p hp=>?_,tracked ⟨oL,Ob,I.free⟩ hs,by simpa using I.len⟩ ⟨_,hs,.inl rfl⟩
  ·exact(hs.2 b (a8 (bo (aN e) I.ok.above))).trans (I.base.keep b o e n hb hx)
  ·obtain⟨sl,e1⟩:=I.base.slot b o e n hb hx;exact⟨sl,(hs.2 b (a8 (bo (aN e) I.ok.above))).trans e1⟩
  ·obtain⟨o',e1⟩:=I.base.there b o e hx;exact⟨o',(hs.2 b (a8 (bo (aN e) I.ok.above))).trans e1⟩
  ·by_cases hj:j=i
   ·subst hj;rw[hi] at e1; cases e1;rw[k9 Zr] at e2;cases e2;exact⟨u,r,.inl ⟨hk,by simp⟩⟩
   ·rw[mJ (wy hj)] at e2;obtain⟨u',r',q⟩:=hl j y v' e1 e2 e3;refine⟨u',r',?_⟩;rcases q with⟨k,e⟩|⟨k,c,e,z⟩
    ·refine .inl ⟨k,?_⟩;have:y≠x:=fun e=>hj (Bb hN e1 (e▸hi));simp[this,e]
    ·exact .inr ⟨k,c,e,z.sameBut hs (Nb y c e)⟩
  ·obtain⟨w',z⟩:=I.cell y c e;exact⟨w',z.sameBut hs (Nb y c e)⟩
  ·obtain⟨e,n,ne,nf,d⟩:=I.pin p hp;exact⟨(hs.2 p.1 ne).trans e,n,ne,nf,d⟩
 ·have Lr:X.fn x=true:=by
   rcases hf with z|z
   ·exact z
   ·rw[z] at hk; cases hk
  obtain⟨c,hc⟩:=I.ok.has x (.inl hk);obtain⟨w',z⟩:=I.cell x c hc;refine wpAny_storeName_cell I.ok.kind hk hc z (fun h' Oc hs=>?_);obtain⟨oc,QP,Wl⟩:=id z;refine h {s with heap:=h'} ⟨I.ok,I.os,I.bare,⟨fun b o e n hb hx=>?_,fun b o e n hb hx=>?_,I.base.free,fun b o e hx=>?_,I.base.qt,I.base.pz,I.base.pA⟩,⟨m,hn.sameBut hs (Ne.symm (Nb x c hc)),fun j y v' e1 e2 e3=>?_⟩,fun y c' e=>?_,I.free,I.iP,fun p hp=>?_,tracked ⟨oc,QP,I.iP x c hc⟩ hs,by simpa using I.len⟩ ⟨c,hs,.inr hc⟩
  ·exact(hs.2 b (a8 (bo (aN e) (I.ok.K0 x c Lr hc)))).trans (I.base.keep b o e n hb hx)
  ·obtain⟨sl,e1⟩:=I.base.slot b o e n hb hx;exact⟨sl,(hs.2 b (a8 (bo (aN e) (I.ok.K0 x c Lr hc)))).trans e1⟩
  ·obtain⟨o',e1⟩:=I.base.there b o e hx;exact⟨o',(hs.2 b (a8 (bo (aN e) (I.ok.K0 x c Lr hc)))).trans e1⟩
  ·by_cases hj:j=i
   ·subst hj;rw[hi] at e1; cases e1;rw[k9 Zr] at e2;cases e2;exact⟨u,r,.inr ⟨.inl hk,c,hc,Oc⟩⟩
   ·rw[mJ (wy hj)] at e2;obtain⟨u',r',q⟩:=hl j y v' e1 e2 e3;refine⟨u',r',?_⟩;rcases q with q|⟨k,c',e,z'⟩
    ·exact .inl q
    ·refine .inr ⟨k,c',e,z'.sameBut hs ?_⟩;rintro rfl;exact hj (Bb hN e1 (I.ok.inj _ _ _ e hc▸hi))
  ·by_cases Ve:c'=c
   ·subst Ve; exact⟨_,Oc⟩
   ·obtain⟨w2,z2⟩:=I.cell y c' e;exact⟨w2,z2.sameBut hs Ve⟩
  ·obtain⟨e,n,ne,nf,d⟩:=I.pin p hp;refine⟨(hs.2 p.1 ?_).trans e,n,ne,nf,d⟩;intro q;rw[q,QP] at e;have q':oc=p.2:=aD e;exact d w' (by rw[← q']; exact Wl)
def uE {M:Model}{A:Around}{E:Value->Shared->Prop}{i:Nat}{x:Str}{v:V}{u:Value}{Q:Unit->Shared->Prop}(I:Inv X pins σ H s)(hN:X.N.Nodup)(hi:X.N[i]? =some x)(hx:Loc X.env.scope x)(r:RelV v u)
  (h: ∀s',Inv X pins (σ.set i (some v)) H s'->Q () s') (hf:X.fn x=true∨X.env.scope.names.lookup x=some .local:=by first|exact .inl rfl|exact .inr rfl|assumption):wpAny M A (storeName X.env x u) Q E s:=
 xS I hN hi hx r (fun s' I' _=>h s' I') hf
def Inv.EI {s':Shared}{ch:List Addr}(I:Inv X pins σ H s)(ho:s'.os=s.os)(u:Un (Dq X.stack) ch H H' s.heap s'.heap)(cy:oz X.prog X.w H' s'.heap)(hg:AllBare s'.gens)
  (A9: ∀b∈ch,(b∈X.ex∨X.s₀.heap.objs.size<=b)/\b≠X.env.locals/\(∀x c,X.env.cells.lookup x=some c->c≠b)/\ ∀p∈X.pn ++ pins,p.1≠b):Inv X pins σ H' s':=by
 obtain⟨h',g',d',t',o'⟩:=s';have e:o'=s.os:=ho;subst e;exact I.call (g':=g') (t':=t') (d':=d') u cy hg A9
end
abbrev XK:=Value->Option Addr->Hp->Prop
abbrev St:=List (Option V)
abbrev VK:=V->Hp->Prop
abbrev TE:=St->Hp->VK->Prop
abbrev TT:=St->Hp->(Bool->Hp->Prop)->Prop
abbrev TA:=St->Hp->(List V->Hp->Prop)->Prop
structure Ends where
 nx:St->Hp->Prop
 rt:VK
 bk:St->Hp->Prop:=fun _ _=>False
 ct:St->Hp->Prop:=fun _ _=>False
abbrev TS:=Ends->St->Hp->Prop
def EP (X:Cx)(pins:List (Addr×Obj))(σ:St)(Q:VK)(u:Value)(s':Shared):Prop:= ∃v H',Inv X pins σ H' s'/\RelV v u/\Q v H'
def TP (X:Cx)(pins:List (Addr×Obj))(σ:St)(Q:Bool->Hp->Prop)(b:Bool)(s':Shared):Prop:= ∃H',Inv X pins σ H' s'/\Q b H'
def AP (X:Cx)(pins:List (Addr×Obj))(σ:St)(Q:List V->Hp->Prop)(us:List Value)(s':Shared):Prop:= ∃vs H',Inv X pins σ H' s'/\Vals vs us/\Q vs H'
def SP (X:Cx)(pins:List (Addr×Obj))(D:Ends)(f:Flow)(s':Shared):Prop:=
 match f with
 | .next=> ∃σ' H',Inv X pins σ' H' s'/\D.nx σ' H'
 | .brk=> ∃σ' H',Inv X pins σ' H' s'/\D.bk σ' H'
 | .cont=> ∃σ' H',Inv X pins σ' H' s'/\D.ct σ' H'
 | .ret u=> ∃v σ' H',Inv X pins σ' H' s'/\RelV v u/\D.rt v H'
def PE (X:Cx)(e:Expr)(t:TE):Prop:=
 ∀(pins:List (Addr×Obj)) (s:Shared) (σ:St) (H:Hp) (Q:VK),Inv X pins σ H s->t σ H Q->wpAny (model X.prog X.w) X.A (eval e X.env) (EP X pins σ Q) X.xe s
def PT (X:Cx)(e:Expr)(t:TT):Prop:=
 ∀(pins:List (Addr×Obj)) (s:Shared) (σ:St) (H:Hp) (Q:Bool->Hp->Prop),Inv X pins σ H s->t σ H Q->wpAny (model X.prog X.w) X.A (isTrue e X.env (eval e X.env)) (TP X pins σ Q) X.xe s
def PW (X:Cx)(e:Expr)(t:TT):Prop:=
 ∀(whole:Sem Value) (pins:List (Addr×Obj)) (s:Shared) (σ:St) (H:Hp) (Q:Bool->Hp->Prop),Inv X pins σ H s->t σ H Q->wpAny (model X.prog X.w) X.A (isTrue e X.env whole) (TP X pins σ Q) X.xe s
def PW.pt {X:Cx}{e:Expr}{t:TT}(h:PW X e t):PT X e t:=h _
def PA (X:Cx)(es:List Expr)(t:TA):Prop:=
 ∀(pos:Pos) (pins:List (Addr×Obj)) (s:Shared) (σ:St) (H:Hp) (Q:List V->Hp->Prop),Inv X pins σ H s->t σ H Q->wpAny (model X.prog X.w) X.A (spliced (backTo pos (starEach es X.env))) (AP X pins σ Q) X.xe s
def PS (X:Cx)(st:Stmt)(t:TS):Prop:=
 ∀(pins:List (Addr×Obj)) (s:Shared) (σ:St) (H:Hp) (D:Ends),Inv X pins σ H s->t D σ H->wpAny (model X.prog X.w) X.A (exec st X.env) (SP X pins D) X.xe s
def oN (X:Cx)(st:List Stmt)(t:TS):Prop:=
 ∀(pins:List (Addr×Obj)) (s:Shared) (σ:St) (H:Hp) (D:Ends),Inv X pins σ H s->t D σ H->wpAny (model X.prog X.w) X.A (execs st X.env) (SP X pins D) X.xe s
def dZ {α:Type}{t:Sem α}{Q Q':α->Shared->Prop}{M:Model}{A:Around}{E:Value->Shared->Prop}{s:Shared}(h:wpAny M A t Q E s)(hQ: ∀a s,Q a s->Q' a s):wpAny M A t Q' E s:=ck h hQ fun _ _ x=>x
section
variable {X:Cx}
inductive Zs (o:Option (Option V))(k:V->Prop):Prop
 |mk (v:V)(h:o=some (some v))(q:k v):Zs o k
def RE (i:Nat):TE:=fun σ H Q=>Zs σ[i]? fun v=>Q v H
def tC (v:V):TE:=fun _ H Q=>Q v H
def Dr {i:Nat}{x:Str}{pos:Pos}(hN:X.N[i]? =some x)(hv:RB X.env.scope x)(hd:(x == ("__debug__":Str))=false:=by decide)(rM:(x == ("__classdict__":Str))=false:=by decide):PE X (.Name x pos) (RE i):=by
 intro pins s σ H Q I h;obtain⟨v,e,h⟩:=h;obtain⟨m,hn,hl⟩:=I.loc;obtain⟨u,r,l⟩:=hl i x v hN e hv;have fin:EP X pins σ Q u s:=⟨v,H,I,r,h⟩;rcases l with⟨hk,hm⟩|⟨hk,c,hc,mq⟩
 ·exact wpAny_Name (wpAny_loadName_local I.ok.kind hk hn hm fin) hd
 ·rcases hk with hk|hk
  ·exact wpAny_Name (wpAny_loadName_cell I.ok.kind hk hc mq fin) hd
  ·exact wpAny_Name (wpAny_loadName_free I.ok.kind hk hc mq fin rM) hd
def ai {i j pos}:PE X (.Constant (.int i) j pos) (tC (.int i)):=fun _ _ _ H _ I h=>wpAny_Constant_int ⟨.int i,H,I.tok _,⟨_,rfl⟩,h⟩
def kB {b j pos}:PE X (.Constant (.bool b) j pos) (tC (.bl b)):=fun _ _ _ H _ I h=>Constant_bool ⟨.bl b,H,I,rfl,h⟩
def Du {j pos}:PE X (.Constant .none j pos) (tC .eu):=fun _ _ _ H _ I h=>Constant_none ⟨.eu,H,I,rfl,h⟩
def aV {x j pos}:PE X (.Constant (.str x) j pos) (tC (.str x)):=fun _ _ _ H _ I h=>Calls.Constant_str ⟨.str x,H,I.tok _,⟨_,rfl⟩,h⟩
def Gl (X:Cx)(x:Str):Prop:=X.env.kindOf x=some .globalImplicit
def jA {E:Value->Shared->Prop}{pins:List (Addr×Obj)}{s:Shared}{σ:St}{H:Hp}{x:Str}{u:Value}{pos:Pos}{Q:Value->Shared->Prop}(I:Inv X pins σ H s)(hg:Gl X x)(hm:X.mg x=some u)(h:Q u s)
  (hd:(x == ("__debug__":Str))=false:=by decide):wpAny (model X.prog X.w) X.A (eval (.Name x pos) X.env) Q E s:=
 Calls.Name_function_global I.ok.kind hg (Calls.loadGlobal_global (by rw[I.ok.glob]; exact I.mod.glob.keeps I.bk) hm h) hd
def pB {E:Value->Shared->Prop}{pins:List (Addr×Obj)}{s:Shared}{σ:St}{H:Hp}{x:Str}{u:Value}{pos:Pos}{Q:Value->Shared->Prop}(I:Inv X pins σ H s)(hg:Gl X x)(hm:X.mg x=none)(hv:bootBuiltins x=some u)(h:Q u s)
  (hn:x≠"__name__":=by decide) (hd:(x == ("__debug__":Str))=false:=by decide):wpAny (model X.prog X.w) X.A (eval (.Name x pos) X.env) Q E s:=by
 obtain⟨mb,h1,h2⟩:=I.mod.blt;exact Calls.Name_function_global I.ok.kind hg (Calls.loadGlobal_builtin (by rw[I.ok.glob]; exact I.mod.glob.keeps I.bk) hm (by rw[I.ok.blt]; exact h1.keeps I.bk) ((h2 x hn).trans hv) h) hd
def EJ {x:Str}{v:V}{u:Value}{pos:Pos}(hg:Gl X x)(hm:X.mg x=some u)(r:RelV v u)(hd:(x == ("__debug__":Str))=false:=by decide):PE X (.Name x pos) (tC v):=
 fun _ _ _ H _ I h=>jA I hg hm ⟨v,H,I,r,h⟩ hd
def yR {x:Str}{v:V}{u:Value}{pos:Pos}(hg:Gl X x)(hm:X.mg x=none)(hv:bootBuiltins x=some u)(r:RelV v u)(hn:x≠"__name__":=by decide)(hd:(x == ("__debug__":Str))=false:=by decide):PE X (.Name x pos) (tC v):=
 fun _ _ _ H _ I h=>pB I hg hm hv ⟨v,H,I,r,h⟩ hn hd
variable {a b:Expr}{ta tb:TE}{pos:Pos}
def PC (X:Cx)(op:CmpOp)(a b:Expr)(t:TE):Prop:=
 ∀(pins:List (Addr×Obj)) (s:Shared) (σ:St) (H:Hp) (Q:VK),Inv X pins σ H s->t σ H Q->
  wpAny (model X.prog X.w) X.A (eval a X.env) (fun v s₁=>wpAny (model X.prog X.w) X.A (eval b X.env) (fun u s₂=>wpAny (model X.prog X.w) X.A (compareOp op v u) (EP X pins σ Q) X.xe s₂) X.xe s₁) X.xe s
def Bc (b:Expr){op:CmpOp}(h:op≠ .In)(h2:op≠ .NotIn):behindInMarks op b=false:=by
 have e1:(op == CmpOp.In)=false:=by cases op <;> first|rfl|exact absurd rfl h
 have e2:(op == CmpOp.NotIn)=false:=by cases op <;> first|rfl|exact absurd rfl h2
 cases b <;> simp[behindInMarks,e1,e2]
def Wm (ta:TE):TE:=fun σ H Q=>ta σ H fun x H1=>Q (.bl (decide (x= .eu))) H1
def RF (ta:TE):TE:=fun σ H Q=>ta σ H fun x H1=>Q (.bl (!decide (x= .eu))) H1
def RelV.Bd {x:V}{v:Value}(r:RelV x v):(v == Value.none)=decide (x= .eu):=by
 cases x with
 |eu=>cases r; rfl
 |bl _=>cases r; rfl
 |int _=>obtain⟨t,rfl⟩:=r; rfl
 |str _=>obtain⟨t,rfl⟩:=r; rfl
 |Gg _=>obtain⟨t,rfl⟩:=r; rfl
 |Lm _=>obtain⟨t,rfl⟩:=r; rfl
 |ref _=>cases r; rfl
 |ty _=>cases r; rfl
def IE {j pos'}(ha:PE X a ta):PC X .Is a (.Constant .none j pos') (Wm ta):=by
 intro pins s σ H Q I h;refine dZ (ha pins s σ H _ I h) fun v s1 ⟨x,H1,I1,r1,q1⟩=>?_;exact Constant_none (is_none_gen ⟨.bl _,H1,I1,by rw[r1.Bd]; rfl,q1⟩)
def Ls {j pos'}(ha:PE X a ta):PC X .IsNot a (.Constant .none j pos') (RF ta):=by
 intro pins s σ H Q I h;refine dZ (ha pins s σ H _ I h) fun v s1 ⟨x,H1,I1,r1,q1⟩=>?_;exact Constant_none (isnot_none_gen ⟨.bl _,H1,I1,by rw[r1.Bd]; rfl,q1⟩)
def tB (t:TE):TT:=fun σ H Q=>t σ H fun x H1=> ∃c,x= .bl c/\Q c H1
def Od {op:CmpOp}{t:TE}(h:PC X op a b t)(h1:behindInMarks op b=false:=by first|exact Bc _ (by decide) (by decide)|rfl):PE X (.Compare a [op] [b] pos) t:=fun pins s σ H Q I hw=>wpAny_Compare1 (h pins s σ H Q I hw) h1
def yS {op:CmpOp}{t:TE}(h:PC X op a b t)(h1:behindInMarks op b=false:=by first|exact Bc _ (by decide) (by decide)|rfl):PT X (.Compare a [op] [b] pos) (tB t):=by
 intro pins s σ H Q I hw;refine wpAny_isTrue_Compare1 (dZ (h pins s σ H _ I hw) fun v s1 h1=>dZ h1 fun u s2 h2=>dZ h2 fun c s3 ⟨x,H1,I1,r1,q1⟩=>?_) h1;obtain⟨d,rfl,q⟩:=q1;cases r1;exact fQ ⟨H1,I1,q⟩
def gf {e:Expr}{t:TE}(h:PE X e t)(he: ∀whole,isTrue e X.env whole=(do let v ← whole; standAt e.pos; holding [v] (truthy v)):=by intro _; rfl):PT X e (tB t):=by
 intro pins s σ H Q I hw;refine isTrue_plain (dZ (h pins s σ H _ I hw) fun v s1 ⟨x,H1,I1,r1,q1⟩=>?_) (he _);obtain⟨d,rfl,q⟩:=q1;cases r1;exact fQ ⟨H1,I1,q⟩
variable {tA Vf:TT}{rest:List Expr}
def Wn (t u:TT):TT:=fun σ H Q=>t σ H fun c H1=>if c=true then u σ H1 Q else Q false H1
def tOr (t u:TT):TT:=fun σ H Q=>t σ H fun c H1=>if c=true then Q true H1 else u σ H1 Q
def Wo (t:TT):TT:=fun σ H Q=>t σ H fun c H1=>Q (!c) H1
def pw_and1 (ha:PT X a tA):PW X (.BoolOp .And [a] pos) tA:=by
 intro wh pins s σ H Q I h;refine isTrue_and (dZ (ha pins s σ H Q I h) fun c s1 e=>?_);cases c with
 |true=>exact isTrue_and_nil e
 |false=>exact e
def pw_or1 (ha:PT X a tA):PW X (.BoolOp .Or [a] pos) tA:=by
 intro wh pins s σ H Q I h;refine isTrue_or (dZ (ha pins s σ H Q I h) fun c s1 e=>?_);cases c with
 |false=>exact isTrue_or_nil e
 |true=>exact e
def pw_and (ha:PT X a tA)(hb:PW X (.BoolOp .And (b :: rest) pos) Vf):PW X (.BoolOp .And (a :: b :: rest) pos) (Wn tA Vf):=by
 intro wh pins s σ H Q I h;refine isTrue_and (dZ (ha pins s σ H _ I h) fun c s1 ⟨H1,I1,q1⟩=>?_);cases c with
 |true=>exact hb wh pins s1 σ H1 Q I1 q1
 |false=>exact⟨H1,I1,q1⟩
def pw_or (ha:PT X a tA)(hb:PW X (.BoolOp .Or (b :: rest) pos) Vf):PW X (.BoolOp .Or (a :: b :: rest) pos) (tOr tA Vf):=by
 intro wh pins s σ H Q I h;refine isTrue_or (dZ (ha pins s σ H _ I h) fun c s1 ⟨H1,I1,q1⟩=>?_);cases c with
 |true=>exact⟨H1,I1,q1⟩
 |false=>exact hb wh pins s1 σ H1 Q I1 q1
def jM (ha:PT X a tA):PT X (.UnaryOp .Not a pos) (Wo tA):=by
 intro pins s σ H Q I h;exact isTrue_not (ha pins s σ H (fun c H1=>Q (!c) H1) I h)
def RG (ta tb:TE):TE:=fun σ H Q=>ta σ H fun x H1=> ∃c,x= .bl c/\if c=true then tb σ H1 Q else Q (.bl false) H1
def Wq (ta tb:TE):TE:=fun σ H Q=>ta σ H fun x H1=> ∃c,x= .bl c/\if c=true then Q (.bl true) H1 else tb σ H1 Q
def RH (ta:TE):TE:=fun σ H Q=>ta σ H fun x H1=> ∃c,x= .bl c/\Q (.bl (!c)) H1
def lU {op}{t:TE}(h:PE X a t):PE X (.BoolOp op [a] pos) t:=fun pins s σ H Q I hw=>BoolOp_one (h pins s σ H Q I hw)
def mN (ha:PE X a ta)(hb:PE X (.BoolOp .And (b :: rest) pos) tb):PE X (.BoolOp .And (a :: b :: rest) pos) (RG ta tb):=by
 intro pins s σ H Q I h;refine BoolOp_and (dZ (ha pins s σ H _ I h) fun v s1 ⟨x,H1,I1,r1,q1⟩=>?_);obtain⟨c,rfl,q1⟩:=q1;cases r1;refine fQ ?_;cases c with
 |true=>exact hb pins s1 σ H1 Q I1 q1
 |false=>exact⟨.bl false,H1,I1,rfl,q1⟩
def RI (ha:PE X a ta)(hb:PE X (.BoolOp .Or (b :: rest) pos) tb):PE X (.BoolOp .Or (a :: b :: rest) pos) (Wq ta tb):=by
 intro pins s σ H Q I h;refine BoolOp_or (dZ (ha pins s σ H _ I h) fun v s1 ⟨x,H1,I1,r1,q1⟩=>?_);obtain⟨c,rfl,q1⟩:=q1;cases r1;refine fQ ?_;cases c with
 |false=>exact hb pins s1 σ H1 Q I1 q1
 |true=>exact⟨.bl true,H1,I1,rfl,q1⟩
def Oe (ha:PE X a ta):PE X (.UnaryOp .Not a pos) (RH ta):=by
 intro pins s σ H Q I h;refine UnaryOp_ (dZ (ha pins s σ H _ I h) fun v s1 ⟨x,H1,I1,r1,q1⟩=>?_);obtain⟨c,rfl,q1⟩:=q1;cases r1;exact not_of (fQ ⟨.bl (!c),H1,I1,rfl,q1⟩)
end
def bw (K:Frag)(H:Hp)(a:Addr)(xs:List V):Prop:=
 Rd H a (.lst xs)∨
  ∃(o:Obj) (bZ:Array Value) (n:Nat),K.lookup a=some o/\o.cls= .type "list"/\o.dict=none/\o.data= .seq bZ n/\bZ.size<=sizeLine/\Vals xs bZ.toList
def cz (K:Frag)(H:Hp)(a:Addr)(xs:List V):Prop:=
 Rd H a (.tup xs)∨
  ∃(o:Obj) (bZ:Array Value) (n:Nat),K.lookup a=some o/\o.cls= .type "tuple"/\o.data= .seq bZ n/\bZ.size<=sizeLine/\Vals xs bZ.toList
def Wr:Value->Option V
 | .none=>some .eu
 | .bool b=>some (.bl b)
 | .int i _=>some (.int i)
 | .str x _=>some (.str x)
 | .bytes b _=>some (.Gg b)
 | .float b _=>some (.Lm b)
 | .ref a=>some (.ref a)
 | .type n=>some (.ty n)
 |_=>none
def RelV.abs {x:V}{u:Value}(r:RelV x u):Wr u=some x:=by
 cases x with
 |eu=>cases r; rfl
 |bl _=>cases r; rfl
 |int _=>obtain⟨t,rfl⟩:=r; rfl
 |str _=>obtain⟨t,rfl⟩:=r; rfl
 |Gg _=>obtain⟨t,rfl⟩:=r; rfl
 |Lm _=>obtain⟨t,rfl⟩:=r; rfl
 |ref _=>cases r; rfl
 |ty _=>cases r; rfl
def RelV.inj {x y:V}{u:Value}(r:RelV x u)(q:RelV y u):x=y:=aD (r.abs.symm.trans q.abs)
def Vals.inj: ∀{xs ys:List V} {us:List Value},Vals xs us->Vals ys us->xs=ys
 |_,_,_,.nil,.nil=>rfl
 |_,_,_,.cons r t,.cons r' t'=>by rw[r.inj r',Vals.inj t t']
section
variable {X:Cx}{pins:List (Addr×Obj)}{σ:St}{H:Hp}{s:Shared}{a:Addr}{xs ys:List V}
def bw.of {K:Frag}(h:H a=some (.lst xs)):bw K H a xs:= .inl (.inl h)
def cz.of {K:Frag}(h:H a=some (.tup xs)):cz K H a xs:= .inl (.inl h)
def Inv.list (I:Inv X pins σ H s)(h:bw X.K H a xs): ∃bZ:List Value,Vals xs bZ/\PlainL s.heap a bZ.toArray/\xs.length<=sizeLine:=by
 rcases h with h|⟨o,bZ,n,hk,hc,hd,hs,hz,r⟩
 ·obtain⟨z,bZ,n,r,e⟩:=h.ok I.cy;exact⟨bZ,r,⟨_,n,e,rfl,rfl,rfl⟩,z⟩
 ·refine⟨bZ.toList,r,⟨o,n,I.gR a o hk,hc,hd,by simpa using hs⟩,?_⟩;have e:=r.length;simp only[Array.length_toList] at e;lia
def Inv.tuple (I:Inv X pins σ H s)(h:cz X.K H a xs): ∃bZ:List Value,Vals xs bZ/\IsTup s.heap a bZ.toArray/\xs.length<=sizeLine:=by
 rcases h with h|⟨o,bZ,n,hk,hc,hs,hz,r⟩
 ·obtain⟨z,bZ,r,p⟩:=h.ok I.cy;exact⟨bZ,r,p,z⟩
 ·refine⟨bZ.toList,r,⟨o,I.gR a o hk,hc,n,by simpa using hs⟩,?_⟩;have e:=r.length;simp only[Array.length_toList] at e;lia
def Inv.Be (I:Inv X pins σ H s)(h:bw X.K H a xs)(h':bw X.K H a ys):xs=ys:=by
 obtain⟨bZ,r,⟨o,n,e,_,_,d⟩,_⟩:=I.list h;obtain⟨qv,r',⟨o',n',e',_,_,d'⟩,_⟩:=I.list h';rw[e] at e'; cases e';rw[d] at d';injection d' with d1 _;have:bZ=qv:=by simpa using congrArg Array.toList d1
 subst this;exact r.inj r'
def Inv.Gj (I:Inv X pins σ H s)(h:cz X.K H a xs)(h':cz X.K H a ys):xs=ys:=by
 obtain⟨bZ,r,⟨o,e,_,n,d⟩,_⟩:=I.tuple h;obtain⟨qv,r',⟨o',e',_,n',d'⟩,_⟩:=I.tuple h';rw[e] at e'; cases e';rw[d] at d';injection d' with d1 _;have:bZ=qv:=by simpa using congrArg Array.toList d1
 subst this;exact r.inj r'
end
abbrev Cx.uF (X:Cx)(E:Value->Shared->Prop):Cx:={X with xe:=E}
abbrev Cx.Dv (X:Cx):Cx:=X.uF fun _ _=>False
def Cx.Ok.uF {X:Cx}(ok:X.Ok)(E:Value->Shared->Prop):(X.uF E).Ok:=
 ⟨ok.mod,ok.kind,ok.glob,ok.blt,ok.above,ok.inj,ok.has,ok.K0,ok.hd,ok.frames,ok.Io,ok.Lp,ok.bs,ok.A8,ok.wG,ok.wH,ok.lT,ok.EH⟩
def Cx.Ok.mO {X:Cx}{E:Value->Shared->Prop}(ok:(X.uF E).Ok):X.Ok:=
 ⟨ok.mod,ok.kind,ok.glob,ok.blt,ok.above,ok.inj,ok.has,ok.K0,ok.hd,ok.frames,ok.Io,ok.Lp,ok.bs,ok.A8,ok.wG,ok.wH,ok.lT,ok.EH⟩
section
variable {X:Cx}{pins:List (Addr×Obj)}{σ:St}{H:Hp}{s:Shared}{E:Value->Shared->Prop}
def Inv.uF (I:Inv X pins σ H s)(E:Value->Shared->Prop):Inv (X.uF E) pins σ H s:=⟨I.ok.uF E,I.os,I.bare,I.base,I.loc,I.cell,I.free,I.iP,I.pin,I.cy,I.len⟩
def Inv.mO (I:Inv (X.uF E) pins σ H s):Inv X pins σ H s:=⟨I.ok.mO,I.os,I.bare,I.base,I.loc,I.cell,I.free,I.iP,I.pin,I.cy,I.len⟩
def SP.mO {D:Ends}{f:Flow}{s':Shared}(h:SP (X.uF E) pins D f s'):SP X pins D f s':=by
 cases f with
 |next=>obtain⟨σ',H',I,q⟩:=h; exact⟨σ',H',I.mO,q⟩
 |brk=>obtain⟨σ',H',I,q⟩:=h; exact⟨σ',H',I.mO,q⟩
 |cont=>obtain⟨σ',H',I,q⟩:=h; exact⟨σ',H',I.mO,q⟩
 |ret u=>obtain⟨v,σ',H',I,r,q⟩:=h; exact⟨v,σ',H',I.mO,r,q⟩
def oN.Dv {st:List Stmt}{t:TS}(h:oN X.Dv st t):oN X st t:=fun pins s σ H D I hw=>
 ck (h pins s σ H D (I.uF _) hw) (fun _ _ q=>q.mO) fun _ _ z=>False.elim z
end
section
variable {X:Cx}{st:Stmt}{rest:List Stmt}{t u:TS}{e:Expr}{te:TE}{pos:Pos}
def RJ:TS:=fun D σ H=>D.nx σ H
def Ws (t u:TS):TS:=fun D σ H=>t {D with nx:=u D} σ H
def bh:oN X [] RJ:=fun _ _ σ H _ I h=>jq ⟨σ,H,I,h⟩
def ah (h1:PS X st t)(h2:oN X rest u):oN X (st :: rest) (Ws t u):=by
 intro pins s σ H D I h;refine wpAny_execs_cons (dZ (h1 pins s σ H {D with nx:=u D} I h) fun f s1 q=>?_);cases f with
 |next=>
  obtain⟨σ',H',I',q⟩:=q;exact h2 pins s1 σ' H' D I' q
 |ret v=>exact q
 |brk=>exact q
 |cont=>exact q
def au (h1:PS X st t):oN X [st] t:=by
 intro pins s σ H D I h;refine wpAny_execs_cons (dZ (h1 pins s σ H D I h) fun f s1 q=>?_);cases f with
 |next=>exact jq q
 |ret v=>exact q
 |brk=>exact q
 |cont=>exact q
def Inv.quiet {pins:List (Addr×Obj)}{σ:St}{H:Hp}{s:Shared}(I:Inv X pins σ H s):interactive X.env=false:=by simp[interactive,I.ok.kind]
def RK (te:TE):TS:=fun D σ H=>te σ H fun _ H1=>D.nx σ H1
def bK (he:PE X e te)(hs:swapsWith e none pos.line X.env=pure false:=by rfl):PS X (.Expr e pos) (RK te):=by
 intro pins s σ H D I h;exact wpAny_Expr_any (dZ (he pins s σ H _ I h) fun v s1 ⟨x,H1,I1,r1,q1⟩=>⟨σ,H1,I1,q1⟩) I.quiet hs
def Wt (te:TE):TS:=fun D σ H=>te σ H D.rt
def a9 (he:PE X e te):PS X (.Return (some e) pos) (Wt te):=by
 intro pins s σ H D I h;exact wpAny_Return_some (dZ (he pins s σ H _ I h) fun v s1 ⟨x,H1,I1,r1,q1⟩=>⟨x,σ,H1,I1,r1,q1⟩)
def Wu (c:TT)(t u:TS):TS:=fun D σ H=>c σ H fun b H1=>if b=true then t D σ H1 else u D σ H1
def bP {c:Expr}{a b:List Stmt}{tc:TT}(hc:PT X c tc)(ha:oN X a t)(hb:oN X b u):PS X (.If c a b pos) (Wu tc t u):=by
 intro pins s σ H D I h;refine wpAny_If (dZ (hc pins s σ H _ I h) fun d s1 ⟨H1,I1,q1⟩=>?_);cases d with
 |true=>exact ha pins s1 σ H1 D I1 q1
 |false=>exact hb pins s1 σ H1 D I1 q1
end
abbrev TG:=V->St->Hp->(St->Hp->Prop)->Prop
abbrev Lu:=List V->St->Hp->(St->Hp->Prop)->Prop
def PG (X:Cx)(target:Expr)(t:TG):Prop:=
 ∀(pins:List (Addr×Obj)) (s:Shared) (σ:St) (H:Hp) (v:V) (u:Value) (Q:St->Hp->Prop),Inv X pins σ H s->RelV v u->t v σ H Q->
  wpAny (model X.prog X.w) X.A (assign target X.env u) (fun _ s'=> ∃σ' H',Inv X pins σ' H' s'/\Q σ' H') X.xe s
def IF (X:Cx)(ts:List Expr)(t:Lu):Prop:=
 ∀(pins:List (Addr×Obj)) (s:Shared) (σ:St) (H:Hp) (vs:List V) (us:List Value) (Q:St->Hp->Prop),Inv X pins σ H s->Vals vs us->t vs σ H Q->
  wpAny (model X.prog X.w) X.A (assignInOrder ((assignEach ts X.env).map (·.2)) us) (fun _ s'=> ∃σ' H',Inv X pins σ' H' s'/\Q σ' H') X.xe s
abbrev Of:=V->V->V->Hp->(Hp->Prop)->Prop
def RL (X:Cx)(t:Of):Prop:=
 ∀(pins:List (Addr×Obj)) (s:Shared) (σ:St) (H:Hp) (o i v:V) (ov iv u:Value) (Q:Hp->Prop),Inv X pins σ H s->RelV o ov->RelV i iv->RelV v u->t o i v H Q->
  wpAny (model X.prog X.w) X.A (setItem ov iv u) (fun _ s'=> ∃H',Inv X pins σ H' s'/\Q H') X.xe s
section
variable {X:Cx}{pos:Pos}
def Bf (i:Nat):TG:=fun v σ H Q=>Q (σ.set i (some v)) H
def ez {i:Nat}{x:Str}(hN:X.N.Nodup)(hi:X.N[i]? =some x)(hx:Loc X.env.scope x)(hf:X.fn x=true∨X.env.scope.names.lookup x=some .local:=by first|exact .inl rfl|exact .inr rfl|assumption):PG X (.Name x pos) (Bf i):=by
 intro pins s σ H v u Q I r h;exact wpAny_assign_Name (uE I hN hi hx r (fun s' I'=>⟨_,H,I',h⟩) hf)
def Wv:Lu:=fun vs σ H Q=>vs=[]/\Q σ H
inductive Zt (vs:List V)(k:V->List V->Prop):Prop
 |mk (v:V)(r:List V)(h:vs=v :: r)(q:k v r):Zt vs k
def RM (t:TG)(u:Lu):Lu:=fun vs σ H Q=>Zt vs fun v r=>t v σ H fun σ' H'=>u r σ' H' Q
def gh:IF X [] Wv:=by
 intro pins s σ H vs us Q I r h;obtain⟨e,h⟩:=h;subst e;cases r;exact assignInOrder_nil ⟨σ,H,I,h⟩
def bX {e:Expr}{es:List Expr}{t:TG}{u:Lu}(h1:PG X e t)(h2:IF X es u)
  (hs:(assignEach (e :: es) X.env).map (·.2)=assign e X.env :: (assignEach es X.env).map (·.2):=by rfl):IF X (e :: es) (RM t u):=by
 intro pins s σ H vs us Q I r h;obtain⟨v,vr,e1,h⟩:=h;subst e1;cases r with
 |cons r rr=>
  rw[hs];refine assignInOrder_cons (dZ (h1 pins s σ H _ _ _ I r h) fun _ s1 ⟨σ1,H1,I1,q1⟩=>?_);exact h2 pins s1 σ1 H1 _ _ Q I1 rr q1
inductive Zu (K:Frag)(H:Hp)(n:Nat)(v:V)(k:List V->Prop):Prop
 |mk (a:Addr)(xs:List V)(h1:v= .ref a)(h2:cz K H a xs)(h3:xs.length=n)(q:k xs):Zu K H n v k
def Og (K:Frag)(n:Nat)(t:Lu):TG:=fun v σ H Q=>Zu K H n v fun xs=>t xs σ H Q
def IG {es:List Expr}{k:Nat}{t:Lu}{n:Nat}(hc:X.calm=true)(h:IF X es t)
  (hn:(assignEach es X.env).length=n:=by rfl) (nX:(assignEach es X.env).findIdx? (·.1)=none:=by rfl):PG X (.Tuple es k pos) (Og X.K n t):=by
 intro pins s σ H v u Q I r hw;obtain⟨a,xs,e1,hq,hl,hw⟩:=hw;subst e1;cases r;obtain⟨bZ,rv,ht,hz⟩:=I.tuple hq;refine assign_Tuple_tuple (I.ok.hd hc) ht (by simp[hn,← hl,rv.length]) nX fun h' hx=>?_;have I1:Inv X pins σ H {s with heap:=h'}:=I.kept (t':=s.toks) fun b o e=>hx b o (a8 (aN e)) e;exact h pins _ σ H xs _ Q I1 (by simpa using rv) hw
def Ww (to ti:TE)(t:Of):TG:=fun v σ H Q=>to σ H fun o H1=>ti σ H1 fun i H2=>t o i v H2 fun H3=>Q σ H3
def rX {o i:Expr}{to ti:TE}{t:Of}(ho:PE X o to)(hi:PE X i ti)(hs:RL X t)
  (ha: ∀v,assign (.Subscript o i pos) X.env v=(do
   let ov ← holding [v] (eval o X.env)
   let iv ← holding [v,ov] (eval i X.env)
   standAt pos
   holding [v,ov,iv] (setItem ov iv v)
   release [v,ov,iv] []):=by intro _; rfl):PG X (.Subscript o i pos) (Ww to ti t):=by
 intro pins s σ H v u Q I r h;rw[ha];refine az (iy (dZ (ho pins s σ H _ I h) fun ov s1 ⟨x,H1,I1,r1,q1⟩=>?_));refine az (iy (dZ (hi pins s1 σ H1 _ I1 q1) fun iv s2 ⟨y,H2,I2,r2,q2⟩=>?_));refine az (iz (az (iy (dZ (hs pins s2 σ H2 x y v ov iv u _ I2 r1 r2 r q2) fun _ s3 ⟨H3,I3,q3⟩=>?_))));exact wpAny_release ⟨σ,H3,I3,q3⟩
def Lv (te:TE)(g:TG):TS:=fun D σ H=>te σ H fun x H1=>g x σ H1 D.nx
def lV {tg e:Expr}{te:TE}{g:TG}(he:PE X e te)(hg:PG X tg g)(hs:swapsWithSole [tg] e pos.line X.env=pure false:=by rfl)(hw:swappedStores [tg] e X.env=pure none:=by rfl)
  (h1:(assignEach [tg] X.env).map (·.2)=[assign tg X.env]:=by rfl):PS X (.Assign [tg] e pos) (Lv te g):=by
 intro pins s σ H D I h;refine wpAny_Assign_stores (dZ (he pins s σ H _ I h) fun v s1 ⟨x,H1,I1,r1,q1⟩=>?_) hs hw;rw[h1];exact dZ (hg pins s1 σ H1 x v _ I1 r1 q1) fun _ s2 q=>q
def Oh {i:Nat}{x:Str}{e:Expr}{te:TE}{pos':Pos}(hN:X.N.Nodup)(hi:X.N[i]? =some x)(hx:Loc X.env.scope x)(he:PE X e te)(hs:swapsWith e (some (.Name x pos')) pos.line X.env=pure false:=by rfl)(hf:X.fn x=true∨X.env.scope.names.lookup x=some .local:=by first|exact .inl rfl|exact .inr rfl|assumption):
  PS X (.Assign [.Name x pos'] e pos) (Lv te (Bf i)):=by
 intro pins s σ H D I h;refine wpAny_Assign_Name (dZ (he pins s σ H _ I h) fun v s1 ⟨y,H1,I1,r1,q1⟩=>?_) hs;exact uE I1 hN hi hx r1 (fun s2 I2=>⟨_,H1,I2,q1⟩) hf
def Oi (c:TT)(tb:TS):TS:=fun D σ H=> ∃W:Nat->St->Hp->Prop,(∃m,W m σ H)/\ ∀m σ H,W m σ H->
 c σ H fun b H1=>if b=true then ∃N:St->Hp->Prop,(∀σ' H',N σ' H'-> ∃m',m' < m/\W m' σ' H')/\tb {D with nx:=N,ct:=N,bk:=D.nx} σ H1 else D.nx σ H1
def IH {c:Expr}{body:List Stmt}{tc:TT}{tb:TS}(hp:PassesOwn (model X.prog X.w) X.A X.env X.xe)(hc:PT X c tc)(hb:oN X body tb):PS X (.While c body [] pos) (Oi tc tb):=by
 intro pins s σ H D I h;obtain⟨W,⟨m0,w0⟩,turn⟩:=h;refine wpAny_While (codeAny_whileLoop (fun n s'=> ∃σ' H',Inv X pins σ' H' s'/\W n σ' H') ?_ m0 ⟨σ,H,I,w0⟩);rintro n s1 ⟨σ1,H1,I1,w1⟩;refine dQ hp (dZ (hc pins s1 σ1 H1 _ I1 (turn n σ1 H1 w1)) fun b s2 ⟨H2,I2,q2⟩=>?_);cases b with
 |true=>
  obtain⟨N,hN,q2⟩:=q2;rw[aZ rfl];refine dQ hp (dZ (hb pins s2 σ1 H2 _ I2 q2) fun f s3 q3=>?_);cases f with
  |next=>
   obtain⟨σ3,H3,I3,n3⟩:=q3;obtain⟨m',hm,w3⟩:=hN σ3 H3 n3;exact⟨m',hm,σ3,H3,I3,w3⟩
  |cont=>
   obtain⟨σ3,H3,I3,n3⟩:=q3;obtain⟨m',hm,w3⟩:=hN σ3 H3 n3;exact⟨m',hm,σ3,H3,I3,w3⟩
  |brk=>exact q3
  |ret v=>exact q3
 |false=>
  rw[aO aR];exact jq ⟨σ1,H2,I2,q2⟩
end
structure It where
 go:Nat->Hp->Prop
 QQ:Nat->Hp->V->Hp->Prop
 stop:Nat->Hp->Prop
def uG (X:Cx)(pins:List (Addr×Obj))(H:Hp)(b:Addr):Prop:=
 H b=none/\b≠X.env.locals/\b∉X.fs/\(b∈X.ex∨X.s₀.heap.objs.size<=b)/\(∀x c,X.env.cells.lookup x=some c->c≠b)/\ ∀p∈X.pn ++ pins,p.1≠b
def Inv.Gk {X:Cx}{pins:List (Addr×Obj)}{σ:St}{H H':Hp}{s:Shared}{b:Addr}(I:Inv X pins σ H s)(hb:s.heap.objs.size<=b)(hn:H' b=none):uG X pins H' b:=by
 refine⟨hn,qg (bo I.lt hb),I.Gi hb,.inr (a0 I.sz hb),fun x c e z=>?_,fun p hp z=>?_⟩
 ·obtain⟨v,q⟩:=I.cell x c e;exact absurd (bo q.lt (by rw[z]; exact hb)) (iS _)
 ·exact absurd (bo (aN (I.pin p hp).1) (by rw[z]; exact hb)) (iS _)
structure Turn (P:Program)(w:World)(K:Frag)(tg:Expr)(J:It)(fp:List Addr)(it:Addr)(tn:Nat->Heap->Prop):Prop where
 mem:it∈fp
 obj: ∀i h,tn i h-> ∀b∈fp,∃o,h.get? b=some o/\ ∀v,o.data≠ .cell v
 keep: ∀i h h',tn i h->(∀b∈fp,∀o,h.get? b=some o->h'.get? b=some o)->tn i h'
 item: ∀(X:Cx),X.prog=P->X.w=w->X.K=K->X.calm=true-> ∀(i:Nat) (pins:List (Addr×Obj)) (s:Shared) (σ:St) (H:Hp) (E:Value->Shared->Prop),Inv X pins σ H s->(∀b∈fp,uG X pins H b)->tn i s.heap->J.go i H->
  wpAny (model P w) X.A (pyNext (.ref it)) (fun r s1=> ∃u,r=some u/\
   wpAny (model P w) X.A (letOwnedTupleGo tg (.ref it) u) (fun _ s2=> ∃x H',Inv X pins σ H' s2/\RelV x u/\J.QQ i H x H'/\tn (i + 1) s2.heap/\ ∀b∈fp,H' b=none) E s1) E s
 done: ∀(X:Cx),X.prog=P->X.w=w->X.K=K->X.calm=true-> ∀(i:Nat) (pins:List (Addr×Obj)) (s:Shared) (σ:St) (H:Hp) (E:Value->Shared->Prop),Inv X pins σ H s->(∀b∈fp,uG X pins H b)->tn i s.heap->J.stop i H->
  wpAny (model P w) X.A (pyNext (.ref it)) (fun r s1=>r=none/\Inv X pins σ H s1) E s
 self: ∀(A:Around) (i:Nat) (s:Shared) (Q:Value->Shared->Prop) (E:Value->Shared->Prop),tn i s.heap->Q (.ref it) s->wpAny (model P w) A (pyIter (.ref it)) Q E s
abbrev TI:=St->Hp->(It->Hp->Prop)->Prop
def Zv (X:Cx)(pins:List (Addr×Obj))(σ:St)(tg:Expr)(R:It->Hp->Prop)(Vg:Value)(s2:Shared):Prop:=
 ∃(it:Addr) (fp:List Addr) (tn:Nat->Heap->Prop) (J:It) (H':Hp),Vg= .ref it/\Inv X pins σ H' s2/\Turn X.prog X.w X.K tg J fp it tn/\tn 0 s2.heap/\(∀b∈fp,uG X pins H' b)/\R J H'
def PI (X:Cx)(tg iter:Expr)(wi:TI):Prop:=
 ∀(pins:List (Addr×Obj)) (s:Shared) (σ:St) (H:Hp) (R:It->Hp->Prop),Inv X pins σ H s->wi σ H R->
  wpAny (model X.prog X.w) X.A (eval iter X.env) (fun v s1=>wpAny (model X.prog X.w) X.A (pyIter v) (Zv X pins σ tg R) X.xe s1) X.xe s
def EK {M:Model}{A:Around}{E:Value->Shared->Prop}{s:Shared}{tg:Expr}{it:Addr}{u:Value}{o:Obj}{n:String}{vs:Array Value}{Q:Unit->Shared->Prop}(ho:s.heap.get? it=some o)(hc:o.cls= .type n)(hd:o.data= .fields vs)
  (hn:["enumerate","zip","dict_itemiterator","dict_reverseitemiterator","odict_iterator","itertools.zip_longest","itertools.pairwise"].contains n=false) (hQ:Q () s):wpAny M A (letOwnedTupleGo tg (.ref it) u) Q E s:=by
 unfold letOwnedTupleGo;cases tg <;> first
  |exact bF hQ
  |(cases u <;> first
    |exact bF hQ
    |(refine az (wpAny_load ho ?_)
      rw[hc,hd];show wpAny M A (if(["enumerate","zip","dict_itemiterator","dict_reverseitemiterator","odict_iterator","itertools.zip_longest","itertools.pairwise"].contains n && vs[0]? == some (rawInt _))=true then _ else _) Q E s;rw[aO (by intro h; rw[hn,qq] at h; cases h)];exact bF hQ))
def QR (K:Frag)(a:Addr):It:=
 ⟨fun i H=> ∃xs x,bw K H a xs/\xs[i]? =some x,fun i H x H'=>H'=H/\ ∀xs,bw K H a xs->xs[i]? =some x,fun i H=> ∃xs,bw K H a xs/\xs.length<=i⟩
def Wx (K:Frag)(a:Addr):It:=
 ⟨fun i H=> ∃xs x,cz K H a xs/\xs[i]? =some x,fun i H x H'=>H'=H/\ ∀xs,cz K H a xs->xs[i]? =some x,fun i H=> ∃xs,cz K H a xs/\xs.length<=i⟩
def Nc (lo:Int)(n:Nat):It:=⟨fun i _=>i < n,fun i H x H'=>H'=H/\x= .int (lo + i),fun i _=>n<=i⟩
def Gm {P:Program}{w:World}{K:Frag}{tg:Expr}(a it:Addr):Turn P w K tg (QR K a) [it] it (fun i h=>h.IsListIter it a i) where
 mem:=by simp
 obj:=fun i h st b hb=>by
  have e:b=it:=by simpa using hb
  subst e;obtain⟨o,e,c,d⟩:=st;exact⟨o,e,fun v z=>by rw[d] at z; cases z⟩
 keep:=fun i h h' st k=>st.at fun o e=>k it (by simp) o e
 item:=by
  intro X hP hw hK hc i pins s σ H E I hf st hg;subst hP hw hK;obtain⟨xs,x,hq,hx⟩:=hg;obtain⟨bZ,rv,p,hz⟩:=I.list hq;obtain⟨u,hu,ru⟩:=rv.get hx;obtain⟨f0,f1,f2,f3,f4,f5⟩:=hf it (by simp);refine wpAny_pyNext_list_item st p.isList (x:=u) (by simpa using hu) fun h' AW sb=>?_;have I1:Inv X pins σ H {s with heap:=h'}:=I.turned (t':=s.toks) (fun b o hb e=>(sb.2 b hb).trans e) f0 f1 f3 f4 f5;obtain⟨o,e,c,d⟩:=id AW;exact⟨u,rfl,EK (s:={s with heap:=h'}) e c d (by decide) ⟨x,H,I1,ru,⟨rfl,fun ys hy=>by rw[I.Be hy hq]; exact hx⟩,AW,fun b hb=>(hf b hb).1⟩⟩
 done:=by
  intro X hP hw hK hc i pins s σ H E I hf st hg;subst hP hw hK;obtain⟨xs,hq,hx⟩:=hg;obtain⟨bZ,rv,p,hz⟩:=I.list hq;obtain⟨f0,f1,f2,f3,f4,f5⟩:=hf it (by simp);have hl:=rv.length;exact wpAny_pyNext_list_end (I.ok.hd hc) st p.isList (by simp; lia) fun h' eb=>⟨rfl,I.turned (t':=s.toks) (fun b o hb e=>eb b o hb e) f0 f1 f3 f4 f5⟩
 self:=fun _ _ _ _ _ st h=>wpAny_pyIter_listiter st h
def Dw {P:Program}{w:World}{K:Frag}{tg:Expr}(a it:Addr):Turn P w K tg (Wx K a) [it] it (fun i h=>h.IsTupleIter it a i) where
 mem:=by simp
 obj:=fun i h st b hb=>by
  have e:b=it:=by simpa using hb
  subst e;obtain⟨o,e,c,d⟩:=st;exact⟨o,e,fun v z=>by rw[d] at z; cases z⟩
 keep:=fun i h h' st k=>st.at fun o e=>k it (by simp) o e
 item:=by
  intro X hP hw hK hc i pins s σ H E I hf st hg;subst hP hw hK;obtain⟨xs,x,hq,hx⟩:=hg;obtain⟨bZ,rv,p,hz⟩:=I.tuple hq;obtain⟨u,hu,ru⟩:=rv.get hx;obtain⟨f0,f1,f2,f3,f4,f5⟩:=hf it (by simp);refine wpAny_pyNext_tuple_item st (show s.heap.IsTuple a bZ.toArray from p) (x:=u) (by simpa using hu) fun h' AW sb=>?_;have I1:Inv X pins σ H {s with heap:=h'}:=I.turned (t':=s.toks) (fun b o hb e=>(sb.2 b hb).trans e) f0 f1 f3 f4 f5;obtain⟨o,e,c,d⟩:=id AW;exact⟨u,rfl,EK (s:={s with heap:=h'}) e c d (by decide) ⟨x,H,I1,ru,⟨rfl,fun ys hy=>by rw[I.Gj hy hq]; exact hx⟩,AW,fun b hb=>(hf b hb).1⟩⟩
 done:=by
  intro X hP hw hK hc i pins s σ H E I hf st hg;subst hP hw hK;obtain⟨xs,hq,hx⟩:=hg;obtain⟨bZ,rv,p,hz⟩:=I.tuple hq;obtain⟨f0,f1,f2,f3,f4,f5⟩:=hf it (by simp);have hl:=rv.length;exact wpAny_pyNext_tuple_end (I.ok.hd hc) st (show s.heap.IsTuple a bZ.toArray from p) (by simp; lia) fun h' eb=>⟨rfl,I.turned (t':=s.toks) (fun b o hb e=>eb b o hb e) f0 f1 f3 f4 f5⟩
 self:=fun _ _ _ _ _ st h=>wpAny_pyIter_tupleiter st h
def Dx {P:Program}{w:World}{K:Frag}{tg:Expr}(it:Addr)(lo:Int)(n:Nat):Turn P w K tg (Nc lo n) [it] it (fun i h=>IsRangeIter h it (lo + (i:Nat) * 1) ((n:Int) - (i:Nat)) 1) where
 mem:=by simp
 obj:=fun i h st b hb=>by
  have e:b=it:=by simpa using hb
  subst e;exact⟨_,st,fun v z=>by
   have z':Data.fields _ =Data.cell v:=z;cases z'⟩
 keep:=fun i h h' st k=>k it (by simp) _ st
 item:=by
  intro X hP hw hK hc i pins s σ H E I hf st hg;subst hP hw hK;obtain⟨f0,f1,f2,f3,f4,f5⟩:=hf it (by simp);have W:=Walks.range (prog:=X.prog) (w:=X.w) (I.ok.hd hc) it lo 1 n;refine W.item i s _ _ hg st fun v h' tk hv AW kk=>?_;obtain⟨t,rfl⟩:=hv;have I1:Inv X pins σ H {s with heap:=h',toks:=tk}:=I.turned (fun b o hb e=>kk b o (by simpa using hb) e) f0 f1 f3 f4 f5;refine⟨_,rfl,EK (s:={s with heap:=h',toks:=tk}) (n:="range_iterator") AW rfl rfl (by decide) ⟨.int (lo + i),H,I1,⟨t,?_⟩,⟨rfl,rfl⟩,AW,fun b hb=>(hf b hb).1⟩⟩;rw[Int.mul_one]
 done:=by
  intro X hP hw hK hc i pins s σ H E I hf st hg;subst hP hw hK;obtain⟨f0,f1,f2,f3,f4,f5⟩:=hf it (by simp);exact wpAny_pyNext_range_end (I.ok.hd hc) st (by have:n<=i:=hg; lia) fun h' eb=>⟨rfl,I.turned (t':=s.toks) (fun b o hb e=>eb b o hb e) f0 f1 f3 f4 f5⟩
 self:=fun _ _ _ _ _ st h=>wpAny_pyIter_rangeiter st h
section
variable {X:Cx}{tg:Expr}
inductive Zw (x:V)(S k:Addr->Prop):Prop
 |mk (a:Addr)(h:x= .ref a)(s:S a)(q:k a):Zw x S k
def Nd (K:Frag)(tl:TE):TI:=fun σ H R=>tl σ H fun x H1=>Zw x (fun a=> ∃xs,bw K H1 a xs) fun a=>R (QR K a) H1
def Wy (K:Frag)(tl:TE):TI:=fun σ H R=>tl σ H fun x H1=> ∃a,x= .ref a/\(∃xs,cz K H1 a xs)/\R (Wx K a) H1
def Lw {l:Expr}{tl:TE}(hl:PE X l tl):PI X tg l (Nd X.K tl):=by
 intro pins s σ H R I h;refine dZ (hl pins s σ H _ I h) fun v s1 ⟨x,H1,I1,r1,q1⟩=>?_;obtain⟨a,e,⟨xs,hq⟩,q⟩:=q1;subst e;cases r1;obtain⟨bZ,rv,p,hz⟩:=I1.list hq;refine wpAny_pyIter_list p.isList ?_;refine⟨s1.heap.objs.size,[s1.heap.objs.size],_,_,H1,rfl,I1.kept (t':=s1.toks) fun b o e=>ay _ e,Gm a _,⟨_,bO _ rfl,rfl,rfl⟩,fun b hb=>?_,q⟩;have e:b=s1.heap.objs.size:=by simpa using hb
 subst e;exact I1.Gk (aI _) (I1.cy.fresh (aI _))
def Oj {l:Expr}{tl:TE}(hl:PE X l tl):PI X tg l (Wy X.K tl):=by
 intro pins s σ H R I h;refine dZ (hl pins s σ H _ I h) fun v s1 ⟨x,H1,I1,r1,q1⟩=>?_;obtain⟨a,e,⟨xs,hq⟩,q⟩:=q1;subst e;cases r1;obtain⟨bZ,rv,p,hz⟩:=I1.tuple hq;refine wpAny_pyIter_tuple (show s1.heap.IsTuple a bZ.toArray from p) ?_;refine⟨s1.heap.objs.size,[s1.heap.objs.size],_,_,H1,rfl,I1.kept (t':=s1.toks) fun b o e=>ay _ e,Dw a _,⟨_,bO _ rfl,rfl,rfl⟩,fun b hb=>?_,q⟩;have e:b=s1.heap.objs.size:=by simpa using hb
 subst e;exact I1.Gk (aI _) (I1.cy.fresh (aI _))
def II {pins:List (Addr×Obj)}{σ:St}{H:Hp}{s:Shared}{R:It->Hp->Prop}{E:Value->Shared->Prop}{lo hi:Int}{t u v:Tok}{tk:Nat}(I:Inv X pins σ H s)(h1: -(2 ^ 62)<=lo)(h2:lo < 2 ^ 62)(h3: -(2 ^ 62)<=hi)(h4:hi < 2 ^ 62)
  (q:R (Nc lo (hi - lo).toNat) H):wpAny (model X.prog X.w) X.A (pyIter (.ref s.heap.objs.size)) (Zv X pins σ tg R) E {s with heap:=s.heap.push {cls:= .type "range",data:= .fields #[.int lo t,.int hi u,.int 1 v]},toks:=tk}:=by
 refine wpAny_pyIter_range (IsRange.new ..) (small_one h1 h2 h3 h4) ?_;have I1:Inv X pins σ H {s with heap:=s.heap.push {cls:= .type "range",data:= .fields #[.int lo t,.int hi u,.int 1 v]},toks:=tk}:=I.kept fun b o e=>ay _ e;refine⟨(s.heap.push {cls:= .type "range",data:= .fields #[.int lo t,.int hi u,.int 1 v]}).objs.size,[(s.heap.push {cls:= .type "range",data:= .fields #[.int lo t,.int hi u,.int 1 v]}).objs.size],_,_,H,rfl,
  I1.kept (t':=tk) fun b o e=>ay _ e,Dx _ lo (hi - lo).toNat,?_,fun b hb=>?_,q⟩
 ·have e1:lo + ((0:Nat):Int) * 1=lo:=by simp
  have e2:(((hi - lo).toNat:Nat):Int) - ((0:Nat):Int)=Builtin.Range.rangeSize lo hi 1:=by rw[rangeSize_one]; split <;> lia
  show IsRangeIter _ _ (lo + ((0:Nat):Int) * 1) ((((hi - lo).toNat:Nat):Int) - ((0:Nat):Int)) 1;rw[e1,e2];exact bO _ rfl
 ·have e:b=(s.heap.push {cls:= .type "range",data:= .fields #[.int lo t,.int hi u,.int 1 v]}).objs.size:=by simpa using hb
  subst e;exact I1.Gk (aI _) (I1.cy.fresh (aI _))
def RN (ta:TA):TI:=fun σ H R=>ta σ H fun vs H1=> ∃j:Int,vs=[.int j]/\ -(2 ^ 62)<=j/\j < 2 ^ 62/\R (Nc 0 j.toNat) H1
def hX {a:Expr}{ta:TA}{p pos:Pos}(hg:Gl X "range")(hm:X.mg "range"=none)(ha:PA X [a] ta)(hs:starEach [a] X.env=[(false,eval a X.env)]:=by rfl):PI X tg (.Call (.Name "range" p) [a] [] pos) (RN ta):=by
 intro pins s σ H R I h;refine Call_ (pB I hg hm boot_range (om (dZ (ha pos pins s σ H _ I h) fun us s1 ⟨vs,H1,I1,r1,q1⟩=>?_) hs rfl));obtain⟨j,e,q1,q2,q⟩:=q1;subst e;cases r1 with
 |cons r rr=>
  cases rr;obtain⟨t,rfl⟩:=r;exact call_range_1 (II I1 (by lia) (by lia) q1 q2 (by simpa using q))
def Wz (wi:TI)(g:TG)(tb:TS):TS:=fun D σ H=>wi σ H fun J H1=> ∃W:Nat->Nat->St->Hp->Prop,(∃m,W 0 m σ H1)/\ ∀i m σ H,W i m σ H->
 (J.stop i H/\D.nx σ H)∨(J.go i H/\ ∃N:St->Hp->Prop,(∀σ' H',N σ' H'-> ∃m',m' < m/\W (i + 1) m' σ' H')/\ ∀x H',J.QQ i H x H'->g x σ H' fun σ2 H2=>tb {D with nx:=N,ct:=N,bk:=D.nx} σ2 H2)
def pC (fp:List Addr)(h:Heap):List (Addr×Obj):=fp.filterMap fun b=>(h.get? b).map fun o=>(b,o)
def jN {fp:List Addr}{h:Heap}{b:Addr}{o:Obj}(hb:b∈fp)(e:h.get? b=some o):(b,o)∈pC fp h:=List.mem_filterMap.mpr ⟨b,hb,by rw[e]; rfl⟩
def Gn {fp:List Addr}{h:Heap}{p:Addr×Obj}(hp:p∈pC fp h):p.1∈fp/\h.get? p.1=some p.2:=by
 obtain⟨b,hb,e⟩:=List.mem_filterMap.mp hp;cases q:h.get? b with
 |none=>rw[q] at e; cases e
 |some o=>
  rw[q] at e;have e':(b,o)=p:=aD e;subst e';exact⟨hb,q⟩
def Inv.pinned {pins:List (Addr×Obj)}{σ:St}{H:Hp}{s:Shared}{fp:List Addr}(I:Inv X pins σ H s)(hf: ∀b∈fp,uG X pins H b)(ho: ∀b∈fp,∃o,s.heap.get? b=some o/\ ∀v,o.data≠ .cell v):Inv X (pins ++ pC fp s.heap) σ H s:=
 I.uf fun p hp=>(bq.mp hp).elim (fun z=>I.pin p (bz _ z)) fun z=>by
  obtain⟨hb,e⟩:=Gn z;obtain⟨f0,f1,f2,_⟩:=hf p.1 hb;obtain⟨o,e',d⟩:=ho p.1 hb;rw[e] at e'; cases e';exact⟨e,f0,f1,f2,d⟩
def Inv.jg {pins pl:List (Addr×Obj)}{σ:St}{H:Hp}{s:Shared}(I:Inv X (pins ++ pl) σ H s):Inv X pins σ H s:=I.uf fun p hp=>I.pin p (bz _ (cW _ hp))
def dS {iter:Expr}{body:List Stmt}{wi:TI}{g:TG}{tb:TS}{pos:Pos}(hp:PassesOwn (model X.prog X.w) X.A X.env X.xe)(hc:X.calm=true)(hi:PI X tg iter wi)(hg:PG X tg g)(hb:oN X body tb)
  (hs: ∀x,foldedSetIterable iter X.env x=pure x:=by intro _; rfl):PS X (.For tg iter body [] pos) (Wz wi g tb):=by
 intro pins s σ H D I h;refine wpAny_For (dZ (hi pins s σ H _ I h) fun v s1 h1=>dZ h1 fun Vg s2 h2=>?_) hs;obtain⟨it,fp,tn,J,H2,e,I2,T,Nf,f2,W,⟨m0,w0⟩,turn⟩:=h2;subst e;have rY: ∀{H':Hp},(∀b∈fp,H' b=none)-> ∀b∈fp,uG X pins H' b:=fun hn b hb=>⟨hn b hb,(f2 b hb).2⟩;refine codeAny_forLoop_any (fun n s'=> ∃i σ' H',Inv X pins σ' H' s'/\tn i s'.heap/\(∀b∈fp,H' b=none)/\W i n σ' H') ?_ m0 ⟨0,σ,H2,I2,Nf,fun b hb=>(f2 b hb).1,w0⟩;rintro n s3 ⟨i,σ3,H3,I3,RO,Lx,w3⟩;rcases turn i n σ3 H3 w3 with⟨stop,qn⟩|⟨go,N,hN,step⟩
 ·refine dQ hp (dZ (T.done X rfl rfl rfl hc i pins s3 σ3 H3 X.xe I3 (rY Lx) RO stop) fun r s4 ⟨hr,I4⟩=>?_);subst hr;exact jq ⟨σ3,H3,I4,qn⟩
 ·refine dQ hp (dZ (T.item X rfl rfl rfl hc i pins s3 σ3 H3 X.xe I3 (rY Lx) RO go) fun r s4 ⟨u,hr,h4⟩=>?_);subst hr;refine dQ hp (dZ h4 fun _ s5 ⟨x,H5,I5,r5,y5,Ol,QS⟩=>?_);have I5':=I5.pinned (rY QS) (T.obj _ _ Ol);refine dQ hp (dZ (hg _ s5 σ3 H5 x u _ I5' r5 (step x H5 y5)) fun _ s6 ⟨σ6,H6,I6,q6⟩=>?_);refine dQ hp (dZ (hb _ s6 σ6 H6 _ I6 q6) fun f s7 q7=>?_);have again: ∀{σ7:St} {H7:Hp},Inv X (pins ++ pC fp s5.heap) σ7 H7 s7->N σ7 H7-> ∃m,m < n/\ ∃i σ' H',Inv X pins σ' H' s7/\tn i s7.heap/\(∀b∈fp,H' b=none)/\W i m σ' H':=fun{σ7 H7} I7 n7=>by
   obtain⟨m',hm,w7⟩:=hN σ7 H7 n7;refine⟨m',hm,i + 1,σ7,H7,I7.jg,T.keep _ _ _ Ol fun b hb o e=>(I7.pin (b,o) (bz _ (bz _ (jN hb e)))).1,fun b hb=>?_,w7⟩;obtain⟨o,e,d⟩:=T.obj _ _ Ol b hb;exact(I7.pin (b,o) (bz _ (bz _ (jN hb e)))).2.1
  cases f with
  |next=>obtain⟨σ7,H7,I7,n7⟩:=q7; exact again I7 n7
  |cont=>obtain⟨σ7,H7,I7,n7⟩:=q7; exact again I7 n7
  |brk=>obtain⟨σ7,H7,I7,q7⟩:=q7; exact⟨σ7,H7,I7.jg,q7⟩
  |ret v=>obtain⟨x7,σ7,H7,I7,r7,q7⟩:=q7; exact⟨x7,σ7,H7,I7.jg,r7,q7⟩
end
def eM {K:Frag}{a:Addr}{xs:List V}{g:TG}{tb:TS}{D:Ends}{σ:St}{H:Hp}(Pv:Nat->St->Hp->Prop)(h0:Pv 0 σ H)(hl: ∀i σ H,i<=xs.length->Pv i σ H->bw K H a xs)
  (hs: ∀i x σ H,xs[i]? =some x->Pv i σ H->g x σ H fun σ2 H2=>tb {D with nx:=Pv (i + 1),ct:=Pv (i + 1),bk:=D.nx} σ2 H2) (hd: ∀σ H,Pv xs.length σ H->D.nx σ H):
  ∃W:Nat->Nat->St->Hp->Prop,(∃m,W 0 m σ H)/\ ∀i m σ H,W i m σ H->
   ((QR K a).stop i H/\D.nx σ H)∨((QR K a).go i H/\ ∃N:St->Hp->Prop,(∀σ' H',N σ' H'-> ∃m',m' < m/\W (i + 1) m' σ' H')/\ ∀x H',(QR K a).QQ i H x H'->g x σ H' fun σ2 H2=>tb {D with nx:=N,ct:=N,bk:=D.nx} σ2 H2):=by
 refine⟨fun i m σ H=>m=xs.length - i/\i<=xs.length/\Pv i σ H,⟨xs.length,by simp,Nat.zero_le _,h0⟩,?_⟩;rintro i m σ H ⟨rfl,hi,p⟩;have q:=hl i σ H hi p;by_cases iX:i < xs.length
 ·refine .inr ⟨⟨xs,xs[i],q,by simp[iX]⟩,Pv (i + 1),fun σ' H' p'=>⟨xs.length - (i + 1),by lia,rfl,iX,p'⟩,fun x H' y=>?_⟩;obtain⟨e,y⟩:=y;subst e;exact hs i x σ _ (y xs q) p
 ·have e:i=xs.length:=by lia
  subst e;exact .inl ⟨⟨xs,q,aI _⟩,hd σ H p⟩
def iY {lo:Int}{n:Nat}{g:TG}{tb:TS}{D:Ends}{σ:St}{H:Hp}(Pv:Nat->St->Hp->Prop)(h0:Pv 0 σ H)
  (hs: ∀i σ H,i < n->Pv i σ H->g (.int (lo + i)) σ H fun σ2 H2=>tb {D with nx:=Pv (i + 1),ct:=Pv (i + 1),bk:=D.nx} σ2 H2) (hd: ∀σ H,Pv n σ H->D.nx σ H):
  ∃W:Nat->Nat->St->Hp->Prop,(∃m,W 0 m σ H)/\ ∀i m σ H,W i m σ H->
   ((Nc lo n).stop i H/\D.nx σ H)∨((Nc lo n).go i H/\ ∃N:St->Hp->Prop,(∀σ' H',N σ' H'-> ∃m',m' < m/\W (i + 1) m' σ' H')/\ ∀x H',(Nc lo n).QQ i H x H'->g x σ H' fun σ2 H2=>tb {D with nx:=N,ct:=N,bk:=D.nx} σ2 H2):=by
 refine⟨fun i m σ H=>m=n - i/\i<=n/\Pv i σ H,⟨n,by simp,Nat.zero_le _,h0⟩,?_⟩;rintro i m σ H ⟨rfl,hi,p⟩;by_cases iX:i < n
 ·refine .inr ⟨iX,Pv (i + 1),fun σ' H' p'=>⟨n - (i + 1),by lia,rfl,iX,p'⟩,fun x H' y=>?_⟩;obtain⟨e,y⟩:=y;subst e y;exact hs i σ _ iX p
 ·have e:i=n:=by lia
  subst e;exact .inl ⟨aI _,hd σ H p⟩
abbrev R2:=V->V->Hp->VK->Prop
def oA (X:Cx)(f:Value->Value->Sem Value)(r:R2):Prop:=
 ∀(pins:List (Addr×Obj)) (s:Shared) (σ:St) (H:Hp) (x y:V) (v u:Value) (Q:VK),Inv X pins σ H s->RelV x v->RelV y u->r x y H Q->
  wpAny (model X.prog X.w) X.A (f v u) (EP X pins σ Q) X.xe s
def Ng (X:Cx)(f:Value->Sem Value)(r:V->Hp->VK->Prop):Prop:=
 ∀(pins:List (Addr×Obj)) (s:Shared) (σ:St) (H:Hp) (x:V) (v:Value) (Q:VK),Inv X pins σ H s->RelV x v->r x H Q->
  wpAny (model X.prog X.w) X.A (f v) (EP X pins σ Q) X.xe s
def hZ (X:Cx)(f:Value)(r:List V->Hp->VK->Prop):Prop:=
 ∀(pins:List (Addr×Obj)) (s:Shared) (σ:St) (H:Hp) (xs:List V) (us:List Value) (Q:VK),Inv X pins σ H s->Vals xs us->r xs H Q->
  wpAny (model X.prog X.w) X.A (call f us) (EP X pins σ Q) X.xe s
def QT (r:R2)(ta tb:TE):TE:=fun σ H Q=>ta σ H fun x H1=>tb σ H1 fun y H2=>r x y H2 Q
def tUn (r:V->Hp->VK->Prop)(ta:TE):TE:=fun σ H Q=>ta σ H fun x H1=>r x H1 Q
inductive Zx (x y:V)(C k:Int->Int->Prop):Prop
 |mk (i j:Int)(h1:x= .int i)(h2:y= .int j)(c:C i j)(q:k i j):Zx x y C k
inductive Zy (x y:V)(k:Int->Int->Prop):Prop
 |mk (i j:Int)(h1:x= .int i)(h2:y= .int j)(q:k i j):Zy x y k
def rI (C:Int->Int->Prop)(g:Int->Int->V):R2:=fun x y H Q=>Zx x y C fun i j=>Q (g i j) H
def K1 (g:Int->Int->V):R2:=fun x y H Q=>Zy x y fun i j=>Q (g i j) H
def rU (g:Int->V):V->Hp->VK->Prop:=fun x H Q=> ∃i,x= .int i/\Q (g i) H
section
variable {X:Cx}{a b c:Expr}{ta tb tc:TE}{pos:Pos}
def Om (ha:PE X a ta)(hb:PE X b tb){pins:List (Addr×Obj)}{s:Shared}{σ:St}{H:Hp}{R:V->V->Hp->Prop}(I:Inv X pins σ H s)
  (h:ta σ H fun x H1=>tb σ H1 fun y H2=>R x y H2) {Q:Value->Shared->Prop} {f:Value->Value->Sem Value}
  (hf: ∀v u s2 x y H2,Inv X pins σ H2 s2->RelV x v->RelV y u->R x y H2->wpAny (model X.prog X.w) X.A (f v u) Q X.xe s2):
  wpAny (model X.prog X.w) X.A (eval a X.env) (fun v s₁=>wpAny (model X.prog X.w) X.A (eval b X.env) (fun u s₂=>wpAny (model X.prog X.w) X.A (f v u) Q X.xe s₂) X.xe s₁) X.xe s:=by
 refine dZ (ha pins s σ H _ I h) fun v s1 ⟨x,H1,I1,r1,q1⟩=>?_;refine dZ (hb pins s1 σ H1 _ I1 q1) fun u s2 ⟨y,H2,I2,r2,q2⟩=>?_;exact hf v u s2 x y H2 I2 r1 r2 q2
def aQ {op:Operator}{r:R2}(ho:oA X (binaryOp op) r)(ha:PE X a ta)(hb:PE X b tb):PE X (.BinOp a op b pos) (QT r ta tb):=by
 intro pins s σ H Q I h;exact wpAny_BinOp (Om ha hb I h fun v u s2 x y H2 I2 rx ry q=>ho pins s2 σ H2 x y v u Q I2 rx ry q)
def oO {op:UnaryOp}{r:V->Hp->VK->Prop}(ho:Ng X (unaryOp op) r)(ha:PE X a ta):PE X (.UnaryOp op a pos) (tUn r ta):=by
 intro pins s σ H Q I h;exact UnaryOp_ (dZ (ha pins s σ H _ I h) fun v s1 ⟨x,H1,I1,r1,q1⟩=>ho pins s1 σ H1 x v Q I1 r1 q1)
def RP {f:Value->Value->Sem Value}{C:Int->Int->Prop}{g:Int->Int->Int}
  (rule: ∀(i j:Int) (t u:Tok) (s:Shared) (Q:Value->Shared->Prop) (E:Value->Shared->Prop),C i j->Q (.int (g i j) s.toks) {s with toks:=s.toks + 1}->wpAny (model X.prog X.w) X.A (f (.int i t) (.int j u)) Q E s):
  oA X f (rI C fun i j=> .int (g i j)):=by
 intro pins s σ H x y v u Q I rx ry h;obtain⟨i,j,rfl,rfl,hc,q⟩:=h;obtain⟨t,rfl⟩:=rx;obtain⟨t',rfl⟩:=ry;exact rule i j t t' s _ _ hc ⟨.int (g i j),H,I.tok _,⟨_,rfl⟩,q⟩
def RQ {f:Value->Value->Sem Value}{g:Int->Int->Int}
  (rule: ∀(i j:Int) (t u:Tok) (s:Shared) (Q:Value->Shared->Prop) (E:Value->Shared->Prop),Q (.int (g i j) s.toks) {s with toks:=s.toks + 1}->wpAny (model X.prog X.w) X.A (f (.int i t) (.int j u)) Q E s):
  oA X f (K1 fun i j=> .int (g i j)):=by
 intro pins s σ H x y v u Q I rx ry h;obtain⟨i,j,rfl,rfl,q⟩:=h;obtain⟨t,rfl⟩:=rx;obtain⟨t',rfl⟩:=ry;exact rule i j t t' s _ _ ⟨.int (g i j),H,I.tok _,⟨_,rfl⟩,q⟩
def Ly {f:Value->Value->Sem Value}{g:Int->Int->Bool}
  (rule: ∀(i j:Int) (t u:Tok) (s:Shared) (Q:Value->Shared->Prop) (E:Value->Shared->Prop),Q (.bool (g i j)) s->wpAny (model X.prog X.w) X.A (f (.int i t) (.int j u)) Q E s):
  oA X f (K1 fun i j=> .bl (g i j)):=by
 intro pins s σ H x y v u Q I rx ry h;obtain⟨i,j,rfl,rfl,q⟩:=h;obtain⟨t,rfl⟩:=rx;obtain⟨t',rfl⟩:=ry;exact rule i j t t' s _ _ ⟨.bl (g i j),H,I,rfl,q⟩
def WA (i j:Int):Prop:=0 < j/\j < 1073741824
def WB (i j:Int):Prop:=0<=j/\j<=1000000/\i.natAbs < 2 ^ 64
def Oo (i j:Int):Prop:=(-(2 ^ 64) < i/\i < 2 ^ 64)∨(-(2 ^ 64) < j/\j < 2 ^ 64)
def Oo.ok {i j:Int}(h:Oo i j):IntMulOk i j:=by
 rcases h with⟨h1,h2⟩|⟨h1,h2⟩
 ·exact .of_left (intBits_le_64 h1 h2)
 ·exact .of_right (intBits_le_64 h1 h2)
def cE:oA X (binaryOp .Add) (K1 fun i j=> .int (i + j)):=RQ fun _ _ _ _ _ _ _ q=>add_int q
def eI:oA X (binaryOp .Sub) (K1 fun i j=> .int (i - j)):=RQ fun _ _ _ _ _ _ _ q=>sub_int q
def jr:oA X (binaryOp .Mult) (rI Oo fun i j=> .int (i * j)):=RP fun _ _ _ _ _ _ _ hc q=>mul_int q hc.ok
def jB:oA X (binaryOp .FloorDiv) (rI WA fun i j=> .int (i / j)):=RP fun i j _ _ _ _ _ hc q=>by
 have h1:(0:Int) < j:=hc.1;have h2:j < 1073741824:=hc.2;exact floordiv_int (by lia) (by rw[Int.fdiv_eq_ediv_of_nonneg i (by lia)]; exact q) (.inl (PyProof.noPylong_small (by lia)))
def b0:oA X (binaryOp .Mod) (rI (fun _ j=>0 < j) fun i j=> .int (i % j)):=RP fun i j _ _ _ _ _ hc q=>by
 have h1:(0:Int) < j:=hc;exact mod_int' (by lia) (by rw[Int.fmod_eq_emod_of_nonneg i (by lia)]; exact q)
def iZ:oA X (binaryOp .Pow) (rI WB fun i j=> .int (i ^ j.toNat)):=RP fun _ _ _ _ _ _ _ hc q=>pow_int_small hc.1 hc.2.1 hc.2.2 q
def unI {f:Value->Sem Value}{g:Int->Int}
  (rule: ∀(i:Int) (t:Tok) (s:Shared) (Q:Value->Shared->Prop) (E:Value->Shared->Prop),Q (.int (g i) s.toks) {s with toks:=s.toks + 1}->wpAny (model X.prog X.w) X.A (f (.int i t)) Q E s):
  Ng X f (rU fun i=> .int (g i)):=by
 intro pins s σ H x v Q I rx h;obtain⟨i,rfl,q⟩:=h;obtain⟨t,rfl⟩:=rx;exact rule i t s _ _ ⟨.int (g i),H,I.tok _,⟨_,rfl⟩,q⟩
def kP:Ng X (unaryOp .USub) (rU fun i=> .int (-i)):=unI fun _ _ _ _ _ q=>neg_int q
end
def RS:V->V->Bool
 | .eu,.eu=>true| .eu,.int _=>true| .int _,.eu=>true| .eu,.bl _=>true| .bl _,.eu=>true| .eu,.str _=>true| .str _,.eu=>true
 | .int _,.int _=>true| .bl _,.bl _=>true| .str _,.str _=>true| .Gg _,.Gg _=>true
 | .int _,.str _=>true| .str _,.int _=>true| .bl _,.str _=>true| .str _,.bl _=>true
 |_,_=>false
def rEq:R2:=fun x y H Q=>RS x y=true/\Q (.bl (decide (x=y))) H
def rNe:R2:=fun x y H Q=>RS x y=true/\Q (.bl (!decide (x=y))) H
def EL {i j:Int}:decide (V.int i=V.int j)=(i == j):=by
 rw[oo];simp
def IJ {i j:Bool}:decide (V.bl i=V.bl j)=(i == j):=by
 rw[oo];simp
def EM {i j:Str}:decide (V.str i=V.str j)=(i == j):=by
 rw[oo];simp
def EN {i j:Array UInt8}:decide (V.Gg i=V.Gg j)=(i.toList == j.toList):=by
 rw[oo];cases i;cases j;simp
section
variable {X:Cx}{a b c:Expr}{ta tb tc:TE}{pos:Pos}
def dz {pins:List (Addr×Obj)}{σ:St}{H:Hp}{s:Shared}{Q:VK}{k k':Bool}(I:Inv X pins σ H s)(q:Q (.bl k) H)(e:k=k'):EP X pins σ Q (.bool k') s:=by
 subst e;exact⟨.bl k,H,I,rfl,q⟩
def cG:oA X (compareOp .Eq) rEq:=by
 intro pins s σ H x y v u Q I rx ry h;obtain⟨hs,q⟩:=h;cases x with
 |eu=>
  cases rx;cases y with
  |eu=>cases ry; exact PySem.EqNone.eq_none_none (dz I q (by simp))
  |bl j=>cases ry; exact PySem.EqNone.eq_none_bool (dz I q (by simp))
  |int j=>obtain⟨t',rfl⟩:=ry; exact PySem.EqNone.eq_none_int (dz I q (by simp))
  |str j=>obtain⟨t',rfl⟩:=ry; exact PySem.EqNone.eq_none_str (dz I q (by simp))
  |_=>exact absurd (show false=true from hs) aR
 |bl i=>
  cases rx;cases y with
  |eu=>cases ry; exact PySem.EqNone.eq_bool_none (dz I q (by simp))
  |bl j=>cases ry; exact eq_bool (dz I q IJ)
  |str j=>obtain⟨t',rfl⟩:=ry; exact PySem.EqMixed.eq_bool_str (dz I q (by simp))
  |_=>exact absurd (show false=true from hs) aR
 |int i=>
  obtain⟨t,rfl⟩:=rx;cases y with
  |eu=>cases ry; exact PySem.EqNone.eq_int_none (dz I q (by simp))
  |int j=>obtain⟨t',rfl⟩:=ry; exact eq_int (dz I q EL)
  |str j=>obtain⟨t',rfl⟩:=ry; exact PySem.EqMixed.eq_int_str (dz I q (by simp))
  |_=>exact absurd (show false=true from hs) aR
 |str i=>
  obtain⟨t,rfl⟩:=rx;cases y with
  |eu=>cases ry; exact PySem.EqNone.eq_str_none (dz I q (by simp))
  |bl j=>cases ry; exact PySem.EqMixed.eq_str_bool (dz I q (by simp))
  |int j=>obtain⟨t',rfl⟩:=ry; exact PySem.EqMixed.eq_str_int (dz I q (by simp))
  |str j=>obtain⟨t',rfl⟩:=ry; exact eq_str (dz I q EM)
  |_=>exact absurd (show false=true from hs) aR
 |Gg i=>
  obtain⟨t,rfl⟩:=rx;cases y with
  |Gg j=>obtain⟨t',rfl⟩:=ry; exact PySem.W.eq_bytes (dz I q EN)
  |_=>exact absurd (show false=true from hs) aR
 |_=>cases y <;> exact absurd (show false=true from hs) aR
def oP:oA X (compareOp .NotEq) rNe:=by
 intro pins s σ H x y v u Q I rx ry h;obtain⟨hs,q⟩:=h;cases x with
 |eu=>
  cases rx;cases y with
  |eu=>cases ry; exact PySem.EqNone.ne_none_none (dz I q (by simp))
  |bl j=>cases ry; exact PySem.EqNone.ne_none_bool (dz I q (by simp))
  |int j=>obtain⟨t',rfl⟩:=ry; exact PySem.EqNone.ne_none_int (dz I q (by simp))
  |str j=>obtain⟨t',rfl⟩:=ry; exact PySem.EqNone.ne_none_str (dz I q (by simp))
  |_=>exact absurd (show false=true from hs) aR
 |bl i=>
  cases rx;cases y with
  |eu=>cases ry; exact PySem.EqNone.ne_bool_none (dz I q (by simp))
  |bl j=>cases ry; exact ne_bool (dz I q (cY not IJ))
  |str j=>obtain⟨t',rfl⟩:=ry; exact PySem.EqMixed.ne_bool_str (dz I q (by simp))
  |_=>exact absurd (show false=true from hs) aR
 |int i=>
  obtain⟨t,rfl⟩:=rx;cases y with
  |eu=>cases ry; exact PySem.EqNone.ne_int_none (dz I q (by simp))
  |int j=>obtain⟨t',rfl⟩:=ry; exact ne_int (dz I q (cY not EL))
  |str j=>obtain⟨t',rfl⟩:=ry; exact PySem.EqMixed.ne_int_str (dz I q (by simp))
  |_=>exact absurd (show false=true from hs) aR
 |str i=>
  obtain⟨t,rfl⟩:=rx;cases y with
  |eu=>cases ry; exact PySem.EqNone.ne_str_none (dz I q (by simp))
  |bl j=>cases ry; exact PySem.EqMixed.ne_str_bool (dz I q (by simp))
  |int j=>obtain⟨t',rfl⟩:=ry; exact PySem.EqMixed.ne_str_int (dz I q (by simp))
  |str j=>obtain⟨t',rfl⟩:=ry; exact ne_str (dz I q (cY not EM))
  |_=>exact absurd (show false=true from hs) aR
 |Gg i=>
  obtain⟨t,rfl⟩:=rx;cases y with
  |Gg j=>obtain⟨t',rfl⟩:=ry; exact PySem.W.ne_bytes (dz I q (cY not EN))
  |_=>exact absurd (show false=true from hs) aR
 |_=>cases y <;> exact absurd (show false=true from hs) aR
def jO:oA X (compareOp .Lt) (K1 fun i j=> .bl (decide (i < j))):=Ly fun _ _ _ _ _ _ _ q=>lt_int q
def oQ:oA X (compareOp .LtE) (K1 fun i j=> .bl (decide (i<=j))):=Ly fun _ _ _ _ _ _ _ q=>le_int q
def jh:oA X (compareOp .Gt) (K1 fun i j=> .bl (decide (j < i))):=Ly fun _ _ _ _ _ _ _ q=>gt_int q
def IK:oA X (compareOp .GtE) (K1 fun i j=> .bl (decide (j<=i))):=Ly fun _ _ _ _ _ _ _ q=>ge_int q
def a6 (b:Expr){op:CmpOp}(h:op≠ .In:=by decide)(h2:op≠ .NotIn:=by decide):behindInMarks op b=false:=by
 have e1:(op == CmpOp.In)=false:=by cases op <;> first|rfl|exact absurd rfl h
 have e2:(op == CmpOp.NotIn)=false:=by cases op <;> first|rfl|exact absurd rfl h2
 cases b <;> simp[behindInMarks,e1,e2]
def eA {op:CmpOp}{r:R2}(ho:oA X (compareOp op) r)(ha:PE X a ta)(hb:PE X b tb)(hm:behindInMarks op b=false):PE X (.Compare a [op] [b] pos) (QT r ta tb):=by
 intro pins s σ H Q I h;exact wpAny_Compare1 (Om ha hb I h fun v u s2 x y H2 I2 rx ry q=>ho pins s2 σ H2 x y v u Q I2 rx ry q) hm
inductive Zz (x:V)(k:Bool->Prop):Prop
 |mk (b:Bool)(h:x= .bl b)(q:k b):Zz x k
def IL (t:TE):TT:=fun σ H Q=>t σ H fun x H'=>Zz x fun b=>Q b H'
def aX {op:CmpOp}{r:R2}(ho:oA X (compareOp op) r)(ha:PE X a ta)(hb:PE X b tb)(hm:behindInMarks op b=false):PT X (.Compare a [op] [b] pos) (IL (QT r ta tb)):=by
 intro pins s σ H Q I h;refine wpAny_isTrue_Compare1 (dZ (ha pins s σ H _ I h) fun v s1 ⟨x,H1,I1,r1,q1⟩=>dZ (hb pins s1 σ H1 _ I1 q1) fun u s2 ⟨y,H2,I2,r2,q2⟩=>
  dZ (ho pins s2 σ H2 x y v u _ I2 r1 r2 q2) fun c s3 ⟨z,H3,I3,r3,k,e,q3⟩=>?_) hm
 subst e;cases r3;exact fQ ⟨H3,I3,q3⟩
def IM (r r':R2)(ta tb tc:TE):TE:=fun σ H Q=>ta σ H fun x H1=>tb σ H1 fun y H2=>r x y H2 fun z H3=> ∃k,z= .bl k/\
 (if k=true then tc σ H3 fun w' H4=>r' y w' H4 Q else Q (.bl false) H3)
def Bg {op WC:CmpOp}{r r':R2}(ho:oA X (compareOp op) r)(Lq:oA X (compareOp WC) r')(ha:PE X a ta)(hb:PE X b tb)(hc:PE X c tc)
  (hm:lastMarks [op,WC] [b,c]=false:=by with_unfolding_all rfl):PT X (.Compare a [op,WC] [b,c] pos) (IL (IM r r' ta tb tc)):=by
 intro pins s σ H Q I h;refine isTrue_chain (dZ (ha pins s σ H _ I h) fun v s1 ⟨x,H1,I1,r1,q1⟩=>test_link (dZ (hb pins s1 σ H1 _ I1 q1) fun u s2 ⟨y,H2,I2,r2,q2⟩=>
  dZ (ho pins s2 σ H2 x y v u _ I2 r1 r2 q2) fun d s3 ⟨z,H3,I3,r3,k,e,q3⟩=>?_)) hm
 subst e;cases r3;refine fQ ?_;cases k with
 |false=>
  obtain⟨k',e',q'⟩:=q3;cases e';exact ite_ff ⟨H3,I3,q'⟩
 |true=>
  refine ite_tt (test_last (dZ (hc pins s3 σ H3 _ I3 q3) fun w' s4 ⟨z',H4,I4,r4,q4⟩=>dZ (Lq pins s4 σ H4 y z' u w' _ I4 r2 r4 q4) fun d' s5 ⟨z2,H5,I5,r5,k2,e2,q5⟩=>?_));subst e2;cases r5;exact fQ ⟨H5,I5,q5⟩
def yT:(sizeLine:Nat) < 2 ^ 63:=by rw[eX]; decide
def uH:oA X (binaryOp .Add) (fun x y H Q=> ∃i j,x= .str i/\y= .str j/\i.length + j.length<=sizeLine/\Q (.str (i ++ j)) H):=by
 intro pins s σ H x y v u Q I rx ry h;obtain⟨i,j,rfl,rfl,hz,q⟩:=h;obtain⟨t,rfl⟩:=rx;obtain⟨t',rfl⟩:=ry;exact add_str (fun t' tk=>⟨.str (i ++ j),H,I.tok _,⟨_,rfl⟩,q⟩) hz
def vals1 {x:V}{us:List Value}(r:Vals [x] us): ∃u,us=[u]/\RelV x u:=by
 cases r with
 |cons r1 r2=>cases r2; exact⟨_,rfl,r1⟩
def vals2 {x y:V}{us:List Value}(r:Vals [x,y] us): ∃u w',us=[u,w']/\RelV x u/\RelV y w':=by
 cases r with
 |cons r1 r2=>
  cases r2 with
  |cons r3 r4=>cases r4; exact⟨_,_,rfl,r1,r3⟩
def xU (hc:X.calm=true):hZ X (.builtin "max") (fun xs H Q=> ∃i j,xs=[.int i,.int j]/\Q (.int (if j > i then j else i)) H):=by
 intro pins s σ H xs us Q I r h;obtain⟨i,j,rfl,q⟩:=h;obtain⟨u,w',rfl,⟨t,rfl⟩,⟨t',rfl⟩⟩:=vals2 r;refine max_two_ints (I.ok.hd hc) fun h' tk k=>⟨_,H,I.kept k,?_,q⟩;by_cases hj:j > i
 ·rw[aZ hj,aZ hj]; exact⟨_,rfl⟩
 ·rw[aO hj,aO hj]; exact⟨_,rfl⟩
def rZ (hc:X.calm=true):hZ X (.builtin "min") (fun xs H Q=> ∃i j,xs=[.int i,.int j]/\Q (.int (if j < i then j else i)) H):=by
 intro pins s σ H xs us Q I r h;obtain⟨i,j,rfl,q⟩:=h;obtain⟨u,w',rfl,⟨t,rfl⟩,⟨t',rfl⟩⟩:=vals2 r;refine min_two_ints (I.ok.hd hc) fun h' tk k=>⟨_,H,I.kept k,?_,q⟩;by_cases hj:j < i
 ·rw[aZ hj,aZ hj]; exact⟨_,rfl⟩
 ·rw[aO hj,aO hj]; exact⟨_,rfl⟩
def i6:hZ X (.type "int") (fun xs H Q=>(∃i,xs=[.int i]/\Q (.int i) H)∨ ∃k,xs=[.bl k]/\Q (.int (if k then 1 else 0)) H):=by
 intro pins s σ H xs us Q I r h;rcases h with⟨i,rfl,q⟩|⟨k,rfl,q⟩
 ·obtain⟨u,rfl,t,rfl⟩:=vals1 r;exact call_int_int ⟨.int i,H,I,⟨_,rfl⟩,q⟩
 ·obtain⟨u,rfl,r1⟩:=vals1 r;cases r1;exact call_int_bool ⟨.int (if k then 1 else 0),H,I.tok _,⟨_,rfl⟩,q⟩
end
structure Dy (h:Heap)(x dx C:Addr)(mA:Str->Option Value):Prop where
 obj:h.get? x=some (PySem.W.instObj C dx)
 ns:h.Ns1 dx mA
 ne:dx≠x
def Gp {h:Heap}{dx:Addr}{mA:Str->Option Value}(n:h.Ns1 dx mA): ∃od,h.get? dx=some od/\ ∀name,PySem.W.lookIn name od=some (mA name):=by
 obtain⟨o,es,ep,ho,hd,hk,_,hm⟩:=n;refine⟨o,ho,fun name=>?_⟩;have e:=hm name;unfold nsFind findBy at e;rw[← Array.find?_toList] at e;unfold PySem.W.lookIn;rw[hd];dsimp only;split
 ·rename_i y q;rw[q] at e;exact cY some e
 ·rename_i q;rw[q] at e;have a:es.toList.any (·.refKey)=false:=by
   rw[rO];intro y hy;obtain⟨z,t,IP⟩:=hk y (Array.mem_toList_iff.mp hy);simp[DictEntry.refKey,IP]
  have a': ¬ es.toList.any (·.refKey)=true:=by rw[a]; exact aR
  rw[aO a'];exact cY some e
def Dy.look {h:Heap}{x dx C:Addr}{mA:Str->Option Value}(I:Dy h x dx C mA): ∃od,PySem.W.InstAt h x (PySem.W.instObj C dx) C (some od)/\ ∀name,PySem.W.lookIn name od=some (mA name):=
 let⟨od,ho,hl⟩:=Gp I.ns
 ⟨od,⟨I.obj,rfl,rfl,ho⟩,hl⟩
section
variable {prog:Program}{w:World}{A:Around}{E:Value->Shared->Prop}{s:Shared}{K:Frag}{x dx C f:Addr}{mA:Str->Option Value}{name:Str}{v:Value}
def get_map {expr:Bool}{Q:Value->Shared->Prop}(X:K.In s.heap)(I:Dy s.heap x dx C mA)(hg:plainGet K C name=true)(hh:hasDictIn K C=true)
  (ha:findIn K (.ref C) name=some none) (hv:mA name=some v) (hv':PySem.W.handedIn v=true) (h:Q v {s with toks:=s.toks + 1}):
  wpAny (model prog w) A (getAttr (.ref x) name expr) Q E s:=by
 obtain⟨od,J,hl⟩:=I.look;exact PySem.W.get_value X J (A3 hg).1 (PySem.W.findObj_own hh ha rfl (by rw[hl,hv])) hv' h
def IQ {pl:Sem Bool}{Q:Value×List Value->Shared->Prop}(X:K.In s.heap)(I:Dy s.heap x dx C mA)(hg:plainGet K C name=true)
  (hf:findIn K (.ref C) name=some (some (.ref f))) (ht:PySem.W.isFn K (.ref f)=true) (hv:mA name=none) (h:Q (.ref f,[.ref x]) s):
  wpAny (model prog w) A (getMethod (.ref x) name pl) Q E s:=by
 obtain⟨od,J,hl⟩:=I.look;exact PySem.W.method_fn X J (A3 hg).1 (A3 hg).2 hf (FY.mp ht) (by show(PySem.W.lookIn name od).map (·.isSome)=some false; rw[hl,hv]; rfl) h
def Lz {ns:List Str}{Q:Unit->Shared->Prop}(X:K.In s.heap)(I:Dy s.heap x dx C mA)
  (hs:findIn K (.ref C) "__setattr__"=some (some (.builtin "object.__setattr__"))) (hp:plainOver K C=true) (ht:PySem.W.takerIn K C name=some none) (hh:hasDictIn K C=true)
  (hw:PySem.Within mA ns) (hsz:ns.length<=sizeLine)
  (h: ∀h',Dy h' x dx C (fun y=>if y=name then some v else mA y)->Heap.SameBut dx s.heap h'->Q () {s with heap:=h',toks:=s.toks + 2}):
  wpAny (model prog w) A (setAttr (.ref x) name v) Q E s:=by
 obtain⟨od,J,hl⟩:=I.look;refine PySem.W.set_plain X J hs (PySem.W.osa_open (s:={s with toks:=s.toks + 1}) (r:=none) X J hp ht fun b=>?_);obtain⟨cd,hc,Iq⟩:=PySem.W.any_some hh;have hx:s.heap.get? x=some ⟨.ref C,some dx,.plain,#[]⟩:=I.obj;refine az (bF (az (az (wpAny_loadPart hx (az (PySem.W.Looks.here (s:={s with toks:=s.toks + 1}) (PySem.W.looks_clsIn X hc) ?_))))));rw[Iq];refine bF (a:=some dx) (az (bF (az ?_)));refine wpAny_nsSet1 (s:={s with toks:=s.toks + 1}) I.ns fun h' Vh QU=>?_;obtain⟨oD,esD,epD,WD,WE,WG⟩:=Vh.count (PySem.Within.cons name v hw);refine az (wpAny_lookBehind WD (by rw[WE]; exact pastItsLine_dict (a0 WG (by rw[bH]; lia))) ?_);exact bF (h _ ⟨(QU.2 _ (wy I.ne)).trans I.obj,Vh,I.ne⟩ QU)
def IS {R:Result->Shared->Prop}{vs:List Value}{kw:List (Str×Value)}(X:K.In s.heap)(hm:makesIn K C=true)
  (hi:findIn K (.ref C) "__init__"=some (some (.ref f))) (hf:typeIn K (.ref f)=some (.type "function"))
  (h:codeAny (model prog w) (A.under (.builtin "type.__call__" ⟨.ref C :: vs,kw⟩)) (.call (.ref f) ⟨.ref (s.heap.objs.size + 1) :: vs,kw⟩) (PySem.W.InitBack (s.heap.objs.size + 1) R)
   {s with heap:=(s.heap.push PySem.W.emptyDict).push (PySem.W.instObj C s.heap.objs.size)}):
  codeAny (model prog w) A (.call (.ref C) ⟨vs,kw⟩) R s:=by
 obtain⟨hh,g,d,t,os⟩:=s;exact PySem.W.make_core (PySem.W.makes_of X hm) (PySem.W.looks_findIn X hi) (fun self=>PySem.W.bind_fn X self hf) (.inl rfl) h
end
def eF (f:Str)(v:V):List (Str×V)->List (Str×V)
 |[]=>[(f,v)]
 |(g,x) :: r=>if g=f then(g,v) :: r else(g,x) :: eF f v r
def sO (f g:Str)(v:V): ∀fs:List (Str×V),(eF f v fs).lookup g=if g=f then some v else fs.lookup g
 |[]=>by
  show List.lookup g [(f,v)]=_;by_cases h:g=f
  ·have hb:(g == f)=true:=FY.mpr h;simp only[List.lookup,hb,if_pos h]
  ·have hb:(g == f)=false:=gU.mpr h;simp only[List.lookup,hb,if_neg h]
 |(k,x) :: r=>by
  have ih:=sO f g v r;rw[show eF f v ((k,x) :: r)=(if k=f then(k,v) :: r else(k,x) :: eF f v r) from rfl];by_cases hk:k=f
  ·rw[aZ hk];by_cases h:g=k
   ·have hb:(g == k)=true:=FY.mpr h;simp only[List.lookup,hb,if_pos (h.trans hk)]
   ·have hb:(g == k)=false:=gU.mpr h;simp only[List.lookup,hb,if_neg (fun e:g=f=>h (e.trans hk.symm))]
  ·rw[aO hk];by_cases h:g=k
   ·have hb:(g == k)=true:=FY.mpr h;simp only[List.lookup,hb,if_neg (fun e:g=f=>hk (h.symm.trans e))]
   ·have hb:(g == k)=false:=gU.mpr h;simp only[List.lookup,hb];exact ih
def r9 (f:Str)(v:V): ∀fs:List (Str×V),f∈(eF f v fs).map (·.1)/\ ∀g,g∈fs.map (·.1)->g∈(eF f v fs).map (·.1)
 |[]=>⟨by simp[eF],fun g h=>by simp at h⟩
 |(k,x) :: r=>by
  obtain⟨i1,i2⟩:=r9 f v r;rw[show eF f v ((k,x) :: r)=(if k=f then(k,v) :: r else(k,x) :: eF f v r) from rfl];by_cases hk:k=f
  ·rw[aZ hk];subst hk;exact⟨by simp,fun g h=>by simpa using h⟩
  ·rw[aO hk];refine⟨?_,fun g h=>?_⟩
   ·rw[bM];exact aS _ i1
   ·rw[bM] at h ⊢;rcases aw.mp h with e|e
    ·exact aw.mpr (.inl e)
    ·exact aS _ (i2 g e)
def mP (f:Str)(v:V): ∀fs:List (Str×V),(eF f v fs).length<=fs.length + 1
 |[]=>by simp[eF]
 |(k,x) :: r=>by
  have ih:=mP f v r;rw[show eF f v ((k,x) :: r)=(if k=f then(k,v) :: r else(k,x) :: eF f v r) from rfl];by_cases hk:k=f
  ·rw[aZ hk,bH,bH]; lia
  ·rw[aO hk,bH,bH]; lia
def lj.some_of {v:V}{o:Option Value}(r:lj (some v) o): ∃u,o=some u/\RelV v u:=by
 cases o with
 |none=>exact(show False from r).elim
 |some u=>exact⟨u,rfl,r⟩
def lj.none_of {o:Option Value}(r:lj none o):o=none:=by
 cases o with
 |none=>rfl
 |some u=>exact(show False from r).elim
def Gq {v:V}{u:Value}(r:RelV v u):PySem.W.handedIn u=true:=by
 cases v with
 |eu=>cases(show u=Value.none from r); rfl
 |bl b=>cases(show u=Value.bool b from r); rfl
 |int i=>obtain⟨t,e⟩:=(show ∃t,u=Value.int i t from r); cases e; rfl
 |str x=>obtain⟨t,e⟩:=(show ∃t,u=Value.str x t from r); cases e; rfl
 |Gg b=>obtain⟨t,e⟩:=(show ∃t,u=Value.bytes b t from r); cases e; rfl
 |Lm b=>obtain⟨t,e⟩:=(show ∃t,u=Value.float b t from r); cases e; rfl
 |ref a=>cases(show u=Value.ref a from r); rfl
 |ty n=>cases(show u=Value.type n from r); rfl
section
variable {P:Program}{w:World}{H H':Hp}{h h':Heap}{a C dx:Addr}{fs fs':List (Str×V)}
def qw (cy:oz P w H h)(e:H a=some (.ins C dx fs)): ∃mA,Dy h a dx C mA/\(∀f,lj (fs.lookup f) (mA f))/\PySem.Within mA (fs.map (·.1))/\fs.length<=1000/\H dx=some (.own a):=by
 obtain⟨d,z,ne,ob,mA,n,r,q⟩:=(show dC P w H h a (.ins C dx fs) from cy a _ e);exact⟨mA,⟨ob,n,ne⟩,r,q,z,d⟩
end
structure wI (K:Frag)(C:Addr):Prop where
 pg:plainGet K C Str.empty=true
 hd:hasDictIn K C=true
 po:plainOver K C=true
 sa:findIn K (.ref C) "__setattr__"=some (some (.builtin "object.__setattr__"))
def wI.get {K:Frag}{C:Addr}(c:wI K C)(f:Str):plainGet K C f=true:=c.pg
def b9 (K:Frag)(C:Addr)(f:Str):Prop:=findIn K (.ref C) f=some none
def b9.RT {K:Frag}{C:Addr}{f:Str}(n:b9 K C f):PySem.W.takerIn K C f=some none:=by
 unfold PySem.W.takerIn;rw[show findIn K (.ref C) f=some none from n];rfl
structure Meth (K:Frag)(C:Addr)(m:Str)(f:Addr):Prop where
 at_:findIn K (.ref C) m=some (some (.ref f))
 fn:PySem.W.isFn K (.ref f)=true
 kp:keepIn K (.ref f)=true
section
variable {X:Cx}{pins:List (Addr×Obj)}{σ:St}{H:Hp}{s:Shared}{a C dx:Addr}{fs:List (Str×V)}{f:Str}{v:V}{A:Around}{E:Value->Shared->Prop}
def Dz {b:Bool}{Q:Value->Shared->Prop}(I:Inv X pins σ H s)(e:H a=some (.ins C dx fs))(c:wI X.K C)(n:b9 X.K C f)(l:fs.lookup f=some v)
  (h: ∀u s',Inv X pins σ H s'->RelV v u->Q u s'):wpAny (model X.prog X.w) A (getAttr (.ref a) f b) Q E s:=by
 obtain⟨mA,O,r,_,_,_⟩:=qw I.cy e;obtain⟨u,hu,ru⟩:=lj.some_of (v:=v) (o:=mA f) (by rw[← l]; exact r f);exact get_map I.gR O (c.get f) c.hd n hu (Gq ru) (h u _ (I.tok _) ru)
def DA {m:Str}{g:Addr}{pl:Sem Bool}{Q:Value×List Value->Shared->Prop}(I:Inv X pins σ H s)(e:H a=some (.ins C dx fs))(c:wI X.K C)(k:Meth X.K C m g)(l:fs.lookup m=none)
  (h:Q (.ref g,[.ref a]) s):wpAny (model X.prog X.w) A (getMethod (.ref a) m pl) Q E s:=by
 obtain⟨mA,O,r,_,_,_⟩:=qw I.cy e;have hn:mA m=none:=lj.none_of (by rw[← l]; exact r m);exact IQ I.gR O (c.get m) k.at_ k.fn hn h
def DD {y:V}{u:Value}{Q:Unit->Shared->Prop}(I:Inv X pins σ H s)(e:H a=some (.ins C dx fs))(c:wI X.K C)(n:b9 X.K C f)(hl:fs.length < 1000)(ry:RelV y u)
  (h: ∀s',Inv X pins σ (upd H a (.ins C dx (eF f y fs))) s'->Q () s'):wpAny (model X.prog X.w) A (setAttr (.ref a) f u) Q E s:=by
 obtain⟨mA,O,r,wi,_,ho⟩:=qw I.cy e;have hz:(fs.map (·.1)).length<=sizeLine:=by rw[ae,eX]; lia
 refine Lz I.gR O c.sa c.po n.RT c.hd wi hz fun h' O' sb=>h _ ?_;have hd: ∃o,h'.get? dx=some o:=let⟨o,_,_,e',_⟩:=O'.ns; ⟨o,e'⟩
 refine I.write (x:=a) (e:=dx) (by rw[e]; exact True.intro) (.inr ho) (fun b q hb z=>(sb.2 b hb).trans z) hd ?_;refine⟨by rw[aA O.ne]; exact ho,?_,O.ne,O'.obj,_,O'.ns,fun g=>?_,fun g hg=>?_⟩
 ·have:=mP f y fs; lia
 ·show lj ((eF f y fs).lookup g) (if g=f then some u else mA g);rw[sO];by_cases q:g=f
  ·rw[aZ q,aZ q]; exact ry
  ·rw[aO q,aO q]; exact r g
 ·by_cases q:g=f
  ·rw[q]; exact(r9 f y fs).1
  ·refine(r9 f y fs).2 g (wi g fun z=>hg ?_);show(if g=f then some u else mA g)=none;rw[aO q]; exact z
def Inv.made (I:Inv X pins σ H s):Inv X pins σ (upd (upd H s.heap.objs.size (.own (s.heap.objs.size + 1))) (s.heap.objs.size + 1) (.ins C s.heap.objs.size []))
  {s with heap:=(s.heap.push PySem.W.emptyDict).push (PySem.W.instObj C s.heap.objs.size)}:=by
 have e1:(s.heap.push PySem.W.emptyDict).get? s.heap.objs.size=some PySem.W.emptyDict:=bO s.heap rfl;have e2:((s.heap.push PySem.W.emptyDict).push (PySem.W.instObj C s.heap.objs.size)).get? (s.heap.objs.size + 1)=some (PySem.W.instObj C s.heap.objs.size):=by
  have:=bO (s.heap.push PySem.W.emptyDict) (o:=PySem.W.instObj C s.heap.objs.size) rfl;rwa [nW] at this
 have e3:(s.heap.push PySem.W.emptyDict).Ns s.heap.objs.size (fun _=>none):=⟨PySem.W.emptyDict,#[],_,e1,rfl,(fun e he=>absurd he (by simp)),fun _=>rfl⟩;have I1:=I.laid (a:=s.heap.objs.size) (o:= .own (s.heap.objs.size + 1)) (h':=s.heap.push PySem.W.emptyDict) (t':=s.toks) (fun b u q=>ay _ q) (aI _) ⟨_,e1⟩;refine I1.laid (a:=s.heap.objs.size + 1) (o:= .ins C s.heap.objs.size []) (t':=s.toks) (fun b u q=>ay _ q) (iL (nW _ _)) ?_;have ne:s.heap.objs.size≠s.heap.objs.size + 1:=a8 (fW _);refine⟨by rw[aA ne,ag],bp _,ne,e2,fun _=>none,(Heap.Ns1.of_empty e3).at fun o q=>ay _ q,fun _=>True.intro,fun y hy=>absurd rfl hy⟩
def EO {prog:Program}{w:World}{env:Env}{e:Expr}{f:Str}{pos:Pos}{s:Shared}{Q:Value->Shared->Prop}(hb:attributeBase e f env (eval e env)=eval e env)
  (h:wpAny (model prog w) A (eval e env) (fun o s₁=>wpAny (model prog w) A (getAttr o f true) Q E s₁) E s):wpAny (model prog w) A (eval (.Attribute e f pos) env) Q E s:=
 Attribute_any_ h (by rw[arm_eval_Attribute,hb])
end
inductive ZA (K:Frag)(H:Hp)(x:V)(f:Str)(k:V->Prop):Prop
 |mk (a C dx:Addr)(fs:List (Str×V))(v:V)(h1:x= .ref a)(h2:H a=some (.ins C dx fs))(c:wI K C)(n:b9 K C f)(l:fs.lookup f=some v)(q:k v):ZA K H x f k
def Oq (K:Frag)(ta:TE)(f:Str):TE:=fun σ H Q=>ta σ H fun x H1=>ZA K H1 x f fun v=>Q v H1
inductive ZC (K:Frag)(H:Hp)(x:V)(f:Str)(k:Addr->Addr->Addr->List (Str×V)->Prop):Prop
 |mk (a C dx:Addr)(fs:List (Str×V))(h1:x= .ref a)(h2:H a=some (.ins C dx fs))(c:wI K C)(n:b9 K C f)(l:fs.length < 1000)(q:k a C dx fs):ZC K H x f k
def RU (K:Frag)(ta tv:TE)(f:Str):TS:=fun D σ H=>tv σ H fun y H1=>ta σ H1 fun x H2=>ZC K H2 x f fun a C dx fs=>D.nx σ (upd H2 a (.ins C dx (eF f y fs)))
section
variable {X:Cx}{o e value:Expr}{f:Str}{pos pos' Ot:Pos}{ta tv:TE}
def IT (he:PE X e ta)(hb:attributeBase e f X.env (eval e X.env)=eval e X.env):PE X (.Attribute e f pos) (Oq X.K ta f):=by
 intro pins s σ H Q I h;refine EO hb (dZ (he pins s σ H _ I h) fun u s1 ⟨x,H1,I1,rx,a,C,dx,fs,v,ex,ea,c,n,l,q⟩=>?_);subst ex;obtain rfl:u=Value.ref a:=rx;exact Dz I1 ea c n l fun u' s2 I2 ru=>⟨v,H1,I2,ru,q⟩
def Ou (ha:PE X o ta)(hv:PE X value tv)(hs:swapsWith value (some (.Attribute o f pos')) pos.line X.env=pure false):PS X (.Assign [.Attribute o f pos'] value pos) (RU X.K ta tv f):=by
 intro pins s σ H D I h;refine NY (dZ (hv pins s σ H _ I h) fun u s1 ⟨y,H1,I1,ry,q⟩=>dZ (ha pins s1 σ H1 _ I1 q) fun ov s2 ⟨x,H2,I2,rx,a,C,dx,fs,ex,ea,c,n,l,q2⟩=>?_) hs;subst ex;obtain rfl:ov=Value.ref a:=rx;exact DD I2 ea c n l ry fun s3 I3=>⟨σ,_,I3,q2⟩
end
section
variable {X:Cx}{pins:List (Addr×Obj)}{σ:St}{H:Hp}{s:Shared}{A:Around}{E:Value->Shared->Prop}{Q:Value->Shared->Prop}{c:Value}{b:Bool}
inductive mD (K:Frag)(H:Hp):V->Value->Prop where
 |eu:mD K H .eu (.type "NoneType")
 |bl (x:Bool):mD K H (.bl x) (.type "bool")
 |int (i:Int):mD K H (.int i) (.type "int")
 |str (x:Str):mD K H (.str x) (.type "str")
 |Lm (x:UInt64):mD K H (.Lm x) (.type "float")
 |lst {a:Addr} {xs:List V} (e:H a=some (.lst xs)):mD K H (.ref a) (.type "list")
 |Dc {a:Addr} {o:Obj} {xs:List V} (e:H a=some (.Dc o (.lst xs))):mD K H (.ref a) (.type "list")
 |tup {a:Addr} {xs:List V} (e:H a=some (.tup xs)):mD K H (.ref a) (.type "tuple")
 |dK {a:Addr} {bg:List (Key×V)} (e:H a=some (.dK bg)):mD K H (.ref a) (.type "dict")
 |dT {a:Addr} {bg:List (List Key×V)} (e:H a=some (.dT bg)):mD K H (.ref a) (.type "dict")
 |ins {a C dx:Addr} {fs:List (Str×V)} (e:H a=some (.ins C dx fs)) (cl:wI K C) (ha:findIn K (.ref C) "__class__"=some (some (.builtin "object.__class__")))
   (hn:specialIn K (.builtin "object.__class__") "__get__"=some (some (.builtin "getset_descriptor.__get__"))) (kq:PySem.W.takesIn K (.builtin "object.__class__")=some true)
   (hm:PySem.W.mroIn K C (.type "object")=some true):mD K H (.ref a) (.ref C)
def Gr {x:V}{u t:Value}(I:Inv X pins σ H s)(rx:RelV x u)(ty:mD X.K H x t)(e:PySem.W.kitOne X.K t c=some b)(h: ∀tk,Q (.bool b) {s with toks:=tk}):
  wpAny (model X.prog X.w) A (call (.builtin "isinstance") [u,c]) Q E s:=by
 cases ty with
 |eu=>cases(show u=Value.none from rx); exact eh PySem.W.kitx_none I.gR True.intro e (fun z=>nomatch z) h
 |bl y=>cases(show u=Value.bool y from rx); exact eh PySem.W.kitx_bool I.gR True.intro e (fun z=>nomatch z) h
 |int i=>obtain⟨t,q⟩:=(show ∃t,u=Value.int i t from rx); cases q; exact eh PySem.W.kitx_int I.gR True.intro e (fun z=>nomatch z) h
 |str y=>obtain⟨t,q⟩:=(show ∃t,u=Value.str y t from rx); cases q; exact eh PySem.W.kitx_str I.gR True.intro e (fun z=>nomatch z) h
 |Lm y=>obtain⟨t,q⟩:=(show ∃t,u=Value.float y t from rx); cases q; exact eh PySem.W.kitx_float I.gR True.intro e (fun z=>nomatch z) h
 | @lst a xs ea=>
  cases(show u=Value.ref a from rx);obtain⟨_,_,n,_,h1⟩:=(show dC X.prog X.w H s.heap a (.lst xs) from I.cy a _ ea);exact eh rP I.gR ⟨_,h1,rfl⟩ e (fun z=>nomatch z) h
 | @Dc a ob xs ea=>
  cases(show u=Value.ref a from rx);obtain⟨_,_,_,n,_,h1⟩:=(show dC X.prog X.w H s.heap a (.Dc ob (.lst xs)) from I.cy a _ ea);exact eh rP I.gR ⟨_,h1,rfl⟩ e (fun z=>nomatch z) h
 | @tup a xs ea=>
  cases(show u=Value.ref a from rx);obtain⟨_,_,_,p⟩:=(show dC X.prog X.w H s.heap a (.tup xs) from I.cy a _ ea);obtain⟨o,h1,h2,_⟩:=p;exact eh PySem.W.kitx_tuple I.gR ⟨o,h1,h2⟩ e (fun z=>nomatch z) h
 | @dK a bg ea=>
  cases(show u=Value.ref a from rx);obtain⟨_,_,vs,_,p⟩:=(show dC X.prog X.w H s.heap a (.dK bg) from I.cy a _ ea);obtain⟨o,es,ep,h1,h2,_⟩:=p;exact eh rQ I.gR ⟨o,h1,h2.1⟩ e (fun z=>nomatch z) h
 | @dT a bg ea=>
  cases(show u=Value.ref a from rx);obtain⟨_,_,xs,_,o,es,ep,h1,h2,_⟩:=(show dC X.prog X.w H s.heap a (.dT bg) from I.cy a _ ea);exact eh rQ I.gR ⟨o,h1,h2.1⟩ e (fun z=>nomatch z) h
 | @ins a C dx fs ea cl ha hn kq hm=>
  cases(show u=Value.ref a from rx);obtain⟨mA,O,_⟩:=qw I.cy ea;obtain⟨od,J,_⟩:=O.look;exact eh (PySem.W.kitx_own (cl.get _) cl.hd ha hn kq hm) I.gR J e (fun z=>nomatch z) h
end
structure eY (k:Nat)(A:Around):Prop where
 hd:A.handled=none
 dp:A.depth + 3 * k + 5 < recursionLimit
 un:A.units + 16 * k + 200 < cLine
def eY.mono {j k:Nat}{A:Around}(r:eY k A)(h:j<=k):eY j A:=⟨r.hd,by have:=r.dp; lia,by have:=r.un; lia⟩
def eY.deeper {k:Nat}{A:Around}(r:eY (k + 1) A)(env:Env):eY k (A.deeper env):=
 ⟨r.hd,by have:=r.dp; show A.depth + 1 + 3 * k + 5 < _; lia,by have:=r.un; show A.units + 3 + 16 * k + 200 < _; lia⟩
def uI {A:Around}{C:Addr}{us:List Value}{kw:List (Str×Value)}:(A.under (.builtin "type.__call__" ⟨.ref C :: us,kw⟩)).depth=A.depth + 1:=by
 first|rfl|simp[Around.under,Code.weight,Code.isCreation,Code.isGuard,Code.isCaller,Code.frames,Code.isFrame,guardIds]
def uJ {A:Around}{C:Addr}{us:List Value}{kw:List (Str×Value)}:(A.under (.builtin "type.__call__" ⟨.ref C :: us,kw⟩)).units=A.units + 1:=by
 first|rfl|simp[Around.under,Code.cUnits,Code.frames,Code.isFrame]
def eY.make {k:Nat}{A:Around}(r:eY (k + 1) A)(C:Addr)(us:List Value)(kw:List (Str×Value)):eY k (A.under (.builtin "type.__call__" ⟨.ref C :: us,kw⟩)):=
 ⟨r.hd,by have:=r.dp; rw[uI]; lia,by have:=r.un; rw[uJ]; lia⟩
def eY.depth {k:Nat}{A:Around}(r:eY k A):A.depth < recursionLimit:=by have:=r.dp; lia
def eY.units {k:Nat}{A:Around}(r:eY k A):A.units + 64 < cLine:=by have:=r.un; lia
def Bh:TA:=fun _ H Q=>Q [] H
def Bi (ta:TE)(tr:TA):TA:=fun σ H Q=>ta σ H fun x H1=>tr σ H1 fun xs H2=>Q (x :: xs) H2
section
variable {X:Cx}{e:Expr}{es:List Expr}{te:TE}{t:TA}{pos:Pos}
def av:PA X [] Bh:=fun _ _ _ _ H Q I h=>Calls.spliced_nil ⟨[],H,I,.nil,h⟩
def aa (ha:PE X e te)(hr:PA X es t)(hs:starEach (e :: es) X.env=(false,eval e X.env) :: starEach es X.env:=by rfl):PA X (e :: es) (Bi te t):=by
 intro pos pins s σ H Q I h;rw[hs];show wpAny _ _ (spliced ((false,eval e X.env) :: backTo pos (starEach es X.env))) _ _ s;refine Calls.spliced_cons (dZ (ha pins s σ H _ I h) fun u s1 ⟨x,H1,I1,r1,q1⟩=>?_);exact dZ (hr pos pins s1 σ H1 _ I1 q1) fun us s2 ⟨xs,H2,I2,r2,q2⟩=>⟨x :: xs,H2,I2,.cons r1 r2,q2⟩
def WH (t:TA):TE:=fun σ H Q=>t σ H fun xs H1=>xs.length<=sizeLine/\ ∀p,H1 p=none->Q (.ref p) (upd H1 p (.tup xs))
def WI (t:TA):TE:=fun σ H Q=>t σ H fun xs H1=>xs.length<=sizeLine/\ ∀p,H1 p=none->Q (.ref p) (upd H1 p (.lst xs))
def cK {x1}(h:PA X es t):PE X (.Tuple es x1 pos) (WH t):=by
 intro pins s σ H Q I hq;refine wpAny_Tuple_spliced (dZ (h pos pins s σ H _ I hq) fun us s1 ⟨xs,H1,I1,r,z,q⟩=>⟨by rw[← r.length]; exact z,?_⟩);have hf:H1 s1.heap.objs.size=none:=I1.cy.fresh (aI _);refine⟨.ref s1.heap.objs.size,upd H1 s1.heap.objs.size (.tup xs),I1.laid (t':=s1.toks) (fun b u e=>ay _ e) (aI _) ?_,rfl,q _ hf⟩;exact⟨z,us,r,⟨_,bO _ rfl,rfl,_,rfl⟩⟩
def bQ (h:PA X es t):PE X (.List es pos) (WI t):=by
 intro pins s σ H Q I hq;refine wpAny_List_spliced (dZ (h pos pins s σ H _ I hq) fun us s1 ⟨xs,H1,I1,r,z,q⟩=>⟨by rw[← r.length]; exact z,?_⟩);have hf:H1 s1.heap.objs.size=none:=I1.cy.fresh (aI _);refine⟨.ref s1.heap.objs.size,upd H1 s1.heap.objs.size (.lst xs),I1.laid (t':=s1.toks) (fun b u e=>ay _ e) (aI _) ?_,rfl,q _ hf⟩;exact⟨z,us,0,r,bO _ rfl⟩
end
abbrev Sp:=List V->Hp->VK->XK->Prop
abbrev ER:=List Env->Hp->Shared->XK->Value->Shared->Prop
structure qx (P:Program)(w:World)(K:Frag)(mg:Str->Option Value)(base:Heap)(A:Around)(outer:List Env)(s:Shared)(H:Hp):Prop where
 frames:A.frames=some outer
 mod:Mod K mg base
 bs: ∀b o,base.get? b=some o->s.heap.get? b=some o/\H b=none
 A8:base.objs.size<=s.heap.objs.size
 lT:s.heap.FunFrames base outer
 EH: ∀b∈Dq outer,H b=none
 cy:oz P w H s.heap
 bare:AllBare s.gens
def CE (outer:List Env)(P:Program)(w:World)(H:Hp)(s:Shared)(Q:VK)(u:Value)(s':Shared):Prop:=
 ∃v H',s'.os=s.os/\AllBare s'.gens/\Un (Dq outer) [] H H' s.heap s'.heap/\oz P w H' s'.heap/\RelV v u/\Q v H'
def CR (CX:ER)(outer:List Env)(P:Program)(w:World)(H:Hp)(s:Shared)(Q:VK)(E:XK)(r:Result)(s':Shared):Prop:=
 match r with
 | .ok (.ret u)=>CE outer P w H s Q u s'
 | .ok _=>False
 | .error e=>CX outer H s E e s'
structure lW (P:Program)(w:World)(K:Frag)(mg:Str->Option Value)(base:Heap)(CX:ER)(k:Nat)(f:Addr)(fd:FuncData)(ps:List Str)(sp:Sp):Prop where
 len: ∀vs H Q E,sp vs H Q E->vs.length=ps.length
 run: ∀(A:Around) (outer:List Env) (s:Shared) (H:Hp) (args:Args) (us:List Value) (vs:List V) (Q:VK) (E:XK),eY k A->qx P w K mg base A outer s H->BindsTo s fd args (ps.zip us)->Vals vs us->sp vs H Q E->
  codeAny (model P w) A (.call (.ref f) args) (CR CX outer P w H s Q E) s
def qx.make {P:Program}{w:World}{K:Frag}{mg:Str->Option Value}{base:Heap}{A:Around}{outer:List Env}{s:Shared}{H:Hp}(e:qx P w K mg base A outer s H)(C:Addr)(us:List Value)(kw:List (Str×Value)):
  qx P w K mg base (A.under (.builtin "type.__call__" ⟨.ref C :: us,kw⟩)) outer s H:=⟨by first|exact e.frames|(simpa[Around.under,Code.envs,Code.isFrame,pushEnvs] using e.frames),e.mod,e.bs,e.A8,e.lT,e.EH,e.cy,e.bare⟩
def qx.in1 {P:Program}{w:World}{K:Frag}{mg:Str->Option Value}{base:Heap}{A:Around}{outer:List Env}{s:Shared}{H:Hp}(e:qx P w K mg base A outer s H):
  qx P w K mg base A.in1 outer s H:=⟨e.frames,e.mod,e.bs,e.A8,e.lT,e.EH,e.cy,e.bare⟩
section
variable {X:Cx}{pins:List (Addr×Obj)}{σ:St}{H:Hp}{s s':Shared}
def Inv.IU (I:Inv X pins σ H s):qx X.prog X.w X.K X.mg X.base X.A X.stack s H:=
 ⟨I.ok.frames,I.ok.mod,I.bs,a0 I.ok.A8 I.sz,I.stack,I.qu,I.cy,I.bare⟩
def Inv.after {Q:VK}{u:Value}(I:Inv X pins σ H s)(h:CE X.stack X.prog X.w H s Q u s'):EP X pins σ Q u s':=by
 obtain⟨v,H',os,bare,un,cy,r,q⟩:=h;obtain⟨hh,g,d,t,os'⟩:=s';obtain rfl:os'=s.os:=os;exact⟨v,H',I.call (h':=hh) (g':=g) (d':=d) (t':=t) (ch:=[]) un cy bare (fun b z=>absurd z (by simp)),r,q⟩
end
def uK (sp:Sp)(uL:List V)(E:XK)(t:TA):TE:=fun σ H Q=>t σ H fun vs H1=>sp (vs ++ uL) H1 Q E
def Nh (C:Addr)(m:Str)(sp:Sp)(uL:List V)(E:XK)(ta:TE)(t:TA):TE:=fun σ H Q=>ta σ H fun x H1=> ∃a dx fs,x= .ref a/\H1 a=some (.ins C dx fs)/\fs.lookup m=none/\
 t σ H1 fun vs H2=>sp (x :: (vs ++ uL)) H2 Q E
def ES (C:Addr)(sp:Sp)(uL:List V)(E:XK)(t:TA):TE:=fun σ H Q=>t σ H fun vs H1=> ∀x dx,H1 x=none->H1 dx=none->dx≠x->
 sp (.ref x :: (vs ++ uL)) (upd (upd H1 dx (.own x)) x (.ins C dx [])) (fun v H2=>v= .eu/\Q (.ref x) H2) E
def Binds (K:Frag)(fd:FuncData)(ps:List Str)(ds:List Value):Prop:=
 ∀(s:Shared) (us:List Value),K.In s.heap->(us ++ ds).length=ps.length->BindsTo s fd ⟨us,[]⟩ (ps.zip (us ++ ds))
def Binds.all {K:Frag}{fd:FuncData}{ps:List Str}(h: ∀us:List Value,us.length=ps.length->bindArgs fd ⟨us,[]⟩=pure (ps.zip us)):Binds K fd ps []:=fun s us _ hl=>by
 rw[bU] at hl ⊢;exact .of_eq (h us hl)
def Passes (CX:ER)(X:Cx)(E:XK):Prop:= ∀(pins:List (Addr×Obj)) (σ:St) (H:Hp) (s:Shared) (e:Value) (s':Shared),Inv X pins σ H s->CX X.stack H s E e s'->X.xe e s'
section
variable {X:Cx}{CX:ER}{k:Nat}{f C:Addr}{fd:FuncData}{ps:List Str}{sp:Sp}{uL:List V}{ds:List Value}{E:XK}{x m:Str}{p pos apos:Pos}{e o:Expr}{es:List Expr}{ta:TE}{t:TA}
def yU {pins:List (Addr×Obj)}{σ:St}{H:Hp}{s:Shared}{Q:VK}{us:List Value}{vs:List V}(F:lW X.prog X.w X.K X.mg X.base CX k f fd ps sp)(hr:eY k X.A)(hb:Binds X.K fd ps ds)(hd:Vals uL ds)(hx:Passes CX X E)
  (I:Inv X pins σ H s) (r:Vals vs us) (h:sp (vs ++ uL) H Q E):wpAny (model X.prog X.w) X.A (call (.ref f) us) (EP X pins σ Q) X.xe s:=by
 have r2:Vals (vs ++ uL) (us ++ ds):=r.append hd;have hl:(us ++ ds).length=ps.length:=by rw[← r2.length]; exact F.len _ _ _ _ h
 refine EG (Dn (F.run X.A X.stack s H ⟨us,[]⟩ (us ++ ds) (vs ++ uL) Q E hr I.IU (hb s us I.gR hl) r2 h) fun r s' hq=>?_);cases r with
 |error e=>exact hx pins σ H s e s' I hq
 |ok fl=>
  cases fl with
  |ret u=>exact I.after hq
  |next=>exact False.elim hq
  |brk=>exact False.elim hq
  |cont=>exact False.elim hq
def ET (F:lW X.prog X.w X.K X.mg X.base CX k f fd ps sp)(hr:eY k X.A)(hg:Gl X x)(hm:X.mg x=some (.ref f))(hk:keepIn X.K (.ref f)=true)(hb:Binds X.K fd ps ds)(hd:Vals uL ds)(hx:Passes CX X E)
  (ha:PA X (e :: es) t) (qy:(x == ("__debug__":Str))=false:=by decide) (he:starEach (e :: es) X.env=(false,eval e X.env) :: starEach es X.env:=by rfl) (iN:(backTo pos (starEach es X.env)).any (·.1)=false:=by rfl):
  PE X (.Call (.Name x p) (e :: es) [] pos) (uK sp uL E t):=by
 intro pins s σ H Q I h;refine eG (jA I hg hm ?_ qy);refine km (h₀:=X.base) I.ok.mod.Lo hk (dZ (ha pos pins s σ H _ I h) fun us s1 ⟨vs,H1,I1,r,q⟩=>⟨I1.gR,?_⟩) he iN;exact yU F hr hb hd hx I1 r q
def IV (F:lW X.prog X.w X.K X.mg X.base CX k f fd ps sp)(hr:eY k X.A)(hg:Gl X x)(hm:X.mg x=some (.ref f))(hk:keepIn X.K (.ref f)=true)(hb:Binds X.K fd ps ds)(hd:Vals uL ds)(hx:Passes CX X E)
  (qy:(x == ("__debug__":Str))=false:=by decide):PE X (.Call (.Name x p) [] [] pos) (uK sp uL E Bh):=by
 intro pins s σ H Q I h;refine eG (jA I hg hm ?_ qy);exact A4 I.gR hk (yU (us:=[]) F hr hb hd hx I .nil h)
def LA {pl:Sem Bool}(he:PE X o ta)(c:wI X.K C)(hm:Meth X.K C m f)(F:lW X.prog X.w X.K X.mg X.base CX k f fd ps sp)(hr:eY k X.A)(hb:Binds X.K fd ps ds)(hd:Vals uL ds)(hx:Passes CX X E)(ha:PA X (e :: es) t)
  (nX:starEach (e :: es) X.env=(false,eval e X.env) :: starEach es X.env:=by rfl) (iN:(backTo pos (starEach es X.env)).any (·.1)=false:=by rfl)
  (ht:eval (.Call (.Attribute o m apos) (e :: es) [] pos) X.env=(do
   let ov ← eval o X.env
   standAt apos.atName
   let(f,first) ← holding [ov] (getMethod ov m pl)
   callWith pos f first (backTo pos (starEach (e :: es) X.env)) (backToKw pos (keywordEach [] X.env))):=by rfl):
  PE X (.Call (.Attribute o m apos) (e :: es) [] pos) (Nh C m sp uL E ta t):=by
 intro pins s σ H Q I h;refine wz (pl:=pl) (dZ (he pins s σ H _ I h) fun u s1 ⟨x,H1,I1,rx,a,dx,fs,ex,ea,l,q⟩=>?_) ht;subst ex;obtain rfl:u=Value.ref a:=rx;refine DA I1 ea c hm l ?_;refine km (first:=[.ref a]) (h₀:=X.base) I.ok.mod.Lo hm.kp (dZ (ha pos pins s1 σ H1 _ I1 q) fun us s2 ⟨vs,H2,I2,r,q2⟩=>⟨I2.gR,?_⟩) nX iN;exact yU (us:= .ref a :: us) (vs:= .ref a :: vs) F hr hb hd hx I2 (.cons rfl r) q2
structure Mk (K:Frag)(C f:Addr):Prop where
 makes:makesIn K C=true
 init:findIn K (.ref C) "__init__"=some (some (.ref f))
 fn:PySem.W.isFn K (.ref f)=true
 kp:keepIn K (.ref C)=true
def Bj {pins:List (Addr×Obj)}{σ:St}{H:Hp}{s:Shared}{Q:VK}{us:List Value}{vs:List V}(M:Mk X.K C f)(F:lW X.prog X.w X.K X.mg X.base CX k f fd ps sp)(hr:eY (k + 1) X.A)(hb:Binds X.K fd ps ds)(hd:Vals uL ds)
  (hx:Passes CX X E) (I:Inv X pins σ H s) (r:Vals vs us)
  (h: ∀x dx,H x=none->H dx=none->dx≠x->sp (.ref x :: (vs ++ uL)) (upd (upd H dx (.own x)) x (.ins C dx [])) (fun v H2=>v= .eu/\Q (.ref x) H2) E):
  wpAny (model X.prog X.w) X.A (call (.ref C) us) (EP X pins σ Q) X.xe s:=by
 have hq:=h (s.heap.objs.size + 1) s.heap.objs.size (I.cy.fresh (dA _)) (I.cy.fresh (aI _)) (a8 (fW _));have I2:=Inv.made (C:=C) I;have r2:Vals (V.ref (s.heap.objs.size + 1) :: (vs ++ uL)) (Value.ref (s.heap.objs.size + 1) :: (us ++ ds)):= .cons rfl (r.append hd);have hl:(Value.ref (s.heap.objs.size + 1) :: us ++ ds).length=ps.length:=by
  have e:=r2.length;rw[F.len _ _ _ _ hq] at e;exact e.symm
 refine EG (IS (f:=f) I.gR M.makes M.init (FY.mp M.fn) (Dn (F.run _ X.stack _ _ ⟨Value.ref (s.heap.objs.size + 1) :: us,[]⟩ (Value.ref (s.heap.objs.size + 1) :: (us ++ ds)) _ _ E (hr.make C us [])
  (I2.IU.make C us []) (hb _ (Value.ref (s.heap.objs.size + 1) :: us) I2.gR hl) r2 hq) fun r s' sP=>?_))
 cases r with
 |error e=>exact hx pins σ _ _ e s' I2 sP
 |ok fl=>
  cases fl with
  |ret u=>
   obtain⟨v,H',I3,rv,ev,q3⟩:=I2.after sP;subst ev;exact⟨rv,⟨V.ref (s.heap.objs.size + 1),H',I3,rfl,q3⟩⟩
  |next=>exact False.elim sP
  |brk=>exact False.elim sP
  |cont=>exact False.elim sP
def LB (M:Mk X.K C f)(F:lW X.prog X.w X.K X.mg X.base CX k f fd ps sp)(hr:eY (k + 1) X.A)(hg:Gl X x)(hm:X.mg x=some (.ref C))(hb:Binds X.K fd ps ds)(hd:Vals uL ds)(hx:Passes CX X E)
  (ha:PA X (e :: es) t) (qy:(x == ("__debug__":Str))=false:=by decide) (he:starEach (e :: es) X.env=(false,eval e X.env) :: starEach es X.env:=by rfl) (iN:(backTo pos (starEach es X.env)).any (·.1)=false:=by rfl):
  PE X (.Call (.Name x p) (e :: es) [] pos) (ES C sp uL E t):=by
 intro pins s σ H Q I h;refine eG (jA I hg hm ?_ qy);refine km (h₀:=X.base) I.ok.mod.Lo M.kp (dZ (ha pos pins s σ H _ I h) fun us s1 ⟨vs,H1,I1,r,q⟩=>⟨I1.gR,?_⟩) he iN;exact Bj M F hr hb hd hx I1 r q
def IW (M:Mk X.K C f)(F:lW X.prog X.w X.K X.mg X.base CX k f fd ps sp)(hr:eY (k + 1) X.A)(hg:Gl X x)(hm:X.mg x=some (.ref C))(hb:Binds X.K fd ps ds)(hd:Vals uL ds)(hx:Passes CX X E)
  (qy:(x == ("__debug__":Str))=false:=by decide):PE X (.Call (.Name x p) [] [] pos) (ES C sp uL E Bh):=by
 intro pins s σ H Q I h;refine eG (jA I hg hm ?_ qy);exact A4 I.gR M.kp (Bj (us:=[]) M F hr hb hd hx I .nil h)
end
section
variable {X:Cx}{CX:ER}{k:Nat}{f C:Addr}{fd:FuncData}{ps ks:List Str}{sp:Sp}{E:XK}{x m:Str}{p pos apos RV:Pos}{e o:Expr}{es:List Expr}{kws:List Keyword}{te ta:TE}{t tk:TA}{nm:Option Str}
variable {g:List Value->List Value->List Value}{gV:List V->List V->List V}
end
structure aW (N P:List Str)(sc:Scope):Prop where
 kind:sc.kind= .function:=by rfl
 co:sc.isCoroutine=false:=by rfl
 gen:sc.isGenerator=false:=by rfl
 nd:N.Nodup:=by decide +kernel
 pre:N.take P.length=P:=by rfl
 par: ∀x∈P,sc.names.lookup x=some .local∨sc.names.lookup x=some .cell:=by decide +kernel
 Ov: ∀y∈sc.names,y.2≠ .free:=by decide +kernel
def xV {kindOf:Str->Option NameKind}{x:Str}: ∀{binds:List (Str×Value)} {m:Str->Option Value},(∀v,(x,v)∉binds)->bindL kindOf binds m x=m x
 |[],_,_=>rfl
 |(n,v) :: r,m,h=>by
  unfold bindL;rw[xV fun w hw=>h w (aS _ hw)];split
  ·have:x≠n:=by rintro rfl; exact h v bc
   simp[this]
  ·rfl
def xW {kindOf:Str->Option NameKind}{x:Str}: ∀{binds:List (Str×Value)} {m:Str->Option Value},(∀v,(x,v)∉binds)->bindC kindOf binds m x=m x
 |[],_,_=>rfl
 |(n,v) :: r,m,h=>by
  unfold bindC;rw[xW fun w hw=>h w (aS _ hw)];split
  ·rfl
  ·have:x≠n:=by rintro rfl; exact h v bc
   simp[this]
def xX {kindOf:Str->Option NameKind}{x:Str}{v:Value}: ∀{P:List Str} {vs:List Value} {i:Nat} {m:Str->Option Value},P.Nodup->P[i]? =some x->vs[i]? =some v->kindOf x=some .local->
  bindL kindOf (P.zip vs) m x=some v
 |[],_,_,_,_,h,_,_=>by simp at h
 |_ :: _,[],_,_,_,_,h,_=>by simp at h
 |p :: P,w :: vs,0,m,nd,h1,h2,hk=>by
  simp at h1 h2; subst h1; subst h2;show bindL kindOf ((p,w) :: P.zip vs) m p=_;unfold bindL;rw[xV fun v hv=>(ej.mp nd).1 (oq hv).1,aZ hk];simp
 |p :: P,w :: vs,i + 1,m,nd,h1,h2,hk=>by
  show bindL kindOf ((p,w) :: P.zip vs) m x=_;unfold bindL;exact xX (i:=i) (List.nodup_cons.mp nd).2 (by simpa using h1) (by simpa using h2) hk
def xY {kindOf:Str->Option NameKind}{x:Str}{v:Value}: ∀{P:List Str} {vs:List Value} {i:Nat} {m:Str->Option Value},P.Nodup->P[i]? =some x->vs[i]? =some v->kindOf x≠some .local->
  bindC kindOf (P.zip vs) m x=some v
 |[],_,_,_,_,h,_,_=>by simp at h
 |_ :: _,[],_,_,_,_,h,_=>by simp at h
 |p :: P,w :: vs,0,m,nd,h1,h2,hk=>by
  simp at h1 h2; subst h1; subst h2;show bindC kindOf ((p,w) :: P.zip vs) m p=_;unfold bindC;rw[xW fun v hv=>(ej.mp nd).1 (oq hv).1,aO hk];simp
 |p :: P,w :: vs,i + 1,m,nd,h1,h2,hk=>by
  show bindC kindOf ((p,w) :: P.zip vs) m x=_;unfold bindC;exact xY (i:=i) (List.nodup_cons.mp nd).2 (by simpa using h1) (by simpa using h2) hk
def start (N:List Str)(vs:List V):St:=vs.map some ++ List.replicate (N.length - vs.length) none
def kQ (CX:ER)(P:Program)(w:World)(K:Frag)(mg:Str->Option Value)(base:Heap)(N:List Str)(qual:Str)(scope:Scope)(f:Addr)(cd:Value)(A:Around)(outer:List Env)(s:Shared)(H:Hp)(E:XK):Cx where
 prog:=P
 w:=w
 K:=K
 mg:=mg
 base:=base
 A:=A.deeper (envOfC qual scope s.heap.objs.size f cd)
 N:=N
 s₀:=s
 H₀:=H
 env:=envOfC qual scope s.heap.objs.size f cd
 outer:=outer
 stack:=envOfC qual scope s.heap.objs.size f cd :: outer
 ex:=[]
 calm:=true
 fn:=fun _=>true
 pn:=[]
 xe:=fun e s'=>wpAny (model P w) (A.deeper (envOfC qual scope s.heap.objs.size f cd)) (leaving (envOfC qual scope s.heap.objs.size f cd) e) (fun _ EU=>CX outer H s E e EU) (fun e' EU=>CX outer H s E e' EU) s'
def Bl {sc:Scope}{n:Nat}{x:Str}(h:sc.names.lookup x=some .cell): ∃c,(cellsFrom n sc.names []).lookup x=some c:=by
 have q:=lg sc.names n [] (.inl h);exact QM.mp q
def xZ {CX:ER}{P:Program}{w:World}{K:Frag}{mg:Str->Option Value}{base:Heap}{N ps:List Str}{qual:Str}{scope:Scope}{f:Addr}{cd:Value}{A:Around}{outer:List Env}{s s1:Shared}{H:Hp}{E:XK}{us:List Value}{vs:List V}
  (S:aW N ps scope) (hd:A.handled=none) (e0:qx P w K mg base A outer s H) (hl:vs.length=ps.length) (r:Vals vs us)
  (x:InCallC s s.heap.objs.size (bindL (envOfC qual scope s.heap.objs.size f cd).kindOf (ps.zip us) fun _=>none) (cellsFrom (s.heap.objs.size + 1) scope.names []) (bindC (envOfC qual scope s.heap.objs.size f cd).kindOf (ps.zip us) fun _=>none) s1):
  Inv (kQ CX P w K mg base N qual scope f cd A outer s H E) [] (start N vs) H s1:=by
 have iN:ps.length<=N.length:=by have:=cY List.length S.pre; rw[bb] at this; lia
 obtain⟨h1,tk,rfl,hk⟩:=x.done;have WJ: ∀b:Addr,b∉(kQ CX P w K mg base N qual scope f cd A outer s H E).ex:=fun b z=>absurd (show b∈([]:List Addr) from z) (by simp);refine⟨⟨e0.mod,S.kind,rfl,rfl,aI _,fun y z c h1 h2=>?_,fun y hy=>?_,fun y c _ h=>?_,fun _=>hd,Around.frames_deeper e0.frames,.inr ⟨rfl,rfl⟩,fun b z=>absurd z (WJ b),e0.bs,e0.A8,fun b _ _=>WJ b,fun b z=>absurd z (WJ b),e0.lT,e0.EH⟩,
  rfl,e0.bare,Un.kept hk,⟨_,x.toInCall.ns,fun i y v h1 h2 h3=>?_⟩,fun y c h=>⟨_,x.cell y c h⟩,e0.cy.fresh (Nat.le_refl _),fun y c h=>?_,fun p hp=>absurd (show p∈([]:List (Addr×Obj)) from hp) (by simp),e0.cy.kept hk,?_⟩
 ·exact name_of_addr x.apart (cg h1) (cg h2)
 ·have hy:scope.names.lookup y=some .cell∨scope.names.lookup y=some .free:=hy;rcases hy with hy|hy
  ·exact Bl hy
  ·exact absurd rfl (S.Ov _ (cg hy))
 ·exact df (x.above y c (cg h))
 ·have hi:i < vs.length:=by
   unfold start at h2;by_cases hi:i < vs.length
   ·exact hi
   ·rw[List.getElem?_append_right (by simpa using hi)] at h2;rw[List.getElem?_replicate] at h2;split at h2 <;> cases h2
  have ha:vs[i]? =some v:=by
   unfold start at h2;rw[List.getElem?_append_left (by simpa using hi),List.getElem?_map] at h2;cases e:vs[i]? with
   |none=>rw[e] at h2; cases h2
   |some a=>rw[e] at h2; cases h2; rfl
  obtain⟨u,hu,rv⟩:=r.get ha;have hp:ps[i]? =some y:=by
   rw[← S.pre,List.getElem?_take_of_lt (by lia)]; exact h1
  have ZD:ps.Nodup:=by rw[← S.pre]; exact S.nd.sublist (List.take_sublist _ _)
  refine⟨u,rv,?_⟩;rcases S.par y (gA hp) with k|k
  ·exact .inl ⟨k,xX ZD hp hu k⟩
  ·obtain⟨c,e⟩:=Bl (n:=s.heap.objs.size + 1) k;refine .inr ⟨.inl k,c,e,?_⟩;have q:=x.cell y c e;rw[xY ZD hp hu (by show scope.names.lookup y≠_; rw[k]; decide)] at q;exact q
 ·exact e0.cy.fresh (df (x.above y c (cg h)))
 ·unfold start;show _ =N.length;rw[aH,ae,iM];lia
def IX {CX:ER}{P:Program}{w:World}{K:Frag}{mg:Str->Option Value}{base:Heap}{k:Nat}{f:Addr}{name qual:Str}{params:Arguments}{body:List Stmt}{scope:Scope}{dV kV doc pm cO ct oc:Value}{an od:Option Addr}
  {Gs:Array (Option Value)} {N ps:List Str} {sp:Sp} (lk:K.lookup f=some ⟨oc,od,.func (fnOf name qual params body scope dV kV doc pm an cO ct),Gs⟩) (rM:codeIn K cO qual=true) (S:aW N ps scope)
  (len: ∀vs H Q E,sp vs H Q E->vs.length=ps.length)
  (fS: ∀(A:Around) (outer:List Env) (s:Shared) (H:Hp) (vs:List V) (Q:VK) (E:XK),eY k (A.deeper (envOfC qual scope s.heap.objs.size f cO))->sp vs H Q E->
   ∃t,oN (kQ CX P w K mg base N qual scope f cO A outer s H E) body t/\t {nx:=fun _ H'=>Q .eu H',rt:=Q} (start N vs) H):
  lW P w K mg base CX (k + 1) f (fnOf name qual params body scope dV kV doc pm an cO ct) ps sp:=by
 refine⟨len,fun A outer s H args us vs Q E hr e0 hb r ya=>?_⟩;have hl:=len _ _ _ _ ya;have KX:K.In s.heap:=e0.mod.Lo.keeps fun b o e=>(e0.bs b o e).1;have lim:s.heap.NoLimit:=e0.mod.nolimit.keeps fun b o e=>(e0.bs b o e).1;have mQ: ∀y∈ps.zip us,scope.names.lookup y.1=some .local∨(scope.names.lookup y.1=some .cell/\((cellsFrom (s.heap.objs.size + 1) scope.names []).lookup y.1).isSome=true):=fun⟨n,v⟩ hy=>by
  rcases S.par n (oq hy).1 with q|q
  ·exact .inl q
  ·exact .inr ⟨q,lg _ _ _ (.inl q)⟩
 refine codeAny_call_function hr.depth (KX _ _ lk) rfl S.co S.gen rfl (PySem.W.codeRec_of KX rM) (hb _ _ _ _ ?_);refine tN S.kind mQ fun env he s1 x=>?_;subst he;refine⟨lim.keeps x.toInCall.keep,codeAny_func ?_⟩;obtain⟨t,ht,hq⟩:=fS A outer s H vs Q E (hr.deeper _) ya;have I:Inv (kQ CX P w K mg base N qual scope f cO A outer s H E) [] (start N vs) H s1:=xZ S hr.hd e0 hl r x;refine ck (ht [] s1 (start N vs) H _ I hq) (fun fl s' hs=>?_) fun e s' hs=>hs;have fin: ∀{σ':St} {H':Hp} {v:V} {u:Value},Inv (kQ CX P w K mg base N qual scope f cO A outer s H E) [] σ' H' s'->RelV v u->Q v H'->CE outer P w H s Q u s':=
  fun{σ' H' v u} J rv q=>⟨v,H',J.os,J.bare,J.base,J.cy,rv,q⟩
 cases fl with
 |ret u=>
  obtain⟨v,σ',H',J,rv,q⟩:=hs;exact fin J rv q
 |next=>
  obtain⟨σ',H',J,q⟩:=hs;exact fin (v:=V.eu) (u:=Value.none) J rfl q
 |brk=>
  obtain⟨_,_,_,q⟩:=hs;exact False.elim q
 |cont=>
  obtain⟨_,_,_,q⟩:=hs;exact False.elim q
section
variable {X:Cx}{x:Str}{p pos:Pos}{e:Expr}{es:List Expr}{t:TA}{id T:String}{r:List V->Hp->VK->Prop}
def Vi (r:List V->Hp->VK->Prop)(t:TA):TE:=fun σ H Q=>t σ H fun vs H1=>r vs H1 Q
def eN (hc:hZ X (.builtin id) r)(hg:Gl X x)(hm:X.mg x=none)(hv:bootBuiltins x=some (.builtin id))(ha:PA X (e :: es) t)(hn:x≠"__name__":=by decide)(qy:(x == ("__debug__":Str))=false:=by decide)
  (he:starEach (e :: es) X.env=(false,eval e X.env) :: starEach es X.env:=by rfl) (iN:(backTo pos (starEach es X.env)).any (·.1)=false:=by rfl):PE X (.Call (.Name x p) (e :: es) [] pos) (Vi r t):=by
 intro pins s σ H Q I h;refine eG (pB I hg hm hv ?_ hn qy);exact PyProof.Rows.callWith_builtin1 (dZ (ha pos pins s σ H _ I h) fun us s1 ⟨vs,H1,I1,r1,q1⟩=>hc pins s1 σ H1 vs us Q I1 r1 q1) he iN
def fX (hc:hZ X (.type T) r)(hg:Gl X x)(hm:X.mg x=none)(hv:bootBuiltins x=some (.type T))(ha:PA X (e :: es) t)(hn:x≠"__name__":=by decide)(qy:(x == ("__debug__":Str))=false:=by decide)
  (he:starEach (e :: es) X.env=(false,eval e X.env) :: starEach es X.env:=by rfl) (iN:(backTo pos (starEach es X.env)).any (·.1)=false:=by rfl):PE X (.Call (.Name x p) (e :: es) [] pos) (Vi r t):=by
 intro pins s σ H Q I h;refine eG (pB I hg hm hv ?_ hn qy);exact om (dZ (ha pos pins s σ H _ I h) fun us s1 ⟨vs,H1,I1,r1,q1⟩=>hc pins s1 σ H1 vs us Q I1 r1 q1) he iN
end
end L2
namespace HT
open PySem PyProof.Rows
def lexLt:List Int->List Int->Bool
 |[],[]=>false
 |[],_ :: _=>true
 |_ :: _,[]=>false
 |x :: xs,y :: ys=>if x=y then lexLt xs ys else decide (x < y)
def lX (x y:Int)(xs ys:List Int):lexLt (x :: xs) (y :: ys)=if x=y then lexLt xs ys else decide (x < y):=rfl
section
open PySem.SeqAt
open PySem.AutoSeq1 (wpAny_loadPart')
open PySem.MeetsSeq PySem.MeetsSeq2 PySem.MeetsSeq3
end
section
variable {prog:Program}{w:World}{A:Around}{E:Value->Shared->Prop}{s:Shared}
def Bm (n d:Nat):Option Int->Nat
 |none=>d
 |some v=>if v < 0 then(v + (n:Int)).toNat else min v.toNat n
def IZ (n d:Nat):Bm n d none=d:=rfl
def yV (n d k:Nat):Bm n d (some (k:Int))=min k n:=by
 show(if(k:Int) < 0 then((k:Int) + (n:Int)).toNat else min (k:Int).toNat n)=min k n;rw[aO (by lia),dm]
end
end HT
namespace L2
open PySem PySem.Spec PyProof.Rows
abbrev TO:=St->Hp->(Option Int->Hp->Prop)->Prop
def PO (X:Cx)(e:Option Expr)(t:TO):Prop:=
 ∀(pins:List (Addr×Obj)) (s:Shared) (σ:St) (H:Hp) (Q:Option Int->Hp->Prop),Inv X pins σ H s->t σ H Q->
  wpAny (model X.prog X.w) X.A (evalPart e X.env) (fun u s'=> ∃o H',Inv X pins σ H' s'/\IsPart u o/\Q o H') X.xe s
def LC:TO:=fun _ H Q=>Q none H
inductive ZE (x:V)(k:Int->Prop):Prop
 |mk (i:Int)(h:x= .int i)(q:k i):ZE x k
def RW (t:TE):TO:=fun σ H Q=>t σ H fun x H1=>ZE x fun i=>Q (some i) H1
def intsAre_of {ns:List Int}: ∀{us:List Value},Vals (ns.map V.int) us->IntsAre us ns:=by
 induction ns with
 |nil=>intro us r; rw[wA] at r; cases r; exact .nil
 |cons n ns ih=>
  intro us r;rw[bM] at r;cases r with
  |cons r1 r2=>
   obtain⟨t,e⟩:=r1;subst e;exact .cons n t (ih r2)
section
variable {X:Cx}{e:Expr}{te:TE}{lo hi:Option Expr}{tl th:TO}{pos p2:Pos}
def yW:PO X none LC:=by
 intro pins s σ H Q I h;rw[evalPart_none];exact bF ⟨none,H,I,.none,h⟩
def qz (h:PE X e te):PO X (some e) (RW te):=by
 intro pins s σ H Q I hw;rw[evalPart_some];refine dZ (h pins s σ H _ I hw) fun u s1 ⟨x,H1,I1,r1,q1⟩=>?_;obtain⟨i,rfl,q⟩:=q1;obtain⟨t,rfl⟩:=r1;exact⟨some i,H1,I1,.int i t,q⟩
def Ni (X:Cx)(r:V->Option Int->Option Int->Hp->VK->Prop):Prop:=
 ∀(pins:List (Addr×Obj)) (s:Shared) (σ:St) (H:Hp) (x:V) (v vl vu:Value) (lo hi:Option Int) (sl:Addr) (Q:VK),Inv X pins σ H s->RelV x v->s.heap.IsSliceOf sl vl vu .none->IsPart vl lo->IsPart vu hi->r x lo hi H Q->
  ∃T id,typeLookup (.type T) "__getitem__"=pure (some (.builtin id))/\s.TypeIs v T/\wpAny (model X.prog X.w) X.A (getItem v (.ref sl)) (EP X pins σ Q) X.xe s
def tSl (r:V->Option Int->Option Int->Hp->VK->Prop)(te:TE)(tl th:TO):TE:=fun σ H Q=>te σ H fun x H1=>tl σ H1 fun l H2=>th σ H2 fun u H3=>r x l u H3 Q
def qA {r:V->Option Int->Option Int->Hp->VK->Prop}(hr:Ni X r)(he:PE X e te)(hl:PO X lo tl)(hu:PO X hi th):PE X (.Subscript e (.Slice lo hi none p2) pos) (tSl r te tl th):=by
 intro pins s σ H Q I h;refine Subscript_ (dZ (he pins s σ H _ I h) fun v s1 ⟨x,H1,I1,r1,q1⟩=>?_);refine wpAny_Slice (dZ (hl pins s1 σ H1 _ I1 q1) fun vl s2 ⟨l,H2,I2,pl,q2⟩=>dZ (hu pins s2 σ H2 _ I2 q2) fun vu s3 ⟨u,H3,I3,pu,q3⟩=>?_);rw[evalPart_none];refine bF ?_;have I4:Inv X pins σ H3 {s3 with heap:=s3.heap.push {cls:= .type "slice",data:= .fields #[vl,vu,.none]}}:=I3.kept (t':=s3.toks) fun b ob q=>ay _ q;obtain⟨T,id,hT,ht,hg⟩:=hr pins {s3 with heap:=s3.heap.push {cls:= .type "slice",data:= .fields #[vl,vu,.none]}} σ H3 x v vl vu l u s3.heap.objs.size Q I4 r1 (Heap.IsSliceOf.new ..) pl pu q3;show wpAny (model X.prog X.w) X.A (subscriptTail e (.Slice lo hi none p2) v (.ref s3.heap.objs.size)) (EP X pins σ Q) X.xe {s3 with heap:=s3.heap.push {cls:= .type "slice",data:= .fields #[vl,vu,.none]}};exact tail_any (ops:=[.ref s3.heap.objs.size,v]) ht hT hg (by with_unfolding_all rfl)
def qB (xs:List V)(lo hi:Option Int):List V:=(xs.drop (HT.Bm xs.length 0 lo)).take (HT.Bm xs.length xs.length hi - HT.Bm xs.length 0 lo)
def Bn (xs:List V)(lo hi:Option Int):(qB xs lo hi).length<=xs.length:=by
 unfold qB;rw[bb,mC];lia
end
def LD (n:Nat)(i:Int):Option Nat:=if 0<=i then(if i < n then some i.toNat else none) else if -(n:Int)<=i then some (i + n).toNat else none
def se {α:Type}(xs:List α)(i:Int):Option α:=(LD xs.length i).bind fun j=>xs[j]?
def EV {n:Nat}{i:Int}{j:Nat}(h:LD n i=some j):seqIndex? i n=some j/\j < n/\ -(n:Int)<=i/\i < n:=by
 unfold LD at h;by_cases h0:0<=i
 ·rw[aZ h0] at h;by_cases h1:i < n
  ·rw[aZ h1] at h;have e:i.toNat=j:=aD h;exact⟨by rw[seqIndex_of h0 h1,e],by lia,by lia,h1⟩
  ·rw[aO h1] at h; cases h
 ·rw[aO h0] at h;by_cases h1: -(n:Int)<=i
  ·rw[aZ h1] at h;have e:(i + n).toNat=j:=aD h;exact⟨by rw[seqIndex_neg (by lia) h1,e],by lia,h1,by lia⟩
  ·rw[aO h1] at h; cases h
def EW {α:Type}{xs:List α}{i:Int}{v:α}(h:se xs i=some v): ∃j,seqIndex? i xs.length=some j/\xs[j]? =some v/\j < xs.length/\ -(xs.length:Int)<=i/\i < xs.length:=by
 unfold se at h;cases e:LD xs.length i with
 |none=>rw[e] at h; cases h
 |some j=>
  rw[e] at h;obtain⟨h1,h2,h3,h4⟩:=EV e;exact⟨j,h1,h,h2,h3,h4⟩
def cf {α:Type}{xs:List α}{j:Nat}{v:α}(h:xs[j]? =some v):se xs (j:Int)=some v:=by
 have hj:j < xs.length:=(ak.mp h).1;have e:LD xs.length (j:Int)=some j:=by
  unfold LD;rw[if_pos (by lia),if_pos (by lia)]; simp
 unfold se; rw[e]; exact h
def yX (b:Expr):Prop:= ∀o i,subscripted b false o i=operate [o,i] (getItem o i)
def I9 (X:Cx)(r:R2):Prop:=
 ∀(value slice:Expr) (pins:List (Addr×Obj)) (s:Shared) (σ:St) (H:Hp) (x y:V) (v u:Value) (Q:VK),Inv X pins σ H s->RelV x v->RelV y u->r x y H Q->
  subscripted slice false v u=operate [v,u] (getItem v u)->wpAny (model X.prog X.w) X.A (subscriptTail value slice v u) (EP X pins σ Q) X.xe s
def ZF (X:Cx)(id:String)(r:V->List V->Hp->VK->Prop):Prop:=
 ∀(pins:List (Addr×Obj)) (s:Shared) (σ:St) (H:Hp) (x:V) (xs:List V) (v:Value) (us:List Value) (Q:VK),Inv X pins σ H s->RelV x v->Vals xs us->r x xs H Q->
  wpAny (model X.prog X.w) X.A (call (.builtin id) (v :: us)) (EP X pins σ Q) X.xe s
section
variable {X:Cx}{a b:Expr}{ta tb:TE}{pos:Pos}
def iQ {r:R2}(hr:I9 X r)(ha:PE X a ta)(hb:PE X b tb)(hs:yX b):PE X (.Subscript a b pos) (QT r ta tb):=by
 intro pins s σ H Q I h;exact Subscript_ (Om ha hb I h fun v u s2 x y H2 I2 rx ry q=>hr a b pins s2 σ H2 x y v u Q I2 rx ry q (hs _ _))
inductive WK (x y:V)(S:Addr->List V->Prop)(k:V->Prop):Prop
 |mk (p:Addr)(xs:List V)(i:Int)(v:V)(h1:x= .ref p)(h2:y= .int i)(s:S p xs)(a:se xs i=some v)(q:k v):WK x y S k
def Ow (K:Frag):R2:=fun x y H Q=>WK x y (bw K H) fun v=>Q v H
def Ox (K:Frag):R2:=fun x y H Q=>WK x y (cz K H) fun v=>Q v H
def yY:I9 X (Ow X.K):=by
 intro value slice pins s σ H x y v u Q I rx ry h hs;obtain⟨p,xs,i,z,rfl,rfl,hq,he,q⟩:=h;cases rx;obtain⟨t,rfl⟩:=ry;obtain⟨bZ,r,pl,hz⟩:=I.list hq;obtain⟨j,h1,h2,h3,h4,h5⟩:=EW he;obtain⟨w,ew,Gu⟩:=r.get h2;have hl:=r.length;have hn:=yT;have fin:EP X pins σ Q w s:=⟨z,H,I,Gu,q⟩;by_cases h0:0<=i
 ·have hj:i.toNat=j:=by
   rw[seqIndex_of h0 h5] at h1;exact aD h1
  exact item_listR pl.isList h0 (by lia) (by rw[hj]; simpa using ew) fin hs
 ·have hj:(i + (bZ.toArray.size:Int)).toNat=j:=by
   rw[seqIndex_neg (by lia) h4] at h1;rw[bC,← hl];exact aD h1
  exact subscriptTail_builtinR (x:=w) pl.isList.typeIs slot_list_getitem.lookup
   (wpAny_getItem_list_neg (Q:=fun r s'=>r=w/\EP X pins σ Q r s') pl.isList (by lia) (by rw[List.size_toArray] <;> lia) (by lia) (by rw[hj]; simpa using ew) ⟨rfl,fin⟩) hs
def DE:I9 X (Ox X.K):=by
 intro value slice pins s σ H x y v u Q I rx ry h hs;obtain⟨p,xs,i,z,rfl,rfl,hq,he,q⟩:=h;cases rx;obtain⟨t,rfl⟩:=ry;obtain⟨bZ,r,pl,hz⟩:=I.tuple hq;obtain⟨j,h1,h2,h3,h4,h5⟩:=EW he;obtain⟨w,ew,Gu⟩:=r.get h2;have hl:=r.length;have hn:=yT;have fin:EP X pins σ Q w s:=⟨z,H,I,Gu,q⟩;exact subscriptTail_builtinR (x:=w) pl.typeIs slot_tuple_getitem.lookup
  (getItem_tuple (j:=j) (Q:=fun r s'=>r=w/\EP X pins σ Q r s') pl (by lia) (by lia) (by rw[List.size_toArray,← hl]; exact h1) (by simpa using ew) ⟨rfl,fin⟩) hs
def DF (bZ:List Value)(n j:Nat)(u:Value):Obj.mapSeq (·.setIfInBounds j u) {cls:= .type "list",data:= .seq bZ.toArray n}={cls:= .type "list",data:= .seq (bZ.set j u).toArray n}:=by
 simp[Obj.mapSeq]
def Inv.lst {pins:List (Addr×Obj)}{σ:St}{H:Hp}{s:Shared}{p:Addr}{xs:List V}(I:Inv X pins σ H s)(h:H p=some (.lst xs)):
  ∃(bZ:List Value) (n:Nat),Vals xs bZ/\s.heap.get? p=some {cls:= .type "list",data:= .seq bZ.toArray n}/\xs.length<=sizeLine:=by
 obtain⟨z,bZ,n,r,e⟩:=I.cy p _ h;exact⟨bZ,n,r,e,z⟩
def Inv.Oy {pins:List (Addr×Obj)}{σ:St}{H:Hp}{s:Shared}{p:Addr}{xs ys:List V}{bZ qv:List Value}{n n':Nat}{f:Obj->Obj}(I:Inv X pins σ H s)(h:H p=some (.lst xs))
  (ho:s.heap.get? p=some {cls:= .type "list",data:= .seq bZ.toArray n}) (hf:f {cls:= .type "list",data:= .seq bZ.toArray n}={cls:= .type "list",data:= .seq qv.toArray n'}) (r:Vals ys qv) (hz:ys.length<=sizeLine) (t:Nat):
  Inv X pins σ (upd H p (.lst ys)) {s with heap:=s.heap.update p f,toks:=t}:=by
 have e:(s.heap.update p f).get? p=some {cls:= .type "list",data:= .seq qv.toArray n'}:=by
  rw[Dp f ho (by rw[hf] <;> rfl),hf]
 refine I.write (x:=p) (e:=p) (by rw[h]; trivial) (.inl rfl) (fun b u hb q=>(mK _ _ (wy hb)).trans q) ⟨_,e⟩ ?_;exact⟨hz,qv,n',r,e⟩
def RX:V->V->V->Hp->(Hp->Prop)->Prop:=fun o i v H Q=> ∃p xs k j,o= .ref p/\i= .int k/\H p=some (.lst xs)/\LD xs.length k=some j/\Q (upd H p (.lst (xs.set j v)))
def set_list:RL X RX:=by
 intro pins s σ H o i v ov iv u Q I ro ri rv h;obtain⟨p,xs,k,j,rfl,rfl,hp,hj,q⟩:=h;cases ro;obtain⟨t,rfl⟩:=ri;obtain⟨bZ,n,r,ho,hz⟩:=I.lst hp;obtain⟨h1,h2,h3,h4⟩:=EV hj;have hl:=r.length;have hn:=yT;have I':Inv X pins σ (upd H p (.lst (xs.set j v))) {s with heap:=s.heap.update p (Obj.mapSeq (·.setIfInBounds j u))}:=
  I.Oy hp ho (DF bZ n j u) (r.set rv j) (by rw[eU]; exact hz) s.toks
 by_cases h0:0<=k
 ·have hk:k.toNat=j:=by
   rw[seqIndex_of h0 h4] at h1;exact aD h1
  exact PySem.W.ki_setAt ho h0 (by lia) (by rw[bC,← hl]; exact h4) (by rw[hk]; exact⟨_,I',q⟩)
 ·have hk:(k + (bZ.toArray.size:Int)).toNat=j:=by
   rw[seqIndex_neg (by lia) h3] at h1;rw[bC,← hl];exact aD h1
  exact PySem.W.ki_setBack ho (by lia) (by rw[bC,← hl]; exact h3) (by lia) (by rw[hk]; exact⟨_,I',q⟩)
def yZ (lo hi:Option Int)(n:Nat):(sliceBounds lo hi none n).1=((HT.Bm n 0 lo:Nat):Int)/\(sliceBounds lo hi none n).2.1=((HT.Bm n n hi:Nat):Int)/\(sliceBounds lo hi none n).2.2=1:=by
 refine⟨?_,?_,rfl⟩
 ·cases lo with
  |none=>simp[sliceBounds,HT.Bm]
  |some i=>
   simp only[sliceBounds,HT.Bm,Option.getD_none,show(1:Int) > 0 by decide,if_true];by_cases h:i < 0
   ·simp only[h,if_true] <;> lia
   ·simp only[h,if_false] <;> lia
 ·cases hi with
  |none=>simp[sliceBounds,HT.Bm]
  |some i=>
   simp only[sliceBounds,HT.Bm,Option.getD_none,show(1:Int) > 0 by decide,if_true];by_cases h:i < 0
   ·simp only[h,if_true] <;> lia
   ·simp only[h,if_false] <;> lia
def wJ (bZ:List Value)(lo hi:Option Int):slicePick bZ.toArray lo hi none=((bZ.drop (HT.Bm bZ.length 0 lo)).take (HT.Bm bZ.length bZ.length hi - HT.Bm bZ.length 0 lo)).toArray:=by
 obtain⟨h1,h2,h3⟩:=yZ lo hi bZ.toArray.size;unfold slicePick;rw[h1,h2,h3];simp only[sliceRange_one,pick_run,List.size_toArray] <;> rfl
inductive ZG (K:Frag)(x:V)(lo hi:Option Int)(H:Hp)(Q:VK):Prop
 |mk (a:Addr)(xs:List V)(h1:x= .ref a)(h2:bw K H a xs)(q: ∀p,H p=none->Q (.ref p) (upd H p (.lst (qB xs lo hi)))):ZG K x lo hi H Q
def RY (K:Frag):V->Option Int->Option Int->Hp->VK->Prop:=ZG K
def LF:Ni X (RY X.K):=by
 intro pins s σ H x v vl vu lo hi sl Q I rx hs pl pu h;obtain⟨a,xs,rfl,hx,q⟩:=h;cases rx;obtain⟨bZ,r,ht,hz⟩:=I.list hx;have hlen:=r.length;refine⟨"list",_,slot_list_getitem.lookup,ht.isList.typeIs,?_⟩;refine wpAny_getItem_list_slice ht.isList hs pl pu .none (by simp) ?_ (by rw[List.size_toArray] <;> lia);rw[wJ,← hlen];refine⟨.ref s.heap.objs.size,_,I.laid (t':=s.toks) (o:= .lst (qB xs lo hi)) (fun b ob q=>ay _ q) (aI _) ?_,rfl,q _ (I.cy.fresh (aI _))⟩;exact⟨a0 (Bn xs lo hi) hz,_,0,(r.drop (HT.Bm xs.length 0 lo)).take (HT.Bm xs.length xs.length hi - HT.Bm xs.length 0 lo),bO _ rfl⟩
def sQ:V->Bool
 | .eu=>true
 | .bl _=>true
 | .int _=>true
 | .str _=>true
 |_=>false
def LG:V->V->Bool
 | .eu,.eu=>true
 | .bl a,.bl b=>a == b
 | .bl a,.int b=>(if a then 1 else 0) == b
 | .int a,.bl b=>a == (if b then 1 else 0)
 | .int a,.int b=>a == b
 | .str a,.str b=>a == b
 |_,_=>false
def Oz {A:Around}{s:Shared}{y x:V}{u v:Value}(ry:RelV y u)(rx:RelV x v)(fy:sQ y=true)(fx:sQ x=true):SeqAt.EqAt A s u v (LG y x):=by
 cases y with
 |eu=>
  cases ry;cases x with
  |eu=>cases rx; exact SeqAt.EqAt.same _
  |bl b=>cases rx; exact SeqAt.EqAt.none_bool b
  |int b=>obtain⟨t,rfl⟩:=rx; exact SeqAt.EqAt.none_int b t
  |str b=>obtain⟨t,rfl⟩:=rx; exact SeqAt.EqAt.none_str b t
  |_=>exact absurd (show false=true from fx) aR
 |bl a=>
  cases ry;cases x with
  |eu=>cases rx; exact SeqAt.EqAt.bool_none a
  |bl b=>cases rx; exact SeqAt.EqAt.bool_bool a b
  |int b=>obtain⟨t,rfl⟩:=rx; exact SeqAt.EqAt.bool_int a b t
  |str b=>obtain⟨t,rfl⟩:=rx; exact SeqAt.EqAt.bool_str a b t
  |_=>exact absurd (show false=true from fx) aR
 |int a=>
  obtain⟨t',rfl⟩:=ry;cases x with
  |eu=>cases rx; exact SeqAt.EqAt.int_none a t'
  |bl b=>cases rx; exact SeqAt.EqAt.int_bool a t' b
  |int b=>obtain⟨t,rfl⟩:=rx; exact SeqAt.EqAt.int_int a t' b t
  |str b=>obtain⟨t,rfl⟩:=rx; exact SeqAt.EqAt.int_str a t' b t
  |_=>exact absurd (show false=true from fx) aR
 |str a=>
  obtain⟨t',rfl⟩:=ry;cases x with
  |eu=>cases rx; exact SeqAt.EqAt.str_none a t'
  |bl b=>cases rx; exact SeqAt.EqAt.str_bool a t' b
  |int b=>obtain⟨t,rfl⟩:=rx; exact SeqAt.EqAt.str_int a t' b t
  |str b=>obtain⟨t,rfl⟩:=rx; exact SeqAt.EqAt.str_str a t' b t
  |_=>exact absurd (show false=true from fx) aR
 |_=>exact absurd (show false=true from fy) aR
def DG (x:V)(u:Value):Bool:=match u with
 | .none=>LG .eu x
 | .bool b=>LG (.bl b) x
 | .int i _=>LG (.int i) x
 | .str z _=>LG (.str z) x
 |_=>false
def Ja {x y:V}{u:Value}(r:RelV y u)(f:sQ y=true):DG x u=LG y x:=by
 cases y with
 |eu=>cases r; rfl
 |bl b=>cases r; rfl
 |int i=>obtain⟨t,rfl⟩:=r; rfl
 |str z=>obtain⟨t,rfl⟩:=r; rfl
 |_=>exact absurd (show false=true from f) aR
def qC {x:V}: ∀{xs:List V} {us:List Value},Vals xs us->xs.all sQ=true->us.any (DG x)=xs.any fun y=>LG y x
 |_,_,.nil,_=>rfl
 |y :: xs,u :: us,.cons r t,f=>by
  rw[List.all_cons,ud] at f;rw[tO,tO,Ja r f.1,qC t f.2]
def mR {A:Around}{s:Shared}{x:V}{v:Value}(rx:RelV x v)(fx:sQ x=true): ∀{xs:List V} {us:List Value},Vals xs us->xs.all sQ=true-> ∀u∈us,SeqAt.EqAt A s u v (DG x u)
 |_,_,.nil,_=>fun u hu=>by cases hu
 |y :: xs,u :: us,.cons r t,f=>fun u' hu=>by
  rw[List.all_cons,ud] at f;rcases aw.mp hu with rfl|hu
  ·rw[Ja r f.1]; exact Oz r rx f.1 fx
  ·exact mR rx fx t f.2 u' hu
def wK (x:V)(xs:List V):Bool:=xs.any fun y=>LG y x
def ZH (K:Frag)(neg:Bool):R2:=fun x y H Q=> ∃p xs,y= .ref p/\(bw K H p xs∨cz K H p xs)/\sQ x=true/\xs.all sQ=true/\Q (.bl (if neg then !wK x xs else wK x xs)) H
def nY:oA X (compareOp .In) (ZH X.K false):=by
 intro pins s σ H x y v u Q I rx ry h;obtain⟨p,xs,rfl,hq,fx,fs,q⟩:=h;cases ry;rcases hq with hq|hq
 ·obtain⟨bZ,r,pl,hz⟩:=I.list hq;refine SeqAt.in_listAt (DG x) pl.isList (fun w hw=>mR rx fx r fs w (by simpa using hw)) ⟨.bl _,H,I,rfl,?_⟩;rw[show bZ.toArray.any (DG x)=bZ.any (DG x) by simp,qC r fs];exact q
 ·obtain⟨bZ,r,pl,hz⟩:=I.tuple hq;refine SeqAt.in_tupleAt (DG x) pl (fun w hw=>mR rx fx r fs w (by simpa using hw)) ⟨.bl _,H,I,rfl,?_⟩;rw[show bZ.toArray.any (DG x)=bZ.any (DG x) by simp,qC r fs];exact q
def y0:oA X (compareOp .NotIn) (ZH X.K true):=by
 intro pins s σ H x y v u Q I rx ry h;obtain⟨p,xs,rfl,hq,fx,fs,q⟩:=h;cases ry;rcases hq with hq|hq
 ·obtain⟨bZ,r,pl,hz⟩:=I.list hq;refine SeqAt.notIn_listAt (DG x) pl.isList (fun w hw=>mR rx fx r fs w (by simpa using hw)) ⟨.bl _,H,I,rfl,?_⟩;rw[show bZ.toArray.any (DG x)=bZ.any (DG x) by simp,qC r fs];exact q
 ·obtain⟨bZ,r,pl,hz⟩:=I.tuple hq;refine SeqAt.notIn_tupleAt (DG x) pl (fun w hw=>mR rx fx r fs w (by simpa using hw)) ⟨.bl _,H,I,rfl,?_⟩;rw[show bZ.toArray.any (DG x)=bZ.any (DG x) by simp,qC r fs];exact q
def y1:hZ X (.builtin "len") (fun xs H Q=> ∃p ys,xs=[.ref p]/\(bw X.K H p ys∨cz X.K H p ys)/\Q (.int ys.length) H):=by
 intro pins s σ H xs us Q I r h;obtain⟨p,ys,rfl,hq,q⟩:=h;obtain⟨u,rfl,rx⟩:=vals1 r;cases rx;have hn:=yT;rcases hq with hq|hq
 ·obtain⟨bZ,r',pl,hz⟩:=I.list hq;have hlen:=r'.length;exact Calls.call_len_list pl.isList (by simp only[List.size_toArray] <;> lia) ⟨.int ys.length,H,I.tok _,⟨s.toks + 1,by rw[List.size_toArray,hlen]⟩,q⟩
 ·obtain⟨bZ,r',pl,hz⟩:=I.tuple hq;have hlen:=r'.length;exact len_tuple pl (by simp only[List.size_toArray] <;> lia) ⟨.int ys.length,H,I.tok _,⟨s.toks + 1,by rw[List.size_toArray,hlen]⟩,q⟩
def y2:hZ X (.type "list") (fun xs H Q=> ∃p ys,xs=[.ref p]/\(bw X.K H p ys∨cz X.K H p ys)/\ ∀l,H l=none->Q (.ref l) (upd H l (.lst ys))):=by
 intro pins s σ H xs us Q I r h;obtain⟨p,ys,rfl,hq,q⟩:=h;obtain⟨u,rfl,rx⟩:=vals1 r;cases rx;have fin: ∀(bZ:List Value),Vals ys bZ->ys.length<=sizeLine-> ∀(h':Heap) (c':Nat),(∀b o',s.heap.get? b=some o'->h'.get? b=some o')->
   h'.get? s.heap.objs.size=some {cls:= .type "list",dict:=none,data:= .seq bZ.toArray c',slots:= #[]}->EP X pins σ Q (.ref s.heap.objs.size) {s with heap:=h'}:=fun bZ r' hz h' c' kp e=>
  ⟨.ref s.heap.objs.size,_,I.laid (t':=s.toks) kp (aI _) (show dC X.prog X.w _ h' _ (.lst ys) from⟨hz,bZ,c',r',e⟩),rfl,q _ (I.cy.fresh (aI _))⟩
 rcases hq with hq|hq
 ·obtain⟨bZ,r',pl,hz⟩:=I.list hq;have hlen:=r'.length;obtain⟨o,ho,hc,n,hd⟩:=pl.isList;exact call_list_seq p (.inl rfl) ho hc hd (fun h' c' kp e=>fin bZ r' hz h' c' kp e) (by simp only[List.size_toArray] <;> lia)
 ·obtain⟨bZ,r',pl,hz⟩:=I.tuple hq;have hlen:=r'.length;obtain⟨o,ho,hc,n,hd⟩:=pl;exact call_list_seq p (.inr rfl) ho hc hd (fun h' c' kp e=>fin bZ r' hz h' c' kp e) (by simp only[List.size_toArray] <;> lia)
def wL:hZ X (.type "tuple") (fun xs H Q=> ∃p ys,xs=[.ref p]/\((bw X.K H p ys/\ ∀l,H l=none->Q (.ref l) (upd H l (.tup ys)))∨(cz X.K H p ys/\Q (.ref p) H))):=by
 intro pins s σ H xs us Q I r h;obtain⟨p,ys,rfl,h⟩:=h;obtain⟨u,rfl,rx⟩:=vals1 r;cases rx;rcases h with⟨hq,q⟩|⟨hq,q⟩
 ·obtain⟨bZ,r',pl,hz⟩:=I.list hq;have hlen:=r'.length;refine call_tuple_list pl.isList (fun h' kp=>?_) (by simp only[List.size_toArray] <;> lia);have I1:Inv X pins σ H {s with heap:=h'}:=I.kept (t':=s.toks) kp;have I2:Inv X pins σ (upd H h'.objs.size (.tup ys)) {s with heap:=h'.push {cls:= .type "tuple",data:= .seq bZ.toArray}}:=
   I1.laid (t':=s.toks) (fun b o e=>ay _ e) (aI _) (show dC X.prog X.w _ _ _ (.tup ys) from⟨hz,bZ,r',IsTup.new _ _⟩)
  exact⟨.ref h'.objs.size,_,I2,rfl,q _ (I1.cy.fresh (aI _))⟩
 ·obtain⟨bZ,r',pl,hz⟩:=I.tuple hq;exact call_tuple_same pl ⟨.ref p,H,I,rfl,q⟩
def WL (K:Frag)(T:String)(x:V)(H:Hp):Prop:=match x with
 | .str _=>T="str"
 | .int _=>T="int"
 | .ref p=>(T="list"/\ ∃xs,bw K H p xs)∨(T="tuple"/\ ∃o,K.lookup p=some o/\o.cls= .type "tuple"/\o.dict=none)∨
   (T="dict"/\((∃bg,H p=some (.dK bg))∨ ∃bg,H p=some (.dT bg)))∨(T="set"/\ ∃S n,H p=some (.set S n))
 |_=>False
def Jb {pins:List (Addr×Obj)}{σ:St}{H:Hp}{s:Shared}{T:String}{x:V}{v:Value}(I:Inv X pins σ H s)(r:RelV x v)(ty:WL X.K T x H):
  s.TypeIs v T/\ ∀a,v= .ref a-> ∃ob,s.heap.get? a=some ob/\ob.dict=none:=by
 cases x with
 |str z=>
  obtain⟨t,rfl⟩:=r;cases(show T="str" from ty);exact⟨typeIs_str s z t,fun _ e=>nomatch e⟩
 |int i=>
  obtain⟨t,rfl⟩:=r;cases(show T="int" from ty);exact⟨typeIs_int s i t,fun _ e=>nomatch e⟩
 |ref p=>
  cases r;rcases ty with⟨rfl,xs,hq⟩|⟨rfl,o,hk,hc,hd⟩|⟨rfl,hk⟩|⟨rfl,S,n,hk⟩
  ·obtain⟨bZ,_,pl,_⟩:=I.list hq;refine⟨pl.isList.typeIs,fun a e=>?_⟩;cases e;obtain⟨o,n,e,c,hd,_⟩:=pl;exact⟨o,e,hd⟩
  ·refine⟨⟨o,I.gR p o hk,hc⟩,fun a e=>?_⟩;cases e;exact⟨o,I.gR _ o hk,hd⟩
  ·have z: ∃o,s.heap.get? p=some o/\o.ExactDict:=by
    rcases hk with⟨bg,hk⟩|⟨bg,hk⟩
    ·obtain⟨_,_,_,_,o,_,_,e,ex,_⟩:=I.cy p _ hk;exact⟨o,e,ex⟩
    ·obtain⟨_,_,_,_,o,_,_,e,ex,_⟩:=I.cy p _ hk;exact⟨o,e,ex⟩
   obtain⟨o,e,ex⟩:=z;refine⟨⟨o,e,ex.1⟩,fun a e2=>?_⟩;cases e2;exact⟨o,e,ex.2.1⟩
  ·obtain⟨o,_,_,_,e,ex,_⟩:=I.cy p _ hk;refine⟨⟨o,e,ex.1⟩,fun a e2=>?_⟩;cases e2;exact⟨o,e,ex.2.1⟩
 |_=>exact False.elim ty
def WM (K:Frag)(T:String)(r:V->List V->Hp->VK->Prop)(to:TE):TE:=fun σ H Q=>to σ H fun x H1=>WL K T x H1/\r x [] H1 Q
def ZI (K:Frag)(T:String)(r:V->List V->Hp->VK->Prop)(to:TE)(t:TA):TE:=fun σ H Q=>to σ H fun x H1=>WL K T x H1/\t σ H1 fun xs H2=>r x xs H2 Q
variable {o e:Expr}{es:List Expr}{to:TE}{t:TA}{name:Str}{apos gH:Pos}{T id:String}{r:V->List V->Hp->VK->Prop}
def OA (pa:PlainAttrs T)(slot:Slot T name id)(Vj:typeOf (.builtin id)=pure (.type "method_descriptor"))(hm:ZF X id r)(ho:PE X o to)
  (qD:attributeBase o name X.env (eval o X.env)=eval o X.env:=by rfl) (uM:(apos.endLine == gH.line)=true:=by rfl):PE X (.Call (.Attribute o name apos) [] [] gH) (WM X.K T r to):=by
 intro pins s σ H Q I h;refine wpAny_Call_method0_late qD uM (dZ (ho pins s σ H _ I h) fun v s1 ⟨x,H1,I1,r1,ty,q1⟩=>?_);obtain⟨h1,h2⟩:=Jb I1 r1 ty;exact⟨T,id,pa,slot,Vj,h1,h2,iT rfl (PySem.evalArgs_none (hm pins s1 σ H1 x [] v [] Q I1 r1 .nil q1))⟩
def RZ (pa:PlainAttrs T)(slot:Slot T name id)(Vj:typeOf (.builtin id)=pure (.type "method_descriptor"))(hm:ZF X id r)(ho:PE X o to)(ha:PA X (e :: es) t)
  (qD:attributeBase o name X.env (eval o X.env)=eval o X.env:=by rfl)
  (OB:((backTo gH (starEach (e :: es) X.env)).all (fun x=> !x.1) && (backToKw gH (keywordEach [] X.env)).all (fun x=>x.1.isSome)
   && decide ((e :: es).length + ([]:List Keyword).length + (if([]:List Keyword).isEmpty then 0 else 1) < 30))=true:=by rfl)
  (uM:(apos.endLine == gH.line)=true:=by rfl) (hs:starEach (e :: es) X.env=(false,eval e X.env) :: starEach es X.env:=by rfl) (uN:(backTo gH (starEach es X.env)).any (·.1)=false:=by rfl):
  PE X (.Call (.Attribute o name apos) (e :: es) [] gH) (ZI X.K T r to t):=by
 intro pins s σ H Q I h;refine wpAny_Call_method_late qD OB uM rfl (dZ (ho pins s σ H _ I h) fun v s1 ⟨x,H1,I1,r1,ty,q1⟩=>?_);obtain⟨h1,h2⟩:=Jb I1 r1 ty;refine⟨T,id,pa,slot,Vj,h1,h2,?_⟩;have hA:=ha gH pins s1 σ H1 _ I1 q1;rw[hs] at hA ⊢;refine iT (by show(false || (backTo gH (starEach es X.env)).any (·.1))=false; rw[uN] <;> rfl) (FZ ?_);exact dZ hA fun us s2 ⟨vs,H2,I2,r2,q2⟩=>hm pins s2 σ H2 x vs v us Q I2 r1 r2 q2
end
def ZJ (X:Cx)(id:String)(r:V->List V->Hp->VK->Prop):Prop:=
 ∀(pins:List (Addr×Obj)) (s:Shared) (σ:St) (H:Hp) (x:V) (xs:List V) (v:Value) (us:List Value) (Q:VK),Inv X pins σ H s->RelV x v->Vals xs us->r x xs H Q->
  wpAny (model X.prog X.w) X.A (call (.builtin id) (v :: us)) (EP X pins σ Q) X.xe s
def Vals.one: ∀{x:V} {us:List Value},Vals [x] us-> ∃u,us=[u]/\RelV x u
 |_,_,.cons r .nil=>⟨_,rfl,r⟩
def Vals.zero: ∀{us:List Value},Vals [] us->us=[]
 |_,.nil=>rfl
def Vals.dropLast {xs:List V}{us:List Value}(h:Vals xs us):Vals xs.dropLast us.dropLast:=by
 induction h with
 |nil=>exact .nil
 |cons r t ih=>
  cases t with
  |nil=>exact .nil
  |cons q t'=>exact .cons r ih
def Vals.rep {xs:List V}{us:List Value}(h:Vals xs us): ∀k:Nat,Vals (List.replicate k xs).flatten (List.replicate k us).flatten
 |0=> .nil
 |k + 1=>by
  rw[dg,dg,iU,iU];exact Vals.append h (Vals.rep h k)
def DH {α:Type}(l:List α):l.eraseIdx (l.length - 1)=l.dropLast:=by
 induction l with
 |nil=>rfl
 |cons a r ih=>
  cases r with
  |nil=>rfl
  |cons b r=>
   have e:(a :: b :: r).length - 1=((b :: r).length - 1) + 1:=by
    have h1:(a :: b :: r).length=r.length + 2:=rfl;have h2:(b :: r).length=r.length + 1:=rfl;lia
   rw[e,List.eraseIdx_cons_succ,ih]
   all_goals rfl
def foldl_rep (bZ:List Value): ∀(k:Nat) (acc:List Value),
  List.foldl (fun x1 x2=>x1 ++ x2) acc.toArray (List.replicate k bZ.toArray)=(acc ++ (List.replicate k bZ).flatten).toArray
 |0,acc=>by simp
 |k + 1,acc=>by
  have e:acc.toArray ++ bZ.toArray=(acc ++ bZ).toArray:=by simp
  have e2:(acc ++ bZ) ++ (List.replicate k bZ).flatten=acc ++ (List.replicate (k + 1) bZ).flatten:=by
   rw[dg,iU,dR]
  rw[← e2,← foldl_rep bZ k (acc ++ bZ),← e,dg,eV]
section
variable {X:Cx}{pins:List (Addr×Obj)}{σ:St}{H:Hp}{s:Shared}{l b:Addr}{xs ys zs:List V}
def Inv.R0 {bZ qv:List Value}{n:Nat}{f:Array Value->Array Value}{t':Nat}(I:Inv X pins σ H s)(hH:H l=some (.lst xs))
  (e:s.heap.get? l=some {cls:= .type "list",data:= .seq bZ.toArray n}) (hf:f bZ.toArray=qv.toArray) (hv:Vals ys qv) (hz:ys.length<=sizeLine):
  Inv X pins σ (upd H l (.lst ys)) {s with heap:=s.heap.update l (Obj.mapSeq f),toks:=t'}:=by
 have q:=PySem.IsL.update e f;rw[hf] at q;refine I.write (x:=l) (e:=l) (by rw[hH]; exact trivial) (.inl rfl) (fun b' u hb hu=>(mK s.heap (Obj.mapSeq f) (wy hb)).trans hu) ⟨_,q⟩ ?_;exact⟨hz,qv,_,hv,q⟩
def Inv.OC {bZ:List Value}{t':Nat}(I:Inv X pins σ H s)(hv:Vals ys bZ)(hz:ys.length<=sizeLine):
  Inv X pins σ (upd H s.heap.objs.size (.lst ys)) {s with heap:=s.heap.push {cls:= .type "list",data:= .seq bZ.toArray},toks:=t'}:=
 I.laid (fun _ _ q=>ay _ q) (aI _) ⟨hz,bZ,0,hv,bO _ rfl⟩
def Inv.fresh (I:Inv X pins σ H s):H s.heap.objs.size=none:=I.cy.fresh (aI _)
def Inv.Jc (I:Inv X pins σ H s)(hH:H l=some (.lst xs)):xs.length<=sizeLine/\ ∃(bZ:List Value) (n:Nat),Vals xs bZ/\xs.length=bZ.length/\s.heap.get? l=some {cls:= .type "list",data:= .seq bZ.toArray n}:=by
 obtain⟨z,bZ,n,r,e⟩:=I.cy l _ hH;exact⟨z,bZ,n,r,r.length,e⟩
def Jd {n:Nat}(h:n<=sizeLine):Builtin.List.listTooLong n=false:=by
 unfold Builtin.List.listTooLong;exact ba (by lia)
end
section
variable {X:Cx}
inductive WN (x:V)(vs:List V)(H:Hp)(k:Addr->List V->V->Prop):Prop
 |mk (l:Addr)(xs:List V)(y:V)(h1:x= .ref l)(h2:vs=[y])(h3:H l=some (.lst xs))(h4:xs.length < sizeLine)(q:k l xs y):WN x vs H k
def EY:V->List V->Hp->VK->Prop:=fun x vs H Q=>WN x vs H fun l xs y=>Q .eu (upd H l (.lst (xs ++ [y])))
def yb:ZJ X "list.append" EY:=by
 intro pins s σ H x vs v us Q I rx rv h;obtain⟨l,xs,y,rfl,rfl,hH,hz,q⟩:=h;cases rx;obtain⟨u,rfl,ru⟩:=rv.one;obtain⟨z,bZ,n,r,hl,e⟩:=I.Jc hH;refine call_meets F.slot_list_append ⟨_,e,rfl⟩ F.entry_list_append (F.args_list_append_2 _ _) (PySem.list_append l bZ.toArray n u (by rw[bC]; lia)) ⟨e,?_⟩;refine⟨.eu,_,I.R0 (qv:=bZ ++ [u]) hH e (by simp) (r.append (.cons ru .nil)) ?_,rfl,q⟩;rw[aH,List.length_singleton];lia
def WO:V->List V->Hp->VK->Prop:=fun x vs H Q=> ∃l xs y,x= .ref l/\vs=[]/\H l=some (.lst xs)/\xs[xs.length - 1]? =some y/\Q y (upd H l (.lst xs.dropLast))
def OD:ZJ X "list.pop" WO:=by
 intro pins s σ H x vs v us Q I rx rv h;obtain⟨l,xs,y,rfl,rfl,hH,hy,q⟩:=h;cases rx;have R3:=rv.zero;subst R3;obtain⟨z,bZ,n,r,hl,e⟩:=I.Jc hH;obtain⟨u,hu,ru⟩:=r.get hy;have hy':bZ.toArray[bZ.toArray.size - 1]? =some u:=by
  show bZ.toArray[bZ.length - 1]? =some u;rw[← Array.getElem?_toList,← hl];exact hu
 refine call_meets F.slot_list_pop ⟨_,e,rfl⟩ F.entry_list_pop (F.args_list_pop_1 _) (MeetsSeq.list_pop_last l bZ.toArray n u hy' (by rw[bC]; lia)) ⟨e,?_⟩;refine⟨y,_,I.R0 (qv:=bZ.dropLast) hH e ?_ r.dropLast ?_,ru,q⟩
 ·show bZ.toArray.eraseIdxIfInBounds (bZ.toArray.size - 1)=bZ.dropLast.toArray;rw[bC,List.eraseIdxIfInBounds_toArray,DH]
 ·rw[List.length_dropLast];lia
inductive ZK (x y:V)(H:Hp)(Q:VK):Prop
 |mk (l b:Addr)(xs zs:List V)(h1:x= .ref l)(h2:y= .ref b)(h3:H l=some (.lst xs))(h4:H b=some (.lst zs))(z:xs.length + zs.length<=sizeLine)(q: ∀p,H p=none->Q (.ref p) (upd H p (.lst (xs ++ zs)))):ZK x y H Q
def R4:R2:=ZK
def lY:oA X (binaryOp .Add) R4:=by
 intro pins s σ H x y v u Q I rx ry h;obtain⟨l,b,xs,zs,rfl,rfl,hH,hB,hz,q⟩:=h;cases rx;cases ry;obtain⟨z,bZ,n,r,hl,e⟩:=I.Jc hH;obtain⟨z2,Gv,n2,r2,WQ,e2⟩:=I.Jc hB;refine PySem.P.add_list e e2 ?_ (by rw[bC,bC]; lia);have ea:bZ.toArray ++ Gv.toArray=(bZ ++ Gv).toArray:=by simp
 rw[ea];exact⟨.ref _,_,I.OC (t':=s.toks) (r.append r2) (by rw[aH]; lia),rfl,q _ I.fresh⟩
def R5:R2:=fun x y H Q=> ∃l k xs,x= .ref l/\y= .int k/\H l=some (.lst xs)/\ -(2 ^ 63)<=k/\k < 2 ^ 63/\xs.length * k.toNat<=sizeLine/\
 ∀p,H p=none->Q (.ref p) (upd H p (.lst (List.replicate k.toNat xs).flatten))
def len_rep {α:Type}(xs:List α)(k:Nat):(List.replicate k xs).flatten.length=k * xs.length:=by
 induction k with
 |zero=>simp
 |succ k ih=>rw[dg,iU,aH,ih,wB,Nat.add_comm]
def DI:oA X (binaryOp .Mult) R5:=by
 intro pins s σ H x y v u Q I rx ry h;obtain⟨l,k,xs,rfl,rfl,hH,h1,h2,hz,q⟩:=h;cases rx;obtain⟨t,rfl⟩:=ry;obtain⟨z,bZ,n,r,hl,e⟩:=I.Jc hH;have hlen:bZ.toArray.size * k.toNat<=sizeLine:=by rw[bC,← hl]; exact hz
 have WR: ¬ bZ.toArray.size * k.toNat > (2 ^ 63 - 1) / 8:=by
  have:(sizeLine:Nat)<=(2 ^ 63 - 1) / 8:=by decide
  lia
 have WS: ¬ (!Builtin.List.listFitsIndex k)=true:=by
  rw[fitsIndex_both h1 h2];exact aR
 have R6: ¬ Builtin.List.listTooLong (bZ.toArray.size * k.toNat)=true:=by
  rw[Jd hlen];exact aR
 have WT:List.foldl (fun x1 x2=>x1 ++ x2) #[] (List.replicate (if bZ.toArray.isEmpty=true then 0 else k.toNat) bZ.toArray)=(List.replicate k.toNat bZ).flatten.toArray:=by
  have f0: ∀m:Nat,List.foldl (fun x1 x2=>x1 ++ x2) #[] (List.replicate m bZ.toArray)=(List.replicate m bZ).flatten.toArray:=fun m=>by
   have:=foldl_rep bZ m [];rw[List.nil_append] at this;exact this
  rw[f0];cases bZ with
  |nil=>simp
  |cons a r'=>rw[if_neg (by simp)]
 refine wpAny_binaryOp_repeat_ref (T:="list") (U:="int") (by decide) ⟨_,e,rfl⟩ (fun s'=>typeIs_int s' k t) noFill_list_mul F.fills_int_mul F.slot_int_rmul repeat_list F.slot_int_index.lookup
  (call_meets F.slot_int_rmul (typeIs_int s k t) F.entry_int_rmul (F.args_int_rmul_2 _ _) (int___rmul___int_list k t l bZ.toArray n)
   ⟨e,rfl,⟨_,e,rfl⟩,call_meets F.slot_list_mul ⟨_,e,rfl⟩ F.entry_list_mul (F.args_list_mul_2 _ _) (AutoListH.list___mul___list_int_3 l bZ.toArray n k t WS WR R6) ⟨e,?_⟩⟩)
 rw[WT];exact⟨.ref _,_,I.OC (t':=s.toks) (r.rep k.toNat) (by rw[len_rep,Nat.mul_comm]; exact hz),rfl,q _ I.fresh⟩
end
section
variable {prog:Program}{w:World}{A:Around}{E:Value->Shared->Prop}{s:Shared}
end
section
variable {X:Cx}
end
section
variable {κ:Type}[DecidableEq κ]
def gj (bg:List (κ×V))(k:κ):Option V:=(bg.find? fun kv=>decide (kv.1=k)).map (·.2)
def putK (bg:List (κ×V))(k:κ)(v:V):List (κ×V):=
 if(bg.any fun kv=>decide (kv.1=k))=true then bg.map (fun kv=>if kv.1=k then(kv.1,v) else kv) else bg ++ [(k,v)]
def lp (bg:List (κ×V))(k:κ):List (κ×V):=bg.filter fun kv=>decide (kv.1≠k)
def fE {p:κ×V}{r:List (κ×V)}{k:κ}(e:p.1=k):gj (p :: r) k=some p.2:=by simp[gj,List.find?_cons,e]
def fq {p:κ×V}{r:List (κ×V)}{k:κ}(e: ¬ p.1=k):gj (p :: r) k=gj r k:=by simp[gj,List.find?_cons,e]
def mS (k:κ): ∀bg:List (κ×V),(bg.any fun kv=>decide (kv.1=k))=(gj bg k).isSome
 |[]=>rfl
 |p :: r=>by
  rw[tO];by_cases e:p.1=k
  ·simp only[fE e,decide_eq_true e,Bool.true_or,Option.isSome_some]
  ·rw[fq e,ba e,Bool.false_or]; exact mS k r
def Bo (k j:κ)(y:V): ∀bg:List (κ×V),gj (bg.map fun kv=>if kv.1=k then(kv.1,y) else kv) j=(gj bg j).map fun x=>if j=k then y else x
 |[]=>rfl
 |p :: r=>by
  have ih:=Bo k j y r;rw[bM];by_cases h:p.1=k
  ·rw[aZ h];by_cases e:p.1=j
   ·rw[fE (p:=(p.1,y)) e,fE e,ou,aZ (e.symm.trans h)]
   ·rw[fq (p:=(p.1,y)) e,fq e,ih]
  ·rw[aO h];by_cases e:p.1=j
   ·rw[fE (p:=p) e,fE e,ou,aO (fun z=>h (e.trans z))]
   ·rw[fq (p:=p) e,fq e,ih]
def yc (k j:κ)(y:V): ∀bg:List (κ×V),gj bg k=none->gj (bg ++ [(k,y)]) j=if j=k then some y else gj bg j
 |[],_=>by
  by_cases e:k=j
  ·rw[aZ e.symm]; exact fE (p:=(k,y)) e
  ·rw[aO (fun z=>e z.symm)]; exact fq (p:=(k,y)) e
 |p :: r,hn=>by
  rw[List.cons_append];have hk: ¬ p.1=k:=fun z=>by rw[fE z] at hn; cases hn
  rw[fq hk] at hn;have ih:=yc k j y r hn;by_cases e:p.1=j
  ·rw[fE e,fE e,aO (fun z=>hk (e.trans z))]
  ·rw[fq e,fq e,ih]
def Je (bg:List (κ×V))(k j:κ)(y:V):gj (putK bg k y) j=if j=k then some y else gj bg j:=by
 unfold putK;by_cases a:(bg.any fun kv=>decide (kv.1=k))=true
 ·rw[aZ a,Bo];rw[mS] at a;by_cases e:j=k
  ·obtain⟨x,hx⟩:=QM.mp a;rw[aZ e,e,hx,ou,aZ rfl]
  ·rw[aO e];cases gj bg j with
   |none=>rfl
   |some x=>rw[ou,aO e]
 ·rw[aO a];refine yc k j y bg ?_;rw[mS] at a;cases q:gj bg k with
  |none=>rfl
  |some x=>rw[q] at a; exact(a rfl).elim
def kC (bg:List (κ×V))(k:κ)(v:V):(putK bg k v).length<=bg.length + 1:=by
 unfold putK;split
 ·rw[ae]; lia
 ·rw[aH,bH,wC]; lia
def Jf {bg:List (κ×V)}{k:κ}(v:V)(h:gj bg k=none):putK bg k v=bg ++ [(k,v)]:=by
 unfold putK;rw[mS,h];exact aO (by decide)
def lj.lq {o:Option V}{u:Option Value}(r:lj o u):o.isSome=u.isSome:=by
 cases o with
 |none=>cases u with
  |none=>rfl
  |some _=>exact(show False from r).elim
 |some _=>cases u with
  |none=>exact(show False from r).elim
  |some _=>rfl
def KV.val {bg:List (κ×V)}{vs:List (κ×Value)}(r:KV bg vs)(k:κ):lj (gj bg k) (valueAt vs k):=by
 unfold KV at r
 induction r with
 |nil=>exact True.intro
 | @cons p q ps qs h t ih=>
  obtain⟨h1,h2⟩:=h;by_cases e:p.1=k
  ·have e':q.1=k:=h1.symm.trans e;have b:valueAt (q :: qs) k=some q.2:=by simp[valueAt,List.find?_cons,e']
   rw[fE e,b]; exact h2
  ·have e': ¬ q.1=k:=fun z=>e (h1.trans z);have b:valueAt (q :: qs) k=valueAt qs k:=by simp[valueAt,List.find?_cons,e']
   rw[fq e,b]; exact ih
def KV.any {bg:List (κ×V)}{vs:List (κ×Value)}(r:KV bg vs)(k:κ):(bg.any fun kv=>decide (kv.1=k))=vs.any fun kv=>decide (kv.1=k):=by
 unfold KV at r
 induction r with
 |nil=>rfl
 |cons h t ih=>rw[tO,tO,ih,h.1]
def KV.OE {bg:List (κ×V)}{vs:List (κ×Value)}(r:KV bg vs)(k:κ){y:V}{u:Value}(ry:RelV y u):
  KV (bg.map fun kv=>if kv.1=k then(kv.1,y) else kv) (vs.map fun kv=>if kv.1=k then(kv.1,u) else kv):=by
 unfold KV at r ⊢
 induction r with
 |nil=>exact .nil
 | @cons p q ps qs h t ih=>
  rw[bM,bM];refine .cons ?_ ih;obtain⟨h1,h2⟩:=h;by_cases e:p.1=k
  ·rw[aZ e,aZ (h1.symm.trans e)]; exact⟨h1,ry⟩
  ·rw[aO e,aO (fun z=>e (h1.trans z))]; exact⟨h1,h2⟩
def KV.put {bg:List (κ×V)}{vs:List (κ×Value)}(r:KV bg vs)(k:κ){y:V}{u:Value}(ry:RelV y u):KV (putK bg k y) (stored vs k u):=by
 unfold putK stored;rw[r.any k];by_cases e:(vs.any fun kv=>decide (kv.1=k))=true
 ·rw[aZ e,aZ e]; exact r.OE k ry
 ·rw[aO e,aO e]; exact cw r ⟨rfl,ry⟩
def KV.drop {bg:List (κ×V)}{vs:List (κ×Value)}(r:KV bg vs)(k:κ):KV (lp bg k) (without vs k):=by
 unfold KV at r ⊢;unfold lp without
 induction r with
 |nil=>exact .nil
 | @cons p q ps qs h t ih=>
  obtain⟨h1,h2⟩:=h;rw[List.filter_cons,List.filter_cons];by_cases e:p.1=k
  ·have a: ¬ decide (p.1≠k)=true:=by simp[e]
   have b: ¬ decide (q.1≠k)=true:=by simp[h1.symm.trans e]
   rw[aO a,aO b]; exact ih
  ·have e': ¬ q.1=k:=fun z=>e (h1.trans z);have a:decide (p.1≠k)=true:=by simp[e]
   have b:decide (q.1≠k)=true:=by simp[e']
   rw[aZ a,aZ b]; exact .cons ⟨h1,h2⟩ ih
def KV.length {bg:List (κ×V)}{vs:List (κ×Value)}(r:KV bg vs):bg.length=vs.length:=aL r
def Jg (bg:List (κ×V))(k:κ):(lp bg k).length<=bg.length:=a7 _ _
end
def uO {P:Program}{w:World}{k:Key}{u:Value}(r:RelV (kV k) u):(dX P w).is k u=true:=by
 cases k with
 |inl i=>obtain⟨t,e⟩:=(show ∃t,u=Value.int i t from r); subst e; exact A6 P w i t
 |inr x=>obtain⟨t,e⟩:=(show ∃t,u=Value.str x t from r); subst e; exact A7 P w x t
def yd {P:Program}{w:World}: ∀{ks:List Key} {us:List Value},Vals (ks.map kV) us->ItemsAre (dX P w) ks us
 |[],_,r=>by rw[wA] at r; cases r; exact .nil
 |k :: ks,_,r=>by
  rw[bM] at r;cases r with
  |cons h t=>exact .cons (uO h) (yd t)
abbrev KT (H:Hp):List (List Key×V)->List (List Key×Addr×Value)->Prop:=Paired fun p q=>p.1=q.1/\H q.2.1=some (.tup (p.1.map kV))/\RelV p.2 q.2.2
def KT.val {H:Hp}{bg:List (List Key×V)}{xs:List (List Key×Addr×Value)}(r:KT H bg xs)(k:List Key):lj (gj bg k) ((atKey xs k).map (·.2)):=by
 induction r with
 |nil=>exact True.intro
 | @cons p q ps qs h t ih=>
  obtain⟨h1,_,h2⟩:=h;by_cases e:p.1=k
  ·have e':q.1=k:=h1.symm.trans e;have b:atKey (q :: qs) k=some q.2:=by simp[atKey,List.find?_cons,e']
   rw[fE e,b]; exact h2
  ·have e': ¬ q.1=k:=fun z=>e (h1.trans z);have b:atKey (q :: qs) k=atKey qs k:=by simp[atKey,List.find?_cons,e']
   rw[fq e,b]; exact ih
def KT.OE {H:Hp}{bg:List (List Key×V)}{xs:List (List Key×Addr×Value)}(r:KT H bg xs)(k:List Key){y:V}{u:Value}(ry:RelV y u):
  KT H (bg.map fun kv=>if kv.1=k then(kv.1,y) else kv) (xs.map (putAt k u)):=by
 induction r with
 |nil=>exact .nil
 | @cons p q ps qs h t ih=>
  rw[bM,bM];refine .cons ?_ ih;obtain⟨h1,h2,h3⟩:=h;unfold putAt;by_cases e:p.1=k
  ·rw[aZ e,aZ (h1.symm.trans e)]; exact⟨h1,h2,ry⟩
  ·rw[aO e,aO (fun z=>e (h1.trans z))]; exact⟨h1,h2,h3⟩
def KT.put {H:Hp}{bg:List (List Key×V)}{xs:List (List Key×Addr×Value)}(r:KT H bg xs)(k:List Key){b:Addr}{y:V}{u:Value}(hb:H b=some (.tup (k.map kV)))(ry:RelV y u):
  KT H (putK bg k y) (storedH xs k b u):=by
 have e:(bg.any fun kv=>decide (kv.1=k))=(atKey xs k).isSome:=by
  rw[mS,(r.val k).lq,F6]
 unfold putK storedH;rw[e];by_cases q:(atKey xs k).isSome=true
 ·rw[aZ q,aZ q]; exact r.OE k ry
 ·rw[aO q,aO q]; exact cw r ⟨rfl,hb,ry⟩
def KT.keeps {H H':Hp}{bg:List (List Key×V)}{xs:List (List Key×Addr×Value)}(r:KT H bg xs)(ht: ∀b ys,H b=some (.tup ys)->H' b=some (.tup ys)):KT H' bg xs:=
 Paired.iA r fun _ _ z=>⟨z.1,ht _ _ z.2.1,z.2.2⟩
section
variable {P:Program}{w:World}{H:Hp}{h:Heap}{a:Addr}
def Nj {u:HO}(ok:oz P w H h)(e:Rd H a u):dC P w H h a u:=e.ok ok
def uP {bg:List (Key×V)}(ok:oz P w H h)(e:Rd H a (.dK bg)):bg.length<=sizeLine/\(a == sysModules)=false/\ ∃vs,KV bg vs/\h.DictOf (dX P w) a vs:=
 show dC P w H h a (.dK bg) from Nj ok e
def EZ {bg:List (Key×V)}(ok:oz P w H h)(e:H a=some (.dK bg)):bg.length<=sizeLine/\(a == sysModules)=false/\ ∃vs,KV bg vs/\h.DictOf (dX P w) a vs:=uP ok (.inl e)
def uQ {ks:List Key}(ok:oz P w H h)(e:H a=some (.tup (ks.map kV))):(tupleKind (dX P w)).is h ks a:=by
 obtain⟨_,bZ,r,o,h1,h2,n,h3⟩:=(show dC P w H h a (.tup (ks.map kV)) from ok a _ e);exact⟨o,bZ.toArray,n,h1,h2,h3,by simpa using yd r⟩
def ye {bg:List (List Key×V)}(ok:oz P w H h)(e:Rd H a (.dT bg)):bg.length<=sizeLine/\(a == sysModules)=false/\
  ∃xs,KT H bg xs/\h.DictOfH (tupleKind (dX P w)) a xs:=by
 obtain⟨z,y,xs,r,o,es,ep,h1,h2,h3,h4,h5⟩:=(show dC P w H h a (.dT bg) from Nj ok e);refine⟨z,y,xs,r,o,es,ep,h1,h2,h3,h4,fun x hx=>?_,h5⟩;have all: ∀{l:List (List Key×V)} {m:List (List Key×Addr×Value)},KT H l m-> ∀x∈m,(tupleKind (dX P w)).is h x.1 x.2.1:=by
  intro l m q
  induction q with
  |nil=>intro x hx; exact nomatch hx
  | @cons p q ps qs hq t ih=>
   intro x hx;rcases aw.mp hx with e|hx
   ·subst e;exact uQ ok (by rw[← hq.1]; exact hq.2.1)
   ·exact ih x hx
 exact all r x hx
def R7 {bg:List (List Key×V)}(ok:oz P w H h)(e:H a=some (.dT bg)):bg.length<=sizeLine/\(a == sysModules)=false/\
  ∃xs,KT H bg xs/\h.DictOfH (tupleKind (dX P w)) a xs:=ye ok (.inl e)
end
def mE (H:Hp)(a:Addr)(y:V)(r:Option V):Prop:=
 (∃bg k,Rd H a (.dK bg)/\y=kV k/\r=gj bg k)∨ ∃bg k b,Rd H a (.dT bg)/\y= .ref b/\H b=some (.tup (k.map kV))/\r=gj bg k
def Gw (H:Hp)(a:Addr)(y v:V)(H':Hp):Prop:=
 (∃bg k,H a=some (.dK bg)/\y=kV k/\bg.length < sizeLine/\H'=upd H a (.dK (putK bg k v)))∨
 ∃bg k b,H a=some (.dT bg)/\y= .ref b/\H b=some (.tup (k.map kV))/\bg.length < sizeLine/\H'=upd H a (.dT (putK bg k v))
def mE.k {H:Hp}{a:Addr}{bg:List (Key×V)}{k:Key}(e:H a=some (.dK bg)):mE H a (kV k) (gj bg k):= .inl ⟨bg,k,.inl e,rfl,rfl⟩
def Gw.k {H:Hp}{a:Addr}{bg:List (Key×V)}{k:Key}{v:V}(e:H a=some (.dK bg))(hl:bg.length < sizeLine):Gw H a (kV k) v (upd H a (.dK (putK bg k v))):= .inl ⟨bg,k,e,rfl,hl,rfl⟩
section
variable {X:Cx}{pins:List (Addr×Obj)}{σ:St}{H:Hp}{s:Shared}{a:Addr}{y v:V}{u r:Value}{o:Option V}{A:Around}{E:Value->Shared->Prop}
def Inv.big (I:Inv X pins σ H s):sysModules < s.heap.objs.size:=by
 have h:mainGlobals < s.heap.objs.size:=(I.mod.glob.keeps I.bk).lt;exact Nat.lt_trans (by decide) h
def Gx {Q:Value->Shared->Prop}(hu:A.units + 1 < cLine)(I:Inv X pins σ H s)(g:mE H a y (some v))(ry:RelV y u)(h: ∀w' s',Inv X pins σ H s'->RelV v w'->Q w' s'):
  wpAny (model X.prog X.w) A (getItem (.ref a) u) Q E s:=by
 rcases g with⟨bg,k,e,ey,l⟩|⟨bg,k,b,e,ey,eb,l⟩
 ·subst ey;obtain⟨z,hd,vs,rel,dd⟩:=uP I.cy e;obtain⟨w',hw,Gu⟩:=lj.some_of (v:=v) (o:=valueAt vs k) (by rw[l]; exact rel.val k);exact wpAny_getItem_of (uO ry) dd.mapOf hw (h w' _ (I.tok _) Gu)
 ·subst ey;cases(show u=Value.ref b from ry);obtain⟨z,hd,xs,rel,dd⟩:=ye I.cy e;obtain⟨w',hw,Gu⟩:=lj.some_of (v:=v) (o:=(atKey xs k).map (·.2)) (by rw[l]; exact rel.val k);obtain⟨p,hp,tR⟩:=br.mp hw;refine wpAny_getItem_heap (ue hu) (uQ I.cy eb) dd hp ?_;rw[tR];exact h w' _ (I.tok _) Gu
def WU {Q:Value->Shared->Prop}(hu:A.units + 1 < cLine)(I:Inv X pins σ H s)(g:mE H a y o)(ry:RelV y u)(h: ∀s',Inv X pins σ H s'->Q (.bool o.isSome) s'):
  wpAny (model X.prog X.w) A (compareOp .In u (.ref a)) Q E s:=by
 rcases g with⟨bg,k,e,ey,l⟩|⟨bg,k,b,e,ey,eb,l⟩
 ·subst ey;obtain⟨z,hd,vs,rel,dd⟩:=uP I.cy e;refine wpAny_in_of (uO ry) hd dd.mapOf ?_;rw[← (rel.val k).lq,← l];exact h _ (I.tok _)
 ·subst ey;cases(show u=Value.ref b from ry);obtain⟨z,hd,xs,rel,dd⟩:=ye I.cy e;refine wpAny_in_heap (ue hu) (uQ I.cy eb) hd dd ?_;have q:=(rel.val k).lq;rw[F6] at q;rw[← q,← l];exact h _ (I.tok _)
def LH {Q:Value->Shared->Prop}(hu:A.units + 1 < cLine)(I:Inv X pins σ H s)(g:mE H a y o)(ry:RelV y u)(h: ∀s',Inv X pins σ H s'->Q (.bool (!o.isSome)) s'):
  wpAny (model X.prog X.w) A (compareOp .NotIn u (.ref a)) Q E s:=by
 rcases g with⟨bg,k,e,ey,l⟩|⟨bg,k,b,e,ey,eb,l⟩
 ·subst ey;obtain⟨z,hd,vs,rel,dd⟩:=uP I.cy e;refine wpAny_notIn_of (uO ry) hd dd.mapOf ?_;rw[← (rel.val k).lq,← l];exact h _ (I.tok _)
 ·subst ey;cases(show u=Value.ref b from ry);obtain⟨z,hd,xs,rel,dd⟩:=ye I.cy e;refine wpAny_notIn_heap (ue hu) (uQ I.cy eb) hd dd ?_;have q:=(rel.val k).lq;rw[F6] at q;rw[← q,← l];exact h _ (I.tok _)
def ug {h':Heap}{t':Nat}{ob:HO}(I:Inv X pins σ H s)(mu:Rz (H a))(hs:Heap.SameBut a s.heap h')(he: ∃q,h'.get? a=some q)(new:dC X.prog X.w (upd H a ob) h' a ob):
  Inv X pins σ (upd H a ob) {s with heap:=h',toks:=t'}:=
 I.write (x:=a) (e:=a) mu (.inl rfl) (fun b q hb z=>(hs.2 b hb).trans z) he new
def y3 {P:Program}{w:World}{H':Hp}{h':Heap}{bg:List (Key×V)}{vs:List (Key×Value)}(z:bg.length<=sizeLine)(hd:(a == sysModules)=false)(rel:KV bg vs)(dd:h'.DictOf (dX P w) a vs):
  dC P w H' h' a (.dK bg):=⟨z,hd,vs,rel,dd⟩
def Gy {H':Hp}{Q:Unit->Shared->Prop}(hu:A.units + 1 < cLine)(I:Inv X pins σ H s)(g:Gw H a y v H')(ry:RelV y u)(rv:RelV v r)(h: ∀s',Inv X pins σ H' s'->Q () s'):
  wpAny (model X.prog X.w) A (setItem (.ref a) u r) Q E s:=by
 rcases g with⟨bg,k,e,ey,l,eH⟩|⟨bg,k,b,e,ey,eb,l,eH⟩
 ·subst ey eH;obtain⟨z,hd,vs,rel,dd⟩:=EZ I.cy e;have hz:vs.length<=sizeLine:=by rw[← rel.length]; exact z
  have hl:(putK bg k v).length<=sizeLine:=by have:=kC bg k v; lia
  refine wpAny_setItem_pairs (hsz:=hz) (uO ry) dd fun h' E1 hs=>h _ ?_;have he: ∃q,h'.get? a=some q:=let⟨q,_,_,hq,_⟩:=E1; ⟨q,hq⟩
  exact ug I (by rw[e]; exact True.intro) hs he (y3 hl hd (rel.put k rv) E1)
 ·subst ey eH;cases(show u=Value.ref b from ry);obtain⟨z,hd,xs,rel,dd⟩:=R7 I.cy e;have hz:xs.length<=sizeLine:=by rw[← aL rel]; exact z
  have hl:(putK bg k v).length<=sizeLine:=by have:=kC bg k v; lia
  refine wpAny_setItem_heap (hsz:=hz) (ue hu) (uQ I.cy eb) dd fun h' E1 hs=>h _ ?_;obtain⟨q,es,ep,hq,h2,h3,h4,_,h5⟩:=E1;refine ug I (by rw[e]; exact True.intro) hs ⟨q,hq⟩ ⟨hl,hd,_,(rel.put k eb rv).keeps fun c ys ec=>?_,q,es,ep,hq,h2,h3,h4,h5⟩;rw[aA (mm ec e (fun z=>nomatch z))];exact ec
end
section
variable {X:Cx}{pins:List (Addr×Obj)}{σ:St}{H:Hp}{s:Shared}{a:Addr}{bg:List (Key×V)}{k:Key}{u:Value}{A:Around}{E:Value->Shared->Prop}
def R8 {v:V}{more:List Value}{Q:Value->Shared->Prop}(I:Inv X pins σ H s)(e:H a=some (.dK bg))(ry:RelV (kV k) u)(l:gj bg k=some v)(hm:more=[]∨ ∃x,more=[x])
  (h: ∀w' s',Inv X pins σ (upd H a (.dK (lp bg k))) s'->RelV v w'->Q w' s'):wpAny (model X.prog X.w) A (call (.builtin "dict.pop") (.ref a :: u :: more)) Q E s:=by
 obtain⟨z,hd,vs,rel,dd⟩:=EZ I.cy e;obtain⟨w',hw,Gu⟩:=lj.some_of (v:=v) (o:=valueAt vs k) (by rw[← l]; exact rel.val k);have hp:(keyPart u).isSome=true:=by
  cases k with
  |inl i=>obtain⟨t,q⟩:=(show ∃t,u=Value.int i t from ry); subst q; rfl
  |inr x=>obtain⟨t,q⟩:=(show ∃t,u=Value.str x t from ry); subst q; rfl
 have ha:argsOk "dict.pop" ⟨.ref a :: u :: more,[]⟩:=by
  rcases hm with q|⟨x,q⟩
  ·subst q; exact PySem.F.args_dict_pop_2 _ _
  ·subst q; exact PySem.F.args_dict_pop_3 _ _ _
 refine call_meetsIn PySem.F.slot_dict_pop dd.typeIs PySem.F.entry_dict_pop ha (meets_dict_pop_there (dX X.prog X.w) a (uO ry) more hm hp)
  ⟨vs,w',dd,by rw[← rel.length]; exact z,hw,fun h' E1 hs=>h w' _ ?_ Gu⟩
 have he: ∃q,h'.get? a=some q:=let⟨q,_,_,hq,_⟩:=E1; ⟨q,hq⟩
 exact ug I (by rw[e]; exact True.intro) hs he (y3 (a0 (Jg bg k) z) hd (rel.drop k) E1)
end
def R9 (i:Expr):Prop:= ∀ov iv,subscripted i false ov iv=operate [ov,iv] (getItem ov iv)
def LI {prog:Program}{w:World}{A:Around}{E:Value->Shared->Prop}{s:Shared}{env:Env}{value slice:Expr}{pos:Pos}{T id:String}{Q:Value->Shared->Prop}
  (hl:typeLookup (.type T) "__getitem__"=pure (some (.builtin id))) (hs:R9 slice)
  (h:wpAny (model prog w) A (eval value env) (fun o s₁=>wpAny (model prog w) A (eval slice env) (fun i s₂=>s₂.TypeIs o T/\wpAny (model prog w) A (getItem o i) Q E s₂) E s₁) E s):
  wpAny (model prog w) A (eval (.Subscript value slice pos) env) Q E s:=by
 refine Subscript_ (ck h (fun o s₁ h₁=>ck h₁ (fun i s₂ h₂=>?_) fun _ _ x=>x) fun _ _ x=>x);obtain⟨hT,h₂⟩:=h₂;unfold subscriptTail;refine az ?_;rw[getitemInPython_of_ne hT.not_modules];refine az (wpAny_specialOf hT hl ?_);have fin:wpAny (model prog w) A (subscripted slice false o i) (fun r s₃=>wpAny (model prog w) A (letTemporaryGo value o r >>=fun _=>pure r) Q E s₃) E s₂:=by
  rw[hs o i];exact wpAny_operating (ck h₂ (fun r s₃ h₃=>az (wpAny_letTemporaryGo (bF h₃))) fun _ _ x=>x)
 first
  |exact bF (az fin)
  |exact az (bF (az fin))
  |exact az fin
def Bp {X:Cx}{pins:List (Addr×Obj)}{σ:St}{H:Hp}{s:Shared}{a:Addr}{y:V}{o:Option V}(I:Inv X pins σ H s)(g:mE H a y o):s.TypeIs (.ref a) "dict":=by
 rcases g with⟨bg,k,e,_,_⟩|⟨bg,k,b,e,_,_,_⟩
 ·obtain⟨_,_,vs,_,dd⟩:=uP I.cy e;exact dd.typeIs
 ·obtain⟨_,_,xs,_,dd⟩:=ye I.cy e;exact dd.typeIs
inductive ZL (x y:V)(H:Hp)(k:V->Prop):Prop
 |mk (a:Addr)(v:V)(h1:x= .ref a)(h2:mE H a y (some v))(q:k v):ZL x y H k
def Sa (td ty:TE):TE:=fun σ H Q=>td σ H fun x H1=>ty σ H1 fun y H2=>ZL x y H2 fun v=>Q v H2
def WV (ty td:TE):TE:=fun σ H Q=>ty σ H fun y H1=>td σ H1 fun x H2=> ∃a o,x= .ref a/\mE H2 a y o/\Q (.bl o.isSome) H2
def LJ (ty td:TE):TE:=fun σ H Q=>ty σ H fun y H1=>td σ H1 fun x H2=> ∃a o,x= .ref a/\mE H2 a y o/\Q (.bl (!o.isSome)) H2
def Sb (td ty tv:TE):TS:=fun D σ H=>tv σ H fun v H1=>td σ H1 fun x H2=>ty σ H2 fun y H3=> ∃a H4,x= .ref a/\Gw H3 a y v H4/\D.nx σ H4
section
variable {X:Cx}{o i e value:Expr}{pos pos' Ot:Pos}{td ty tv:TE}
def cA (hu:X.A.units + 1 < cLine)(ho:PE X o td)(hi:PE X i ty)(hs:R9 i):PE X (.Subscript o i pos) (Sa td ty):=by
 intro pins s σ H Q I h;refine LI PySem.F.slot_dict_getitem.lookup hs (dZ (ho pins s σ H _ I h) fun u s1 ⟨x,H1,I1,rx,q1⟩=>dZ (hi pins s1 σ H1 _ I1 q1) fun iv s2 ⟨y,H2,I2,ry,a,v,ex,g,q2⟩=>?_);subst ex;obtain rfl:u=Value.ref a:=rx;exact⟨Bp I2 g,Gx hu I2 g ry fun w' s3 I3 Gu=>⟨v,H2,I3,Gu,q2⟩⟩
def OF (hu:X.A.units + 1 < cLine)(hi:PE X i ty)(ho:PE X o td):PC X .In i o (WV ty td):=by
 intro pins s σ H Q I h;refine dZ (hi pins s σ H _ I h) fun iv s1 ⟨y,H1,I1,ry,q1⟩=>dZ (ho pins s1 σ H1 _ I1 q1) fun u s2 ⟨x,H2,I2,rx,a,ov,ex,g,q2⟩=>?_;subst ex;obtain rfl:u=Value.ref a:=rx;exact WU hu I2 g ry fun s3 I3=>⟨.bl ov.isSome,H2,I3,rfl,q2⟩
def Gz (hu:X.A.units + 1 < cLine)(hi:PE X i ty)(ho:PE X o td):PC X .NotIn i o (LJ ty td):=by
 intro pins s σ H Q I h;refine dZ (hi pins s σ H _ I h) fun iv s1 ⟨y,H1,I1,ry,q1⟩=>dZ (ho pins s1 σ H1 _ I1 q1) fun u s2 ⟨x,H2,I2,rx,a,ov,ex,g,q2⟩=>?_;subst ex;obtain rfl:u=Value.ref a:=rx;exact LH hu I2 g ry fun s3 I3=>⟨.bl (!ov.isSome),H2,I3,rfl,q2⟩
def E2 (hu:X.A.units + 1 < cLine)(ho:PE X o td)(hi:PE X i ty)(hv:PE X value tv)(hs:swapsWith value (some (.Subscript o i pos')) pos.line X.env=pure false):
  PS X (.Assign [.Subscript o i pos'] value pos) (Sb td ty tv):=by
 intro pins s σ H D I h;refine wpAny_Assign_Subscript (dZ (hv pins s σ H _ I h) fun r s1 ⟨v,H1,I1,rv,q1⟩=>dZ (ho pins s1 σ H1 _ I1 q1) fun u s2 ⟨x,H2,I2,rx,q2⟩=>dZ (hi pins s2 σ H2 _ I2 q2) fun iv s3 ⟨y,H3,I3,ry,a,H4,ex,g,q3⟩=>?_) hs;subst ex;obtain rfl:u=Value.ref a:=rx;exact Gy hu I3 g ry rv fun s4 I4=>⟨σ,H4,I4,q3⟩
end
def Bq {P:Program}{w:World}{H:Hp}(h:Heap)(hb:sysModules < h.objs.size):dC P w H (h.push {cls:= .type "dict",data:= .dict #[]}) h.objs.size (.dK []):=
 ⟨bp _,gU.mpr (wy (a8 hb)),[],.nil,Heap.DictOf.new h⟩
def OG:TE:=fun _ H Q=> ∀p,H p=none->Q (.ref p) (upd H p (.dK []))
section
variable {X:Cx}{pos:Pos}
def Br:PE X (.Dict [] [] pos) OG:=fun pins s σ H Q I h=>
 wpAny_Dict_empty ⟨.ref s.heap.objs.size,_,I.laid (a:=s.heap.objs.size) (o:= .dK []) (t':=s.toks) (fun _ _ q=>ay _ q) (aI _) (Bq s.heap I.big),rfl,h _ (I.cy.fresh (aI _))⟩
end
def DJ:List (TE×TE)->St->Hp->(List (V×V)->Hp->Prop)->Prop
 |[],_,H,Q=>Q [] H
 |(tk,tv) :: r,σ,H,Q=>tk σ H fun x H1=>tv σ H1 fun y H2=>DJ r σ H2 fun ps H3=>Q ((x,y) :: ps) H3
abbrev VV:List (V×V)->List (Value×Value)->Prop:=Paired fun p q=>RelV p.1 q.1/\RelV p.2 q.2
def LK (X:Cx)(pos:Pos)(keys:List (Option Expr))(values:List Expr)(LL:List (TE×TE)):Prop:=
 ∀(pins:List (Addr×Obj)) (s:Shared) (σ:St) (H:Hp) (Q:List (V×V)->Hp->Prop),Inv X pins σ H s->DJ LL σ H Q->
  wpAny (model X.prog X.w) X.A (evalPairs (pairTrees keys values X.env pos)) (fun vs s'=> ∃ps H',Inv X pins σ H' s'/\VV ps vs/\Q ps H') X.xe s
def LM {X:Cx}{pos:Pos}:LK X pos [] [] []:=fun pins s σ H Q I h=>pairTrees_nil_walk ⟨[],H,I,.nil,h⟩
def uR {X:Cx}{pos:Pos}{k v:Expr}{ks:List (Option Expr)}{vs:List Expr}{tk tv:TE}{LL:List (TE×TE)}(hk:PE X k tk)(hv:PE X v tv)(hr:LK X pos ks vs LL):
  LK X pos (some k :: ks) (v :: vs) ((tk,tv) :: LL):=fun pins s σ H Q I h=>
 pairTrees_cons_walk (dZ (hk pins s σ H _ I h) fun u s1 ⟨x,H1,I1,rx,q1⟩=>dZ (hv pins s1 σ H1 _ I1 q1) fun w2 s2 ⟨y,H2,I2,ry,q2⟩=>
  dZ (hr pins s2 σ H2 _ I2 q2) fun ws s3 ⟨ps,H3,I3,rel,q3⟩=>⟨(x,y) :: ps,H3,I3,.cons ⟨rx,ry⟩ rel,q3⟩)
def pE (bg more:List (Key×V)):List (Key×V):=more.foldl (fun acc kv=>putK acc kv.1 kv.2) bg
def KV.merge: ∀{more:List (Key×V)} {rs:List (Key×Value)} {bg:List (Key×V)} {vs:List (Key×Value)},KV more rs->KV bg vs->KV (pE bg more) (merged vs rs):=by
 intro more rs bg vs r;unfold KV at r
 induction r generalizing bg vs with
 |nil=>intro q; exact q
 | @cons p q ps qs h t ih=>
  intro r0;have e:KV (putK bg p.1 p.2) (stored vs q.1 q.2):=by
   have:=r0.put p.1 h.2;rw[← h.1]; exact this
  exact ih e
def oR: ∀(more bg:List (Key×V)),(pE bg more).length<=bg.length + more.length
 |[],bg=>by show bg.length<=bg.length + 0; lia
 |p :: r,bg=>by
  have h1:=oR r (putK bg p.1 p.2);have h2:=kC bg p.1 p.2;show(pE (putK bg p.1 p.2) r).length<=_;rw[bH]; lia
def uS {P:Program}{w:World}: ∀{bg:List (Key×V)} {ws:List (Value×Value)},VV (bg.map fun kv=>(kV kv.1,kv.2)) ws-> ∃rs,Carries (dX P w) ws rs/\KV bg rs
 |[],_,r=>by rw[wA] at r; cases r; exact⟨[],True.intro,.nil⟩
 |p :: bg,_,r=>by
  rw[bM] at r;cases r with
  | @cons a b as bs h t=>
   obtain⟨rs,c,q⟩:=uS (P:=P) (w:=w) t;obtain⟨b1,b2⟩:=b;exact⟨(p.1,b2) :: rs,⟨uO h.1,rfl,c⟩,.cons ⟨rfl,h.2⟩ q⟩
def Sd (LL:List (TE×TE)):TE:=fun σ H Q=> ∀p,H p=none->DJ LL σ (upd H p (.dK [])) fun ps H2=>H2 p=some (.dK [])/\ ∃bg:List (Key×V),ps=bg.map (fun kv=>(kV kv.1,kv.2))/\bg.length<=15/\Q (.ref p) (upd H2 p (.dK (pE [] bg)))
def LN {X:Cx}{pos:Pos}{keys:List (Option Expr)}{values:List Expr}{LL:List (TE×TE)}(h:LK X pos keys values LL)(OH:keys.all (·.isSome)=true)(hl:keys.length=values.length)(h0:keys≠[])
  (WW:keys.length<=15):PE X (.Dict keys values pos) (Sd LL):=by
 intro pins s σ H Q I q;have hn:=I.cy.fresh (aI s.heap.objs.size);have I1:=I.laid (a:=s.heap.objs.size) (o:= .dK []) (h':=s.heap.push {cls:= .type "dict",data:= .dict #[]}) (t':=s.toks) (fun _ _ q=>ay _ q) (aI _) (Bq s.heap I.big);refine wpAny_Dict_walk (knd:=dX X.prog X.w) OH hl h0 WW (dZ (h pins _ σ _ _ I1 (q _ hn)) fun ws s2 ⟨ps,H2,I2,rel,e,bg,ep,lk,q2⟩=>?_);subst ep;obtain⟨rs,c,rk⟩:=uS (P:=X.prog) (w:=X.w) rel;obtain⟨z,hd,Se,r0,dd⟩:=EZ I2.cy e;cases r0;refine⟨rs,c,dd,fun h' E1 hs=>⟨.ref s.heap.objs.size,_,?_,rfl,q2⟩⟩;have hz:(pE [] bg).length<=sizeLine:=by
  have h1:=oR bg [];rw[wC] at h1;rw[eX]; lia
 have he: ∃q,h'.get? s.heap.objs.size=some q:=let⟨q,_,_,hq,_⟩:=E1; ⟨q,hq⟩
 exact ug I2 (by rw[e]; exact True.intro) hs he (y3 hz hd (rk.merge .nil) E1)
structure M1 (X:Cx)(o:Expr)(m:Str)(apos:Pos)(e:Expr)(gH:Pos):Prop where
 base:attributeBase o m X.env (eval o X.env)=eval o X.env
 few:((backTo gH (starEach [e] X.env)).all (fun x=> !x.1) && (backToKw gH (keywordEach [] X.env)).all (fun x=>x.1.isSome)
  && decide (([e]:List Expr).length + ([]:List Keyword).length + (if([]:List Keyword).isEmpty then 0 else 1) < 30))=true
 line:(apos.endLine == gH.line)=true
 trees:backTo gH (starEach [e] X.env)=[(false,eval e X.env)]
def ZM (H:Hp)(a:Addr):Prop:=(∃bg,Rd H a (.dK bg))∨ ∃bg,Rd H a (.dT bg)
def OI {X:Cx}{pins:List (Addr×Obj)}{σ:St}{H:Hp}{s:Shared}{a:Addr}(I:Inv X pins σ H s)(d:ZM H a):
  s.TypeIs (.ref a) "dict"/\(∀b,Value.ref a= .ref b-> ∃ob,s.heap.get? b=some ob/\ob.dict=none)/\(a == sysModules)=false:=by
 rcases d with⟨bg,e⟩|⟨bg,e⟩
 ·obtain⟨_,hd,vs,_,dd⟩:=uP I.cy e;refine⟨dd.typeIs,fun b q=>?_,hd⟩;cases q;obtain⟨ob,_,_,h1,h2,_⟩:=dd;exact⟨ob,h1,h2.2.1⟩
 ·obtain⟨_,hd,xs,_,dd⟩:=ye I.cy e;refine⟨dd.typeIs,fun b q=>?_,hd⟩;cases q;obtain⟨ob,_,_,h1,h2,_⟩:=dd;exact⟨ob,h1,h2.2.1⟩
section
variable {X:Cx}{pins:List (Addr×Obj)}{σ:St}{H:Hp}{s:Shared}{a:Addr}{y d:V}{u r:Value}{o:Option V}{A:Around}{E:Value->Shared->Prop}
end
def OJ (td ty:TE):TE:=fun σ H Q=>td σ H fun x H1=> ∃a,x= .ref a/\ZM H1 a/\ty σ H1 fun y H2=> ∃bg k v,H2 a=some (.dK bg)/\y=kV k/\gj bg k=some v/\Q v (upd H2 a (.dK (lp bg k)))
section
variable {X:Cx}{o e f:Expr}{apos gH:Pos}{td ty tx:TE}
def Jh (ho:PE X o td)(he:PE X e ty)(m:M1 X o "pop" apos e gH):PE X (.Call (.Attribute o "pop" apos) [e] [] gH) (OJ td ty):=by
 intro pins s σ H Q I h;refine wpAny_Call_method m.base m.few m.line PySem.F.plainAttrs_dict PySem.F.slot_dict_pop PySem.F.type_dict_pop (dZ (ho pins s σ H _ I h) fun u s1 ⟨x,H1,I1,rx,a,ex,d,q1⟩=>?_);subst ex;obtain rfl:u=Value.ref a:=rx;obtain⟨t1,t2,_⟩:=OI I1 d;refine⟨t1,t2,?_⟩;rw[m.trees];refine iT rfl (FZ (Calls.spliced_cons (dZ (he pins s1 σ H1 _ I1 q1) fun iv s2 ⟨y,H2,I2,ry,bg,k,v,ea,ey,l,q2⟩=>Calls.spliced_nil ?_)));subst ey;exact R8 I2 ea ry l (.inl rfl) fun w' s3 I3 Gu=>⟨v,_,I3,Gu,q2⟩
end
section
variable {X:Cx}{pins:List (Addr×Obj)}{σ:St}{H:Hp}{s:Shared}{a:Addr}{bg:List (Key×V)}{A:Around}{E:Value->Shared->Prop}
def Ji {Q:Value->Shared->Prop}(I:Inv X pins σ H s)(e:Rd H a (.dK bg))(h: ∀p s',H p=none->Inv X pins σ (upd H p (.dK bg)) s'->Q (.ref p) s'):wpAny (model X.prog X.w) A (call (.type "dict") [.ref a]) Q E s:=by
 obtain⟨z,hd,vs,rel,dd⟩:=uP I.cy e;refine kt_call_dict hd dd (by rw[← rel.length]; exact z) fun h' E1 hs=>?_;refine h _ _ (I.cy.fresh (aI _)) (I.laid (a:=s.heap.objs.size) (o:= .dK bg) (t':=s.toks) (fun b q hq=>?_) (aI _) (y3 z (gU.mpr (wy (a8 I.big))) rel E1));exact(hs.2 b (a8 (aN hq))).trans (ay _ hq)
end
section
variable {X:Cx}{pins:List (Addr×Obj)}{σ:St}{H:Hp}{s:Shared}{a:Addr}{y:V}{u:Value}{A:Around}{E:Value->Shared->Prop}
end
end L2
namespace ZN
open PySem PySem.W PySem.Calls PyProof.Rows
def tS {P:Params}{h:Heap}: ∀(ns:List Int) (vs:List Value),WellAll P h vs (ns.map WData.int)->IntsAre vs ns:=by
 intro ns
 induction ns with
 |nil=>
  intro vs w;rw[wA] at w;cases w;exact .nil
 |cons n ns ih=>
  intro vs w;rw[bM] at w;cases w with
  |cons a b=>
   cases a;exact .cons _ _ (ih _ b)
def GA {l:OpenLaw}{n:Nat}(hn:l.most=some n){P:Params}{h:Heap}{args:List WData}{vals:List Value}
  (LO:l.row.toRowW.claim.pre args=true) (DK:WellAll P h vals args):
  ∃a vs ns,vals=[Value.ref a]/\args=[WData.list (ns.map WData.int)]/\h.get? a=some {cls:= .type "list",data:= .seq vs.toArray}/\IntsAre vs ns/\ns.length<=n:=by
 have hsh:WShape.hasAll [] args [.list .int]=true:=(pre_splitW LO).1;have hc:l.pre.holds [] {args:=args}=true:=(pre_splitW LO).2;obtain⟨d,r,rfl,h1,h2⟩:=hasAllW_cons hsh;obtain rfl:=hasAllW_nil h2;obtain⟨xs,rfl,h3⟩:=hasW_list h1;obtain⟨ns,rfl⟩:=items_int h3;have hlen:ns.length<=n:=by
  unfold OpenLaw.pre at hc;have h4:(WTm.not (.lt (.lit (.int (n:Int))) (.len (.arg 0)))).holds [] {args:=[.list (ns.map .int)]}=true:=by
   have h4:=(holds_andW hc).1;rw[hn] at h4;exact h4
  have h5:=condW_of h4 (w_not (w_lt w_lit (w_len_list (w_arg rfl))));rw[ae] at h5;refine Nat.le_of_not_lt fun q=>?_;have q':(n:Int) < ((ns.length:Nat):Int):=by lia
  first
   |(rw[aG q'] at h5; exact absurd h5 (by decide))
   |(simp at h5; lia)
 cases DK with
 |cons w1 w2=>
  cases w2;cases w1 with
  |list ho OH=>exact⟨_,_,ns,rfl,rfl,ho,tS ns _ OH,hlen⟩
def GB (l:OpenLaw)(args:List WData):l.row.toRowW.claim.post args (.bool true) args=true:=
 postW_of (r:=l.row.toRowW) (X:=(true == true))
  (show WShape.has [] (.bool true) .bool=true by first|rfl|decide|simp[WShape.has,WShape.arms,WShape.armsAll])
  (show(WTm.eq .res (.lit (.bool true))).value [] {args:=args,res:=some (.bool true),after:=args}=some (.bool (true == true)) from w_eq_bool (w_res rfl) w_lit) rfl
def Bs {l:OpenLaw}{n:Nat}{q:Program}{loose:List Str}{XP:(Str->Option Value)->Heap->Prop}{YP:World->Heap->Prop}{d:DefRec}
  (hn:l.most=some n) (WX:d.params.defaults=[])
  (call: ∀(w:World) (s₀ s₁:Shared) (mg mb:Str->Option Value) (fa:Addr) (o:Obj) (pm cd doc:Value) (a:Addr) (vs:List Value) (ns:List Int),
   Ground q loose [] XP w s₀ mg mb s₁.heap->YP w s₁.heap->
   s₁.heap.get? fa=some o->o.data= .func (docDef d.name d.params d.body d.scope pm cd doc)->s₁.heap.CodeRec cd d.name->mg d.name=some (.ref fa)->
   s₁.heap.get? a=some {cls:= .type "list",data:= .seq vs.toArray}->IntsAre vs ns->ns.length<=n->s₁.gens= #[]->
   codeAny (model l.prog w) callerA (.call (.ref fa) ⟨[.ref a],[]⟩) (fun r s'=>r= .ok (.ret (.bool true))/\OldK s₁.heap s'.heap/\s'.os=s₁.os/\AllBare s'.gens) s₁):
  WalkO q loose XP YP l.row.toRowW d [] (fun f vs=>PySem.call f vs):=by
 intro w s₀ s₁ mg mb G Y fa o pm cd doc dV kV ho hd rM hD Sf hg args vals as LO abJ ZO DK hlo;obtain rfl:dV= .none:=Dflts.none hD WX;obtain rfl:kV= .none:=Dflts.noKw hD;obtain⟨a,vs,ns,rfl,rfl,OK,hints,hlen⟩:=GA hn LO DK;refine enter_call (Dn (call w s₀ s₁ mg mb fa o pm cd doc a vs ns G Y ho (fd_plain hd) rM Sf OK hints hlen hg) fun r s' hq=>?_);obtain⟨rfl,h2,h3,h4⟩:=hq;exact⟨.inl ⟨.bool true,.bool true,[],rfl,fun _=>rfl,.bool true,GB l _,fun _=>⟨List.Pairwise.nil,fun _ hm=>(nomatch hm)⟩⟩,h2,h3,h4⟩
section
variable {prog:Program}{w:World}{A:Around}{E:Value->Shared->Prop}{s:Shared}{K:Frag}
end
end ZN
namespace L2
open PySem PySem.Spec PyProof.Rows
def yf: ∀{vs:List Value} {ns:List Int},IntsAre vs ns->Vals (ns.map V.int) vs
 |_,_,.nil=> .nil
 |_,_,.cons n t h=> .cons ⟨t,rfl⟩ (yf h)
def gI (s:Stmt):Arguments:=match s with
 | .FunctionDef _ a _ _ _ _ _ _ _ _=>a
 |_=>{posonlyargs:=[],args:=[],vararg:=none,kwonlyargs:=[],kw_defaults:=[],kwarg:=none,defaults:=[]}
def dD (s:Stmt):List Stmt:=match s with
 | .FunctionDef _ _ b _ _ _ _ _ _ _=>b
 |_=>[]
def ax (s:Stmt):Scope:=match s with
 | .FunctionDef _ _ _ _ _ _ sc _ _ _=>sc
 |_=>{kind:= .function,names:=[],isGenerator:=false,isCoroutine:=false}
abbrev sf:ER:=fun _ _ _ _ _ _=>False
abbrev E0:XK:=fun _ _ _=>False
def mT {X:Cx}:Passes sf X E0:=fun _ _ _ _ _ _ _ h=>h.elim
structure gp (K:Frag)(x qual:Str)(st:Stmt)(f:Addr)(fd:FuncData):Prop where
 ex: ∃(oc:Value) (od:Option Addr) (kV doc pm:Value) (an:Option Addr) (cO ct:Value) (Gs:Array (Option Value)),
  fd=fnOf x qual (gI st) (dD st) (ax st) .none kV doc pm an cO ct/\K.lookup f=some ⟨oc,od,.func fd,Gs⟩/\codeIn K cO qual=true
 kp:keepIn K (.ref f)=true
section
variable {P:Program}{w:World}{K:Frag}{mg:Str->Option Value}{base:Heap}
def gp.ok {x qual:Str}{st:Stmt}{f:Addr}{fd:FuncData}{N ps:List Str}{k:Nat}{sp:Sp}(F:gp K x qual st f fd)(S:aW N ps (ax st))(len: ∀vs H Q E,sp vs H Q E->vs.length=ps.length)
  (fS: ∀(cO:Value) (A:Around) (outer:List Env) (s:Shared) (H:Hp) (vs:List V) (Q:VK) (E:XK),eY k (A.deeper (envOfC qual (ax st) s.heap.objs.size f cO))->sp vs H Q E->
   ∃t,oN (kQ sf P w K mg base N qual (ax st) f cO A outer s H E).Dv (dD st) t/\t {nx:=fun _ H'=>Q .eu H',rt:=Q} (start N vs) H):lW P w K mg base sf (k + 1) f fd ps sp:=by
 obtain⟨oc,od,kV,doc,pm,an,cO,ct,Gs,rfl,lk,rM⟩:=F.ex;refine IX lk rM S len fun A outer s H vs Q E hr ya=>?_;obtain⟨t,h,q⟩:=fS cO A outer s H vs Q E hr ya;exact⟨t,h.Dv,q⟩
def gp.binds {x qual:Str}{st:Stmt}{f:Addr}{fd:FuncData}{ps:List Str}(F:gp K x qual st f fd)
  (h: ∀(kV doc pm:Value) (an:Option Addr) (cO ct:Value) (us:List Value),us.length=ps.length->bindArgs (fnOf x qual (gI st) (dD st) (ax st) .none kV doc pm an cO ct) ⟨us,[]⟩=pure (ps.zip us)):Binds K fd ps []:=by
 obtain⟨oc,od,kV,doc,pm,an,cO,ct,Gs,rfl,lk,rM⟩:=F.ex;exact .all (h kV doc pm an cO ct)
def pF {x qual:Str}{st:Stmt}{f:Addr}{oc:Value}{od an:Option Addr}{Gs:Array (Option Value)}{kV doc pm cO ct:Value}(l:K.lookup f=some ⟨oc,od,.func (fnOf x qual (gI st) (dD st) (ax st) .none kV doc pm an cO ct),Gs⟩)
  (c:codeIn K cO qual=true) (k:keepIn K (.ref f)=true):gp K x qual st f (fnOf x qual (gI st) (dD st) (ax st) .none kV doc pm an cO ct):=⟨⟨oc,od,kV,doc,pm,an,cO,ct,Gs,rfl,l,c⟩,k⟩
end
def jP {A:Around}{k:Nat}(hr:eY k A):A.units + 1 < cLine:=qh (Nat.add_le_add_left (by decide:1<=64) _) hr.units
def bf {n:Nat}(h:n<=1000):n < sizeLine:=qh h (by decide)
section
variable {X:Cx}
def pv (i:Nat){x:Str}{pos:Pos}(hN:X.N[i]? =some x:=by rfl)(hv:RB X.env.scope x:=by first|exact Or.inl rfl|exact Or.inr (Or.inl rfl)|exact Or.inr (Or.inr rfl))(hd:(x == ("__debug__":Str))=false:=by decide)
  (rM:(x == ("__classdict__":Str))=false:=by decide):PE X (.Name x pos) (RE i):=Dr hN hv hd rM
end
def bV {A B:Prop}(h:B):if false=true then A else B:=by
 rw[aO aR];exact h
def fF {A B:Prop}(h:A):if true=true then A else B:=by
 rw[aZ rfl];exact h
def cu {c A B:Prop}[Decidable c](h1:c->A)(h2: ¬ c->B):if c then A else B:=by
 by_cases h:c
 ·rw[aZ h];exact h1 h
 ·rw[aO h];exact h2 h
def Bt {c A B:Prop}[Decidable c](hc:c)(h:B):if(!decide c)=true then A else B:=by
 rw[aG hc];exact bV h
def aE (H H':Hp):Prop:= ∀b o,H b=some o->H' b=some o
def aE.refl (H:Hp):aE H H:=fun _ _ h=>h
def aE.trans {H H1 H2:Hp}(a:aE H H1)(b:aE H1 H2):aE H H2:=fun c o h=>b c o (a c o h)
def aE.free {H H':Hp}(e:aE H H'){l:Addr}(h:H' l=Option.none):H l=Option.none:=by
 cases q:H l with
 |none=>rfl
 |some o=>
  rw[e l o q] at h;cases h
def aE.seq {K:Frag}{H H':Hp}{a:Addr}{xs:List V}(e:aE H H')(h:bw K H a xs):bw K H' a xs:=by
 rcases h with(h|⟨o,h⟩)|h
 ·exact .inl (.inl (e _ _ h))
 ·exact .inl (.inr ⟨o,e _ _ h⟩)
 ·exact .inr h
section
variable {X:Cx}
end
section
variable {κ:Type}[DecidableEq κ]
end
def GC {prog:Program}{w:World}{A:Around}{R:Result->Shared->Prop}{s:Shared}{elt target iter:Expr}{ifs:List Expr}{scope:Scope}{pos:Pos}{it acc:Value}{env:Env}(I:Nat->Shared->Prop)
  (turn: ∀n s,I n s->wpAny (model prog w) A (pyNext it) (fun r s₁=>match r with
   |none=>R (.ok .next) s₁
   |some v=>wpAny (model prog w) A (letOwnedTupleGo target it v) (fun _ ZP=>wpAny (model prog w) A (assign target env v) (fun _ s₂=>
     wpAny (model prog w) A (forIn ifs true fun c r=>if r=true then do let ok ← isTrue c env (eval c env); pure (ForInStep.yield ok) else pure (ForInStep.yield r)) (fun ok s₃=>
      if ok=true then wpAny (model prog w) A (eval elt env) (fun x s₄=>
       wpAny (model prog w) A (call (.builtin "list.append") [acc,x]) (fun _ s₅=> ∃m,m < n/\I m s₅) (fun _ _=>False) s₄) (fun _ _=>False) s₃
      else ∃m,m < n/\I m s₃) (fun _ _=>False) s₂) (fun _ _=>False) ZP) (fun _ _=>False) s₁) (fun _ _=>False) s)
  (n:Nat) (h:I n s):
  codeAny (model prog w) A (.compLoop (.ListComp elt [⟨target,iter,ifs,0⟩] scope pos) 0 it acc env) R s:=by
 refine codeAny_loop rfl I (fun n s hI=>?_) n h;show wpAny _ A ((compTurn (.ListComp elt [⟨target,iter,ifs,0⟩] scope pos) 0 it acc env).onRaise (fun x=>do noteFrame x env; theTreesLotGoes x)) _ _ s;refine wpAny_noted ?_;rw[compTurn_list];refine az (iz (az (ck (turn n s hI) (fun r s₁ h₁=>?_) fun _ _ h'=>h'.elim)));cases r with
 |none=>exact bF h₁
 |some v=>
  refine az (ck h₁ (fun _ ZP h₁'=>?_) fun _ _ h'=>h'.elim);refine az (ck h₁' (fun _ s₂ h₂=>az (ck h₂ (fun ok s₃ h₃=>?_) fun _ _ h'=>h'.elim)) fun _ _ h'=>h'.elim);cases ok with
  |false=>exact bF ⟨rfl,h₃⟩
  |true=>
   exact az (az (ck h₃ (fun x s₄ h₄=>az (ck h₄ (fun _ s₅ h₅=>bF (bF ⟨rfl,h₅⟩)) fun _ _ h'=>h'.elim)) fun _ _ h'=>h'.elim))
def Bu (X:Cx)(N:List Str)(scope:Scope)(cl:List (Str×Addr))(C:Addr)(s3:Shared)(H3:Hp)(fp:List Addr):Cx:=
 {X with N:=N,s₀:=s3,H₀:=H3,env:=compEnvC scope cl C X.env,outer:=X.stack,stack:=X.stack,ex:=fp,fn:=fun _=>false,pn:=[],xe:=fun _ _=>False}
def K2 (X:Cx)(ifs:List Expr)(t:TT):Prop:=
 ∀(pins:List (Addr×Obj)) (s:Shared) (σ:St) (H:Hp) (Q:Bool->Hp->Prop),Inv X pins σ H s->t σ H Q->
  wpAny (model X.prog X.w) X.A (forIn ifs true fun c r=>if r=true then do let ok ← isTrue c X.env (eval c X.env); pure (ForInStep.yield ok) else pure (ForInStep.yield r)) (TP X pins σ Q) X.xe s
def WY:TT:=fun _ H Q=>Q true H
def kW {X:Cx}:K2 X [] WY:=fun pins s σ H Q I h=>wpAny_tests_nil ⟨H,I,h⟩
def pG {X:Cx}{c:Expr}{t:TT}(h:PT X c t):K2 X [c] t:=fun pins s σ H Q I hw=>wpAny_tests_one (h pins s σ H Q I hw)
def yg (J:It)(g:TG)(tc:TT)(te:TE)(σ0:St)(H2:Hp)(Q:VK):Prop:=
 ∀D,H2 D=none-> ∃W:Nat->Nat->St->Hp->Prop,(∃m,W 0 m σ0 (upd H2 D (.lst [])))/\ ∀i m σ' H',W i m σ' H'->
  (J.stop i H'/\Q (.ref D) H')∨(J.go i H'/\ ∃N:St->Hp->Prop,(∀LP y4,N LP y4-> ∃m',m' < m/\W (i + 1) m' LP y4)/\
   ∀x y4,J.QQ i H' x y4->g x σ' y4 fun σ2 H2=>tc σ2 H2 fun ok H3=>if ok=true then te σ2 H3 fun y H4=> ∃ys,H4 D=some (.lst ys)/\ys.length < sizeLine/\N σ2 (upd H4 D (.lst (ys ++ [y]))) else N σ2 H3)
structure sh (X:Cx)(scope:Scope)(cl:List (Str×Addr))(cn:List Str)(cj:List Nat):Prop where
 GD:closureFor scope X.env=pure cl
 cell: ∀y∈scope.names,y.2≠ .cell
 kind:scope.kind= .function
 names: ∀x∈scope.names,x.2= .local->scope.names.lookup x.1=some .local
 sub: ∀x c,cl.lookup x=some c->X.env.cells.lookup x=some c
 all: ∀x,((relabel scope X.env).names.lookup x=some .cell∨(relabel scope X.env).names.lookup x=some .free)-> ∃c,cl.lookup x=some c
 ZQ:Paired (fun x j=>X.N[j]? =some x/\(X.env.kindOf x=some .cell∨X.env.kindOf x=some .free)/\((relabel scope X.env).names.lookup x=some .cell∨(relabel scope X.env).names.lookup x=some .free)) cn cj
def bB {α β:Type}{F:α->β->Prop}: ∀{l₁:List α} {l₂:List β} {i:Nat} {a:α},Paired F l₁ l₂->l₁[i]? =some a-> ∃b,l₂[i]? =some b/\F a b
 |_,_,_,_,.nil,e=>by simp at e
 |_,_,0,_,.cons r _,e=>by simp at e; subst e; exact⟨_,rfl,r⟩
 |_,_,i + 1,a,.cons _ t,e=>by
  obtain⟨b,h1,h2⟩:=bB (i:=i) (a:=a) t (by simpa using e);exact⟨b,by simpa using h1,h2⟩
def uT (tn:List Str)(cj:List Nat)(σ:St):St:=tn.map (fun _=>none) ++ cj.map fun j=>(σ[j]?).join
def uU {X:Cx}{pins:List (Addr×Obj)}{σ:St}{H2:Hp}{s2:Shared}{elt tg iter:Expr}{ifs:List Expr}{scope:Scope}{pos:Pos}{cl:List (Str×Addr)}{tn cn:List Str}{cj:List Nat}{g:TG}{tc:TT}{te:TE}
  {it:Addr} {fp:List Addr} {OL:Nat->Heap->Prop} {J:It} {RR:Value->Addr->Result->Shared->Prop} {E:Value->Shared->Prop} {Q:VK}
  (yh:X.calm=true) (S:sh X scope cl cn cj)
  (hg: ∀C s3 H3 fp,PG (Bu X (tn ++ cn) scope cl C s3 H3 fp) tg g) (hc: ∀C s3 H3 fp,K2 (Bu X (tn ++ cn) scope cl C s3 H3 fp) ifs tc) (he: ∀C s3 H3 fp,PE (Bu X (tn ++ cn) scope cl C s3 H3 fp) elt te)
  (I2:Inv X pins σ H2 s2) (T:Turn X.prog X.w X.K tg J fp it OL) (Nf:OL 0 s2.heap) (f2: ∀b∈fp,uG X pins H2 b)
  (hw:yg J g tc te (uT tn cj σ) H2 Q)
  (hRR: ∀D C (s':Shared) H' m',Inv X pins σ H' s'->uG X pins H' C->s'.heap.Ns C m'->Q (.ref D) H'->RR (.ref D) C (.ok .next) s'):
  wpAny (model X.prog X.w) X.A (newList []) (fun acc s₃=>wpAny (model X.prog X.w) X.A (newFunctionEnv scope X.env.globals cl [] X.env.qual none .none (some X.env)) (fun Sg s₄=>
   codeAny (model X.prog X.w) X.A (.compStart (.ListComp elt [⟨tg,iter,ifs,0⟩] scope pos) 0 (.ref it) acc {Sg with scope:=relabel scope X.env}) (RR acc Sg.locals) s₄) E s₃) E s2:=by
 have hD0:H2 s2.heap.objs.size=none:=I2.cy.fresh (aI _);obtain⟨W,⟨m0,w0⟩,turn⟩:=hw _ hD0;refine wpAny_newObj_type (wpAny_newFunctionEnv S.cell (by intro y hy; simp at hy) (fun h₁ OM ON=>?_) S.kind);dsimp only at OM ON ⊢;have I3:Inv X pins σ (upd H2 s2.heap.objs.size (.lst [])) {s2 with heap:=s2.heap.push {cls:= .type "list",dict:=none,data:= .seq ([]:List Value).toArray}}:=I2.OC (t':=s2.toks) (ys:=[]) (bZ:=[]) .nil (bp _);generalize Vk:s2.heap.push {cls:= .type "list",dict:=none,data:= .seq ([]:List Value).toArray}=HH at OM ON I3 ⊢;have hC:HH.objs.size=s2.heap.objs.size + 1:=by rw[← Vk,nW]
 have old: ∀b o,HH.get? b=some o->h₁.get? b=some o:=fun b o e=>ON.extBut b o (a8 (aN e)) (ay _ e);have WZ: ∀b o,s2.heap.get? b=some o->HH.get? b=some o:=fun b o e=>Vk▸ay _ e;have Sh: ∀b∈fp,b < s2.heap.objs.size:=fun b hb=>by
  obtain⟨o,e,_⟩:=T.obj 0 _ Nf b hb;exact aN e
 have Vl:(Bu X (tn ++ cn) scope cl HH.objs.size {s2 with heap:=HH} (upd H2 s2.heap.objs.size (.lst [])) fp).Ok:=by
  refine⟨I3.ok.mod,S.kind,I3.ok.glob,I3.ok.blt,aI _,fun x y c h1 h2=>I3.ok.inj x y c (S.sub x c h1) (S.sub y c h2),fun x hx=>S.all x hx,fun x c z=>absurd z aR,I3.ok.hd,I3.ok.frames,.inl rfl,fun b hb=>⟨?_,fun x c e z=>?_⟩,I3.bs,?_,fun b o e hb=>?_,fun b hb z=>?_,I3.stack,I3.qu⟩
  ·show b≠HH.objs.size;rw[hC];exact a8 (iV (Sh b hb))
  ·exact(f2 b hb).2.2.2.2.1 x c (S.sub x c e) z
  ·exact a0 I3.ok.A8 I3.sz
  ·rcases(f2 b hb).2.2.2.1 with z|z
   ·exact I3.ok.wG b o e z
   ·have h1:b < X.base.objs.size:=aN e;exact absurd (bo h1 (a0 I3.ok.A8 z)) (iS _)
  ·rcases aw.mp (I3.uD b z) with z|z
   ·exact(f2 b hb).2.1 z
   ·exact(f2 b hb).2.2.1 z
 have IY:Inv (Bu X (tn ++ cn) scope cl HH.objs.size {s2 with heap:=HH} (upd H2 s2.heap.objs.size (.lst [])) fp) [] (uT tn cj σ) (upd H2 s2.heap.objs.size (.lst [])) {s2 with heap:=h₁,toks:=s2.toks + ([]:List (Str×Value)).length}:=by
  refine⟨Vl,rfl,I3.bare,Un.kept old,⟨_,OM,fun i x v e1 e2 e3=>?_⟩,fun x c e=>?_,?_,fun x c e=>I3.iP x c (S.sub x c e),fun p hp=>absurd hp (by intro z; exact nomatch z),I3.cy.kept old,?_⟩
  ·have ZR:(tn ++ cn)[i]? =some x:=e1;by_cases hi:i < tn.length
   ·unfold uT at e2;rw[List.getElem?_append_left (by simpa using hi),List.getElem?_map] at e2;cases h:tn[i]? with
    |none=>rw[h] at e2; cases e2
    |some _=>rw[h] at e2; cases e2
   ·rw[fR (by lia)] at ZR;obtain⟨j,hj,hN,hk,Nk⟩:=bB S.ZQ ZR;unfold uT at e2;rw[List.getElem?_append_right (by simpa using hi),List.getElem?_map] at e2;simp only[List.length_map,hj,Option.map_some] at e2;have Sk:σ[j]? =some (some v):=by
     cases h:σ[j]? with
     |none=>rw[h] at e2; cases e2
     |some q=>
      rw[h] at e2;have Sk:q=some v:=aD e2;rw[Sk]
    obtain⟨m,hn,hl⟩:=I3.loc;have hv:RB X.env.scope x:=by
     rcases hk with hk|hk
     ·exact .inr (.inl hk)
     ·exact .inr (.inr hk)
    obtain⟨u,r,l⟩:=hl j x v hN Sk hv;refine⟨u,r,?_⟩;rcases l with⟨k,_⟩|⟨_,c,hc,mq⟩
    ·rcases hk with hk|hk <;> (rw[k] at hk; cases hk)
    ·obtain⟨c',Oc⟩:=S.all x Nk;have:=S.sub x c' Oc;rw[hc] at this;cases this;obtain⟨o,ho,hd⟩:=mq;exact .inr ⟨Nk,c,Oc,⟨o,old _ _ ho,hd⟩⟩
  ·obtain⟨v,o,ho,hd⟩:=I3.cell x c (S.sub x c e);exact⟨v,o,old _ _ ho,hd⟩
  ·exact I3.cy.fresh (aI _)
  ·show(uT tn cj σ).length=(tn ++ cn).length;unfold uT;rw[aH,aH,ae,ae,S.ZQ.length]
 have ZS:OL 0 h₁:=T.keep 0 _ _ Nf fun b _ o e=>old b o (WZ b o e);have rY: ∀{H':Hp},(∀b∈fp,H' b=none)-> ∀b∈fp,uG (Bu X (tn ++ cn) scope cl HH.objs.size {s2 with heap:=HH} (upd H2 s2.heap.objs.size (.lst [])) fp) [] H' b:=fun hn b hb=>
  ⟨hn b hb,(Vl.Lp b hb).1,Vl.wH b hb,.inl hb,(Vl.Lp b hb).2,fun p hp=>absurd hp (by intro z; exact nomatch z)⟩
 have fp1: ∀b∈fp,upd H2 s2.heap.objs.size (.lst []) b=none:=fun b hb=>by
  rw[aA (a8 (Sh b hb))];exact(f2 b hb).1
 have loop:codeAny (model X.prog X.w) X.A (.compLoop (.ListComp elt [⟨tg,iter,ifs,0⟩] scope pos) 0 (.ref it) (.ref s2.heap.objs.size) (compEnvC scope cl HH.objs.size X.env))
    (RR (.ref s2.heap.objs.size) HH.objs.size) {s2 with heap:=h₁,toks:=s2.toks + ([]:List (Str×Value)).length}:=by
  refine GC (fun n s'=> ∃i σ' H',Inv (Bu X (tn ++ cn) scope cl HH.objs.size {s2 with heap:=HH} (upd H2 s2.heap.objs.size (.lst [])) fp) [] σ' H' s'/\OL i s'.heap/\(∀b∈fp,H' b=none)/\W i n σ' H') ?_ m0 ⟨0,_,_,IY,ZS,fp1,w0⟩;rintro n s3 ⟨i,σ3,H3,J3,RO,Lx,w3⟩;rcases turn i n σ3 H3 w3 with⟨stop,qn⟩|⟨go,N,hN,step⟩
  ·refine dZ (T.done (Bu X (tn ++ cn) scope cl HH.objs.size {s2 with heap:=HH} (upd H2 s2.heap.objs.size (.lst [])) fp) rfl rfl rfl yh i [] s3 σ3 H3 _ J3 (rY Lx) RO stop) fun r s4 ⟨hr,J4⟩=>?_;subst hr;obtain⟨m',Wk,_⟩:=J4.loc;exact hRR _ _ s4 H3 m' (I3.EI (ch:=fp) J4.os J4.base J4.cy J4.bare fun b hb=>⟨(f2 b hb).2.2.2.1,(f2 b hb).2.1,(f2 b hb).2.2.2.2.1,(f2 b hb).2.2.2.2.2⟩) (I3.Gk (aI _) J4.free) Wk qn
  ·refine dZ (T.item (Bu X (tn ++ cn) scope cl HH.objs.size {s2 with heap:=HH} (upd H2 s2.heap.objs.size (.lst [])) fp) rfl rfl rfl yh i [] s3 σ3 H3 _ J3 (rY Lx) RO go) fun r s4 ⟨u,hr,h4⟩=>?_;subst hr;refine dZ h4 fun _ s5 ⟨x,H5,J5,r5,y5,Ol,QS⟩=>?_;have J5':=J5.pinned (rY QS) (T.obj _ _ Ol);refine dZ (hg _ _ _ _ _ s5 σ3 H5 x u _ J5' r5 (step x H5 y5)) fun _ s6 ⟨σ6,H6,J6,q6⟩=>?_;have again: ∀{s7:Shared} {σ7:St} {H7:Hp},Inv (Bu X (tn ++ cn) scope cl HH.objs.size {s2 with heap:=HH} (upd H2 s2.heap.objs.size (.lst [])) fp) ([] ++ pC fp s5.heap) σ7 H7 s7->N σ7 H7->
     ∃m,m < n/\ ∃i σ' H',Inv (Bu X (tn ++ cn) scope cl HH.objs.size {s2 with heap:=HH} (upd H2 s2.heap.objs.size (.lst [])) fp) [] σ' H' s7/\OL i s7.heap/\(∀b∈fp,H' b=none)/\W i m σ' H':=fun{s7 σ7 H7} I7 n7=>by
    obtain⟨m',hm,w7⟩:=hN σ7 H7 n7;refine⟨m',hm,i + 1,σ7,H7,I7.jg,T.keep _ _ _ Ol fun b hb o e=>(I7.pin (b,o) (bz _ (bz _ (jN hb e)))).1,fun b hb=>?_,w7⟩;obtain⟨o,e,d⟩:=T.obj _ _ Ol b hb;exact(I7.pin (b,o) (bz _ (bz _ (jN hb e)))).2.1
   refine dZ (hc _ _ _ _ _ s6 σ6 H6 _ J6 q6) fun ok s7 ⟨H7,J7,q7⟩=>?_;cases ok with
   |false=>exact again J7 q7
   |true=>
    refine dZ (he _ _ _ _ _ s7 σ6 H7 _ J7 q7) fun y s8 ⟨yv,H8,J8,r8,ys,hD,hz,q8⟩=>?_;refine dZ (yb _ s8 σ6 H8 (.ref s2.heap.objs.size) [yv] (.ref s2.heap.objs.size) [y] (fun _ H'=>N σ6 H') J8 rfl (.cons r8 .nil) ⟨_,ys,yv,rfl,rfl,hD,hz,q8⟩) fun _ s9 ⟨_,H9,J9,_,q9⟩=>?_;exact again J9 q9
 exact codeAny_compStart_list loop (T.self _ 0 _ _ _ ZS loop)
def Nl (wi:TI)(tn:List Str)(cj:List Nat)(g:TG)(tc:TT)(te:TE):TE:=fun σ H Q=>wi σ H fun J H2=>yg J g tc te (uT tn cj σ) H2 Q
def gq {X:Cx}{elt tg iter:Expr}{ifs:List Expr}{scope:Scope}{pos:Pos}{cl:List (Str×Addr)}{tn cn:List Str}{cj:List Nat}{wi:TI}{g:TG}{tc:TT}{te:TE}
  (yh:X.calm=true) (S:sh X scope cl cn cj) (hi:PI X tg iter wi)
  (hg: ∀C s3 H3 fp,PG (Bu X (tn ++ cn) scope cl C s3 H3 fp) tg g) (hc: ∀C s3 H3 fp,K2 (Bu X (tn ++ cn) scope cl C s3 H3 fp) ifs tc) (he: ∀C s3 H3 fp,PE (Bu X (tn ++ cn) scope cl C s3 H3 fp) elt te)
  (hs: ∀x,foldedSetIterable iter X.env x=pure x:=by intro _; rfl):
  PE X (.ListComp elt [⟨tg,iter,ifs,0⟩] scope pos) (Nl wi tn cj g tc te):=by
 intro pins s σ H Q I h;rw[eval_ListComp];refine wpAny_comprehension_free (use:=none) rfl hs S.GD S.kind S.names (dZ (hi pins s σ H _ I h) fun v s1 h1=>dZ h1 fun Vg s2 h2=>?_);obtain⟨it,fp,OL,J,H2,e,I2,T,Nf,f2,hw⟩:=h2;subst e;refine uU (RR:=fun acc C=>compPost (model X.prog X.w) X.A X.xe none (EP X pins σ Q) acc C) yh S hg hc he I2 T Nf f2 hw ?_;intro D C s' H' m' I' GF hn q;exact⟨m',hn,fun h' LQ=>⟨.ref D,H',I'.turned (t':=s'.toks) (fun b o hb e=>(LQ.2 b hb).trans e) GF.1 GF.2.1 GF.2.2.2.1 GF.2.2.2.2.1 GF.2.2.2.2.2,rfl,q⟩⟩
def lu {X:Cx}{i:Nat}{y:Str}{py Sl:Pos}{elt tg iter:Expr}{ifs:List Expr}{scope:Scope}{pos:Pos}{cl:List (Str×Addr)}{tn cn:List Str}{cj:List Nat}{wi:TI}{g:TG}{tc:TT}{te:TE}
  (hN:X.N.Nodup) (hy:X.N[i]? =some y) (hx:Loc X.env.scope y)
  (yh:X.calm=true) (S:sh X scope cl cn cj) (hi:PI X tg iter wi)
  (hg: ∀C s3 H3 fp,PG (Bu X (tn ++ cn) scope cl C s3 H3 fp) tg g) (hc: ∀C s3 H3 fp,K2 (Bu X (tn ++ cn) scope cl C s3 H3 fp) ifs tc) (he: ∀C s3 H3 fp,PE (Bu X (tn ++ cn) scope cl C s3 H3 fp) elt te)
  (W0:swapsWith (.ListComp elt [⟨tg,iter,ifs,0⟩] scope pos) (some (.Name y py)) Sl.line X.env=pure true:=by rfl)
  (hs: ∀x,foldedSetIterable iter X.env x=pure x:=by intro _; rfl)
  (hf:X.fn y=true∨X.env.scope.names.lookup y=some .local:=by first|exact .inl rfl|exact .inr rfl|assumption):
  PS X (.Assign [.Name y py] (.ListComp elt [⟨tg,iter,ifs,0⟩] scope pos) Sl) (Lv (Nl wi tn cj g tc te) (Bf i)):=by
 intro pins s σ H D I h;rw[exec_Assign_Name_used _ _ _ _ W0];refine az (iz (az ?_));show wpAny _ X.A (do let _ ← comprehension (.ListComp elt [⟨tg,iter,ifs,0⟩] scope pos) scope X.env _ (newList []) false (eval iter X.env) (some (assign (.Name y py) X.env))) _ _ s;refine az (ck (wpAny_comprehension_free (use:=some (assign (.Name y py) X.env)) (Q:=fun _ s'=>SP X pins D .next s') rfl hs S.GD S.kind S.names
  (dZ (hi pins s σ H _ I h) fun v s1 h1=>dZ h1 fun Vg s2 h2=>?_)) (fun _ s' hq=>bF (bF hq)) fun _ _ e=>e)
 obtain⟨it,fp,OL,J,H2,e,I2,T,Nf,f2,hw⟩:=h2;subst e;refine uU (RR:=fun acc C=>compPost (model X.prog X.w) X.A X.xe (some (assign (.Name y py) X.env)) (fun _ s'=>SP X pins D .next s') acc C) yh S hg hc he I2 T Nf f2 hw ?_;intro D' C s' H' m' I' GF hn q;show wpAny _ X.A (assign (.Name y py) X.env (.ref D')) _ _ _;refine wpAny_assign_Name (xS I' hN hy hx (v:= .ref D') rfl (fun EU I'' ⟨a,sb,ha⟩=>?_) hf);have hCa:C≠a:=by
  rcases ha with rfl|ha
  ·exact GF.2.1
  ·exact fun z=>GF.2.2.2.2.1 y a ha z.symm
 refine⟨m',hn.sameBut sb hCa,fun h3 QV=>⟨_,H',I''.turned (t':=EU.toks) (fun b o hb e=>(QV.2 b hb).trans e) GF.1 GF.2.1 GF.2.2.2.1 GF.2.2.2.2.1 GF.2.2.2.2.2,q⟩⟩
def dU {K:Frag}{a:Addr}{xs:List V}{g:TG}{tc:TT}{te:TE}{σ0:St}{H2:Hp}{Q:VK}(Pv:Addr->Nat->St->Hp->Prop)(h0: ∀D,H2 D=none->Pv D 0 σ0 (upd H2 D (.lst [])))
  (hl: ∀D i σ H,i<=xs.length->Pv D i σ H->bw K H a xs)
  (hs: ∀D i x σ H,xs[i]? =some x->Pv D i σ H->g x σ H fun σ2 H2=>tc σ2 H2 fun ok H3=>if ok=true then te σ2 H3 fun y H4=> ∃ys,H4 D=some (.lst ys)/\ys.length < sizeLine/\Pv D (i + 1) σ2 (upd H4 D (.lst (ys ++ [y]))) else Pv D (i + 1) σ2 H3)
  (hd: ∀D σ H,H2 D=none->Pv D xs.length σ H->Q (.ref D) H):yg (QR K a) g tc te σ0 H2 Q:=by
 intro D hD;refine⟨fun i m σ H=>m=xs.length - i/\i<=xs.length/\Pv D i σ H,⟨xs.length,by simp,Nat.zero_le _,h0 D hD⟩,?_⟩;rintro i m σ H ⟨rfl,hi,p⟩;have q:=hl D i σ H hi p;by_cases iX:i < xs.length
 ·refine .inr ⟨⟨xs,xs[i],q,by simp[iX]⟩,Pv D (i + 1),fun σ' H' p'=>⟨xs.length - (i + 1),by lia,rfl,iX,p'⟩,fun x H' y=>?_⟩;obtain⟨e,y⟩:=y;subst e;exact hs D i x σ _ (y xs q) p
 ·have e:i=xs.length:=by lia
  subst e;exact .inl ⟨⟨xs,q,aI _⟩,hd D σ H hD p⟩
def Jj {K:Frag}{a:Addr}{xs:List V}{g:TG}{tc:TT}{te:TE}{σ0:St}{H2:Hp}{Q:VK}(Pv:Addr->Nat->St->Hp->Prop)(h0: ∀D,H2 D=none->Pv D 0 σ0 (upd H2 D (.lst [])))
  (hl: ∀D i σ H,i<=xs.length->Pv D i σ H->cz K H a xs)
  (hs: ∀D i x σ H,xs[i]? =some x->Pv D i σ H->g x σ H fun σ2 H2=>tc σ2 H2 fun ok H3=>if ok=true then te σ2 H3 fun y H4=> ∃ys,H4 D=some (.lst ys)/\ys.length < sizeLine/\Pv D (i + 1) σ2 (upd H4 D (.lst (ys ++ [y]))) else Pv D (i + 1) σ2 H3)
  (hd: ∀D σ H,H2 D=none->Pv D xs.length σ H->Q (.ref D) H):yg (Wx K a) g tc te σ0 H2 Q:=by
 intro D hD;refine⟨fun i m σ H=>m=xs.length - i/\i<=xs.length/\Pv D i σ H,⟨xs.length,by simp,Nat.zero_le _,h0 D hD⟩,?_⟩;rintro i m σ H ⟨rfl,hi,p⟩;have q:=hl D i σ H hi p;by_cases iX:i < xs.length
 ·refine .inr ⟨⟨xs,xs[i],q,by simp[iX]⟩,Pv D (i + 1),fun σ' H' p'=>⟨xs.length - (i + 1),by lia,rfl,iX,p'⟩,fun x H' y=>?_⟩;obtain⟨e,y⟩:=y;subst e;exact hs D i x σ _ (y xs q) p
 ·have e:i=xs.length:=by lia
  subst e;exact .inl ⟨⟨xs,q,aI _⟩,hd D σ H hD p⟩
def DM {lo:Int}{n:Nat}{g:TG}{tc:TT}{te:TE}{σ0:St}{H2:Hp}{Q:VK}(Pv:Addr->Nat->St->Hp->Prop)(h0: ∀D,H2 D=none->Pv D 0 σ0 (upd H2 D (.lst [])))
  (hs: ∀D i σ H,i < n->Pv D i σ H->g (.int (lo + i)) σ H fun σ2 H2=>tc σ2 H2 fun ok H3=>if ok=true then te σ2 H3 fun y H4=> ∃ys,H4 D=some (.lst ys)/\ys.length < sizeLine/\Pv D (i + 1) σ2 (upd H4 D (.lst (ys ++ [y]))) else Pv D (i + 1) σ2 H3)
  (hd: ∀D σ H,H2 D=none->Pv D n σ H->Q (.ref D) H):yg (Nc lo n) g tc te σ0 H2 Q:=by
 intro D hD;refine⟨fun i m σ H=>m=n - i/\i<=n/\Pv D i σ H,⟨n,by simp,Nat.zero_le _,h0 D hD⟩,?_⟩;rintro i m σ H ⟨rfl,hi,p⟩;by_cases iX:i < n
 ·refine .inr ⟨iX,Pv D (i + 1),fun σ' H' p'=>⟨n - (i + 1),by lia,rfl,iX,p'⟩,fun x H' y=>?_⟩;obtain⟨e,y⟩:=y;subst e y;exact hs D i σ _ iX p
 ·have e:i=n:=by lia
  subst e;exact .inl ⟨aI _,hd D σ H hD p⟩
def Inv.DN {X:Cx}{pins:List (Addr×Obj)}{σ:St}{H:Hp}{s:Shared}{h':Heap}{a:Addr}{o:HO}{t':Nat}{ch:List Addr}(I:Inv X pins σ H s)(k: ∀b ob,b∉ch->s.heap.get? b=some ob->h'.get? b=some ob)
  (A9: ∀b∈ch,uG X pins H b) (hp:s.heap.objs.size<=a) (new:dC X.prog X.w (upd H a o) h' a o):Inv X pins σ (upd H a o) {s with heap:=h',toks:=t'}:=by
 have hn:H a=none:=I.cy.fresh hp;have RD: ∀b u,H b=some u->b∉ch:=fun b u e z=>by rw[(A9 b z).1] at e; cases e
 refine I.step (g':=s.gens) (d':=s.drawn) (ch:=ch) (fun b hb=>⟨(A9 b hb).2.2.2.1,(A9 b hb).2.1,(A9 b hb).2.2.2.2.1,(A9 b hb).2.2.2.2.2⟩) (fun b ob _ _ hc e _=>k b ob hc e) (fun b ob _ _ hc e _=>⟨ob.slots,k b ob hc e⟩)
  (fun b ob _ e n=>by rw[aA (a8 (bo (aN e) hp))]; exact n)
  (fun b ob hc e=>⟨ob,k b ob hc e⟩) (fun b xs e=>by rw[aA (aK e hn)]; exact e) (fun b ob u e=>by rw[aA (aK e hn)]; exact e) (fun b ps e=>⟨#[],by rw[aA (aK e hn),e]; simp⟩) (fun m hm=>?_) (fun b u e=>?_) I.bare
 ·obtain⟨ob,es,ep,ho,r⟩:=hm;exact⟨ob,es,ep,k _ ob (fun z=>(A9 _ z).2.1 rfl) ho,r⟩
 ·by_cases hb:b=a
  ·subst hb;rw[ag] at e;cases e;exact new
  ·rw[aA hb] at e;refine(I.cy b u e).tQ (fun c v hc q=>k c v ?_ q) (fun c q=>by rw[aA (aK q hn)]; exact q) fun c xs q=>by rw[aA (aK q hn)]; exact q
   rcases hc with z|z
   ·rw[z]; exact RD b u e
   ·exact RD c _ z
def Sm (K:Frag)(a:Addr):It:=
 ⟨fun i H=> ∃xs x,bw K H a xs/\xs[i]? =some x,fun i H x H'=> ∃p y,H p=none/\x= .ref p/\H'=upd H p (.tup [.int i,y])/\ ∀xs,bw K H a xs->xs[i]? =some y,fun i H=> ∃xs,bw K H a xs/\xs.length<=i⟩
def GG {P:Program}{w:World}{K:Frag}{elts:List Expr}{k1}{pos:Pos}(a e it:Addr)(js:e≠it):Turn P w K (.Tuple elts k1 pos) (Sm K a) [e,it] e (fun i h=>(∃old,IsEnum h e it i old)/\h.IsListIter it a i) where
 mem:=by simp
 obj:=fun i h st b hb=>by
  obtain⟨⟨old,he⟩,hit⟩:=st;have e1:b=e∨b=it:=by simpa using hb
  rcases e1 with rfl|rfl
  ·exact⟨_,he,fun v z=>by have z':Data.fields _ =Data.cell v:=z; cases z'⟩
  ·obtain⟨o,e,c,d⟩:=hit;exact⟨o,e,fun v z=>by rw[d] at z; cases z⟩
 keep:=fun i h h' st k=>by
  obtain⟨⟨old,he⟩,hit⟩:=st;exact⟨⟨old,k e (by simp) _ he⟩,hit.at fun o e=>k it (by simp) o e⟩
 item:=by
  intro X hP hw hK hc i pins s σ H E I hf st hg;subst hP hw hK;obtain⟨⟨old,he⟩,hit⟩:=st;obtain⟨xs,x,hq,hx⟩:=hg;obtain⟨bZ,rv,p,hz⟩:=I.list hq;obtain⟨u,hu,ru⟩:=rv.get hx;refine wpAny_pyNext_enum_item he hit p.isList (x:=u) (by simpa using hu) js fun h' ho W6 hT hsz hk=>⟨_,rfl,?_⟩;refine wpAny_letOwnedTupleGo_enum ho fun h2 W7 QU=>?_;have iX:e < s.heap.objs.size:=aN he;have GH:h2.get? s.heap.objs.size=some {cls:= .type "tuple",data:= .seq #[.int i s.toks,u]}:=(QU.2 _ (qg iX)).trans hT;have hn:H s.heap.objs.size=none:=I.cy.fresh (aI _);have I2:Inv X pins σ (upd H s.heap.objs.size (.tup [.int i,x])) {s with heap:=h2,toks:=s.toks + 1}:=by
   refine I.DN (ch:=[e,it]) (fun b ob hb q=>?_) hf (aI _) ⟨by show 2<=sizeLine; decide,[.int i s.toks,u],.cons ⟨_,rfl⟩ (.cons ru .nil),⟨_,GH,rfl,_,rfl⟩⟩;have tT:b≠e/\b≠it:=⟨fun z=>hb (by simp[z]),fun z=>hb (by simp[z])⟩;exact(QU.2 b tT.1).trans (hk b ob tT.1 tT.2 q)
  refine⟨.ref s.heap.objs.size,_,I2,rfl,⟨_,x,hn,rfl,rfl,fun ys hy=>by rw[I.Be hy hq]; exact hx⟩,⟨⟨u,by simpa using W7⟩,W6.at fun o q=>(QU.2 it js.symm).trans q⟩,fun b hb=>?_⟩;have Sn:=hf b hb;rw[aA]
  ·exact Sn.1
  ·have e1:b=e∨b=it:=by simpa using hb
   rcases e1 with rfl|rfl
   ·exact a8 iX
   ·obtain⟨o,q,_⟩:=hit;exact a8 (aN q)
 done:=by
  intro X hP hw hK hc i pins s σ H E I hf st hg;subst hP hw hK;obtain⟨⟨old,he⟩,hit⟩:=st;obtain⟨xs,hq,hx⟩:=hg;obtain⟨bZ,rv,p,hz⟩:=I.list hq;obtain⟨f0,f1,f2,f3,f4,f5⟩:=hf it (by simp);have hl:=rv.length;exact wpAny_pyNext_enum_end (I.ok.hd hc) he hit p.isList (by simp; lia) fun h' eb=>⟨rfl,I.turned (t':=s.toks) (fun b o hb e=>eb b o hb e) f0 f1 f3 f4 f5⟩
 self:=fun _ _ _ _ _ st h=>by
  obtain⟨⟨old,he⟩,hit⟩:=st;exact wpAny_pyIter_enum he h
def So (K:Frag)(ta:TA):TI:=fun σ H R=>ta σ H fun vs H1=> ∃a,vs=[.ref a]/\(∃xs,bw K H1 a xs)/\R (Sm K a) H1
def qE {X:Cx}{elts:List Expr}{k1}{Ot:Pos}{l:Expr}{ta:TA}{p pos:Pos}(hg:Gl X "enumerate")(hm:X.mg "enumerate"=none)(ha:PA X [l] ta)(hs:starEach [l] X.env=[(false,eval l X.env)]:=by rfl):
  PI X (.Tuple elts k1 Ot) (.Call (.Name "enumerate" p) [l] [] pos) (So X.K ta):=by
 intro pins s σ H R I h;refine Call_ (pB I hg hm boot_enumerate (om (dZ (ha pos pins s σ H _ I h) fun us s1 ⟨vs,H1,I1,r1,q1⟩=>?_) hs rfl));obtain⟨a,e,⟨xs,hq⟩,q⟩:=q1;subst e;obtain⟨u,rfl,ru⟩:=vals1 r1;cases ru;obtain⟨bZ,rv,pl,hz⟩:=I1.list hq;refine call_enumerate_list pl.isList fun h' he hit hsz kp=>?_;have I2:Inv X pins σ H1 {s1 with heap:=h'}:=I1.kept (t':=s1.toks) kp;refine wpAny_pyIter_enum he ⟨s1.heap.objs.size + 1,[s1.heap.objs.size + 1,s1.heap.objs.size],_,_,H1,rfl,I2,GG a _ _ (Nat.succ_ne_self _),⟨⟨_,he⟩,hit⟩,fun b hb=>?_,q⟩;have e1:b=s1.heap.objs.size + 1∨b=s1.heap.objs.size:=by simpa using hb
 have tT:s1.heap.objs.size<=b:=by
  rcases e1 with rfl|rfl
  ·exact dA _
  ·exact aI _
 exact I1.Gk tT (I1.cy.fresh tT)
def mU {K:Frag}{a:Addr}{xs:List V}{g:TG}{tb:TS}{D:Ends}{σ:St}{H:Hp}(Pv:Nat->St->Hp->Prop)(h0:Pv 0 σ H)(hl: ∀i σ H,i<=xs.length->Pv i σ H->bw K H a xs)
  (hs: ∀i x p σ H,xs[i]? =some x->H p=none->Pv i σ H->g (.ref p) σ (upd H p (.tup [.int i,x])) fun σ2 H2=>tb {D with nx:=Pv (i + 1),ct:=Pv (i + 1),bk:=D.nx} σ2 H2) (hd: ∀σ H,Pv xs.length σ H->D.nx σ H):
  ∃W:Nat->Nat->St->Hp->Prop,(∃m,W 0 m σ H)/\ ∀i m σ H,W i m σ H->
   ((Sm K a).stop i H/\D.nx σ H)∨((Sm K a).go i H/\ ∃N:St->Hp->Prop,(∀σ' H',N σ' H'-> ∃m',m' < m/\W (i + 1) m' σ' H')/\ ∀x H',(Sm K a).QQ i H x H'->g x σ H' fun σ2 H2=>tb {D with nx:=N,ct:=N,bk:=D.nx} σ2 H2):=by
 refine⟨fun i m σ H=>m=xs.length - i/\i<=xs.length/\Pv i σ H,⟨xs.length,by simp,Nat.zero_le _,h0⟩,?_⟩;rintro i m σ H ⟨rfl,hi,p⟩;have q:=hl i σ H hi p;by_cases iX:i < xs.length
 ·refine .inr ⟨⟨xs,xs[i],q,by simp[iX]⟩,Pv (i + 1),fun σ' H' p'=>⟨xs.length - (i + 1),by lia,rfl,iX,p'⟩,fun x H' y=>?_⟩;obtain⟨pp,y,h1,e1,e2,h2⟩:=y;subst e1 e2;exact hs i y pp σ _ (h2 xs q) h1 p
 ·have e:i=xs.length:=by lia
  subst e;exact .inl ⟨⟨xs,q,aI _⟩,hd σ H p⟩
structure eW (P:Program)(w:World)(K:Frag)(mg:Str->Option Value)(base:Heap)(x:Str)(k:Nat)(ps:List Str)(sp:Sp):Prop where
 ex: ∃(f:Addr) (fd:FuncData),lW P w K mg base sf k f fd ps sp/\mg x=some (.ref f)/\keepIn K (.ref f)=true/\Binds K fd ps []
section
variable {X:Cx}{x:Str}{k:Nat}{ps:List Str}{sp:Sp}{e:Expr}{es:List Expr}{t:TA}{p pos:Pos}
def Sq (C:eW X.prog X.w X.K X.mg X.base x k ps sp)(hr:eY k X.A)(hg:Gl X x)(ha:PA X (e :: es) t)(qy:(x == ("__debug__":Str))=false:=by decide)
  (he:starEach (e :: es) X.env=(false,eval e X.env) :: starEach es X.env:=by rfl) (iN:(backTo pos (starEach es X.env)).any (·.1)=false:=by rfl):PE X (.Call (.Name x p) (e :: es) [] pos) (uK sp [] E0 t):=by
 obtain⟨f,fd,F,hm,hk,hb⟩:=C.ex;exact ET F hr hg hm hk hb .nil mT ha qy he iN
def Jk (C:eW X.prog X.w X.K X.mg X.base x k ps sp)(hr:eY k X.A)(hg:Gl X x)(qy:(x == ("__debug__":Str))=false:=by decide):PE X (.Call (.Name x p) [] [] pos) (uK sp [] E0 Bh):=by
 obtain⟨f,fd,F,hm,hk,hb⟩:=C.ex;exact IV F hr hg hm hk hb .nil mT qy
end
structure Df (K:Frag)(mg:Str->Option Value)(x:Str)(st:Stmt):Prop where
 ex: ∃(f:Addr) (fd:FuncData),gp K x x st f fd/\mg x=some (.ref f)
def Df.cal {P:Program}{w:World}{K:Frag}{mg:Str->Option Value}{base:Heap}{x:Str}{st:Stmt}{N ps:List Str}{k:Nat}{sp:Sp}(D:Df K mg x st)(S:aW N ps (ax st))
  (hb: ∀(kV doc pm:Value) (an:Option Addr) (cO ct:Value) (us:List Value),us.length=ps.length->bindArgs (fnOf x x (gI st) (dD st) (ax st) .none kV doc pm an cO ct) ⟨us,[]⟩=pure (ps.zip us))
  (len: ∀vs H Q E,sp vs H Q E->vs.length=ps.length)
  (fS: ∀(f:Addr) (cO:Value) (A:Around) (outer:List Env) (s:Shared) (H:Hp) (vs:List V) (Q:VK) (E:XK),eY k (A.deeper (envOfC x (ax st) s.heap.objs.size f cO))->sp vs H Q E->
   ∃t,oN (kQ sf P w K mg base N x (ax st) f cO A outer s H E).Dv (dD st) t/\t {nx:=fun _ H'=>Q .eu H',rt:=Q} (start N vs) H):eW P w K mg base x (k + 1) ps sp:=by
 obtain⟨f,fd,F,hm⟩:=D.ex;exact⟨f,fd,F.ok S len (fS f),hm,F.kp,F.binds hb⟩
def uh {X:Cx}{scope:Scope}(xT: ∀y∈scope.names,y.2≠ .free:=by decide +kernel)(mq: ∀y∈scope.names,y.2≠ .cell:=by decide +kernel)(mQ:scope.kind= .function:=by rfl)(uV: ∀x∈scope.names,x.2= .local->scope.names.lookup x.1=some .local:=by decide +kernel):sh X scope [] [] []:=by
 have e:(relabel scope X.env).names=scope.names:=map_eq_self (l:=scope.names) (fun x hx=>by
  obtain⟨n,k⟩:=x;have:(k == NameKind.free)=false:=by simpa using xT _ hx
  simp[this])
 refine⟨closureFor_none xT,mq,mQ,uV,fun x c h=>by simp at h,fun x h=>?_,.nil⟩;rw[e] at h;rcases h with h|h
 ·exact absurd rfl (mq _ (cg h))
 ·exact absurd rfl (xT _ (cg h))
def jb {X:Cx}{scope:Scope}{x:Str}{c:Addr}{j:Nat}(GD:closureFor scope X.env=pure [(x,c)]:=by rfl)(mq: ∀y∈scope.names,y.2≠ .cell:=by decide +kernel)(mQ:scope.kind= .function:=by rfl)(uV: ∀x∈scope.names,x.2= .local->scope.names.lookup x.1=some .local:=by decide +kernel)
  (hx:X.env.cells.lookup x=some c:=by rfl) (AX:List (Str×NameKind)) (Sr:(relabel scope X.env).names=AX:=by rfl) (Bv: ∀y∈AX,(y.2= .cell∨y.2= .free)->y.1=x:=by decide +kernel) (hN:X.N[j]? =some x:=by rfl) (hk:X.env.kindOf x=some .cell∨X.env.kindOf x=some .free:=by exact Or.inl rfl)
  (Nk:(relabel scope X.env).names.lookup x=some .cell∨(relabel scope X.env).names.lookup x=some .free:=by exact Or.inl rfl):sh X scope [(x,c)] [x] [j]:=by
 refine⟨GD,mq,mQ,uV,fun y c' h=>?_,fun y h=>?_,.cons ⟨hN,hk,Nk⟩ .nil⟩
 ·have h':=cg h;have e:(y,c')=(x,c):=by simpa using h'
  cases e;exact hx
 ·have e:y=x:=by
   rcases h with h|h
   ·rw[Sr] at h;exact Bv _ (cg h) (.inl rfl)
   ·rw[Sr] at h;exact Bv _ (cg h) (.inr rfl)
  subst e;exact⟨c,by simp[List.lookup_cons]⟩
section
variable {X:Cx}
def Ss (i j:Int):Prop:=Builtin.Int.intBits i<=2 ^ 20/\Builtin.Int.intBits j<=2 ^ 20
def LR:oA X (binaryOp .Mult) (rI Ss fun i j=> .int (i * j)):=RP fun _ _ _ _ _ _ _ hc q=>mul_int q (.of_bits hc.1 hc.2)
end
section
variable {prog:Program}{w:World}{A:Around}{E:Value->Shared->Prop}{s:Shared}
end
section
variable {X:Cx}
def DO:hZ X (.builtin "isinstance") (fun xs H Q=> ∃x c t b,xs=[x,.ty c]/\mD X.K H x t/\PySem.W.kitOne X.K t (.type c)=some b/\Q (.bl b) H):=by
 intro pins s σ H xs us Q I r h;obtain⟨x,c,t,b,rfl,ty,e,q⟩:=h;obtain⟨u,u2,rfl,r1,r2⟩:=vals2 r;obtain rfl:u2=Value.type c:=r2;exact Gr I r1 ty e fun tk=>⟨.bl b,H,I.tok _,rfl,q⟩
def E3: ∀{cs:List String} {us:List Value},Vals (cs.map V.ty) us->us=cs.map Value.type
 |[],_,r=>by rw[wA] at r; cases r; rfl
 |c :: cs,_,r=>by
  rw[bM] at r;cases r with
  |cons r1 r2=>
   have e1:_ =Value.type c:=r1;rw[e1,E3 r2,bM]
def DP {pins:List (Addr×Obj)}{σ:St}{H:Hp}{s:Shared}{A:Around}{E:Value->Shared->Prop}{Q:Value->Shared->Prop}{x:V}{u t:Value}{tp:Addr}{cs:List String}{b:Bool}(I:Inv X pins σ H s)(rx:RelV x u)(ty:mD X.K H x t)
  (hp:H tp=some (.tup (cs.map V.ty))) (e:PySem.W.kitAny X.K t (cs.map Value.type)=some b) (h: ∀tk,Q (.bool b) {s with toks:=tk}):
  wpAny (model X.prog X.w) A (call (.builtin "isinstance") [u,.ref tp]) Q E s:=by
 obtain⟨_,bZ,rv,⟨cl,dd,dt,sl⟩,hg,hc,n,hd⟩:=(show dC X.prog X.w H s.heap tp (.tup (cs.map V.ty)) from I.cy tp _ hp);have ei:=E3 rv;subst ei;simp only at hc hd;subst hc hd;cases ty with
 |eu=>cases(show u=Value.none from rx); exact en PySem.W.kitx_none I.gR True.intro hg e (fun z=>nomatch z) h
 |bl y=>cases(show u=Value.bool y from rx); exact en PySem.W.kitx_bool I.gR True.intro hg e (fun z=>nomatch z) h
 |int i=>obtain⟨t,q⟩:=(show ∃t,u=Value.int i t from rx); cases q; exact en PySem.W.kitx_int I.gR True.intro hg e (fun z=>nomatch z) h
 |str y=>obtain⟨t,q⟩:=(show ∃t,u=Value.str y t from rx); cases q; exact en PySem.W.kitx_str I.gR True.intro hg e (fun z=>nomatch z) h
 |Lm y=>obtain⟨t,q⟩:=(show ∃t,u=Value.float y t from rx); cases q; exact en PySem.W.kitx_float I.gR True.intro hg e (fun z=>nomatch z) h
 | @lst a xs ea=>
  cases(show u=Value.ref a from rx);obtain⟨_,_,n,_,h1⟩:=(show dC X.prog X.w H s.heap a (.lst xs) from I.cy a _ ea);exact en rP I.gR ⟨_,h1,rfl⟩ hg e (fun z=>nomatch z) h
 | @Dc a ob xs ea=>
  cases(show u=Value.ref a from rx);obtain⟨_,_,_,n,_,h1⟩:=(show dC X.prog X.w H s.heap a (.Dc ob (.lst xs)) from I.cy a _ ea);exact en rP I.gR ⟨_,h1,rfl⟩ hg e (fun z=>nomatch z) h
 | @tup a xs ea=>
  cases(show u=Value.ref a from rx);obtain⟨_,_,_,p⟩:=(show dC X.prog X.w H s.heap a (.tup xs) from I.cy a _ ea);obtain⟨o,h1,h2,_⟩:=p;exact en PySem.W.kitx_tuple I.gR ⟨o,h1,h2⟩ hg e (fun z=>nomatch z) h
 | @dK a bg ea=>
  cases(show u=Value.ref a from rx);obtain⟨_,_,vs,_,p⟩:=(show dC X.prog X.w H s.heap a (.dK bg) from I.cy a _ ea);obtain⟨o,es,ep,h1,h2,_⟩:=p;exact en rQ I.gR ⟨o,h1,h2.1⟩ hg e (fun z=>nomatch z) h
 | @dT a bg ea=>
  cases(show u=Value.ref a from rx);obtain⟨_,_,xs,_,o,es,ep,h1,h2,_⟩:=(show dC X.prog X.w H s.heap a (.dT bg) from I.cy a _ ea);exact en rQ I.gR ⟨o,h1,h2.1⟩ hg e (fun z=>nomatch z) h
 | @ins a C dx fs ea cl ha hn kq hm=>
  cases(show u=Value.ref a from rx);obtain⟨mA,O,_⟩:=qw I.cy ea;obtain⟨od,J,_⟩:=O.look;exact en (PySem.W.kitx_own (cl.get _) cl.hd ha hn kq hm) I.gR J hg e (fun z=>nomatch z) h
def DQ:hZ X (.builtin "isinstance") (fun xs H Q=> ∃(x:V) (tp:Addr) (cs:List String) (t:Value) (b:Bool),xs=[x,.ref tp]/\H tp=some (.tup (cs.map V.ty))/\mD X.K H x t/\PySem.W.kitAny X.K t (cs.map Value.type)=some b/\Q (.bl b) H):=by
 intro pins s σ H xs us Q I r h;obtain⟨x,tp,cs,t,b,rfl,hp,ty,e,q⟩:=h;obtain⟨u,u2,rfl,r1,r2⟩:=vals2 r;obtain rfl:u2=Value.ref tp:=r2;exact DP I r1 ty hp e fun tk=>⟨.bl b,H,I.tok _,rfl,q⟩
def OO (K:Frag):R2:=fun x y H Q=> ∃a b xs,x= .ref a/\y= .ref b/\bw K H a xs/\bw K H b []/\Q (.bl (!xs.isEmpty)) H
def Jl {n:Nat}(hu:X.A.units + n < cLine):oA X (compareOp .NotEq) (OO X.K):=by
 intro pins s σ H x y v u Q I rx ry h;obtain⟨a,b,xs,rfl,rfl,ha,hb,q⟩:=h;cases rx;cases ry;obtain⟨bZ,r1,p1,_⟩:=I.list ha;obtain⟨Gv,r2,p2,_⟩:=I.list hb;have e2:Gv=[]:=r2.zero;subst e2;cases xs with
 |nil=>
  have e1:bZ=[]:=r1.zero;subst e1;exact SeqAt.RcNeAt.lists (e:=fun _=>true) p1.isList p2.isList rfl (by lia) (fun j h1 _=>absurd h1 (by simp)) X.prog X.w X.xe _ ⟨.bl false,H,I,rfl,q⟩
 |cons z zs=>
  have l1:=r1.length;exact SeqAt.RcNeAt.lists_lengths p1.isList p2.isList (by simp only[List.size_toArray,← l1]; simp) (by lia) X.prog X.w X.xe _ ⟨.bl true,H,I,rfl,q⟩
def W8 (K:Frag):R2:=fun x y H Q=> ∃p xs i v,x= .ref p/\y= .int i/\(bw K H p xs∨cz K H p xs)/\se xs i=some v/\Q v H
def Nm:I9 X (W8 X.K):=by
 intro value slice pins s σ H x y v u Q I rx ry h hs;obtain⟨p,xs,i,z,e1,e2,hq|hq,he,q⟩:=h
 ·exact yY value slice pins s σ H x y v u Q I rx ry ⟨p,xs,i,z,e1,e2,hq,he,q⟩ hs
 ·exact DE value slice pins s σ H x y v u Q I rx ry ⟨p,xs,i,z,e1,e2,hq,he,q⟩ hs
end
def aE.new {H:Hp}{p:Addr}{o:HO}(h:H p=none):aE H (upd H p o):=fun b u e=>by rw[aA (aK e h)]; exact e
def W9 (t u:TS):TS:=fun D σ H=> ∃M:St->Hp->Prop,t {D with nx:=M} σ H/\ ∀σ' H',M σ' H'->u D σ' H'
def jc {X:Cx}{st:Stmt}{rest:List Stmt}{t u:TS}(h1:PS X st t)(h2:oN X rest u):oN X (st :: rest) (W9 t u):=by
 intro pins s σ H D I ⟨M,h,hM⟩;refine wpAny_execs_cons (dZ (h1 pins s σ H {D with nx:=M} I h) fun f s1 q=>?_);cases f with
 |next=>
  obtain⟨σ',H',I',q⟩:=q;exact h2 pins s1 σ' H' D I' (hM _ _ q)
 |ret v=>exact q
 |brk=>exact q
 |cont=>exact q
section
variable {X:Cx}{K:Frag}
def lx (h:X.K=K):I9 X (Ow K):=by subst h; exact yY
def kE (h:X.K=K):I9 X (Ox K):=by subst h; exact DE
end
inductive Dt where
 |eu|bl (b:Bool)|int (i:Int)|str (x:Str)|tup (ds:List Dt)|lst (ds:List Dt)
mutual
def Rp (H:Hp):Dt->V->Prop
 | .eu,v=>v= .eu
 | .bl b,v=>v= .bl b
 | .int i,v=>v= .int i
 | .str x,v=>v= .str x
 | .tup ds,v=> ∃a xs,v= .ref a/\H a=some (.tup xs)/\ie H ds xs
 | .lst ds,v=> ∃a xs,v= .ref a/\H a=some (.lst xs)/\ie H ds xs
def ie (H:Hp):List Dt->List V->Prop
 |[],vs=>vs=[]
 |d :: ds,vs=> ∃v r,vs=v :: r/\Rp H d v/\ie H ds r
end
mutual
def Dt.size:Dt->Nat
 | .tup ds=>1 + Dt.fT ds
 | .lst ds=>1 + Dt.fT ds
 | .eu=>1
 | .bl _=>1
 | .int _=>1
 | .str _=>1
def Dt.fT:List Dt->Nat
 |[]=>0
 |d :: ds=>d.size + Dt.fT ds
end
def Dt.size_pos (d:Dt):1<=d.size:=by cases d <;> simp[Dt.size]
def Dt.iB (a b:List Dt):Dt.fT (a ++ b)=Dt.fT a + Dt.fT b:=by
 induction a with
 |nil=>simp[Dt.fT]
 |cons d ds ih=>simp[Dt.fT,ih]; lia
def Dt.qF (a:List Dt):a.length<=Dt.fT a:=by
 induction a with
 |nil=>simp[Dt.fT]
 |cons d ds ih=>
  have:=d.size_pos;simp[Dt.fT]; lia
def uW {H:Hp}{v:V}:Rp H .eu v↔v= .eu:=by unfold Rp; exact Iff.rfl
def qG {H:Hp}{v:V}{b:Bool}:Rp H (.bl b) v↔v= .bl b:=by unfold Rp; exact Iff.rfl
def dj {H:Hp}{v:V}{i:Int}:Rp H (.int i) v↔v= .int i:=by unfold Rp; exact Iff.rfl
def fG {H:Hp}{v:V}{x:Str}:Rp H (.str x) v↔v= .str x:=by unfold Rp; exact Iff.rfl
def jQ {H:Hp}{v:V}{ds:List Dt}:Rp H (.tup ds) v↔ ∃a xs,v= .ref a/\H a=some (.tup xs)/\ie H ds xs:=by unfold Rp; exact Iff.rfl
def jR {H:Hp}{v:V}{ds:List Dt}:Rp H (.lst ds) v↔ ∃a xs,v= .ref a/\H a=some (.lst xs)/\ie H ds xs:=by unfold Rp; exact Iff.rfl
def cI {H:Hp}{vs:List V}:ie H [] vs↔vs=[]:=by unfold ie; exact Iff.rfl
def bI {H:Hp}{d:Dt}{ds:List Dt}{vs:List V}:ie H (d :: ds) vs↔ ∃v r,vs=v :: r/\Rp H d v/\ie H ds r:=by
 conv=>lhs; unfold ie
mutual
def Rp.mono {H H':Hp}(s:aE H H'): ∀(d:Dt) {v:V},Rp H d v->Rp H' d v
 | .eu,_,h=>uW.mpr (uW.mp h)
 | .bl _,_,h=>qG.mpr (qG.mp h)
 | .int _,_,h=>dj.mpr (dj.mp h)
 | .str _,_,h=>fG.mpr (fG.mp h)
 | .tup ds,_,h=>by
  obtain⟨a,xs,e,h1,h2⟩:=jQ.mp h;exact jQ.mpr ⟨a,xs,e,s _ _ h1,ie.mono s ds h2⟩
 | .lst ds,_,h=>by
  obtain⟨a,xs,e,h1,h2⟩:=jR.mp h;exact jR.mpr ⟨a,xs,e,s _ _ h1,ie.mono s ds h2⟩
def ie.mono {H H':Hp}(s:aE H H'): ∀(ds:List Dt) {vs:List V},ie H ds vs->ie H' ds vs
 |[],_,h=>cI.mpr (cI.mp h)
 |d :: ds,_,h=>by
  obtain⟨v,r,e,h1,h2⟩:=bI.mp h;exact bI.mpr ⟨v,r,e,Rp.mono s d h1,ie.mono s ds h2⟩
end
def ie.length {H:Hp}: ∀{ds:List Dt} {vs:List V},ie H ds vs->ds.length=vs.length
 |[],_,h=>by rw[cI.mp h]; rfl
 |d :: ds,_,h=>by
  obtain⟨v,r,e,_,h2⟩:=bI.mp h;rw[e,bH,bH,ie.length h2]
def ie.get {H:Hp}: ∀{ds:List Dt} {vs:List V} {i:Nat} {d:Dt},ie H ds vs->ds[i]? =some d-> ∃v,vs[i]? =some v/\Rp H d v
 |[],_,_,_,_,e=>by simp at e
 |d :: ds,_,0,_,h,e=>by
  obtain⟨v,r,rfl,h1,_⟩:=bI.mp h;simp at e; subst e;exact⟨v,rfl,h1⟩
 |d :: ds,_,i + 1,_,h,e=>by
  obtain⟨v,r,rfl,_,h2⟩:=bI.mp h;obtain⟨u,h3,h4⟩:=ie.get (i:=i) h2 (by simpa using e);exact⟨u,by simpa using h3,h4⟩
def ie.append {H:Hp}: ∀{ds es:List Dt} {vs us:List V},ie H ds vs->ie H es us->ie H (ds ++ es) (vs ++ us)
 |[],_,_,_,h,h'=>by rw[cI.mp h]; exact h'
 |d :: ds,_,_,_,h,h'=>by
  obtain⟨v,r,rfl,h1,h2⟩:=bI.mp h;exact bI.mpr ⟨v,r ++ _,rfl,h1,ie.append h2 h'⟩
def ie.one {H:Hp}{d:Dt}{v:V}(h:Rp H d v):ie H [d] [v]:=bI.mpr ⟨v,[],rfl,h,cI.mpr rfl⟩
def ie.ints {H:Hp}: ∀(ns:List Int),ie H (ns.map Dt.int) (ns.map V.int)
 |[]=>cI.mpr rfl
 |n :: ns=>bI.mpr ⟨_,_,rfl,dj.mpr rfl,ie.ints ns⟩
def iC {H:Hp}{a:Addr}{xs:List V}{ds:List Dt}(h:H a=some (.lst xs))(r:ie H ds xs):Rp H (.lst ds) (.ref a):=jR.mpr ⟨a,xs,rfl,h,r⟩
def eO {H:Hp}{a:Addr}{xs:List V}{ds:List Dt}(h:H a=some (.tup xs))(r:ie H ds xs):Rp H (.tup ds) (.ref a):=jQ.mpr ⟨a,xs,rfl,h,r⟩
def OP:Dt->String
 | .eu=>"NoneType"| .bl _=>"bool"| .int _=>"int"| .str _=>"str"| .tup _=>"tuple"| .lst _=>"list"
def Rp.ty {K:Frag}{H:Hp}{d:Dt}{v:V}(h:Rp H d v):mD K H v (.type (OP d)):=by
 cases d with
 |eu=>rw[uW.mp h]; exact .eu
 |bl b=>rw[qG.mp h]; exact .bl b
 |int i=>rw[dj.mp h]; exact .int i
 |str x=>rw[fG.mp h]; exact .str x
 |tup ds=>obtain⟨a,xs,e,h1,_⟩:=jQ.mp h; rw[e]; exact .tup h1
 |lst ds=>obtain⟨a,xs,e,h1,_⟩:=jR.mp h; rw[e]; exact .lst h1
def Xa:Dt->Bool| .lst _=>true|_=>false
def Xb:Dt->Bool| .tup _=>true|_=>false
def isLT:Dt->Bool| .lst _=>true| .tup _=>true|_=>false
def Vm:Dt->Bool| .str _=>true|_=>false
def isB:Dt->Bool| .bl _=>true|_=>false
def ZT:Dt->Bool| .int _=>true| .bl _=>true|_=>false
def isW:Dt->Bool| .int _=>true|_=>false
def E4 {K:Frag}(d:Dt):PySem.W.kitOne K (.type (OP d)) (.type "list")=some (Xa d):=by cases d <;> (first|rfl|decide +kernel)
def Jm {K:Frag}(d:Dt):PySem.W.kitOne K (.type (OP d)) (.type "tuple")=some (Xb d):=by cases d <;> (first|rfl|decide +kernel)
def yi {K:Frag}(d:Dt):PySem.W.kitOne K (.type (OP d)) (.type "str")=some (Vm d):=by cases d <;> (first|rfl|decide +kernel)
def Nn {K:Frag}(d:Dt):PySem.W.kitOne K (.type (OP d)) (.type "bool")=some (isB d):=by cases d <;> (first|rfl|decide +kernel)
def Su {K:Frag}(d:Dt):PySem.W.kitOne K (.type (OP d)) (.type "int")=some (ZT d):=by cases d <;> (first|rfl|decide +kernel)
def OQ {K:Frag}(d:Dt):PySem.W.kitAny K (.type (OP d)) [.type "list",.type "tuple"]=some (isLT d):=by
 unfold PySem.W.kitAny;rw[E4];cases d <;> (first|rfl|(show PySem.W.kitAny K _ [.type "tuple"]=_; unfold PySem.W.kitAny; rw[Jm]; rfl))
def sR {α β:Type}{F:α->β->Prop}: ∀{l₁:List α} {l₂:List β} {y:β},Paired F l₁ l₂->l₂[l₂.length - 1]? =some y-> ∃l d,l₁=l ++ [d]/\F d y/\Paired F l l₂.dropLast
 |_,_,_,.nil,e=>by simp at e
 |a :: l₁,b :: l₂,y,.cons r t,e=>by
  cases t with
  |nil=>
   simp at e; subst e;exact⟨[],a,rfl,r,.nil⟩
  |cons r' t'=>
   rename_i a' b' m₁ m₂;have e':(b' :: m₂)[(b' :: m₂).length - 1]? =some y:=by
    have h1:(b :: b' :: m₂).length - 1=((b' :: m₂).length - 1) + 1:=by simp
    rw[h1] at e;simpa using e
   obtain⟨l,d,e1,h1,h2⟩:=sR (.cons r' t') e';refine⟨a :: l,d,by rw[e1]; rfl,h1,?_⟩;rw[List.dropLast_cons_of_ne_nil (by simp)];exact .cons r h2
def lZ (H H':Hp)(d:Dt)(v:V):Prop:= ∃t u1 u2,v= .ref t/\H' t=some (.tup [u1,u2])/\Rp H d u1/\Rp H d u2
def lZ.mono {H H' H2:Hp}{d:Dt}{v:V}(h:lZ H H' d v)(k: ∀b xs,H' b=some (.tup xs)->H2 b=some (.tup xs)):lZ H H2 d v:=by
 obtain⟨t,u1,u2,e,h1,h2⟩:=h;exact⟨t,u1,u2,e,k _ _ h1,h2⟩
def Jn {H:Hp}{p:Addr}{o:HO}(h:H p=none): ∀b xs,H b=some (.tup xs)->upd H p o b=some (.tup xs):=fun b xs e=>aE.new h b _ e
def dE {H:Hp}{p:Addr}{o:HO}{ys:List V}(h:H p=some (.lst ys)): ∀b xs,H b=some (.tup xs)->upd H p o b=some (.tup xs):=fun b xs e=>by
 rw[aA (mm e h (by intro z; cases z))]; exact e
def aE.cV {H0 H:Hp}{p:Addr}{o:HO}(s:aE H0 H)(h:H0 p=none):aE H0 (upd H p o):=fun b u e=>by
 rw[aA (aK e h)]; exact s b u e
def kids:Dt->List Dt
 | .tup ds=>ds
 | .lst ds=>ds
 |_=>[]
def E5 {H:Hp}{d:Dt}{v:V}(h:Rp H d v)(hd:isLT d=true): ∃a xs,v= .ref a/\(∀(K:Frag) (H':Hp),aE H H'->bw K H' a xs∨cz K H' a xs)/\ie H (kids d) xs:=by
 cases d with
 |tup ds=>
  obtain⟨a,xs,e,h1,h2⟩:=jQ.mp h;exact⟨a,xs,e,fun K H' s=> .inr (cz.of (s _ _ h1)),h2⟩
 |lst ds=>
  obtain⟨a,xs,e,h1,h2⟩:=jR.mp h;exact⟨a,xs,e,fun K H' s=> .inl (bw.of (s _ _ h1)),h2⟩
 |_=>cases hd
def GI {d:Dt}(hd:isLT d=true):d.size=1 + Dt.fT (kids d):=by
 cases d with
 |tup ds=>simp[Dt.size,kids]
 |lst ds=>simp[Dt.size,kids]
 |_=>cases hd
mutual
def Dt.plain:Dt->Bool
 | .int _=>true
 | .str _=>true
 | .tup ds=>Dt.pH ds
 | .lst ds=>Dt.pH ds
 | .eu=>false
 | .bl _=>false
def Dt.pH:List Dt->Bool
 |[]=>true
 |d :: ds=>d.plain && Dt.pH ds
end
def Dt.pI {ds:List Dt}:Dt.pH ds=true↔ ∀d∈ds,d.plain=true:=by
 induction ds with
 |nil=>simp[Dt.pH]
 |cons d ds ih=>simp[Dt.pH,ih]
def DR {d:Dt}(h:d.plain=true): ∀c∈kids d,c.plain=true:=by
 cases d with
 |tup ds=>exact Dt.pI.mp (by simpa[Dt.plain,kids] using h)
 |lst ds=>exact Dt.pI.mp (by simpa[Dt.plain,kids] using h)
 |_=>intro c hc; cases hc
def tU {ds:List Dt}{i:Nat}{d:Dt}(h:ds[i]? =some d):ds.take (i + 1)=ds.take i ++ [d]:=by rw[F9,h]; rfl
def wM (ds:List Dt)(i:Nat):Dt.fT (ds.take i)<=Dt.fT ds:=by
 have:=Dt.iB (ds.take i) (ds.drop i);rw[List.take_append_drop] at this;lia
def jd {n:Nat}(h:n<=1000000):n < sizeLine:=qh h (by rw[eX]; decide)
open PySem.W
def jS {α:Type}(key:Nat->Int)(n:Nat)(Po:α->Prop):KasT α->Prop
 | .ret a=>Po a
 | .ask i j k=>i < n/\j < n/\jS key n Po (k (decide (key i < key j)))
def gZ {α:Type}{key:Nat->Int}{n:Nat}{Po ZU:α->Prop}(h: ∀a,Po a->ZU a): ∀(t:KasT α),jS key n Po t->jS key n ZU t
 | .ret a,q=>h a q
 | .ask i j k,q=>⟨q.1,q.2.1,gZ h _ q.2.2⟩
def i7 {α β:Type}{key:Nat->Int}{n:Nat}{Po:β->Prop}{f:α->KasT β}: ∀(t:KasT α),jS key n (fun a=>jS key n Po (f a)) t->jS key n Po (t.bind f)
 | .ret a,q=>q
 | .ask i j k,q=>⟨q.1,q.2.1,i7 _ q.2.2⟩
def uX {α:Type}{key:Nat->Int}{n:Nat}{Po:α->Prop}{cmp:Nat->Nat->(Bool->Shared->Prop)->Shared->Prop}{s:Shared}{Q:α->Shared->Prop}
  (hc: ∀i j (C:Bool->Shared->Prop),i < n->j < n->C (decide (key i < key j)) s->cmp i j C s) (hq: ∀a,Po a->Q a s): ∀(t:KasT α),jS key n Po t->t.kasWp cmp Q s
 | .ret a,q=>hq a q
 | .ask i j k,q=>hc i j _ q.1 q.2.1 (uX hc hq _ q.2.2)
def kf (key:Nat->Int)(p:Array Nat)(i:Nat):Int:=key (p.getD i 0)
def qH (n:Nat)(p:Array Nat):Prop:=p.Perm (List.toArray (List.range n))
def qH.size {n:Nat}{p:Array Nat}(h:qH n p):p.size=n:=by
 have:=Array.Perm.size_eq h;simpa using this
def qH.lt {n:Nat}{p:Array Nat}(h:qH n p)(h0:0 < n)(i:Nat):p.getD i 0 < n:=by
 by_cases hi:i < p.size
 ·have e:p.getD i 0=p[i]:=by simp[Array.getD,hi]
  rw[e];have hm:p[i]∈p:=Array.getElem_mem hi;have:=(Array.Perm.mem_iff h).mp hm;simpa using this
 ·have e:p.getD i 0=0:=by simp[Array.getD,hi]
  rw[e]; exact h0
def qI {p q:Array Nat}{i j:Nat}(h:p[i]? =q[j]?):p.getD i 0=q.getD j 0:=by
 rw[Li,Li,h]
def pJ {key:Nat->Int}{p:Array Nat}{i j:Nat}(hj:j<=p.size)(a:Nat):kf key (kas_rev p i j) a=if i<=a/\a < j then kf key p (i + j - 1 - a) else kf key p a:=by
 have:=getElem?_mirror_all (xs:=p) (i:=i) hj a;by_cases h:i<=a/\a < j
 ·rw[aZ h] at this ⊢;exact cY key (qI this)
 ·rw[aO h] at this ⊢;exact cY key (qI this)
def qH.rev {n:Nat}{p:Array Nat}(h:qH n p)(i j:Nat):qH n (kas_rev p i j):=(mirror_perm p i j _).trans h
def Jo {key:Nat->Int}{p:Array Nat}{src d:Nat}(hs:src < p.size)(hd:d<=src)(k:Nat):kf key (bubble p src d) k=if k=src - d then kf key p src else if src - d < k/\k<=src then kf key p (k - 1) else kf key p k:=by
 have:=getElem?_bubble (xs:=p) hs d hd k;by_cases h:k=src - d
 ·rw[aZ h] at this ⊢;exact cY key (qI this)
 ·rw[aO h] at this ⊢;by_cases h2:src - d < k/\k<=src
  ·rw[aZ h2] at this ⊢;exact cY key (qI this)
  ·rw[aO h2] at this ⊢;exact cY key (qI this)
def ly (key:Nat->Int)(p:Array Nat)(m:Nat):Prop:= ∀a b,a<=b->b < m->kf key p a<=kf key p b
def Jp (key:Nat->Int)(p:Array Nat)(m:Nat):Prop:= ∀a b,a<=b->b < m->kf key p b<=kf key p a
section
variable {key:Nat->Int}{n:Nat}
def Jq {p:Array Nat}(hp:qH n p)(h0:0 < n): ∀(f m:Nat),1<=m->ly key p m->jS key n (fun r=>m<=r/\r<=m + f/\ly key p r/\(r=m + f∨kf key p r < kf key p (r - 1))) (kas_asc p f m)
 |0,m,h1,hs=>⟨aI _,aI _,hs,.inl rfl⟩
 |f + 1,m,h1,hs=>by
  unfold kas_asc;refine⟨hp.lt h0 _,hp.lt h0 _,?_⟩;by_cases c:key (p.getD m 0) < key (p.getD (m - 1) 0)
  ·rw[decide_eq_true c]; dsimp only; rw[if_pos rfl];exact⟨aI _,by lia,hs,.inr c⟩
  ·rw[decide_eq_false c]; dsimp only; rw[if_neg Bool.false_ne_true];have LQ:ly key p (m + 1):=by
    intro a b Ir hb;by_cases LS:b < m
    ·exact hs a b Ir LS
    ·have e:b=m:=by lia
     subst e;by_cases OR:a=b
     ·rw[OR]; exact fk _
     ·have h2:=hs a (b - 1) (by lia) (by lia);have h3:kf key p (b - 1)<=kf key p b:=by unfold kf; lia
      lia
   refine gZ (fun r ⟨q1,q2,q3,q4⟩=>⟨by lia,by lia,q3,?_⟩) _ (Jq hp h0 f (m + 1) (by lia) LQ);rcases q4 with q4|q4
   ·exact .inl (by lia)
   ·exact .inr q4
def zd (h0:0 < n): ∀(f:Nat) (p:Array Nat) (m q:Nat),qH n p->m + f<=n->q + 1<=m->Jp key p m->(∀a,m - (q + 1)<=a->a < m->kf key p a=kf key p (m - 1))->
  jS key n (fun r=>qH n r.1/\1<=r.2.1/\r.2.1<=n/\r.2.2 + 1<=r.2.1/\Jp key r.1 r.2.1/\ ∀a,r.2.1 - (r.2.2 + 1)<=a->a < r.2.1->kf key r.1 a=kf key r.1 (r.2.1 - 1)) (kas_desc f p m q)
 |0,p,m,q,hp,hm,hq,hs,he=>⟨hp,(by show 1<=m; lia),(by show m<=n; lia),hq,hs,he⟩
 |f + 1,p,m,q,hp,hm,hq,hs,he=>by
  unfold kas_desc;have dn: ∀{r:Array Nat},(∀a,a < m->kf key r a=kf key p a)->kf key r m=kf key p m->kf key p m<=kf key p (m - 1)->Jp key r (m + 1):=by
   intro r hr Sv c a b Ir hb;by_cases LS:b < m
   ·rw[hr a (by lia),hr b LS]; exact hs a b Ir LS
   ·have e:b=m:=by lia
    subst e;by_cases OR:a=b
    ·rw[OR]; exact fk _
    ·rw[Sv,hr a (by lia)];have h2:=hs a (b - 1) (by lia) (by lia);lia
  refine⟨hp.lt h0 _,hp.lt h0 _,?_⟩;by_cases c:key (p.getD m 0) < key (p.getD (m - 1) 0)
  ·rw[decide_eq_true c]; dsimp only; rw[if_pos rfl];have c':kf key p m<=kf key p (m - 1):=by unfold kf; lia
   have last: ∀{r:Array Nat} (a:Nat),m + 1 - (0 + 1)<=a->a < m + 1->kf key r a=kf key r (m + 1 - 1):=fun{r} a h1 h2=>by
    have e:a=m + 1 - 1:=by lia
    rw[e]
   by_cases ZV:q > 0
   ·rw[aZ ZV];have hz:m<=p.size:=by rw[hp.size]; lia
    have hr: ∀a,a < m->kf key (kas_rev p (m - (q + 1)) m) a=kf key p a:=fun a ha=>by
     rw[pJ hz];split
     ·rename_i h;rw[he a h.1 h.2,he _ (by lia) (by lia)]
     ·rfl
    have Sv:kf key (kas_rev p (m - (q + 1)) m) m=kf key p m:=by rw[pJ hz,aO (by lia)]
    exact zd h0 f _ (m + 1) 0 (hp.rev _ _) (by lia) (by lia) (dn hr Sv c') last
   ·rw[aO ZV];exact zd h0 f p (m + 1) 0 hp (by lia) (by lia) (dn (fun _ _=>rfl) rfl c') last
  ·rw[decide_eq_false c]; dsimp only; rw[if_neg Bool.false_ne_true];refine⟨hp.lt h0 _,hp.lt h0 _,?_⟩;by_cases d:key (p.getD (m - 1) 0) < key (p.getD m 0)
   ·rw[decide_eq_true d]; dsimp only; rw[if_pos rfl];exact⟨hp,(by show 1<=m; lia),(by show m<=n; lia),hq,hs,he⟩
   ·rw[decide_eq_false d]; dsimp only; rw[if_neg Bool.false_ne_true];have e0:kf key p m=kf key p (m - 1):=by unfold kf; lia
    refine zd h0 f p (m + 1) (q + 1) hp (by lia) (by lia) (dn (fun _ _=>rfl) rfl (by lia)) (fun a h1 h2=>?_);have e1:m + 1 - 1=m:=by lia
    rw[e1];by_cases OR:a=m
    ·rw[OR]
    ·rw[e0]; exact he a (by lia) (by lia)
def E6 (h0:0 < n){p:Array Nat}{m:Nat}(hp:qH n p)(h1:1<=m)(hm:m<=n)(hs:Jp key p m):jS key n (fun r=>qH n r.2/\1<=r.1/\r.1<=n/\ly key r.2 r.1) (kas_tail3 m n p):=by
 unfold kas_tail3;have hz:m<=p.size:=by rw[hp.size]; lia
 have hu:ly key (kas_rev p 0 m) m:=by
  intro a b Ir hb;rw[pJ hz,pJ hz,aZ ⟨bp _,by lia⟩,aZ ⟨bp _,hb⟩];exact hs _ _ (by lia) (by lia)
 refine i7 _ (gZ (fun r ⟨q1,q2,q3,_⟩=>?_) _ (Jq (hp.rev 0 m) h0 (n - m) m h1 hu));exact⟨hp.rev 0 m,by lia,by lia,q3⟩
def uY (h0:0 < n){p:Array Nat}{m:Nat}(hp:qH n p)(hm:m + 1<=n)(hs:Jp key p (m + 1)):jS key n (fun r=>qH n r.2/\1<=r.1/\r.1<=n/\ly key r.2 r.1) (kas_descPart m n p):=by
 unfold kas_descPart;refine i7 _ (gZ (fun r ⟨q1,q2,q3,q4,q5,q6⟩=>?_) _ (zd h0 (n - (m + 1)) p (m + 1) 0 hp (by lia) (by lia) hs fun a h1 h2=>by
  have e:a=m + 1 - 1:=by lia
  rw[e]))
 by_cases hq:r.2.2 > 0
 ·rw[aZ hq];have hz:r.2.1<=r.1.size:=by rw[q1.size]; lia
  refine E6 h0 (q1.rev _ _) q2 q3 fun a b Ir hb=>?_;have hr: ∀a,a < r.2.1->kf key (kas_rev r.1 (r.2.1 - (r.2.2 + 1)) r.2.1) a=kf key r.1 a:=fun a ha=>by
   rw[pJ hz];split
   ·rename_i h;rw[q6 a h.1 h.2,q6 _ (by lia) (by lia)]
   ·rfl
  rw[hr a (by lia),hr b hb];exact q5 a b Ir hb
 ·rw[aO hq];exact E6 h0 q1 q2 q3 q5
def LU (h0:0 < n){p:Array Nat}(hp:qH n p):jS key n (fun r=>qH n r.2/\1<=r.1/\r.1<=n/\ly key r.2 r.1) (kas_count n p):=by
 unfold kas_count;have hs1:ly key p 1:=fun a b Ir hb=>by
  have e:a=b:=by lia
  rw[e]; exact fk _
 refine i7 _ (gZ (fun m ⟨q1,q2,q3,q4⟩=>?_) _ (Jq hp h0 (n - 1) 1 (aI _) hs1));by_cases Sw:(m == n)=true
 ·rw[aZ Sw];exact⟨hp,q1,by lia,q3⟩
 ·rw[aO Sw];have js:m≠n:=fun z=>Sw (by simp[z]);have iX:kf key p m < kf key p (m - 1):=by
   rcases q4 with q4|q4
   ·exact absurd q4 (by lia)
   ·exact q4
  by_cases Vn:m > 1
  ·rw[aZ Vn];refine⟨hp.lt h0 _,hp.lt h0 _,?_⟩;by_cases c:key (p.getD 0 0) < key (p.getD (m - 1) 0)
   ·rw[decide_eq_true c]; dsimp only; rw[if_pos rfl];exact⟨hp,q1,by lia,q3⟩
   ·rw[decide_eq_false c]; dsimp only; rw[if_neg Bool.false_ne_true];have hz:m<=p.size:=by rw[hp.size]; lia
    have heq: ∀a,a < m->kf key p a=kf key p (m - 1):=fun a ha=>by
     have h1:=q3 0 a (bp _) ha;have h2:=q3 a (m - 1) (by lia) (by lia);have h3:kf key p (m - 1)<=kf key p 0:=by unfold kf; lia
     lia
    have hr: ∀a,a < m->kf key (kas_rev p 0 m) a=kf key p (m - 1):=fun a ha=>by
     rw[pJ hz,aZ ⟨bp _,ha⟩];exact heq _ (by lia)
    refine uY h0 (hp.rev _ _) (by lia) fun a b Ir hb=>?_;by_cases LS:b < m
    ·rw[hr a (by lia),hr b LS]; exact fk _
    ·have e:b=m:=by lia
     subst e;by_cases OR:a=b
     ·rw[OR]; exact fk _
     ·rw[hr a (by lia),pJ hz,aO (by lia)];lia
  ·rw[aO Vn];have e:m=1:=by lia
   subst e;refine uY h0 hp (by lia) fun a b Ir hb=>?_;by_cases Xc:a=b
   ·rw[Xc]; exact fk _
   ·have e1:a=0:=by lia
    have e2:b=1:=by lia
    subst e1 e2;have e3:(1:Nat) - 1=0:=rfl;rw[e3] at iX;lia
def ze (h0:0 < n){p:Array Nat}{k:Nat}(hp:qH n p)(hs:ly key p k): ∀(f l r:Nat),l<=r->r<=k->r - l<=f->(∀i,i < l->kf key p i<=kf key p k)->(∀i,r<=i->i < k->kf key p k < kf key p i)->
  jS key n (fun m=>m<=k/\(∀i,i < m->kf key p i<=kf key p k)/\ ∀i,m<=i->i < k->kf key p k < kf key p i) (kas_place p k f l r)
 |0,l,r,hlr,Vo,hf,h1,h2=>by
  have e:l=r:=by lia
  subst e;exact⟨Vo,h1,h2⟩
 |f + 1,l,r,hlr,Vo,hf,h1,h2=>by
  unfold kas_place;by_cases OS:l≥r
  ·rw[aZ OS];have e:l=r:=by lia
   subst e;exact⟨Vo,h1,h2⟩
  ·rw[aO OS];refine⟨hp.lt h0 _,hp.lt h0 _,?_⟩;by_cases c:key (p.getD k 0) < key (p.getD ((l + r) / 2) 0)
   ·rw[decide_eq_true c]; dsimp only; rw[if_pos rfl];refine ze h0 hp hs f l ((l + r) / 2) (by lia) (by lia) (by lia) h1 fun i hi Xd=>?_;have:=hs ((l + r) / 2) i hi Xd;have c':kf key p k < kf key p ((l + r) / 2):=c;lia
   ·rw[decide_eq_false c]; dsimp only; rw[if_neg Bool.false_ne_true];refine ze h0 hp hs f ((l + r) / 2 + 1) r (by lia) Vo (by lia) (fun i hi=>?_) h2;have:=hs i ((l + r) / 2) (by lia) (by lia);have c': ¬ kf key p k < kf key p ((l + r) / 2):=c;lia
def Np (h0:0 < n): ∀(f:Nat) (p:Array Nat) (k:Nat),qH n p->k + f=n->ly key p k->jS key n (fun r=>qH n r/\ly key r n) (kas_bin f p k)
 |0,p,k,hp,hk,hs=>⟨hp,by rw[← hk]; exact hs⟩
 |f + 1,p,k,hp,hk,hs=>by
  unfold kas_bin;refine i7 _ (gZ (fun l ⟨q1,q2,q3⟩=>?_) _ (ze h0 hp hs k 0 k (bp _) (aI _) (by lia) (fun i hi=>absurd hi (gG _)) fun i h1 h2=>by lia));have hz:k < p.size:=by rw[hp.size]; lia
  refine Np h0 f _ (k + 1) ((bubble_perm p k _).trans hp) (by lia) fun a b Ir hb=>?_;rw[Jo hz (by lia),Jo hz (by lia)];have el:k - (k - l)=l:=by lia
  rw[el];by_cases ha:a=l
  ·rw[aZ ha];by_cases tT:b=l
   ·rw[aZ tT]; exact fk _
   ·rw[aO tT,aZ ⟨by lia,by lia⟩];have:=q3 (b - 1) (by lia) (by lia);lia
  ·rw[aO ha];by_cases ZW:l < a/\a<=k
   ·rw[aZ ZW,aO (by lia),aZ ⟨by lia,by lia⟩];exact hs _ _ (by lia) (by lia)
   ·rw[aO ZW];have Xe:a < l:=by lia
    by_cases tT:b=l
    ·rw[aZ tT]; exact q2 a Xe
    ·rw[aO tT];by_cases Sn:l < b/\b<=k
     ·rw[aZ Sn];exact hs _ _ (by lia) (by lia)
     ·rw[aO Sn];exact hs _ _ Ir (by lia)
def Jr (h0:0 < n):jS key n (fun r=>qH n r/\ly key r n) (kas_sort n):=by
 unfold kas_sort;refine i7 _ (gZ (fun r ⟨q1,q2,q3,q4⟩=>?_) _ (LU h0 (Lj _)));by_cases h:r.1 < n
 ·rw[aZ h];have e:max r.1 1=r.1:=by lia
  rw[e];exact Np h0 _ _ _ q1 (by lia) q4
 ·rw[aO h];have e:r.1=n:=by lia
  rw[e] at q4;exact⟨q1,q4⟩
end
section
variable {prog:Program}{w:World}{A:Around}{E:Value->Shared->Prop}{s:Shared}
def zf {a:Addr}{vs:List Value}{n:Nat}{P:PySem.Fin->Shared->Prop}{key:Nat->Int}{κ:SortKind}(ho:s.heap.get? a=some (seqObj "list" vs.toArray n))(Dd:vs.length < 64)
  (hk:2<=vs.length-> ∀(s':Shared) (Q:SortKind->Shared->Prop),(∀b o,b≠a->s.heap.get? b=some o->s'.heap.get? b=some o)->Q κ s'->wpAny (model prog w) A (keyKind' vs.toArray) Q (fun _ _=>False) s')
  (hc: ∀(s':Shared) (i j:Nat) (C:Bool->Shared->Prop),(∀b o,b≠a->s.heap.get? b=some o->s'.heap.get? b=some o)->i < vs.length->j < vs.length->C (decide (key i < key j)) s'->
   wpAny (model prog w) A (keyLt' κ (vs.getD i Value.none) (vs.getD j Value.none)) C (fun _ _=>False) s')
  (h: ∀p:Array Nat,qH vs.length p->ly key p vs.length->P (.done (.ret .none)) {s with heap:=sortedHeap s.heap a vs (p.toList.map fun i=>vs.getD i Value.none).toArray}):
  wpAny (model prog w) A (Builtin.«list.sort» ⟨[.ref a],[]⟩) P E s:=by
 rw[list_sort_plain];have ha:a < s.heap.objs.size:=aN ho;have hl:sizeLine=16777216:=eX;refine az (listItems_at ho rfl ?_);refine az (wx ho rfl ?_ (by rw[bC]; lia) (bp _));obtain⟨e1,GJ⟩: ∃e1,(s.heap.update a (Obj.mapSeq fun _=>(#[]:Array Value))).get? a=some (seqObj "list" #[] e1):=⟨_,Na ho (fun _=> #[])⟩;refine az (seqEpoch_at GJ rfl ?_);refine az (wpAny_newTuple ?_ (by show vs.length<=_; lia));refine az (Lk ?_ (bp _));refine iy ?_;have Vp:(((s.heap.update a (Obj.mapSeq fun _=>(#[]:Array Value))).push (seqObj "tuple" vs.toArray 0)).push (seqObj "list" #[] 0)).get? a=some (seqObj "list" #[] e1):=by
  rw[mM _ _ _ (by rw[size_push',px]; exact a8 (iV ha)),mM _ _ _ (by rw[px]; exact a8 ha)];exact GJ
 show wpAny (model prog w) A _ P E {s with heap:=((s.heap.update a (Obj.mapSeq fun _=>(#[]:Array Value))).push (seqObj "tuple" vs.toArray 0)).push (seqObj "list" #[] 0)};dsimp only;have keep: ∀b o,b≠a->s.heap.get? b=some o->(((s.heap.update a (Obj.mapSeq fun _=>(#[]:Array Value))).push (seqObj "tuple" vs.toArray 0)).push (seqObj "list" #[] 0)).get? b=some o:=fun b o hb e=>
  ay _ (ay _ ((mK s.heap _ (wy hb)).trans e))
 have hsz:vs.toArray.size=vs.length:=by simp
 by_cases h2:vs.toArray.size < 2
 ·rw[aZ h2,aZ h2];refine az (bF ?_);rw[StateT.run_pure];refine az (bF ?_);dsimp only;have DS:(arrOf (SortSt.mk' general' (vs.toArray.zip vs.toArray) #[] 7 none)).map (·.2)=((List.toArray (List.range vs.length)).toList.map fun i=>vs.getD i Value.none).toArray:=by
   show(vs.toArray.zip vs.toArray).map (·.2)=_;apply Array.toList_inj.mp;apply List.ext_getElem?;intro i;simp only[Array.toList_map,Array.toList_zip,List.getElem?_map,List.getElem?_zip_eq_some,List.getElem?_range];by_cases hi:i < vs.length
   ·simp[hi,List.getElem?_zip_eq_some,List.zip]
   ·simp[hi]
  refine az (seqEpoch_at Vp rfl ?_);rw[DS];refine wpAny_bind (listUpdate_at Vp rfl ?_ (Nat.zero_le _) (by simp; lia));simp only[bne_self_eq_false,Bool.false_eq_true,if_false];refine bF (h _ (Lj _) ?_);intro i j ZX hj;have:i=j:=by lia
  subst this; exact fk _
 ·rw[aO h2,aO h2];have Sx:2<=vs.length:=by lia
  refine az (ck (hk Sx _ (fun κ' s'=>κ'=κ/\s'={s with heap:=((s.heap.update a (Obj.mapSeq fun _=>(#[]:Array Value))).push (seqObj "tuple" vs.toArray 0)).push (seqObj "list" #[] 0)}) keep ⟨rfl,rfl⟩) (fun κ' s' K3=>?_) fun _ _ x=>x.elim);obtain⟨rfl,rfl⟩:=K3;refine az (ck (kat_run (Q:=fun AW s'=>s'={s with heap:=((s.heap.update a (Obj.mapSeq fun _=>(#[]:Array Value))).push (seqObj "tuple" vs.toArray 0)).push (seqObj "list" #[] 0)}/\ ∃p:Array Nat,p.size=vs.length/\arrOf AW=p.map (kas_item (vs.toArray.zip vs.toArray))/\failedOf AW=none/\qH vs.length p/\ly key p vs.length)
   (G:=fun p s'=>s'={s with heap:=((s.heap.update a (Obj.mapSeq fun _=>(#[]:Array Value))).push (seqObj "tuple" vs.toArray 0)).push (seqObj "list" #[] 0)}/\qH vs.length p/\ly key p vs.length)
   (κ:=κ') rfl Sx Dd (fun p' AW s' a1 a2 a3 a4=>⟨a4.1,p',a1,a2,a3,a4.2⟩) (uX (fun i j C hi hj q=>hc _ i j C keep hi hj q) (fun p q=>⟨rfl,q⟩) _ (Jr (by lia)))) ?_ fun _ _ e=>e)
  rintro⟨⟨⟩,AW⟩ s' ⟨rfl,p,hp,Xf,hf,q1,q2⟩;dsimp only;have DS:=kat_snds (ks:=vs) (vs:=vs) rfl Xf;rw[DS];refine az (seqEpoch_at Vp rfl ?_);refine az (wx Vp rfl ?_ (bp _) (by rw[bC,ae,ow,hp]; lia));rw[hf];simp only[bne_self_eq_false,Bool.false_eq_true,if_false];exact bF (h p q1 q2)
def GK {l:Addr}{vs:List Value}{Q:Value->Shared->Prop}{key:Nat->Int}{κ:SortKind}(hl:s.heap.IsList l vs.toArray)(Dd:vs.length < 64)
  (hk:2<=vs.length-> ∀(s':Shared) (Q:SortKind->Shared->Prop),(∀b o,s.heap.get? b=some o->s'.heap.get? b=some o)->Q κ s'->wpAny (model prog w) A.in1.in1 (keyKind' vs.toArray) Q (fun _ _=>False) s')
  (hc: ∀(s':Shared) (i j:Nat) (C:Bool->Shared->Prop),(∀b o,s.heap.get? b=some o->s'.heap.get? b=some o)->i < vs.length->j < vs.length->C (decide (key i < key j)) s'->
   wpAny (model prog w) A.in1.in1 (keyLt' κ (vs.getD i Value.none) (vs.getD j Value.none)) C (fun _ _=>False) s')
  (h: ∀p:Array Nat,qH vs.length p->ly key p vs.length->Q (.ref (s.heap.objs.size + 1)) {s with heap:=sortedAll s.heap vs (p.toList.map fun i=>vs.getD i Value.none).toArray}):
  wpAny (model prog w) A (call (.builtin "sorted") [.ref l]) Q E s:=by
 have Vq:sizeLine=16777216:=eX;refine Calls.call_function_entry kind_sorted plain_sorted entry_sorted (args_sorted1 _) ?_;unfold Builtin.«sorted»;refine az (m:=checkCount "sorted" 1 1 _) (bF ?_);refine az (collect_list hl ?_ (by lia));refine az (Lk ?_ (by show vs.length<=_; lia));have hsz:((s.heap.push (seqObj "list" #[] 0)).update s.heap.objs.size (Obj.mapSeq (· ++ vs.toArray))).objs.size=s.heap.objs.size + 1:=by
  rw[px,size_push']
 have Ob:(((s.heap.push (seqObj "list" #[] 0)).update s.heap.objs.size (Obj.mapSeq (· ++ vs.toArray))).push (seqObj "list" vs.toArray 0)).get? (s.heap.objs.size + 1)=some (seqObj "list" vs.toArray 0):=by
  rw[← hsz]; exact bO _ rfl
 have keep: ∀b o,s.heap.get? b=some o->b≠s.heap.objs.size + 1/\(((s.heap.push (seqObj "list" #[] 0)).update s.heap.objs.size (Obj.mapSeq (· ++ vs.toArray))).push (seqObj "list" vs.toArray 0)).get? b=some o:=fun b o q=>by
  have iX:b < s.heap.objs.size:=aN q;refine⟨a8 (iV iX),?_⟩;rw[mM _ _ _ (by rw[hsz]; exact a8 (iV iX)),IB _ _ _ _ (a8 iX),mM _ _ _ (a8 iX)];exact q
 show wpAny _ _ _ _ _ {s with heap:=((s.heap.push (seqObj "list" #[] 0)).update s.heap.objs.size (Obj.mapSeq (· ++ vs.toArray))).push (seqObj "list" vs.toArray 0)};rw[hsz];refine az (iy (wpAny_call_entry slot_list_sort ⟨_,Ob,rfl⟩ entry_list_sort (zf (key:=key) (κ:=κ) Ob Dd
  (fun h2 s' Q' kp q=>hk h2 s' Q' (fun b o e=>kp b o (keep b o e).1 (keep b o e).2) q) (fun s' i j C kp hi hj q=>hc s' i j C (fun b o e=>kp b o (keep b o e).1 (keep b o e).2) hi hj q) fun p a1 a2=>⟨_,rfl,?_⟩) (args_list_sort _)))
 exact bF ⟨_,rfl,h p a1 a2⟩
def mV {b:Bool}{Q:Bool->Shared->Prop}: ∀{ts us:List Int} {vs ws:List Value} (i:Nat),IntsAre vs ts->IntsAre ws us->Q (HT.lexLt ts us) s->
  KatLex prog w A b (decide (ts.length < us.length)) Q (vs.zip ws) i s
 |_,_,_,_,i,.nil,.nil,q=>q
 |_,_,_,_,i,.nil,.cons _ _ _,q=>by
  show Q (decide _) s;rw[decide_eq_true (by simp)]; exact q
 |_,_,_,_,i,.cons _ _ _,.nil,q=>by
  show Q (decide _) s;rw[decide_eq_false (by simp)]; exact q
 |_,_,_,_,i,.cons x t r,.cons y u r',q=>by
  refine kat_cons ?_;have he:=SeqAt.EqAt.int_int (A:=A) (s:=s) x t y u;refine he prog w _ _ ?_;rw[HT.lX] at q;by_cases e:x=y
  ·rw[aZ e] at q;have eb:(x == y)=true:=by simp[e]
   rw[eb];refine kat_yes ?_;have hd: ∀(a b:Nat),decide (a + 1 < b + 1)=decide (a < b):=fun a b=>by
    rw[Bool.eq_iff_iff]; simp
   rw[bH,bH,hd];exact mV (i + 1) r r' q
  ·rw[aO e] at q;have eb:(x == y)=false:=by simpa using e
   rw[eb];refine kat_no ?_;cases hb:(b && i == 0) with
   |true=>exact oneLt_int q
   |false=>exact kat_one _ _ (PyProof.Rows.lt_int q)
end
def gr (H:Hp)(ts:List (List Int))(xs:List V):Prop:=Paired (fun(t:List Int) v=> ∃p,v= .ref p/\H p=some (.tup (t.map V.int))) ts xs
def gr.mono {H H':Hp}{ts:List (List Int)}{xs:List V}(h:gr H ts xs)(k: ∀b xs,H b=some (.tup xs)->H' b=some (.tup xs)):gr H' ts xs:=
 Paired.iA h fun _ _ ⟨p,e,q⟩=>⟨p,e,k _ _ q⟩
def gr.get {H:Hp}{ts:List (List Int)}{xs:List V}(h:gr H ts xs){i:Nat}(hi:i < ts.length): ∃p,xs.getD i .eu= .ref p/\H p=some (.tup ((ts.getD i []).map V.int)):=by
 have g:ts[i]? =some ts[i]:=af hi;obtain⟨v,hv,p,e,q⟩:=bB h g;refine⟨p,?_,?_⟩
 ·rw[aj,hv,e]; rfl
 ·rw[aj,g]; exact q
def jG {xs:List V}{us:List Value}(r:Vals xs us)(i:Nat):RelV (xs.getD i .eu) (us.getD i .none):=by
 by_cases hi:i < xs.length
 ·have g:xs[i]? =some xs[i]:=af hi;obtain⟨u,h1,h2⟩:=r.get g;rw[aj,aj,g,h1];exact h2
 ·have h1:xs[i]? =none:=wD (by lia);rw[aj,aj,h1,r.none_of h1];rfl
def sj {xs:List V}{us:List Value}(r:Vals xs us): ∀l:List Nat,Vals (l.map fun i=>xs.getD i .eu) (l.map fun i=>us.getD i .none)
 |[]=> .nil
 |i :: l=> .cons (jG r i) (sj r l)
def yj {H:Hp}{ts:List (List Int)}{xs:List V}(h:gr H ts xs): ∀l:List Nat,(∀i∈l,i < ts.length)->gr H (l.map fun i=>ts.getD i []) (l.map fun i=>xs.getD i .eu)
 |[],_=> .nil
 |i :: l,hl=> .cons (by
   obtain⟨p,e,q⟩:=h.get (hl i bc);exact⟨p,e,q⟩) (yj h l fun j hj=>hl j (aS _ hj))
def range_getD {α:Type}(ts:List α)(d:α):(List.range ts.length).map (fun i=>ts.getD i d)=ts:=by
 apply List.ext_getElem?;intro i;rw[aB];by_cases hi:i < ts.length
 ·rw[List.getElem?_range hi,ou,aj,af hi]; rfl
 ·rw[List.getElem?_eq_none (by simpa using hi),List.getElem?_eq_none (by lia)]; rfl
def qH.list {n:Nat}{p:Array Nat}(h:qH n p):p.toList.Perm (List.range n):=by
 have:=Array.perm_iff_toList_perm.mp h;simpa using this
def sS {p:Array Nat}{n:Nat}{key:Nat->Int}(hp:p.size=n)(h:ly key p n):p.toList.Pairwise (fun i j=>key i<=key j):=by
 rw[List.pairwise_iff_getElem];intro i j hi hj ZX;have wN:i < p.size:=by simpa using hi
 have Vr:j < p.size:=by simpa using hj
 have:=h i j (by lia) (by lia);unfold kf at this;have e1:p.getD i 0=p.toList[i]:=by simp[Array.getD,wN]
 have e2:p.getD j 0=p.toList[j]:=by simp[Array.getD,Vr]
 rw[e1,e2] at this;exact this
section
variable {X:Cx}
def Inv.tupI {pins:List (Addr×Obj)}{σ:St}{H:Hp}{s:Shared}(I:Inv X pins σ H s){p:Addr}{t:List Int}(h:H p=some (.tup (t.map V.int))):
  ∃(o:Obj) (bZ:List Value) (n:Nat),s.heap.get? p=some o/\o.cls= .type "tuple"/\o.data= .seq bZ.toArray n/\IntsAre bZ t:=by
 obtain⟨_,bZ,rv,o,ho,hc,n,hd⟩:=(show dC X.prog X.w H s.heap p (.tup (t.map V.int)) from I.cy p _ h);exact⟨o,bZ,n,ho,hc,hd,intsAre_of rv⟩
def sk {pins:List (Addr×Obj)}{σ:St}{H:Hp}{s:Shared}(I:Inv X pins σ H s){h':Heap}(kp: ∀b o,s.heap.get? b=some o->h'.get? b=some o): ∀{ts:List (List Int)} {xs:List V} {us:List Value},gr H ts xs->Vals xs us->(∀t∈ts,t≠[])->
  ∃fs:List Value,KatTups h' us fs/\fs.length=us.length/\ ∀v∈fs,∃n t,v= .int n t
 |[],_,us,.nil,r,_=>by
  have e:us=[]:=r.zero;subst e;exact⟨[],trivial,rfl,fun v hv=>by cases hv⟩
 |t :: ts,_,_,.cons ⟨p,e,q⟩ rest,.cons r1 r2,js=>by
  subst e;obtain⟨fs,h1,h2,h3⟩:=sk I kp rest r2 fun t ht=>js t (aS _ ht);obtain⟨o,bZ,n,ho,hc,hd,hi⟩:=I.tupI q;have ht:t≠[]:=js t bc;cases hi with
  |nil=>exact absurd rfl ht
  |cons z tk wN=>
   cases r1;refine⟨.int z tk :: fs,⟨⟨p,o,_,n,rfl,kp _ _ ho,hc,hd,by simp⟩,h1⟩,by rw[List.length_cons,List.length_cons,h2],fun v hv=>?_⟩;rcases aw.mp hv with rfl|hv
   ·exact⟨z,tk,rfl⟩
   ·exact h3 v hv
def OT (K:Frag):List V->Hp->VK->Prop:=fun vs H Q=> ∃a xs ts,∃key:List Int->Int,vs=[V.ref a]/\bw K H a xs/\xs.length < 64/\gr H ts xs/\(∀t∈ts,t≠[])/\(∀t∈ts,∀u∈ts,HT.lexLt t u=decide (key t < key u))/\
 ∀D ys us,H D=none->gr H us ys->us.Perm ts->us.Pairwise (fun t u=>key t<=key u)->Q (V.ref D) (upd H D (.lst ys))
def qJ:hZ X (.builtin "sorted") (OT X.K):=by
 intro pins s σ H xs us Q I r h;obtain⟨a,xs,ts,key,rfl,hq,Dd,hT,js,IP,q⟩:=h;obtain⟨u,rfl,ru⟩:=vals1 r;cases ru;obtain⟨bZ,rv,pl,hz⟩:=I.list hq;have hl:=rv.length;have iX:ts.length=xs.length:=hT.length;refine GK (κ:=tuples' true) (key:=fun i=>key (ts.getD i [])) pl.isList (by lia) (fun h2 s' Q' kp q'=>?_) (fun s' i j C kp hi hj q'=>?_) fun p hp hup=>?_
 ·obtain⟨fs,f1,f2,f3⟩:=sk I kp hT rv js;refine kat_kind (T:= .type "int") f1 (by lia) (fun v hv=>?_) rfl q';obtain⟨n,t,rfl⟩:=f3 v hv;exact Looks.of_pure rfl
 ·obtain⟨p1,e1,g1⟩:=hT.get (i:=i) (by lia);obtain⟨p2,e2,g2⟩:=hT.get (i:=j) (by lia);have w1:=jG rv i;have w2:=jG rv j;rw[e1] at w1;rw[e2] at w2;have w1':bZ.getD i Value.none= .ref p1:=w1;have w2':bZ.getD j Value.none= .ref p2:=w2;rw[w1',w2'];obtain⟨o1,Xg,n1,GJ,hc1,lz,Sy⟩:=I.tupI g1;obtain⟨o2,Gv,n2,QW,LV,hd2,Sz⟩:=I.tupI g2;refine kat_lt (kp _ _ GJ) lz (kp _ _ QW) hd2 ?_;have l1:=Sy.length;have l2:=Sz.length;have m1:ts.getD i []∈ts:=by rw[aj,af (show i < ts.length by lia)]; exact bN _
  have m2:ts.getD j []∈ts:=by rw[aj,af (show j < ts.length by lia)]; exact bN _
  have k:=mV (prog:=X.prog) (w:=X.w) (A:=X.A.in1.in1) (b:=true) (Q:=C) (s:=s') 0 Sy Sz (by rw[IP _ m1 _ m2]; exact q');rw[bC,bC,l1,l2];exact k
 ·have mF:=hp.size;have hD:H (s.heap.objs.size + 1)=none:=I.cy.fresh (dA _);obtain⟨e,he⟩:=sortedAll_at s.heap bZ (p.toList.map fun i=>bZ.getD i Value.none).toArray;refine⟨.ref (s.heap.objs.size + 1),_,I.laid (t':=s.toks) (a:=s.heap.objs.size + 1) (o:= .lst (p.toList.map fun i=>xs.getD i .eu)) (fun b o q=>sortedAll_old q) (dA _) ⟨?_,_,e,sj rv p.toList,he⟩,rfl,q _ _ (p.toList.map fun i=>ts.getD i []) hD ?_ ?_ ?_⟩
  ·rw[ae,ow,mF];exact a0 (iL hl.symm) hz
  ·refine yj hT p.toList fun i hi=>?_;have:=(hp.list.mem_iff).mp hi;rw[cS] at this;lia
  ·have e1:=hp.list.map (fun i=>ts.getD i []);rw[← hl,← iX,range_getD] at e1;exact e1
  ·rw[rR];exact sS mF hup
def sT (ns:List Int): ∀n,n<=ns.length->preSum (fun i=>ns.getD i 0) n=(ns.take n).sum
 |0,_=>by simp[preSum]
 |n + 1,h=>by
  rw[preSum,sT ns n (by lia),AV,ox,af (by lia),aj,af (by lia)];simp
def SA (K:Frag):List V->Hp->VK->Prop:=fun xs H Q=> ∃(p:Addr) (ns:List Int),xs=[V.ref p]/\bw K H p (ns.map V.int)/\Q (.int ns.sum) H
def lA (hc:X.calm=true):hZ X (.builtin "sum") (SA X.K):=by
 intro pins s σ H xs us Q I r h;obtain⟨p,ns,rfl,hq,q⟩:=h;obtain⟨u,rfl,ru⟩:=vals1 r;cases ru;obtain⟨bZ,rv,pl,hz⟩:=I.list hq;have hI:IntsAre bZ ns:=intsAre_of rv;have hl:=hI.length;have hh:=I.ok.hd hc;have hT:s.heap.IsList p bZ.toArray:=pl.isList;have hp:p < s.heap.objs.size:=by
  obtain⟨o,ho,_⟩:=hT;exact aN ho
 have Xh:p≠s.heap.objs.size:=a8 hp;refine call_sum_walkG (wpAny_pyIter_list hT ?_);refine⟨_,[_,p],[_],_,_,_,fun i=>ns.getD i 0,rfl,Walks.list (A:=X.A.in1) hh _ p Xh bZ.toArray,
  ⟨⟨_,Heap.get?_push_size _ rfl,rfl,rfl⟩,hT.push _⟩,fun c hc=>?_,(fun i v hv=>IntsAre.int_at hI i v (by simpa using hv)),fun h' tk t' hk=>?_⟩
 ·show c < (s.heap.push _).objs.size;rw[nW];rcases aw.mp hc with rfl|hc
  ·exact fW _
  ·rcases aw.mp hc with rfl|hc
   ·exact iV hp
   ·cases hc
 ·refine⟨.int _,H,I.kept (t':=tk) (fun b o e=>hk b o (fun hm=>?_) (ay _ e)),⟨_,rfl⟩,?_⟩
  ·rw[ao] at hm;exact absurd hm (a8 (aN e))
  ·rw[bC,hl,sT ns ns.length (aI _),aY];exact q
def yk (a:Array Nat): ∀(n:Nat) (acc:Array Nat),((List.replicate n a).foldl (· ++ ·) acc).size=acc.size + n * a.size
 |0,acc=>by simp
 |n + 1,acc=>by
  rw[dg,eV,yk a n,Array.size_append,wB];lia
def SD:R2:=fun x y H Q=> ∃(z:Str) (n:Int),x= .str z/\y= .int n/\z.length=1/\0<=n/\n<=1000/\ ∀z':Str,z'.length<=1000->Q (.str z') H
def zh:oA X (binaryOp .Mult) SD:=by
 intro pins s σ H x y v u Q I rx ry h;obtain⟨z,n,rfl,rfl,hz,h0,h1,q⟩:=h;obtain⟨t,rfl⟩:=rx;obtain⟨t',rfl⟩:=ry;refine P.mul_str ?_ (fun _ _=>?_) (fun _ _=>?_) ?_
 ·rw[ba (by lia),ba (by lia)]; rfl
 ·rw[hz];intro LW;have:(2 ^ 63 - 1:Int) / n≥1:=by
   have hn:0 < n:=by
    by_cases c:0 < n
    ·exact c
    ·have e:n=0:=by lia
     subst e;simp at LW;lia
   exact Int.le_ediv_of_mul_le hn (by lia)
  lia
 ·rw[hz];unfold Builtin.Str.tooLong;simp;rw[eX];lia
 ·by_cases c:n < 1
  ·rw[aZ c];exact⟨by decide,⟨.str Str.empty,H,I.tok _,⟨_,rfl⟩,q _ (by show 0<=1000; lia)⟩⟩
  ·rw[aO c];by_cases c2:(n == 1 || z.length == 0)=true
   ·rw[aZ c2];exact⟨.str z,H,I,⟨_,rfl⟩,q _ (by lia)⟩
   ·rw[aO c2];have hsz:((List.replicate n.toNat z.cps).foldl (· ++ ·) #[]).size<=1000:=by
     rw[yk];have:z.cps.size=1:=hz;rw[this];simp;lia
    refine⟨?_,⟨.str _,H,I.tok _,⟨_,rfl⟩,q _ hsz⟩⟩;show _<=_;refine a0 hsz ?_;rw[eX]; lia
end
inductive bD where
 |dW (aC:Str) (day AY dN:Int)
 |qK (aC:Str) (day dN:Int)
 |note (b day dN:Int)
 |set (c b dN:Int)
 |fL (aC:Str)
 |g6 (n:Int)
 |ask (aU:Bool) (aC:Str) (day:Int)
 |iD (aC:Str) (day:Int) (de:List Int)
structure Rw where
 aC:Str
 a:Int
 b:Int
 c:Int
 d:Int
instance:Inhabited Rw:=⟨⟨"",0,0,0,0⟩⟩
structure Bk where
 aF:List Rw
 credits:List Rw
 made:List (Nat×Nat×Int)
def Bk.new:Bk:=⟨[],[],[]⟩
def Bk.cr (S:Bk)(c:Nat):Rw:=S.credits.getD c default
def Bk.bl (S:Bk)(b:Nat):Rw:=S.aF.getD b default
def Bk.dO (S:Bk)(c b:Nat):Bool:=decide ((S.cr c).aC=(S.bl b).aC) && (decide ((S.cr c).c= -1) || decide ((S.cr c).c=(b:Int)))
def Rw.less (r:Rw)(x:Int):Rw:={r with d:=r.d - x}
def Bk.put (S:Bk)(c b:Nat)(x:Int):Bk:=⟨S.aF.set b ((S.bl b).less x),S.credits.set c ((S.cr c).less x),S.made ++ [(c,b,x)]⟩
def gJ (a b:Int):Int:=if b < a then b else a
def tV (x:Int×Nat):Int:=x.1 * 1000 + (x.2:Int)
def ins (x:Int×Nat):List (Int×Nat)->List (Int×Nat)
 |[]=>[x]
 |y :: l=>if tV x<=tV y then x :: y :: l else y :: ins x l
def eB:List (Int×Nat)->List (Int×Nat)
 |[]=>[]
 |x :: l=>ins x (eB l)
def Bw (x y:Int×Nat)(l:List (Int×Nat)):ins x (y :: l)=if tV x<=tV y then x :: y :: l else y :: ins x l:=rfl
def uZ (x:Int×Nat): ∀l,(ins x l).Perm (x :: l)
 |[]=>NZ _
 |y :: l=>by
  unfold ins;split
  ·exact NZ _
  ·exact(List.Perm.cons y (uZ x l)).trans (List.Perm.swap x y l)
def cL: ∀l,(eB l).Perm l
 |[]=>NZ _
 |x :: l=>(uZ x (eB l)).trans (List.Perm.cons x (cL l))
def Js (x:Int×Nat): ∀l,l.Pairwise (fun a b=>tV a<=tV b)->(ins x l).Pairwise (fun a b=>tV a<=tV b)
 |[],_=>List.pairwise_singleton _ _
 |y :: l,h=>by
  rw[fh] at h;unfold ins;split
  ·rename_i c;rw[fh];refine⟨fun z hz=>?_,fh.mpr h⟩;rcases aw.mp hz with rfl|hz
   ·exact c
   ·exact lS c (h.1 z hz)
  ·rename_i c;rw[fh];refine⟨fun z hz=>?_,Js x l h.2⟩;rcases aw.mp ((uZ x l).mem_iff.mp hz) with rfl|hz
   ·lia
   ·exact h.1 z hz
def u0: ∀l,(eB l).Pairwise (fun a b=>tV a<=tV b)
 |[]=>List.Pairwise.nil
 |x :: l=>Js x _ (u0 l)
def GL (x:Int×Nat): ∀l,(∀y∈l,tV x<=tV y)->ins x l=x :: l
 |[],_=>rfl
 |y :: l,h=>by
  unfold ins;rw[aZ (h y bc)]
def u5 (p:Int×Nat->Bool)(x:Int×Nat): ∀l,l.Pairwise (fun a b=>tV a<=tV b)->(ins x l).filter p=if p x then ins x (l.filter p) else l.filter p
 |[],_=>by
  unfold ins;cases h:p x <;> simp[h,ins]
 |y :: l,hs=>by
  rw[fh] at hs;rw[Bw];by_cases c:tV x<=tV y
  ·rw[aZ c];cases h:p x
   ·rw[List.filter_cons_of_neg (by simp[h])];simp
   ·rw[bS h];simp only[if_true];rw[GL x];intro z hz;rcases aw.mp (dJ.mp hz).1 with rfl|hz'
    ·exact c
    ·exact lS c (hs.1 z hz')
  ·rw[aO c];have ih:=u5 p x l hs.2;cases hy:p y
   ·rw[List.filter_cons_of_neg (by simp[hy]),ih,List.filter_cons_of_neg (by simp[hy])]
   ·rw[bS hy,ih,bS hy];cases h:p x
    ·simp
    ·simp only[if_true];rw[Bw,aO c]
def l0 (p:Int×Nat->Bool): ∀l,eB (l.filter p)=(eB l).filter p
 |[]=>rfl
 |x :: l=>by
  show _ =(ins x (eB l)).filter p;rw[u5 p x _ (u0 l),← l0 p l];cases h:p x
  ·rw[List.filter_cons_of_neg (by simp[h])];simp
  ·rw[bS h];simp[eB]
def gg (rows:List Rw)(aC:Str)(key:Rw->Int):List (Int×Nat):=((List.range rows.length).filter fun k=>decide ((rows.getD k default).aC=aC)).map fun k=>(key (rows.getD k default),k)
def inOrder (rows:List Rw)(aC:Str)(key:Rw->Int):List Nat:=(eB (gg rows aC key)).map (·.2)
def u6 (rows:List Rw)(aC:Str)(key:Rw->Int):List (Int×Nat):=
 ((List.range rows.length).filter fun k=>decide ((rows.getD k default).aC=aC) && decide (0 < (rows.getD k default).d)).map fun k=>(key (rows.getD k default),k)
def inTurn (rows:List Rw)(aC:Str)(key:Rw->Int):List Nat:=(eB (u6 rows aC key)).map (·.2)
def Bx (rows:List Rw)(aC:Str)(key:Rw->Int):u6 rows aC key=(gg rows aC key).filter fun x=>decide (0 < (rows.getD x.2 default).d):=by
 unfold u6 gg;rw[Ll,iw]
 congr 1
 apply iW;intro k _;simp[Bool.and_comm]
def sU {α β:Type}(f:α->β)(p:β->Bool)(l:List α):(l.filter fun x=>p (f x)).map f=(l.map f).filter p:=by
 rw[Ll]; rfl
def ig (rows:List Rw)(aC:Str)(key:Rw->Int):inTurn rows aC key=(inOrder rows aC key).filter fun k=>decide (0 < (rows.getD k default).d):=by
 unfold inTurn inOrder;rw[Bx,l0];exact sU (fun x:Int×Nat=>x.2) (fun k=>decide (0 < (rows.getD k default).d)) _
def ji {rows:List Rw}{aC:Str}{key:Rw->Int}{k:Nat}:k∈inOrder rows aC key↔k < rows.length/\(rows.getD k default).aC=aC:=by
 unfold inOrder gg;rw[bG];constructor
 ·rintro⟨x,hx,rfl⟩;obtain⟨j,hj,rfl⟩:=bG.mp ((cL _).mem_iff.mp hx);simpa using hj
 ·rintro⟨h1,h2⟩;refine⟨(key (rows.getD k default),k),(cL _).mem_iff.mpr (bG.mpr ⟨k,?_,rfl⟩),rfl⟩;exact List.mem_filter.mpr ⟨List.mem_range.mpr h1,by simpa using h2⟩
def dk {rows:List Rw}{aC:Str}{key:Rw->Int}{k:Nat}:k∈inTurn rows aC key↔k < rows.length/\(rows.getD k default).aC=aC/\0 < (rows.getD k default).d:=by
 rw[ig,dJ,ji];simp[and_assoc]
def wO (rows:List Rw)(aC:Str)(key:Rw->Int):(inOrder rows aC key).Nodup:=by
 have h:((eB (gg rows aC key)).map (·.2)).Perm ((gg rows aC key).map (·.2)):=(cL _).map _;refine h.nodup_iff.mpr ?_;unfold gg;rw[dB];have e:((fun x:Int×Nat=>x.2) ∘ fun k=>(key (rows.getD k default),k))=id:=rfl;rw[e,tP];exact jv.filter _
def jC (rows:List Rw)(aC:Str)(key:Rw->Int):(inTurn rows aC key).Nodup:=by
 rw[ig];exact(wO rows aC key).filter _
def oB (r r':Rw):Prop:=r'.aC=r.aC/\r'.a=r.a/\r'.b=r.b/\r'.c=r.c
def oB.refl (r:Rw):oB r r:=⟨rfl,rfl,rfl,rfl⟩
def oB.trans {r s t:Rw}(h:oB r s)(k:oB s t):oB r t:=⟨k.1.trans h.1,k.2.1.trans h.2.1,k.2.2.1.trans h.2.2.1,k.2.2.2.trans h.2.2.2⟩
def By {rows iE:List Rw}{aC:Str}{key:Rw->Int}(hk: ∀r r',oB r r'->key r'=key r)(hl:iE.length=rows.length)(h: ∀k,oB (rows.getD k default) (iE.getD k default)):gg iE aC key=gg rows aC key:=by
 unfold gg;rw[hl];have e:(fun k=>decide ((iE.getD k default).aC=aC))=fun k=>decide ((rows.getD k default).aC=aC):=by
  funext k
  rw[(h k).1]
 rw[e];apply fJ;intro k _;rw[hk _ _ (h k)]
def zi {rows iE:List Rw}{aC:Str}{key:Rw->Int}(hk: ∀r r',oB r r'->key r'=key r)(hl:iE.length=rows.length)(h: ∀k,oB (rows.getD k default) (iE.getD k default)):inOrder iE aC key=inOrder rows aC key:=by
 unfold inOrder;rw[By hk hl h]
def zj {rows iE:List Rw}{aC:Str}{key:Rw->Int}(hk: ∀r r',oB r r'->key r'=key r)(hl:iE.length=rows.length)(h: ∀k,oB (rows.getD k default) (iE.getD k default))(hd: ∀k,(iE.getD k default).d<=(rows.getD k default).d):
  inTurn iE aC key=(inTurn rows aC key).filter fun k=>decide (0 < (iE.getD k default).d):=by
 rw[ig,ig,zi hk hl h,iw];apply iW;intro k _;have:=hd k;by_cases c:0 < (iE.getD k default).d
 ·have c2:0 < (rows.getD k default).d:=by lia
  rw[aG c,aG c2];rfl
 ·rw[ba c];rfl
def bT (exact:Bool)(c:Nat)(S:Bk)(b:Nat):Bk:=
 if 0 < (S.cr c).d/\S.dO c b=true/\((S.cr c).d=(S.bl b).d∨exact=false) then S.put c b (gJ (S.cr c).d (S.bl b).d) else S
def cm (aC:Str)(exact:Bool)(S:Bk)(c:Nat):Bk:=(inTurn S.aF aC (·.b)).foldl (bT exact c) S
def bR (aC:Str)(S:Bk)(exact:Bool):Bk:=(inTurn S.credits aC (·.a)).foldl (cm aC exact) S
def Bk.iR (S:Bk)(aC:Str):Bk:=bR aC (bR aC S true) false
def Bz {α:Type}{l:List α}{i k:Nat}{v d:α}(h:i < l.length):(l.set i v).getD k d=if k=i then v else l.getD k d:=by
 rw[aj,aj];by_cases c:k=i
 ·subst c;rw[aZ rfl,k9 h];rfl
 ·rw[aO c,mJ (fun z=>c z.symm)]
def pK {S:Bk}{c b k:Nat}{x:Int}(h:b < S.aF.length):(S.put c b x).bl k=if k=b then(S.bl b).less x else S.bl k:=Bz h
def pL {S:Bk}{c b k:Nat}{x:Int}(h:c < S.credits.length):(S.put c b x).cr k=if k=c then(S.cr c).less x else S.cr k:=Bz h
def kr (S:Bk)(l:List (Nat×Nat×Int)):Bk:=l.foldl (fun S t=>S.put t.1 t.2.1 t.2.2) S
def mW (S:Bk)(l m:List (Nat×Nat×Int)):kr S (l ++ m)=kr (kr S l) m:=by
 unfold kr; rw[List.foldl_append]
def jH (S:Bk): ∀l,(kr S l).made=S.made ++ l
 |[]=>by simp[kr]
 |t :: l=>by
  show(kr (S.put t.1 t.2.1 t.2.2) l).made=_;rw[jH _ l];simp[Bk.put]
structure Later (S S':Bk):Prop where
 bl:S'.aF.length=S.aF.length
 cl:S'.credits.length=S.credits.length
 b: ∀k,oB (S.bl k) (S'.bl k)/\(S'.bl k).d<=(S.bl k).d
 c: ∀k,oB (S.cr k) (S'.cr k)/\(S'.cr k).d<=(S.cr k).d
def Later.refl (S:Bk):Later S S:=⟨rfl,rfl,fun k=>⟨oB.refl _,fk _⟩,fun k=>⟨oB.refl _,fk _⟩⟩
def Later.trans {S T U:Bk}(h:Later S T)(k:Later T U):Later S U:=
 ⟨k.bl.trans h.bl,k.cl.trans h.cl,fun i=>⟨(h.b i).1.trans (k.b i).1,lS (k.b i).2 (h.b i).2⟩,fun i=>⟨(h.c i).1.trans (k.c i).1,lS (k.c i).2 (h.c i).2⟩⟩
def Later.put {S:Bk}{c b:Nat}{x:Int}(hb:b < S.aF.length)(hc:c < S.credits.length)(hx:0<=x):Later S (S.put c b x):=by
 refine⟨eU,eU,fun k=>?_,fun k=>?_⟩
 ·rw[pK hb];split
  ·rename_i e;subst e;exact⟨oB.refl _,by show(S.bl k).d - x<=_; lia⟩
  ·exact⟨oB.refl _,fk _⟩
 ·rw[pL hc];split
  ·rename_i e;subst e;exact⟨oB.refl _,by show(S.cr k).d - x<=_; lia⟩
  ·exact⟨oB.refl _,fk _⟩
def Later.dO {S T:Bk}(h:Later S T)(c b:Nat):T.dO c b=S.dO c b:=by
 unfold Bk.dO;rw[(h.c c).1.1,(h.b b).1.1,(h.c c).1.2.2.2]
def Later.Nq {S T:Bk}(h:Later S T)(aC:Str):inTurn T.aF aC (·.b)=(inTurn S.aF aC (·.b)).filter fun k=>decide (0 < (T.bl k).d):=
 zj (fun r r' z=>z.2.2.1) h.bl (fun k=>(h.b k).1) (fun k=>(h.b k).2)
def g8 (f:Int)(ls:List Int)(row:List Bool)(tk:Nat->Bool):Option Nat:=(List.range ls.length).find? fun j=>row.getD j false && decide (ls.getD j 0=f) && !tk j
def bW (fs ls:List Int)(al:List (List Bool)):Nat->(Nat->Bool)×List (Nat×Nat×Int)
 |0=>(fun _=>false,[])
 |i + 1=>match g8 (fs.getD i 0) ls (al.getD i []) (bW fs ls al i).1 with
  |none=>bW fs ls al i
  |some j=>(fun x=>x == j || (bW fs ls al i).1 x,(bW fs ls al i).2 ++ [(i,j,fs.getD i 0)])
def l4 (gs ts:List Nat)(t:Nat×Nat×Int):Nat×Nat×Int:=(gs.getD t.1 0,ts.getD t.2.1 0,t.2.2)
def sm {α:Type}(l:List α)(d:α):(List.range l.length).map (fun j=>l.getD j d)=l:=by
 apply List.ext_getElem
 ·rw[ae,dr]
 ·intro i h1 h2;rw[List.getElem_map,List.getElem_range,aj,af h2];rfl
def DT {α:Type}(l:List α)(d:α)(p:α->Bool):l.find? p=((List.range l.length).find? fun j=>p (l.getD j d)).map fun j=>l.getD j d:=by
 have e:l.find? p=((List.range l.length).map (fun j=>l.getD j d)).find? p:=by rw[sm]
 rw[e,List.find?_map];rfl
def jT {l:List Nat}{i:Nat}(h:i < l.length):l.getD i 0∈l:=by
 rw[aj,af h];exact bN _
def getD_map {α β:Type}(f:α->β)(l:List α)(i:Nat)(d:α)(e:β)(h:i < l.length):(l.map f).getD i e=f (l.getD i d):=by
 rw[aj,aj,aB,af h];rfl
def getD_inj {l:List Nat}(nd:l.Nodup){i j:Nat}(hi:i < l.length)(hj:j < l.length)(h:l.getD i 0=l.getD j 0):i=j:=by
 rw[aj,aj,af hi,af hj] at h;exact(List.getElem_inj nd).mp h
def idle {ex:Bool}{c:Nat}: ∀{l:List Nat} {S:Bk},(S.cr c).d<=0->l.foldl (bT ex c) S=S
 |[],_,_=>rfl
 |b :: l,S,h=>by
  rw[eV];have e:bT ex c S b=S:=by
   unfold bT;rw[aO (fun z=>by lia)]
  rw[e];exact idle h
def E7 {c:Nat}{S:Bk}(hc:c < S.credits.length): ∀{l:List Nat},(∀b∈l,b < S.aF.length)->0 < (S.cr c).d->l.foldl (bT true c) S=match l.find? (fun b=>S.dO c b && decide ((S.bl b).d=(S.cr c).d)) with
  |none=>S
  |some b=>S.put c b (S.cr c).d
 |[],_,_=>rfl
 |b :: l,hl,h=>by
  rw[eV];by_cases z:(S.dO c b && decide ((S.bl b).d=(S.cr c).d))=true
  ·rw[List.find?_cons_of_pos (p:=fun b=>S.dO c b && decide ((S.bl b).d=(S.cr c).d)) z];have z':S.dO c b=true/\(S.bl b).d=(S.cr c).d:=by simpa using z
   have e:bT true c S b=S.put c b (S.cr c).d:=by
    unfold bT;rw[aZ ⟨h,z'.1,.inl z'.2.symm⟩,z'.2]
    congr 1
    unfold gJ;split <;> rfl
   rw[e];refine idle ?_;rw[pL hc,aZ rfl];show(S.cr c).d - (S.cr c).d<=0;lia
  ·rw[List.find?_cons_of_neg (p:=fun b=>S.dO c b && decide ((S.bl b).d=(S.cr c).d)) z];have e:bT true c S b=S:=by
    unfold bT;rw[aO];rintro⟨_,z1,z2⟩;rcases z2 with z2|z2
    ·exact z (by simp[z1,z2])
    ·cases z2
   rw[e];exact E7 hc (fun x hx=>hl x (aS _ hx)) h
structure va (S:Bk)(aC:Str)(gs ts:List Nat)(fs ls:List Int)(al:List (List Bool)):Prop where
 eg:gs=inTurn S.credits aC (·.a)
 et:ts=inTurn S.aF aC (·.b)
 ef:fs=gs.map fun g=>(S.cr g).d
 el:ls=ts.map fun t=>(S.bl t).d
 ea:al=gs.map fun g=>ts.map fun t=>S.dO g t
section
variable {S:Bk}{aC:Str}{gs ts:List Nat}{fs ls:List Int}{al:List (List Bool)}
def va.g (R:va S aC gs ts fs ls al){i:Nat}(h:i < gs.length):gs.getD i 0 < S.credits.length/\0 < (S.cr (gs.getD i 0)).d/\fs.getD i 0=(S.cr (gs.getD i 0)).d:=by
 have m:=jT h;rw[R.eg] at m;obtain⟨m1,_,m3⟩:=dk.mp m;rw[← R.eg] at m1 m3;exact⟨m1,m3,by rw[R.ef,getD_map _ gs i 0 0 h]⟩
def va.t (R:va S aC gs ts fs ls al){i:Nat}(h:i < ts.length):ts.getD i 0 < S.aF.length/\0 < (S.bl (ts.getD i 0)).d/\ls.getD i 0=(S.bl (ts.getD i 0)).d:=by
 have m:=jT h;rw[R.et] at m;obtain⟨m1,_,m3⟩:=dk.mp m;rw[← R.et] at m1 m3;exact⟨m1,m3,by rw[R.el,getD_map _ ts i 0 0 h]⟩
def va.a (R:va S aC gs ts fs ls al){i j:Nat}(hi:i < gs.length)(hj:j < ts.length):(al.getD i []).getD j false=S.dO (gs.getD i 0) (ts.getD j 0):=by
 rw[R.ea,getD_map _ gs i 0 [] hi,getD_map _ ts j 0 false hj]
def va.gn (R:va S aC gs ts fs ls al):gs.Nodup:=by rw[R.eg]; exact jC _ _ _
def va.tn (R:va S aC gs ts fs ls al):ts.Nodup:=by rw[R.et]; exact jC _ _ _
def va.ll (R:va S aC gs ts fs ls al):ls.length=ts.length:=by rw[R.el,ae]
def va.tm (R:va S aC gs ts fs ls al){b:Nat}(h:b∈ts):b < S.aF.length:=by
 rw[R.et] at h;exact(dk.mp h).1
def pM {l:List Nat}{i:Nat}(h:i < l.length):l.take (i + 1)=l.take i ++ [l.getD i 0]:=by
 rw[AV,af h,aj,af h];rfl
structure Xi (S:Bk)(aC:Str)(gs ts:List Nat)(fs ls:List Int)(i:Nat)(st:(Nat->Bool)×List (Nat×Nat×Int))(Si:Bk):Prop where
 run:(gs.take i).foldl (cm aC true) S=Si
 eq:Si=kr S (st.2.map (l4 gs ts))
 later:Later S Si
 b: ∀j,j < ts.length->(Si.bl (ts.getD j 0)).d=if st.1 j=true then 0 else ls.getD j 0
 c: ∀k,i<=k->k < gs.length->(Si.cr (gs.getD k 0)).d=fs.getD k 0
def BA (R:va S aC gs ts fs ls al){i:Nat}{Si:Bk}(hi:i < gs.length)(J:Xi S aC gs ts fs ls i (bW fs ls al i) Si): ∃S',Xi S aC gs ts fs ls (i + 1) (bW fs ls al (i + 1)) S':=by
 obtain⟨g1,g2,g3⟩:=R.g hi;have gc:gs.getD i 0 < Si.credits.length:=by rw[J.later.cl]; exact g1
 have fr:(Si.cr (gs.getD i 0)).d=fs.getD i 0:=J.c i (aI _) hi;have fp:0 < (Si.cr (gs.getD i 0)).d:=by rw[fr,g3]; exact g2
 have find:((inTurn Si.aF aC (·.b)).find? fun b=>Si.dO (gs.getD i 0) b && decide ((Si.bl b).d=(Si.cr (gs.getD i 0)).d))=(g8 (fs.getD i 0) ls (al.getD i []) (bW fs ls al i).1).map fun j=>ts.getD j 0:=by
  rw[J.later.Nq,← R.et,List.find?_filter,DT ts 0];unfold g8;rw[R.ll]
  congr 1
  have q: ∀j∈List.range ts.length,(decide (0 < (Si.bl (ts.getD j 0)).d) && (Si.dO (gs.getD i 0) (ts.getD j 0) && decide ((Si.bl (ts.getD j 0)).d=(Si.cr (gs.getD i 0)).d)))=((al.getD i []).getD j false && decide (ls.getD j 0=fs.getD i 0) && !(bW fs ls al i).1 j):=by
   intro j hj;have hj:=cS.mp hj;rw[R.a hi hj,J.later.dO,J.b j hj,fr];obtain⟨_,t2,t3⟩:=R.t hj;cases h:(bW fs ls al i).1 j
   ·simp only[Bool.false_eq_true,if_false,Bool.not_false,Bool.and_true];rw[t3,aG t2];simp
   ·simp
  have key: ∀(l:List Nat) (p q:Nat->Bool),(∀j∈l,p j=q j)->l.find? p=l.find? q:=by
   intro l p q h
   induction l with
   |nil=>rfl
   |cons x l ih=>
    rw[List.find?_cons,List.find?_cons,h x bc,ih fun j hj=>h j (aS _ hj)]
  refine key _ _ _ fun j hj=>?_;rw[← q j hj];simp
 have run:(gs.take (i + 1)).foldl (cm aC true) S=match(g8 (fs.getD i 0) ls (al.getD i []) (bW fs ls al i).1).map (fun j=>ts.getD j 0) with
   |none=>Si
   |some b=>Si.put (gs.getD i 0) b (Si.cr (gs.getD i 0)).d:=by
  rw[pM hi,rT,J.run];show cm aC true Si (gs.getD i 0)=_;unfold cm;rw[E7 gc (fun b hb=>(dk.mp hb).1) fp,find]
 cases h:g8 (fs.getD i 0) ls (al.getD i []) (bW fs ls al i).1 with
 |none=>
  rw[h] at run;have e:bW fs ls al (i + 1)=bW fs ls al i:=by rw[bW,h]
  rw[e];exact⟨Si,run,J.eq,J.later,J.b,fun k h1 h2=>J.c k (by lia) h2⟩
 |some j=>
  rw[h] at run;have e:bW fs ls al (i + 1)=(fun x=>x == j || (bW fs ls al i).1 x,(bW fs ls al i).2 ++ [(i,j,fs.getD i 0)]):=by rw[bW,h]
  have hj:j < ts.length:=by
   unfold g8 at h;have:=N0 h;rw[R.ll] at this;exact cS.mp this
  have ZY:(al.getD i []).getD j false=true/\ls.getD j 0=fs.getD i 0/\(bW fs ls al i).1 j=false:=by
   unfold g8 at h;have:=List.find?_some h;simpa[and_assoc] using this
  obtain⟨t1,t2,t3⟩:=R.t hj;have tb:ts.getD j 0 < Si.aF.length:=by rw[J.later.bl]; exact t1
  have f0:0<=fs.getD i 0:=by rw[g3]; lia
  have run':(gs.take (i + 1)).foldl (cm aC true) S=Si.put (gs.getD i 0) (ts.getD j 0) (fs.getD i 0):=by
   rw[run,← fr];rfl
  rw[e];refine⟨Si.put (gs.getD i 0) (ts.getD j 0) (fs.getD i 0),run',?_,J.later.trans (Later.put tb gc f0),fun j' Vr=>?_,fun k h1 h2=>?_⟩
  ·rw[aJ,mW,← J.eq];rfl
  ·rw[pK tb];by_cases q:j'=j
   ·subst q;rw[aZ rfl];simp only[beq_self_eq_true,Bool.true_or,if_true];show(Si.bl (ts.getD j' 0)).d - fs.getD i 0=0;rw[J.b j' hj,ZY.2.2,aO (by decide),ZY.2.1];lia
   ·rw[aO fun z=>q (getD_inj R.tn Vr hj z),J.b j' Vr];have:(j' == j)=false:=by simpa using q
    show _ =if(j' == j || (bW fs ls al i).1 j')=true then 0 else _;rw[this,Bool.false_or]
  ·rw[pL gc,aO fun z=>by have:=getD_inj R.gn h2 hi z; lia];exact J.c k (by lia) h2
def vb (R:va S aC gs ts fs ls al): ∀i,i<=gs.length-> ∃Si,Xi S aC gs ts fs ls i (bW fs ls al i) Si
 |0,_=>⟨S,rfl,rfl,Later.refl S,fun j hj=>by
   obtain⟨_,_,t3⟩:=R.t hj;show _ =if false=true then 0 else _;rw[aO (by decide),t3],fun k _ h2=>by
   obtain⟨_,_,g3⟩:=R.g h2;exact g3.symm⟩
 |i + 1,h=>by
  obtain⟨Si,J⟩:=vb R i (by lia);exact BA R (by lia) J
def Jt (R:va S aC gs ts fs ls al):bR aC S true=kr S ((bW fs ls al gs.length).2.map (l4 gs ts))/\Later S (bR aC S true):=by
 obtain⟨Si,J⟩:=vb R gs.length (aI _);have e:bR aC S true=Si:=by
  unfold bR;rw[← R.eg,← J.run,aY]
 rw[e];exact⟨J.eq,J.later⟩
end
def E8 {l:List Int}{i j:Nat}{v:Int}(h:i≠j):(l.set i v).getD j 0=l.getD j 0:=by
 rw[aj,aj,mJ h]
def LX {l:List Int}{i:Nat}{v:Int}(h:i < l.length):(l.set i v).getD i 0=v:=by
 rw[aj,k9 h]; rfl
def dM (l:List Int)(ps:List (Nat×Int)):List Int:=ps.foldl (fun l x=>l.set x.1 (l.getD x.1 0 - x.2)) l
def sV (l:List Int)(ps:List (Nat×Int))(x:Nat×Int):dM l (ps ++ [x])=(dM l ps).set x.1 ((dM l ps).getD x.1 0 - x.2):=by
 unfold dM; rw[List.foldl_append]; rfl
def pN (ps:List (Nat×Int)): ∀l:List Int,(dM l ps).length=l.length:=by
 induction ps with
 |nil=>intro l; rfl
 |cons x ps ih=>
  intro l;show(dM (l.set x.1 _) ps).length=_;rw[ih,eU]
def bE (f:Int)(l:List Int)(row:List Bool):Nat->Int×List (Nat×Int)
 |0=>(f,[])
 |j + 1=>if row.getD j false=true/\0 < gJ (bE f l row j).1 (l.getD j 0) then((bE f l row j).1 - gJ (bE f l row j).1 (l.getD j 0),(bE f l row j).2 ++ [(j,gJ (bE f l row j).1 (l.getD j 0))]) else bE f l row j
def cq (fs ls:List Int)(al:List (List Bool)):Nat->List Int×List (Nat×Nat×Int)
 |0=>(ls,[])
 |i + 1=>(dM (cq fs ls al i).1 (bE (fs.getD i 0) (cq fs ls al i).1 (al.getD i []) (cq fs ls al i).1.length).2,
   (cq fs ls al i).2 ++ (bE (fs.getD i 0) (cq fs ls al i).1 (al.getD i []) (cq fs ls al i).1.length).2.map fun x=>(i,x.1,x.2))
def jI (fs ls:List Int)(al:List (List Bool)): ∀i,(cq fs ls al i).1.length=ls.length
 |0=>rfl
 |i + 1=>by
  show(dM _ _).length=_;rw[pN,jI fs ls al i]
def gi (c:Nat)(S:Bk)(b:Nat):Bk:=if 0 < (S.bl b).d then bT false c S b else S
def Ju {c b:Nat}{S:Bk}(hc:c < S.credits.length)(hb:b < S.aF.length):Later S (gi c S b)/\ ∀k,k≠b->((gi c S b).bl k).d=(S.bl k).d:=by
 unfold gi bT;split
 ·rename_i h1;split
  ·rename_i h2;refine⟨Later.put hb hc ?_,fun k hk=>by rw[pK hb,aO hk]⟩;unfold gJ;split <;> lia
  ·exact⟨Later.refl S,fun _ _=>rfl⟩
 ·exact⟨Later.refl S,fun _ _=>rfl⟩
def E9 {c:Nat}{S0:Bk}: ∀{l:List Nat} {S:Bk},l.Nodup->c < S.credits.length->(∀b∈l,b < S.aF.length)->(∀b∈l,(S.bl b).d=(S0.bl b).d)->
  (l.filter fun b=>decide (0 < (S0.bl b).d)).foldl (bT false c) S=l.foldl (gi c) S
 |[],_,_,_,_,_=>rfl
 |b :: l,S,nd,hc,hl,hd=>by
  rw[ej] at nd;obtain⟨lt,ot⟩:=Ju (S:=S) hc (hl b bc);have ih:=E9 (S:=gi c S b) (S0:=S0) (l:=l) nd.2 (by rw[lt.cl]; exact hc) (fun x hx=>by rw[lt.bl]; exact hl x (aS _ hx)) (fun x hx=>by
   rw[ot x (fun z=>nd.1 (z▸hx))];exact hd x (aS _ hx))
  rw[eV,← ih];have e:=hd b bc;by_cases z:0 < (S0.bl b).d
  ·rw[List.filter_cons_of_pos (by simpa using z),List.foldl_cons]
   congr 1
   unfold gi;rw[aZ (by lia)]
  ·rw[List.filter_cons_of_neg (by simpa using z)]
   congr 1
   unfold gi;rw[aO (by lia)]
section
variable {S:Bk}{aC:Str}{gs ts:List Nat}{fs ls:List Int}{al:List (List Bool)}
structure OU (S:Bk)(ts:List Nat)(c:Nat)(L:List Int)(j:Nat)(st:Int×List (Nat×Int))(Sj:Bk):Prop where
 run:(ts.take j).foldl (gi c) S=Sj
 eq:Sj=kr S (st.2.map fun x=>(c,ts.getD x.1 0,x.2))
 later:Later S Sj
 f:(Sj.cr c).d=st.1
 b: ∀k,k < ts.length->(Sj.bl (ts.getD k 0)).d=(dM L st.2).getD k 0
 lt: ∀x∈st.2,x.1 < j
 oc: ∀k,k≠c->Sj.cr k=S.cr k
def zk {c:Nat}{L:List Int}{row:List Bool}(nd:ts.Nodup)(hc:c < S.credits.length)(ht: ∀b∈ts,b < S.aF.length)(hL:L.length=ts.length)(hb: ∀k,k < ts.length->(S.bl (ts.getD k 0)).d=L.getD k 0)
  (hr: ∀k,k < ts.length->row.getD k false=S.dO c (ts.getD k 0)) {j:Nat} (hj:j < ts.length) {Sj:Bk} (J:OU S ts c L j (bE (S.cr c).d L row j) Sj): ∃S',OU S ts c L (j + 1) (bE (S.cr c).d L row (j + 1)) S':=by
 have ap:(dM L (bE (S.cr c).d L row j).2).getD j 0=L.getD j 0:=by
  have other: ∀(ps:List (Nat×Int)) (l:List Int),(∀x∈ps,x.1≠j)->(dM l ps).getD j 0=l.getD j 0:=by
   intro ps
   induction ps with
   |nil=>intro l h; rfl
   |cons x ps ih=>
    intro l h;show(dM (l.set x.1 _) ps).getD j 0=_;rw[ih _ fun y hy=>h y (aS _ hy),E8 (h x bc)]
  exact other _ _ fun x hx=>a8 (J.lt x hx)
 have bd:(Sj.bl (ts.getD j 0)).d=L.getD j 0:=by rw[J.b j hj,ap]
 have cj:c < Sj.credits.length:=by rw[J.later.cl]; exact hc
 have bj:ts.getD j 0 < Sj.aF.length:=by rw[J.later.bl]; exact ht _ (jT hj)
 have run:(ts.take (j + 1)).foldl (gi c) S=gi c Sj (ts.getD j 0):=by
  rw[pM hj,rT,J.run];rfl
 have g:Sj.dO c (ts.getD j 0)=row.getD j false:=by rw[J.later.dO,hr j hj]
 by_cases z:row.getD j false=true/\0 < gJ (bE (S.cr c).d L row j).1 (L.getD j 0)
 ·have e:bE (S.cr c).d L row (j + 1)=((bE (S.cr c).d L row j).1 - gJ (bE (S.cr c).d L row j).1 (L.getD j 0),(bE (S.cr c).d L row j).2 ++ [(j,gJ (bE (S.cr c).d L row j).1 (L.getD j 0))]):=by
   rw[bE,aZ z]
  have z1:0 < (Sj.bl (ts.getD j 0)).d/\0 < (Sj.cr c).d:=by
   rw[bd,J.f];have:=z.2;unfold gJ at this;split at this <;> lia
  have e2:gi c Sj (ts.getD j 0)=Sj.put c (ts.getD j 0) (gJ (bE (S.cr c).d L row j).1 (L.getD j 0)):=by
   unfold gi bT;rw[aZ z1.1,aZ ⟨z1.2,by rw[g]; exact z.1,.inr rfl⟩,J.f,bd]
  rw[e];refine⟨_,run.trans e2,?_,J.later.trans (Later.put bj cj (by lia)),?_,fun k hk=>?_,fun x hx=>?_,fun k hk=>?_⟩
  ·rw[aJ,mW,← J.eq];rfl
  ·rw[pL cj,aZ rfl];show(Sj.cr c).d - _ =_;rw[J.f]
  ·rw[pK bj,sV];have len:(dM L (bE (S.cr c).d L row j).2).length=ts.length:=by rw[pN,hL]
   by_cases q:k=j
   ·subst q;rw[aZ rfl,LX (by rw[len]; exact hk)];show(Sj.bl (ts.getD k 0)).d - _ =(dM L _).getD k 0 - _;rw[J.b k hk]
   ·rw[aO fun w=>q (getD_inj nd hk hj w),J.b k hk,E8 (wy q)]
  ·rcases bq.mp hx with hx|hx
   ·have:=J.lt x hx;lia
   ·rw[ao.mp hx];exact fW _
  ·rw[pL cj,aO hk];exact J.oc k hk
 ·have e:bE (S.cr c).d L row (j + 1)=bE (S.cr c).d L row j:=by rw[bE,aO z]
  have e2:gi c Sj (ts.getD j 0)=Sj:=by
   unfold gi bT;split
   ·rename_i h1;rw[aO];rintro⟨h2,h3,_⟩;refine z ⟨by rw[← g]; exact h3,?_⟩;rw[bd] at h1;rw[J.f] at h2;unfold gJ;split <;> assumption
   ·rfl
  rw[e];exact⟨Sj,run.trans e2,J.eq,J.later,J.f,J.b,fun x hx=>by have:=J.lt x hx; lia,J.oc⟩
def Fb {c:Nat}{L:List Int}{row:List Bool}(nd:ts.Nodup)(hc:c < S.credits.length)(ht: ∀b∈ts,b < S.aF.length)(hL:L.length=ts.length)(hb: ∀k,k < ts.length->(S.bl (ts.getD k 0)).d=L.getD k 0)
  (hr: ∀k,k < ts.length->row.getD k false=S.dO c (ts.getD k 0)): ∀j,j<=ts.length-> ∃Sj,OU S ts c L j (bE (S.cr c).d L row j) Sj
 |0,_=>⟨S,rfl,rfl,Later.refl S,rfl,hb,(fun _ h=>by cases h),fun _ _=>rfl⟩
 |j + 1,h=>by
  obtain⟨Sj,J⟩:=Fb nd hc ht hL hb hr j (by lia);exact zk nd hc ht hL hb hr (by lia) J
structure Xj (S:Bk)(aC:Str)(gs ts:List Nat)(fs:List Int)(i:Nat)(st:List Int×List (Nat×Nat×Int))(Si:Bk):Prop where
 run:(gs.take i).foldl (cm aC false) S=Si
 eq:Si=kr S (st.2.map (l4 gs ts))
 later:Later S Si
 b: ∀j,j < ts.length->(Si.bl (ts.getD j 0)).d=st.1.getD j 0
 c: ∀k,i<=k->k < gs.length->(Si.cr (gs.getD k 0)).d=fs.getD k 0
def BB (R:va S aC gs ts fs ls al){i:Nat}{Si:Bk}(hi:i < gs.length)(J:Xj S aC gs ts fs i (cq fs ls al i) Si): ∃S',Xj S aC gs ts fs (i + 1) (cq fs ls al (i + 1)) S':=by
 obtain⟨g1,g2,g3⟩:=R.g hi;have gc:gs.getD i 0 < Si.credits.length:=by rw[J.later.cl]; exact g1
 have fr:(Si.cr (gs.getD i 0)).d=fs.getD i 0:=J.c i (aI _) hi;have tl:(cq fs ls al i).1.length=ts.length:=by rw[jI,R.ll]
 have tb: ∀b∈ts,b < Si.aF.length:=fun b hb=>by rw[J.later.bl]; exact R.tm hb
 obtain⟨S',K⟩:=Fb (S:=Si) (ts:=ts) (c:=gs.getD i 0) (L:=(cq fs ls al i).1) (row:=al.getD i []) R.tn gc tb tl J.b (fun k hk=>by rw[R.a hi hk,J.later.dO]) ts.length (aI _);have e:(gs.take (i + 1)).foldl (cm aC false) S=S':=by
  rw[pM hi,rT,J.run];show cm aC false Si (gs.getD i 0)=_;unfold cm;rw[J.later.Nq,← R.et,E9 R.tn gc tb (fun _ _=>rfl),← K.run,aY]
 rw[fr] at K;have pe:bE (fs.getD i 0) (cq fs ls al i).1 (al.getD i []) ts.length=bE (fs.getD i 0) (cq fs ls al i).1 (al.getD i []) (cq fs ls al i).1.length:=by rw[tl]
 rw[pe] at K;refine⟨S',e,?_,J.later.trans K.later,K.b,fun k h1 h2=>?_⟩
 ·show S'=kr S (((cq fs ls al i).2 ++ _).map (l4 gs ts));rw[aJ,mW,← J.eq,K.eq,dB];rfl
 ·rw[K.oc _ fun z=>by have:=getD_inj R.gn h2 hi z; lia];exact J.c k (by lia) h2
def vc (R:va S aC gs ts fs ls al): ∀i,i<=gs.length-> ∃Si,Xj S aC gs ts fs i (cq fs ls al i) Si
 |0,_=>⟨S,rfl,rfl,Later.refl S,fun j hj=>by
   obtain⟨_,_,t3⟩:=R.t hj;exact t3.symm,fun k _ h2=>by
   obtain⟨_,_,g3⟩:=R.g h2;exact g3.symm⟩
 |i + 1,h=>by
  obtain⟨Si,J⟩:=vc R i (by lia);exact BB R (by lia) J
def Jv (R:va S aC gs ts fs ls al):bR aC S false=kr S ((cq fs ls al gs.length).2.map (l4 gs ts))/\Later S (bR aC S false):=by
 obtain⟨Si,J⟩:=vc R gs.length (aI _);have e:bR aC S false=Si:=by
  unfold bR;rw[← R.eg,← J.run,aY]
 rw[e];exact⟨J.eq,J.later⟩
end
inductive zl where
 |int (i:Int)
 |txt (s:Str)
 |sets (l:List (Nat×Nat×Int))
 |pairs (l:List (Nat×Int))
 |ints (l:List Int)
def bD.isSet:bD->Bool
 | .set _ _ _=>true
 | .fL _=>true
 |_=>false
def bD.tells:bD->Bool
 | .dW _ _ _ _=>true
 | .qK _ _ _=>true
 | .note _ _ _=>true
 | .set _ _ _=>true
 | .fL _=>true
 |_=>false
def qk (x:Int)(n:Nat):Prop:=0<=x/\x < (n:Int)
instance (x:Int) (n:Nat):Decidable (qk x n):=inferInstanceAs (Decidable (_/\_))
def Bk.bar (S:Bk):bD->Str
 | .dW _ day AY dN=>if dN < 1 then "no amount" else if AY < day then "too early" else ""
 | .qK _ _ dN=>if dN < 1 then "no amount" else ""
 | .note b _ dN=>if ¬ qk b S.aF.length then "no bill" else if dN < 1 then "no amount" else ""
 | .set c b dN=>if ¬ qk c S.credits.length then "no credit" else if ¬ qk b S.aF.length then "no bill" else if S.dO c.toNat b.toNat=false then "not theirs" else
   if dN < 1 then "no amount" else if gJ (S.cr c.toNat).d (S.bl b.toNat).d < dN then "too much" else ""
 |_=>""
def vd (S:Bk)(b d a:Int):S.bar (.note b d a)=(if ¬ qk b S.aF.length then("no bill":Str) else if a < 1 then("no amount":Str) else("":Str)):=rfl
def zo (S:Bk)(c b a:Int):S.bar (.set c b a)=(if ¬ qk c S.credits.length then("no credit":Str) else if ¬ qk b S.aF.length then("no bill":Str) else if S.dO c.toNat b.toNat=false then("not theirs":Str) else
   if a < 1 then("no amount":Str) else if gJ (S.cr c.toNat).d (S.bl b.toNat).d < a then("too much":Str) else("":Str)):=rfl
def n1:("no credit":Str)≠"":=by decide +kernel
def n2:("no bill":Str)≠"":=by decide +kernel
def n3:("not theirs":Str)≠"":=by decide +kernel
def n4:("no amount":Str)≠"":=by decide +kernel
def n6:("too much":Str)≠"":=by decide +kernel
def nZ {S:Bk}{b d a:Int}(h:S.bar (.note b d a)=""):qk b S.aF.length/\1<=a:=by
 rw[vd] at h;split at h
 ·exact absurd h n2
 ·rename_i q;split at h
  ·exact absurd h n4
  ·exact⟨Ga.mp q,by lia⟩
def mX {S:Bk}{c b a:Int}(h:S.bar (.set c b a)=""):qk c S.credits.length/\qk b S.aF.length/\S.dO c.toNat b.toNat=true/\1<=a/\a<=(S.cr c.toNat).d/\a<=(S.bl b.toNat).d:=by
 rw[zo] at h;split at h
 ·exact absurd h n1
 rename_i q1;split at h
 ·exact absurd h n2
 rename_i q2;split at h
 ·exact absurd h n3
 rename_i q3;split at h
 ·exact absurd h n4
 rename_i q4;split at h
 ·exact absurd h n6
 rename_i q5;refine⟨Classical.not_not.mp q1,Classical.not_not.mp q2,by simpa using q3,by lia,?_⟩;unfold gJ at q5;split at q5 <;> lia
def Bk.iu (S:Bk)(r:Rw):Bk:={S with aF:=S.aF ++ [r]}
def Bk.fN (S:Bk)(r:Rw):Bk:={S with credits:=S.credits ++ [r]}
def Bk.enter (S:Bk):bD->Bk
 | .dW w d u a=>S.iu ⟨w,d,u,a,a⟩
 | .qK w d a=>S.fN ⟨w,d,a,-1,a⟩
 | .note b d a=>S.fN ⟨(S.bl b.toNat).aC,d,a,b,a⟩
 | .set c b a=>S.put c.toNat b.toNat a
 | .fL w=>S.iR w
 |_=>S
def Bk.LY (S:Bk):bD->zl
 | .dW _ _ _ _=> .int S.aF.length
 | .qK _ _ _=> .int S.credits.length
 | .note _ _ _=> .int S.credits.length
 | .set _ _ a=> .int a
 | .fL w=> .sets ((S.iR w).made.drop S.made.length)
 |_=> .int 0
def cF:List (Int×bD)->Bk->Option Bk
 |[],S=>some S
 |(_,d) :: l,S=>if S.bar d="" then cF l (S.enter d) else none
def iF:List (Int×bD)->Bk->Str
 |[],_=>""
 |(_,d) :: l,S=>if S.bar d="" then iF l (S.enter d) else S.bar d
def Bk.eZ (S:Bk)(t:Nat×Nat×Int):Int:=if(S.bl t.2.1).a > (S.cr t.1).a then(S.bl t.2.1).a else(S.cr t.1).a
def spotOf (aU:Bool)(t:Nat×Nat×Int):Nat:=if aU then t.2.1 else t.1
def Bk.cnt (S:Bk)(aU:Bool)(k:Nat)(day:Int)(t:Nat×Nat×Int):Bool:=decide (spotOf aU t=k) && decide (S.eZ t<=day)
def Bk.rows (S:Bk)(aU:Bool):List Rw:=if aU then S.aF else S.credits
def qL (aU:Bool)(r:Rw):Int:=if aU then r.c else r.b
def keyOf (aU:Bool)(r:Rw):Int:=if aU then r.b else r.a
def Bk.rest (S:Bk)(aU:Bool)(k:Nat)(day:Int):Int:=qL aU ((S.rows aU).getD k default) - ((S.made.filter (S.cnt aU k day)).map (·.2.2)).sum
def Bk.dF (S:Bk)(aU:Bool)(aC:Str)(day:Int):List (Nat×Int):=
 ((inOrder (S.rows aU) aC (keyOf aU)).filter fun k=>decide (((S.rows aU).getD k default).a<=day) && decide (0 < S.rest aU k day)).map fun k=>(k,S.rest aU k day)
def placeOf (eZ:Int)(de:List Int):Nat:=if eZ<=0 then 0 else 1 + (de.filter fun l=>decide (l < eZ)).length
def sW (l:List Int)(i:Nat)(x:Int):List Int:=l.set i (l.getD i 0 + x)
def Bk.OV (S:Bk)(aC:Str)(day:Int)(de:List Int):List Int:=
 (S.dF true aC day).foldl (fun l t=>sW l (placeOf (day - (S.bl t.1).b) de) t.2) (List.replicate (de.length + 2) 0)
structure gE where
 steps:List (Int×bD)
 bk:Bk
def gE.new:gE:=⟨[],Bk.new⟩
def cM (m:Int)(st:Int×bD):Bool:= !(decide (st.1=m) && st.2.isSet)
def dG (T:gE)(n:Int):bD->zl×gE
 | .g6 m=>if(T.steps.filter (cM m)).length=T.steps.length then(.txt "no setting",T) else
   match cF (T.steps.filter (cM m)) Bk.new with
   |none=>(.txt "needed",T)
   |some S=>(.txt "undone",⟨T.steps.filter (cM m),S⟩)
 | .ask o w d=>(.pairs (T.bk.dF o w d),T)
 | .iD w d l=>(.ints (T.bk.OV w d l),T)
 |d=>if T.bk.bar d="" then(T.bk.LY d,⟨T.steps ++ [(n,d)],T.bk.enter d⟩) else(.txt (T.bk.bar d),T)
def dv:List bD->gE->Nat->List zl×gE
 |[],T,_=>([],T)
 |d :: l,T,n=>((dG T n d).1 :: (dv l (dG T n d).2 (n + 1)).1,(dv l (dG T n d).2 (n + 1)).2)
structure WF (S:Bk)(n:Nat):Prop where
 m: ∀t∈S.made,t.1 < S.credits.length/\t.2.1 < S.aF.length
 o: ∀c,c < S.credits.length->(S.cr c).c= -1∨ ∃b:Nat,(S.cr c).c=(b:Int)/\b < S.aF.length/\(S.cr c).aC=(S.bl b).aC
 lb:S.aF.length<=n
 lc:S.credits.length<=n
 lm:S.made.length<=8000 * n
def WF.new:WF Bk.new 0:=⟨(fun t h=>by cases h),fun c h=>absurd h (gG _),aI _,aI _,aI _⟩
def WF.mono {S:Bk}{n m:Nat}(h:WF S n)(k:n<=m):WF S m:=⟨h.m,h.o,a0 h.lb k,a0 h.lc k,a0 h.lm (Nat.mul_le_mul_left _ k)⟩
def getD_snoc {α:Type}{l:List α}{x d:α}{k:Nat}(h:k < l.length):(l ++ [x]).getD k d=l.getD k d:=by
 rw[aj,aj,N1 h]
def getD_last {α:Type}{l:List α}{x d:α}:(l ++ [x]).getD l.length d=x:=by
 rw[aj,fR (aI _)];simp
def WF.iu {S:Bk}{n:Nat}(h:WF S n)(r:Rw):WF (S.iu r) (n + 1):=by
 have len:(S.iu r).aF.length=S.aF.length + 1:=by simp[Bk.iu]
 refine⟨fun t ht=>⟨(h.m t ht).1,by rw[len]; have:=(h.m t ht).2; lia⟩,fun c hc=>?_,by rw[len]; have:=h.lb; lia,by have:=h.lc; exact Gb this,by have:=h.lm; show S.made.length<=_; lia⟩;rcases h.o c hc with z|⟨b,z1,z2,z3⟩
 ·exact .inl z
 ·refine .inr ⟨b,z1,by rw[len]; lia,?_⟩;show(S.cr c).aC=((S.aF ++ [r]).getD b default).aC;rw[getD_snoc z2];exact z3
def WF.fN {S:Bk}{n:Nat}(h:WF S n)(r:Rw)(hr:r.c= -1∨ ∃b:Nat,r.c=(b:Int)/\b < S.aF.length/\r.aC=(S.bl b).aC):WF (S.fN r) (n + 1):=by
 have len:(S.fN r).credits.length=S.credits.length + 1:=by simp[Bk.fN]
 refine⟨fun t ht=>⟨by rw[len]; have:=(h.m t ht).1; lia,(h.m t ht).2⟩,fun c hc=>?_,by have:=h.lb; exact Gb this,by rw[len]; have:=h.lc; lia,by have:=h.lm; show S.made.length<=_; lia⟩;by_cases q:c < S.credits.length
 ·have e:(S.fN r).cr c=S.cr c:=getD_snoc q;rw[e];exact h.o c q
 ·have q':c=S.credits.length:=by lia
  have e:(S.fN r).cr c=r:=by rw[q']; exact getD_last
  rw[e];exact hr
def WF.later {S S':Bk}{n m:Nat}(h:WF S n)(l:Later S S')(hm: ∀t∈S'.made,t.1 < S.credits.length/\t.2.1 < S.aF.length)(hn:n<=m)(hl:S'.made.length<=8000 * m):WF S' m:=by
 refine⟨fun t ht=>by rw[l.cl,l.bl]; exact hm t ht,fun c hc=>?_,by rw[l.bl]; exact a0 h.lb hn,by rw[l.cl]; exact a0 h.lc hn,hl⟩;rw[l.cl] at hc;rw[(l.c c).1.2.2.2,(l.c c).1.1];rcases h.o c hc with z|⟨b,z1,z2,z3⟩
 ·exact .inl z
 ·exact .inr ⟨b,z1,by rw[l.bl]; exact z2,by rw[(l.b b).1.1]; exact z3⟩
def ve: ∀{n:Nat} {l:List Nat},l.Nodup->(∀x∈l,x < n)->l.length<=n
 |0,l,_,h=>by
  cases l with
  |nil=>exact aI _
  |cons x l=>exact absurd (h x bc) (gG _)
 |n + 1,l,nd,h=>by
  by_cases q:n∈l
  ·have h1:=ve (n:=n) (l:=l.erase n) (nd.erase n) (fun x hx=>by
    have h2:=h x (List.mem_of_mem_erase hx);have h3:x≠n:=fun z=>(List.Nodup.mem_erase_iff nd).mp hx |>.1 z;lia)
   rw[List.length_erase_of_mem q] at h1;lia
  ·have:=ve (n:=n) nd (fun x hx=>by
    have h2:=h x hx;have h3:x≠n:=fun z=>q (z▸hx);lia)
   lia
def jU (rows:List Rw)(aC:Str)(key:Rw->Int):(inTurn rows aC key).length<=rows.length:=ve (jC _ _ _) fun _ h=>(dk.mp h).1
def ij (fs ls:List Int)(al:List (List Bool)): ∀i,(bW fs ls al i).2.length<=i
 |0=>aI _
 |i + 1=>by
  have:=ij fs ls al i;unfold bW;split
  ·lia
  ·rw[aH];show _ + 1<=_;lia
def gu (f:Int)(l:List Int)(row:List Bool): ∀j,(bE f l row j).2.length<=j
 |0=>aI _
 |j + 1=>by
  have:=gu f l row j;rw[bE];split
  ·rw[aH];show _ + 1<=_;lia
  ·lia
def pO (fs ls:List Int)(al:List (List Bool)): ∀i,(cq fs ls al i).2.length<=i * ls.length
 |0=>by simp[cq]
 |i + 1=>by
  have h1:=pO fs ls al i;have h2:=gu (fs.getD i 0) (cq fs ls al i).1 (al.getD i []) (cq fs ls al i).1.length;show((cq fs ls al i).2 ++ _).length<=_;rw[aH,ae,wB];rw[jI] at h2 ⊢;lia
def l5 (fs ls:List Int)(al:List (List Bool)): ∀i,∀t∈(bW fs ls al i).2,t.1 < i/\t.2.1 < ls.length
 |0,t,h=>by cases h
 |i + 1,t,h=>by
  rw[bW] at h;split at h
  ·have:=l5 fs ls al i t h;lia
  ·rename_i j hj;rcases bq.mp h with h|h
   ·have:=l5 fs ls al i t h;lia
   ·rw[ao.mp h];unfold g8 at hj;have:=cS.mp (N0 hj);exact⟨fW _,this⟩
def pP (f:Int)(l:List Int)(row:List Bool): ∀j,∀x∈(bE f l row j).2,x.1 < j
 |0,x,h=>by cases h
 |j + 1,x,h=>by
  rw[bE] at h;split at h
  ·rcases bq.mp h with h|h
   ·have:=pP f l row j x h;lia
   ·rw[ao.mp h];exact fW _
  ·have:=pP f l row j x h;lia
def vf (fs ls:List Int)(al:List (List Bool)): ∀i,∀t∈(cq fs ls al i).2,t.1 < i/\t.2.1 < ls.length
 |0,t,h=>by cases h
 |i + 1,t,h=>by
  rcases bq.mp (show t∈(cq fs ls al i).2 ++ _ from h) with h|h
  ·have:=vf fs ls al i t h;lia
  ·obtain⟨x,hx,rfl⟩:=bG.mp h;have:=pP _ _ _ _ x hx;rw[jI] at this;exact⟨fW _,this⟩
def ZZ (S:Bk)(aC:Str):va S aC (inTurn S.credits aC (·.a)) (inTurn S.aF aC (·.b)) ((inTurn S.credits aC (·.a)).map fun g=>(S.cr g).d) ((inTurn S.aF aC (·.b)).map fun t=>(S.bl t).d)
  ((inTurn S.credits aC (·.a)).map fun g=>(inTurn S.aF aC (·.b)).map fun t=>S.dO g t):=⟨rfl,rfl,rfl,rfl,rfl⟩
def Fc {S:Bk}{gs ts:List Nat}{l:List (Nat×Nat×Int)}(hl: ∀t∈l,t.1 < gs.length/\t.2.1 < ts.length)(hg: ∀g∈gs,g < S.credits.length)(ht: ∀t∈ts,t < S.aF.length): ∀t∈l.map (l4 gs ts),t.1 < S.credits.length/\t.2.1 < S.aF.length:=by
 intro t h;obtain⟨x,hx,rfl⟩:=bG.mp h;obtain⟨h1,h2⟩:=hl x hx;exact⟨hg _ (jT h1),ht _ (jT h2)⟩
def vg (S:Bk)(aC:Str)(ex:Bool):Later S (bR aC S ex)/\ ∃l,(bR aC S ex).made=S.made ++ l/\(∀t∈l,t.1 < S.credits.length/\t.2.1 < S.aF.length)/\l.length<=S.credits.length + S.credits.length * S.aF.length:=by
 have gl:=jU S.credits aC (·.a);have tl:=jU S.aF aC (·.b);have hg: ∀g∈inTurn S.credits aC (·.a),g < S.credits.length:=fun g h=>(dk.mp h).1;have ht: ∀t∈inTurn S.aF aC (·.b),t < S.aF.length:=fun g h=>(dk.mp h).1;have mul:(inTurn S.credits aC (·.a)).length * (inTurn S.aF aC (·.b)).length<=S.credits.length * S.aF.length:=qr gl tl;cases ex with
 |true=>
  obtain⟨e,l⟩:=Jt (ZZ S aC);refine⟨l,_,by rw[e]; exact jH _ _,Fc (fun t h=>?_) hg ht,?_⟩
  ·have:=l5 _ _ _ _ t h;rwa [ae] at this
  ·rw[ae];have:=ij ((inTurn S.credits aC (·.a)).map fun g=>(S.cr g).d) ((inTurn S.aF aC (·.b)).map fun t=>(S.bl t).d) ((inTurn S.credits aC (·.a)).map fun g=>(inTurn S.aF aC (·.b)).map fun t=>S.dO g t) (inTurn S.credits aC (·.a)).length;lia
 |false=>
  obtain⟨e,l⟩:=Jv (ZZ S aC);refine⟨l,_,by rw[e]; exact jH _ _,Fc (fun t h=>?_) hg ht,?_⟩
  ·have:=vf _ _ _ _ t h;rwa [ae] at this
  ·rw[ae];have:=pO ((inTurn S.credits aC (·.a)).map fun g=>(S.cr g).d) ((inTurn S.aF aC (·.b)).map fun t=>(S.bl t).d) ((inTurn S.credits aC (·.a)).map fun g=>(inTurn S.aF aC (·.b)).map fun t=>S.dO g t) (inTurn S.credits aC (·.a)).length;rw[ae] at this;lia
def qM (S:Bk)(aC:Str):Later S (S.iR aC)/\ ∃l,(S.iR aC).made=S.made ++ l/\(∀t∈l,t.1 < S.credits.length/\t.2.1 < S.aF.length)/\l.length<=2 * (S.credits.length + S.credits.length * S.aF.length):=by
 obtain⟨l1,m1,e1,h1,n1⟩:=vg S aC true;obtain⟨l2,m2,e2,h2,n2⟩:=vg (bR aC S true) aC false;refine⟨l1.trans l2,m1 ++ m2,by show(bR aC (bR aC S true) false).made=_; rw[e2,e1,dR],fun t ht=>?_,?_⟩
 ·rcases bq.mp ht with ht|ht
  ·exact h1 t ht
  ·have:=h2 t ht;rwa [l1.cl,l1.bl] at this
 ·rw[l1.cl,l1.bl] at n2;rw[aH];lia
def WF.enter {S:Bk}{n:Nat}{d:bD}(h:WF S n)(hn:n < 60)(hb:S.bar d=""):WF (S.enter d) (n + 1):=by
 cases d with
 |dW w d u a=>exact h.iu _
 |qK w d a=>exact h.fN _ (.inl rfl)
 |note b d a=>
  refine h.fN _ (.inr ⟨b.toNat,?_⟩);have z:=(nZ hb).1;obtain⟨z1,z2⟩:=z;refine⟨?_,?_,rfl⟩
  ·show b=(b.toNat:Int);lia
  ·lia
 |set c b a=>
  obtain⟨zc,zb,_,za,_⟩:=mX hb;obtain⟨c1,c2⟩:=zc;obtain⟨b1,b2⟩:=zb;have l:Later S (S.put c.toNat b.toNat a):=Later.put (by lia) (by lia) (by lia);refine h.later l (fun t ht=>?_) (dA _) ?_
  ·rcases bq.mp ht with ht|ht
   ·exact h.m t ht
   ·rw[ao.mp ht];show c.toNat < _/\b.toNat < _;lia
  ·show(S.made ++ [_]).length<=_;rw[aH];have:=h.lm;show _ + 1<=_;lia
 |fL w=>
  obtain⟨l,m,e,h1,h2⟩:=qM S w;refine h.later l (fun t ht=>?_) (dA _) ?_
  ·rw[show(S.enter (.fL w)).made=S.made ++ m from e] at ht;rcases bq.mp ht with ht|ht
   ·exact h.m t ht
   ·exact h1 t ht
  ·show(S.iR w).made.length<=_;rw[e,aH];have h3:=h.lm;have h4:=h.lb;have h5:=h.lc;have:S.credits.length * S.aF.length<=60 * 60:=qr (by lia) (by lia);lia
 |g6 m=>exact h.mono (dA _)
 |ask o w d=>exact h.mono (dA _)
 |iD w d l=>exact h.mono (dA _)
structure mY (S T:Bk):Prop where
 bl:T.aF.length=S.aF.length
 cl:T.credits.length=S.credits.length
 b: ∀k,oB (S.bl k) (T.bl k)
 c: ∀k,oB (S.cr k) (T.cr k)
def oB.symm {r s:Rw}(h:oB r s):oB s r:=⟨h.1.symm,h.2.1.symm,h.2.2.1.symm,h.2.2.2.symm⟩
def mY.refl (S:Bk):mY S S:=⟨rfl,rfl,fun _=>oB.refl _,fun _=>oB.refl _⟩
def mY.symm {S T:Bk}(h:mY S T):mY T S:=⟨h.bl.symm,h.cl.symm,fun k=>(h.b k).symm,fun k=>(h.c k).symm⟩
def mY.trans {S T U:Bk}(h:mY S T)(k:mY T U):mY S U:=⟨k.bl.trans h.bl,k.cl.trans h.cl,fun i=>(h.b i).trans (k.b i),fun i=>(h.c i).trans (k.c i)⟩
def Later.rY {S T:Bk}(h:Later S T):mY S T:=⟨h.bl,h.cl,fun k=>(h.b k).1,fun k=>(h.c k).1⟩
def mY.dO {S T:Bk}(h:mY S T)(c b:Nat):T.dO c b=S.dO c b:=by
 unfold Bk.dO;rw[(h.c c).1,(h.b b).1,(h.c c).2.2.2]
def sq {l m:List Rw}{r s:Rw}(hl:m.length=l.length)(h: ∀k,oB (l.getD k default) (m.getD k default))(hr:oB r s)(k:Nat):oB ((l ++ [r]).getD k default) ((m ++ [s]).getD k default):=by
 by_cases q:k < l.length
 ·rw[getD_snoc q,getD_snoc (by rw[hl]; exact q)];exact h k
 ·by_cases e:k=l.length
  ·subst e;rw[getD_last,← hl,getD_last];exact hr
  ·have o1:(l ++ [r]).getD k default=default:=by
    rw[aj,wD (by rw[aH]; show l.length + 1<=k; lia)];rfl
   have o2:(m ++ [s]).getD k default=default:=by
    rw[aj,wD (by rw[aH]; show m.length + 1<=k; lia)];rfl
   rw[o1,o2];exact oB.refl _
def Jw {S T:Bk}(h:mY S T){d:bD}(hb:S.bar d=""):T.bar d=""∨T.bar d="too much":=by
 cases d with
 |note b d a=>
  obtain⟨z1,z2⟩:=nZ hb;left;rw[vd,h.bl,aO (fun z=>z z1),aO (by lia)]
 |set c b a=>
  obtain⟨z1,z2,z3,z4,_⟩:=mX hb;rw[zo,h.bl,h.cl,h.dO,aO (fun z=>z z1),aO (fun z=>z z2),aO (by rw[z3]; decide),aO (by lia)];split
  ·exact .inr rfl
  ·exact .inl rfl
 |dW w d u a=>exact .inl hb
 |qK w d a=>exact .inl hb
 |fL w=>exact .inl rfl
 |g6 m=>exact .inl rfl
 |ask o w d=>exact .inl rfl
 |iD w d l=>exact .inl rfl
def lB {S:Bk}{d:bD}(hs:d.isSet=true)(hb:S.bar d=""):Later S (S.enter d):=by
 cases d with
 |set c b a=>
  obtain⟨⟨_,_⟩,⟨_,_⟩,_,_,_⟩:=mX hb;exact Later.put (by lia) (by lia) (by lia)
 |fL w=>exact(qM S w).1
 |dW w d u a=>cases hs
 |qK w d a=>cases hs
 |note b d a=>cases hs
 |g6 m=>cases hs
 |ask o w d=>cases hs
 |iD w d l=>cases hs
def DU {S T:Bk}(h:mY S T){d:bD}(hs:S.bar d="")(ht:T.bar d=""):mY (S.enter d) (T.enter d):=by
 cases d with
 |dW w d u a=>exact⟨by simp[Bk.enter,Bk.iu,h.bl],h.cl,sq h.bl h.b (oB.refl _),h.c⟩
 |qK w d a=>exact⟨h.bl,by simp[Bk.enter,Bk.fN,h.cl],h.b,sq h.cl h.c (oB.refl _)⟩
 |note b d a=>exact⟨h.bl,by simp[Bk.enter,Bk.fN,h.cl],h.b,sq h.cl h.c ⟨(h.b _).1,rfl,rfl,rfl⟩⟩
 |set c b a=>exact(lB rfl hs).rY.symm.trans (h.trans (lB rfl ht).rY)
 |fL w=>exact(lB (d:= .fL w) rfl hs).rY.symm.trans (h.trans (lB (d:= .fL w) rfl ht).rY)
 |g6 m=>exact h
 |ask o w d=>exact h
 |iD w d l=>exact h
def OW (m:Int): ∀(l:List (Int×bD)) {S T:Bk},mY S T->(cF l S).isSome=true->iF (l.filter (cM m)) T=""∨iF (l.filter (cM m)) T="too much"
 |[],_,_,_,_=> .inl rfl
 |(n,d) :: l,S,T,h,hw=>by
  unfold cF at hw;split at hw
  ·rename_i hb;by_cases k:cM m (n,d)=true
   ·rw[bS k];unfold iF;split
    ·rename_i ht;exact OW m l (DU h hb ht) hw
    ·rename_i ht;exact .inr ((Jw h hb).resolve_left ht)
   ·rw[eo k];have ds:d.isSet=true:=by
     unfold cM at k;simp at k;exact k.2
    exact OW m l ((lB ds hb).rY.symm.trans h) hw
  ·cases hw
def su: ∀(l:List (Int×bD)) {S T:Bk} {n:Nat},WF S n->cF l S=some T->n + l.length<=60->WF T (n + l.length)
 |[],S,T,n,h,e,_=>by
  cases e;exact h
 |(k,d) :: l,S,T,n,h,e,hl=>by
  unfold cF at e;split at e
  ·rename_i hb;have len:((k,d) :: l).length=l.length + 1:=rfl;rw[len] at hl ⊢;have:=su l (h.enter (by lia) hb) e (by lia);rwa [show n + (l.length + 1)=n + 1 + l.length by lia]
  ·cases e
def kX: ∀(l m:List (Int×bD)) (S:Bk),cF (l ++ m) S=(cF l S).bind (cF m)
 |[],m,S=>rfl
 |(k,d) :: l,m,S=>by
  show(if S.bar d="" then cF (l ++ m) (S.enter d) else none)=(if S.bar d="" then cF l (S.enter d) else none).bind (cF m);split
  ·exact kX l m _
  ·rfl
structure Good (T:gE)(n:Nat):Prop where
 w:cF T.steps Bk.new=some T.bk
 lt: ∀st∈T.steps,0<=st.1/\st.1 < (n:Int)
 inc:T.steps.Pairwise fun a b=>a.1 < b.1
 tl: ∀st∈T.steps,st.2.tells=true
 len:T.steps.length<=n
def Good.new:Good gE.new 0:=⟨rfl,(fun _ h=>by cases h),List.Pairwise.nil,(fun _ h=>by cases h),aI _⟩
def Good.mono {T:gE}{n m:Nat}(h:Good T n)(k:n<=m):Good T m:=⟨h.w,fun st hs=>⟨(h.lt st hs).1,by have:=(h.lt st hs).2; lia⟩,h.inc,h.tl,a0 h.len k⟩
def Good.wf {T:gE}{n:Nat}(h:Good T n)(hn:n<=60):WF T.bk n:=by
 have z:=su T.steps WF.new h.w (by have:=h.len; lia);rw[Nat.zero_add] at z;exact z.mono h.len
def Good.add {T:gE}{n:Nat}(h:Good T n){d:bD}(ht:d.tells=true)(hb:T.bk.bar d=""):Good ⟨T.steps ++ [((n:Int),d)],T.bk.enter d⟩ (n + 1):=by
 refine⟨?_,fun st hs=>?_,?_,fun st hs=>?_,?_⟩
 ·show cF (T.steps ++ [((n:Int),d)]) Bk.new=_;rw[kX,h.w];show(if T.bk.bar d="" then some (T.bk.enter d) else none)=_;rw[aZ hb]
 ·rcases bq.mp hs with hs|hs
  ·have:=h.lt st hs;lia
  ·rw[ao.mp hs];show(0:Int)<=(n:Int)/\(n:Int) < _;lia
 ·rw[List.pairwise_append];refine⟨h.inc,List.pairwise_singleton _ _,fun a ha b hb=>?_⟩;rw[ao.mp hb];exact(h.lt a ha).2
 ·rcases bq.mp hs with hs|hs
  ·exact h.tl st hs
  ·rw[ao.mp hs];exact ht
 ·show(T.steps ++ [_]).length<=_;rw[aH];have:=h.len;show _ + 1<=_;lia
def Good.g6 {T:gE}{n:Nat}(h:Good T n)(m k:Int):Good (dG T k (.g6 m)).2 n/\ ∃s,(dG T k (.g6 m)).1= .txt s:=by
 rw[dG];split
 ·exact⟨h,_,rfl⟩
 ·cases e:cF (T.steps.filter (cM m)) Bk.new with
  |none=>exact⟨h,_,rfl⟩
  |some S=>exact⟨⟨e,fun st hs=>h.lt st (dJ.mp hs).1,h.inc.filter _,fun st hs=>h.tl st (dJ.mp hs).1,a0 (a7 _ _) h.len⟩,_,rfl⟩
def Good.step {T:gE}{n:Nat}(h:Good T n)(d:bD):Good (dG T n d).2 (n + 1):=by
 have keep:=h.mono (dA n);have dflt: ∀d:bD,d.tells=true->Good (if T.bk.bar d="" then(T.bk.LY d,(⟨T.steps ++ [((n:Int),d)],T.bk.enter d⟩:gE)) else(.txt (T.bk.bar d),T)).2 (n + 1):=fun d ht=>by
  split
  ·rename_i hb;exact h.add ht hb
  ·exact keep
 cases d with
 |g6 m=>exact(h.g6 m n).1.mono (dA n)
 |ask o w d=>exact keep
 |iD w d l=>exact keep
 |dW w d u a=>exact dflt _ rfl
 |qK w d a=>exact dflt _ rfl
 |note b d a=>exact dflt _ rfl
 |set c b a=>exact dflt _ rfl
 |fL w=>exact dflt _ rfl
def kF: ∀(l:List bD) (T:gE) (n:Nat),(dv l T n).1.length=l.length
 |[],_,_=>rfl
 |d :: l,T,n=>by
  show(dv l _ _).1.length + 1=_;rw[kF l];rfl
def bD.dt:bD->Dt
 | .dW w d u a=> .tup [.str "bill",.str w,.int d,.int u,.int a]
 | .qK w d a=> .tup [.str "pay",.str w,.int d,.int a]
 | .note b d a=> .tup [.str "note",.int b,.int d,.int a]
 | .set c b a=> .tup [.str "set",.int c,.int b,.int a]
 | .fL w=> .tup [.str "sweep",.str w]
 | .g6 n=> .tup [.str "undo",.int n]
 | .ask o w d=> .tup [.str (if o then "owed" else "free"),.str w,.int d]
 | .iD w d l=> .tup [.str "ages",.str w,.int d,.tup (l.map Dt.int)]
def vh:Int:=10 ^ 62
def Fd {x:Int}(h:x<=10 ^ 60):x<=vh:=lS h (by decide +kernel)
def bD.ok:bD->Prop
 | .dW _ d _ _=>d<=vh
 | .qK _ d _=>d<=vh
 | .note _ d _=>d<=vh
 | .iD _ _ l=>l.length<=11/\l.Pairwise (· < ·)/\ ∀x∈l,1<=x
 |_=>True
mutual
def Dt.K4:Dt->Bool
 | .lst _=>false
 | .tup ds=>Dt.wQ ds
 | .eu=>true
 | .bl _=>true
 | .int _=>true
 | .str _=>true
def Dt.wQ:List Dt->Bool
 |[]=>true
 |d :: ds=>d.K4 && Dt.wQ ds
end
def cB (H H':Hp):Prop:= ∀b xs,H b=some (.tup xs)->H' b=some (.tup xs)
def cB.trans {H1 H2 H3:Hp}(a:cB H1 H2)(b:cB H2 H3):cB H1 H3:=fun x xs e=>b x xs (a x xs e)
def aE.tk {H H':Hp}(s:aE H H'):cB H H':=fun b xs e=>s _ _ e
def fb {H:Hp}{p:Addr}{o:HO}{ys:List V}(h:H p=some (.lst ys)):cB H (upd H p o):=dE h
mutual
def Rp.BC {H H':Hp}(k:cB H H'): ∀(d:Dt) {v:V},d.K4=true->Rp H d v->Rp H' d v
 | .eu,_,_,h=>uW.mpr (uW.mp h)
 | .bl _,_,_,h=>qG.mpr (qG.mp h)
 | .int _,_,_,h=>dj.mpr (dj.mp h)
 | .str _,_,_,h=>fG.mpr (fG.mp h)
 | .tup ds,_,n,h=>by
  obtain⟨a,xs,e,h1,h2⟩:=jQ.mp h;exact jQ.mpr ⟨a,xs,e,k _ _ h1,ie.BC k ds (by simpa[Dt.K4] using n) h2⟩
 | .lst ds,_,n,h=>by simp[Dt.K4] at n
def ie.BC {H H':Hp}(k:cB H H'): ∀(ds:List Dt) {vs:List V},Dt.wQ ds=true->ie H ds vs->ie H' ds vs
 |[],_,_,h=>cI.mpr (cI.mp h)
 |d :: ds,_,n,h=>by
  obtain⟨v,r,e,h1,h2⟩:=bI.mp h;have n':d.K4=true/\Dt.wQ ds=true:=by simpa[Dt.wQ] using n
  exact bI.mpr ⟨v,r,e,Rp.BC k d n'.1 h1,ie.BC k ds n'.2 h2⟩
end
def GN (l:List Int):Dt.wQ (l.map Dt.int)=true:=by
 induction l with
 |nil=>rfl
 |cons x l ih=>simp[Dt.wQ,Dt.K4,ih]
def bD.K4 (d:bD):d.dt.K4=true:=by
 cases d <;> simp[bD.dt,Dt.K4,Dt.wQ,GN]
def GO (ds:List bD):Dt.wQ (ds.map bD.dt)=true:=by
 induction ds with
 |nil=>rfl
 |cons d ds ih=>simp[Dt.wQ,bD.K4,ih]
def fH (H:Hp)(ds:List bD)(ms:List V):Prop:=ie H (ds.map bD.dt) ms
def fH.mono {H H':Hp}{ds:List bD}{ms:List V}(h:fH H ds ms)(k:cB H H'):fH H' ds ms:=ie.BC k _ (GO ds) h
def fH.snoc {H:Hp}{ds:List bD}{ms:List V}{d:bD}{v:V}(h:fH H ds ms)(hd:Rp H d.dt v):fH H (ds ++ [d]) (ms ++ [v]):=by
 unfold fH;rw[aJ];exact ie.append h (ie.one hd)
def fH.length {H:Hp}{ds:List bD}{ms:List V}(h:fH H ds ms):ds.length=ms.length:=by
 have:=ie.length h;rwa [ae] at this
def LZ (n:Nat)(b:Str):(List.replicate n [V.str b]).flatten=(List.replicate n b).map V.str:=by
 induction n with
 |zero=>rfl
 |succ n ih=>rw[dg,iU,ih,dg]; rfl
def Rw.vs (r:Rw):List V:=[.str r.aC,.int r.a,.int r.b,.int r.c,.int r.d]
structure fC where
 pb:Addr
 pc:Addr
 pm:Addr
 ix:List Addr
 cps:List Addr
def fC.fp (f:fC):List Addr:=f.pb :: f.pc :: f.pm :: (f.ix ++ f.cps)
def bk3 (f:fC):List (Key×V):=[(Sum.inr "bills",.ref f.pb),(Sum.inr "credits",.ref f.pc),(Sum.inr "made",.ref f.pm)]
def eP (H:Hp)(rs:List Rw)(ps:List Addr):Prop:=Paired (fun(r:Rw) p=>H p=some (.lst r.vs)) rs ps
def il (H:Hp)(ms:List (Nat×Nat×Int))(vs:List V):Prop:=Paired (fun(t:Nat×Nat×Int) v=> ∃p,v= .ref p/\H p=some (.tup [.int t.1,.int t.2.1,.int t.2.2])) ms vs
def il.mono {H H':Hp}{ms:List (Nat×Nat×Int)}{vs:List V}(h:il H ms vs)(k:cB H H'):il H' ms vs:=
 Paired.iA h fun _ _ ⟨p,e,q⟩=>⟨p,e,k _ _ q⟩
structure dh (H:Hp)(sd:Addr)(S:Bk)(f:fC):Prop where
 dict:H sd=some (.dK (bk3 f))
 hb:H f.pb=some (.lst (f.ix.map V.ref))
 hc:H f.pc=some (.lst (f.cps.map V.ref))
 hm: ∃ms,H f.pm=some (.lst ms)/\il H S.made ms
 rb:eP H S.aF f.ix
 rc:eP H S.credits f.cps
 nd:f.fp.Nodup
 ns:sd∉f.fp
def eP.keep {H H':Hp}{rs:List Rw}{ps:List Addr}(h:eP H rs ps)(k: ∀p∈ps,∀o,H p=some o->H' p=some o):eP H' rs ps:=by
 induction h with
 |nil=>exact .nil
 | @cons r p rs ps hr t ih=>exact .cons (k p bc _ hr) (ih fun q hq=>k q (aS _ hq))
def dh.keep {H H':Hp}{sd:Addr}{S:Bk}{f:fC}(h:dh H sd S f)(k: ∀b o,(b=sd∨b∈f.fp)->H b=some o->H' b=some o)(t:cB H H'):dh H' sd S f:=by
 obtain⟨ms,m1,m2⟩:=h.hm;refine⟨k _ _ (.inl rfl) h.dict,k _ _ (.inr (by simp[fC.fp])) h.hb,k _ _ (.inr (by simp[fC.fp])) h.hc,⟨ms,k _ _ (.inr (by simp[fC.fp])) m1,m2.mono t⟩,h.rb.keep fun p hp o e=>k p o (.inr (by simp[fC.fp,hp])) e,h.rc.keep fun p hp o e=>k p o (.inr (by simp[fC.fp,hp])) e,h.nd,h.ns⟩
def dh.same {H H':Hp}{sd:Addr}{S:Bk}{f:fC}(h:dh H sd S f)(s:aE H H'):dh H' sd S f:=h.keep (fun b o _ e=>s _ _ e) s.tk
def Frame (fp:List Addr)(H H':Hp):Prop:= ∀b o,b∉fp->H b=some o->H' b=some o
def Frame.refl {fp:List Addr}{H:Hp}:Frame fp H H:=fun _ _ _ e=>e
def Frame.trans {fp SE:List Addr}{H1 H2 H3:Hp}(a:Frame fp H1 H2)(b:Frame SE H2 H3)(h: ∀x∈SE,x∈fp∨H1 x=none):Frame fp H1 H3:=fun x o hx e=>
 b x o (fun hx'=>by
  rcases h x hx' with h|h
  ·exact hx h
  ·rw[h] at e; cases e) (a x o hx e)
def aE.frame {fp:List Addr}{H H':Hp}(s:aE H H'):Frame fp H H':=fun b o _ e=>s _ _ e
def Frame.upd {fp:List Addr}{H:Hp}{p:Addr}{o:HO}(h:p∈fp):Frame fp H (upd H p o):=fun b u hb e=>by
 have js:b≠p:=fun z=>hb (by rw[z]; exact h);rw[aA js]; exact e
def Frame.same {fp:List Addr}{H0 H H':Hp}(a:Frame fp H H')(s:aE H0 H)(h: ∀x∈fp,H0 x=none):aE H0 H':=fun b o e=>a b o (fun hb=>by rw[h b hb] at e; cases e) (s b o e)
def eP.length {H:Hp}{rs:List Rw}{ps:List Addr}(h:eP H rs ps):rs.length=ps.length:=aL h
def eP.at {H:Hp}{rs:List Rw}{ps:List Addr}(h:eP H rs ps){i:Nat}(hi:i < rs.length): ∃p,ps[i]? =some p/\H p=some (.lst (rs.getD i default).vs):=by
 obtain⟨p,e,q⟩:=bB h (af hi);refine⟨p,e,?_⟩;rw[aj,af hi];exact q
def eP.set {H:Hp}: ∀{rs:List Rw} {ps:List Addr} {i:Nat} {p:Addr} {r:Rw},eP H rs ps->ps.Nodup->ps[i]? =some p->eP (upd H p (.lst r.vs)) (rs.set i r) ps
 |_,_,i,p,r,.nil,_,h=>by simp at h
 |_,_,0,p,r,.cons (b:=q) hr t,nd,h=>by
  injection h with h;subst h;rw[ej] at nd;refine .cons ag (eP.keep t fun x hx o e=>?_);have js:x≠q:=fun z=>nd.1 (by rw[← z]; exact hx);rw[aA js]; exact e
 |_,_,i + 1,p,r,.cons (b:=q) hr t,nd,h=>by
  rw[ej] at nd;rw[List.getElem?_cons_succ] at h;have js:q≠p:=fun z=>nd.1 (by rw[z]; exact gA h);refine .cons ?_ (eP.set t nd.2 h);rw[aA js]; exact hr
def eP.ip {H:Hp}{rs:List Rw}{ps:List Addr}{p:Addr}{o:HO}(h:eP H rs ps)(hp:p∉ps):eP (upd H p o) rs ps:=
 h.keep fun q hq u e=>by
  have js:q≠p:=fun z=>hp (by rw[← z]; exact hq);rw[aA js]; exact e
def fC.SG {f:fC}(h:f.fp.Nodup):f.pb≠f.pc/\f.pb≠f.pm/\f.pc≠f.pm/\(∀p∈f.ix,p≠f.pb/\p≠f.pc/\p≠f.pm/\p∉f.cps)/\(∀p∈f.cps,p≠f.pb/\p≠f.pc/\p≠f.pm/\p∉f.ix)/\f.ix.Nodup/\f.cps.Nodup:=by
 unfold fC.fp at h;simp only[List.nodup_cons,List.mem_cons,List.mem_append,not_or,List.nodup_append] at h;obtain⟨⟨h1,h2,h3,h4⟩,⟨h5,h6,h7⟩,⟨h8,h9⟩,K5,Xk,Vs⟩:=h;refine⟨h1,h2,h5,fun p hp=>⟨fun e=>h3 (e▸hp),fun e=>h6 (e▸hp),fun e=>h8 (e▸hp),fun hc=>Vs p hp p hc rfl⟩,fun p hp=>⟨fun e=>h4 (e▸hp),fun e=>h7 (e▸hp),fun e=>h9 (e▸hp),fun hb=>Vs p hb p hp rfl⟩,K5,Xk⟩
def dh.setB {H:Hp}{sd:Addr}{S:Bk}{f:fC}(h:dh H sd S f){i:Nat}{p:Addr}{r:Rw}(hp:f.ix[i]? =some p)(hl: ∃xs,H p=some (.lst xs)):dh (upd H p (.lst r.vs)) sd {S with aF:=S.aF.set i r} f:=by
 obtain⟨d1,d2,d3,d4,d5,d6,d7⟩:=fC.SG h.nd;have hm:=gA hp;obtain⟨e1,e2,e3,e4⟩:=d4 p hm;obtain⟨ms,m1,m2⟩:=h.hm;obtain⟨xs,hx⟩:=hl;have es:sd≠p:=fun z=>h.ns (by rw[z]; simp[fC.fp,hm]);exact⟨by rw[aA es]; exact h.dict,by rw[aA e1.symm]; exact h.hb,by rw[aA e2.symm]; exact h.hc,⟨ms,by rw[aA e3.symm]; exact m1,m2.mono (fb hx)⟩,h.rb.set d6 hp,h.rc.ip e4,h.nd,h.ns⟩
def dh.setC {H:Hp}{sd:Addr}{S:Bk}{f:fC}(h:dh H sd S f){i:Nat}{p:Addr}{r:Rw}(hp:f.cps[i]? =some p)(hl: ∃xs,H p=some (.lst xs)):dh (upd H p (.lst r.vs)) sd {S with credits:=S.credits.set i r} f:=by
 obtain⟨d1,d2,d3,d4,d5,d6,d7⟩:=fC.SG h.nd;have hm:=gA hp;obtain⟨e1,e2,e3,e4⟩:=d5 p hm;obtain⟨ms,m1,m2⟩:=h.hm;obtain⟨xs,hx⟩:=hl;have es:sd≠p:=fun z=>h.ns (by rw[z]; simp[fC.fp,hm]);exact⟨by rw[aA es]; exact h.dict,by rw[aA e1.symm]; exact h.hb,by rw[aA e2.symm]; exact h.hc,⟨ms,by rw[aA e3.symm]; exact m1,m2.mono (fb hx)⟩,h.rb.ip e4,h.rc.set d7 hp,h.nd,h.ns⟩
def dh.Xl {H:Hp}{sd:Addr}{S:Bk}{f:fC}(h:dh H sd S f){ms:List V}{t:Nat×Nat×Int}{p:Addr}(hm:H f.pm=some (.lst ms))(hms:il H S.made ms)(hp:H p=some (.tup [.int t.1,.int t.2.1,.int t.2.2])):
  dh (upd H f.pm (.lst (ms ++ [.ref p]))) sd {S with made:=S.made ++ [t]} f:=by
 obtain⟨d1,d2,d3,d4,d5,d6,d7⟩:=fC.SG h.nd;have es:sd≠f.pm:=fun z=>h.ns (by rw[z]; simp[fC.fp]);exact⟨by rw[aA es]; exact h.dict,by rw[aA d2]; exact h.hb,by rw[aA d3]; exact h.hc,⟨_,ag,cw (hms.mono (fb hm)) ⟨p,rfl,dE hm _ _ hp⟩⟩,h.rb.ip fun z=>(d4 _ z).2.2.1 rfl,h.rc.ip fun z=>(d5 _ z).2.2.1 rfl,h.nd,h.ns⟩
def SH:("bills":Str)≠"credits":=by decide +kernel
def SI:("bills":Str)≠"made":=by decide +kernel
def SJ:("credits":Str)≠"made":=by decide +kernel
def SK (a b c:V):gj [((Sum.inr "bills":Key),a),(Sum.inr "credits",b),(Sum.inr "made",c)] (Sum.inr "bills")=some a:=by
 unfold gj;rw[List.find?_cons_of_pos (by simp)]; rfl
def SM (a b c:V):gj [((Sum.inr "bills":Key),a),(Sum.inr "credits",b),(Sum.inr "made",c)] (Sum.inr "credits")=some b:=by
 unfold gj;rw[List.find?_cons_of_neg (by simpa using SH),List.find?_cons_of_pos (by simp)]; rfl
def SN (a b c:V):gj [((Sum.inr "bills":Key),a),(Sum.inr "credits",b),(Sum.inr "made",c)] (Sum.inr "made")=some c:=by
 unfold gj;rw[List.find?_cons_of_neg (by simpa using SI),List.find?_cons_of_neg (by simpa using SJ),List.find?_cons_of_pos (by simp)]; rfl
def OX (a b c:V):pE [] [((Sum.inr "bills":Key),a),(Sum.inr "credits",b),(Sum.inr "made",c)]=[((Sum.inr "bills":Key),a),(Sum.inr "credits",b),(Sum.inr "made",c)]:=by
 unfold pE;rw[eV,eV,eV,List.foldl_nil];have h1:putK ([]:List (Key×V)) (Sum.inr "bills") a=[((Sum.inr "bills":Key),a)]:=by
  unfold putK; rw[if_neg (by simp)]; rfl
 have h2:putK [((Sum.inr "bills":Key),a)] (Sum.inr "credits") b=[((Sum.inr "bills":Key),a),(Sum.inr "credits",b)]:=by
  unfold putK; rw[if_neg (by simpa using SH)]; rfl
 have h3:putK [((Sum.inr "bills":Key),a),(Sum.inr "credits",b)] (Sum.inr "made") c=[((Sum.inr "bills":Key),a),(Sum.inr "credits",b),(Sum.inr "made",c)]:=by
  unfold putK; rw[if_neg (by simpa using⟨SI,SJ⟩)]; rfl
 dsimp only;rw[h1,h2,h3]
def dh.gB {H:Hp}{sd:Addr}{S:Bk}{f:fC}(h:dh H sd S f):mE H sd (.str "bills") (some (.ref f.pb)):=SK (.ref f.pb) (.ref f.pc) (.ref f.pm)▸mE.k (k:=Sum.inr "bills") h.dict
def dh.gC {H:Hp}{sd:Addr}{S:Bk}{f:fC}(h:dh H sd S f):mE H sd (.str "credits") (some (.ref f.pc)):=SM (.ref f.pb) (.ref f.pc) (.ref f.pm)▸mE.k (k:=Sum.inr "credits") h.dict
def dh.gM {H:Hp}{sd:Addr}{S:Bk}{f:fC}(h:dh H sd S f):mE H sd (.str "made") (some (.ref f.pm)):=SN (.ref f.pb) (.ref f.pc) (.ref f.pm)▸mE.k (k:=Sum.inr "made") h.dict
def dh.lb {H:Hp}{sd:Addr}{S:Bk}{f:fC}(h:dh H sd S f){b:Nat}(hb:b < S.aF.length): ∃p,f.ix[b]? =some p/\se (f.ix.map V.ref) (b:Int)=some (.ref p)/\H p=some (.lst (S.bl b).vs):=by
 obtain⟨p,e,q⟩:=h.rb.at hb;exact⟨p,e,cf (by rw[aB,e]; rfl),q⟩
def dh.lc {H:Hp}{sd:Addr}{S:Bk}{f:fC}(h:dh H sd S f){b:Nat}(hb:b < S.credits.length): ∃p,f.cps[b]? =some p/\se (f.cps.map V.ref) (b:Int)=some (.ref p)/\H p=some (.lst (S.cr b).vs):=by
 obtain⟨p,e,q⟩:=h.rc.at hb;exact⟨p,e,cf (by rw[aB,e]; rfl),q⟩
section
variable {prog:Program}{w:World}{A:Around}{E:Value->Shared->Prop}
def sX (prog:Program)(w:World)(A:Around)(kS:Addr)(f:Value)(Fi:List Value->Shared->Prop):List Value->List Value->Shared->Prop
 |[],ks,s=>Fi ks s
 |v :: r,ks,s=>wpAny (model prog w) A (call f [v]) (fun k s'=> ∃e,s'.heap.get? kS=some (seqObj "list" ks.toArray e)/\ ∀h' c,Heap.SameBut kS s'.heap h'->h'.get? kS=some (seqObj "list" (ks ++ [k]).toArray c)->sX prog w A kS f Fi r (ks ++ [k]) {s' with heap:=h'}) (fun _ _=>False) s
def GQ (prog:Program)(w:World)(A:Around)(D kS:Addr)(e1:Nat)(vs:List Value)(Q:Shared->Prop)(ks:List Value)(s:Shared):Prop:=
 ∃(κ:SortKind) (key:Nat->Int),D≠kS/\s.heap.get? D=some (seqObj "list" #[] e1)/\(2<=vs.length-> ∀Q':SortKind->Shared->Prop,Q' κ s->wpAny (model prog w) A (keyKind' ks.toArray) Q' (fun _ _=>False) s)/\
  (∀(i j:Nat) (C:Bool->Shared->Prop),i < vs.length->j < vs.length->C (decide (key i < key j)) s->wpAny (model prog w) A (keyLt' κ (ks.getD i Value.none) (ks.getD j Value.none)) C (fun _ _=>False) s)/\
  ∀(p:Array Nat) (h':Heap) (n:Nat),qH vs.length p->ly key p vs.length->h'.objs.size=s.heap.objs.size->h'.get? D=some (seqObj "list" (p.toList.map fun i=>vs.getD i Value.none).toArray n)->(∀b,b≠D->b≠kS->h'.get? b=s.heap.get? b)->Q {s with heap:=h'}
def Fe {f:Value}{kS:Addr}{Fi:List Value->Shared->Prop}{n:Nat}{body:Value->PUnit->Sem (ForInStep PUnit)}(hn:n < 64)
  (hb: ∀x ks (s:Shared) (C:Value->Shared->Prop),List.length ks < 64->wpAny (model prog w) A (call f [x]) (fun k s'=> ∃e,s'.heap.get? kS=some (seqObj "list" ks.toArray e)/\ ∀h' c,Heap.SameBut kS s'.heap h'->h'.get? kS=some (seqObj "list" (ks ++ [k]).toArray c)->C k {s' with heap:=h'}) (fun _ _=>False) s->
   wpAny (model prog w) A (body x ⟨⟩) (fun r s'=>r= .yield ⟨⟩/\ ∃k c,s'.heap.get? kS=some (seqObj "list" (ks ++ [k]).toArray c)/\C k s') E s): ∀(r ks:List Value) (e:Nat) (s:Shared),ks.length + r.length=n->
   s.heap.get? kS=some (seqObj "list" ks.toArray e)->sX prog w A kS f Fi r ks s->
   wpAny (model prog w) A (forIn r PUnit.unit body) (fun _ s'=> ∃ks e,s'.heap.get? kS=some (seqObj "list" ks.toArray e)/\ks.length=n/\Fi ks s') E s
 |[],ks,e,s,hl,hk,h=>by
  rw[List.forIn_nil];exact wpAny_pure ⟨ks,e,hk,by simpa using hl,h⟩
 |x :: r,ks,e,s,hl,hk,h=>by
  rw[bH] at hl;rw[List.forIn_cons];refine az (ck (hb x ks s (fun k s'=>sX prog w A kS f Fi r (ks ++ [k]) s') (by lia) h) (fun q s' hq=>?_) fun _ _ x=>x);obtain⟨rfl,k,c,K3,h2⟩:=hq;show wpAny (model prog w) A (forIn r PUnit.unit body) _ E s';exact Fe hn hb r (ks ++ [k]) c s' (by rw[aH,List.length_singleton]; lia) K3 h2
variable {s:Shared}
def Ff {D kS:Addr}{e e1:Nat}{ks out:List Value}{st:SortSt}{P:PySem.Fin->Shared->Prop}(hD:s.heap.get? D=some (seqObj "list" #[] e1))(hk:s.heap.get? kS=some (seqObj "list" ks.toArray e))(ne:D≠kS)
  (DS:(arrOf st).map (·.2)=out.toArray) (hz:out.length < 64) (hkz:ks.length < 64) (hf:failedOf st=none)
  (h: ∀(h':Heap) (n:Nat),h'.objs.size=s.heap.objs.size->h'.get? D=some (seqObj "list" out.toArray n)->(∀b,b≠D->b≠kS->h'.get? b=s.heap.get? b)->P (.done (.ret .none)) {s with heap:=h'}):
  wpAny (model prog w) A (ksk_tail D false e1 (.ref kS) st) P E s:=by
 have hl:sizeLine=16777216:=eX;unfold ksk_tail
 try dsimp only
 rw[DS];have s1:=rV s.heap kS (Obj.mapSeq fun _=>(#[]:Array Value));have d1:(s.heap.update kS (Obj.mapSeq fun _=>(#[]:Array Value))).get? D=some (seqObj "list" #[] e1):=(s1.2 D ne).trans hD;have s2:=rV (s.heap.update kS (Obj.mapSeq fun _=>(#[]:Array Value))) D (Obj.mapSeq fun _=>out.toArray);obtain⟨c2,LV⟩: ∃c2,((s.heap.update kS (Obj.mapSeq fun _=>(#[]:Array Value))).update D (Obj.mapSeq fun _=>out.toArray)).get? D=some (seqObj "list" out.toArray c2):=⟨_,Na d1 fun _=>out.toArray⟩;refine az (wx hk rfl ?_ (by rw[bC]; lia) (bp _));refine az (wpAny_letGo ?_);refine az (seqEpoch_at d1 rfl ?_);simp only[Bool.false_eq_true,if_false];refine az (wx d1 rfl ?_ (bp _) (by rw[bC]; lia));rw[hf];simp only[bne_self_eq_false,Bool.false_eq_true,if_false];refine bF (h _ c2 (s2.1.trans s1.1) LV fun b n1 n2=>(s2.2 b n1).trans (s1.2 b n2))
def OY {D kS:Addr}{e e1:Nat}{ks vs:List Value}{P:PySem.Fin->Shared->Prop}(hk:s.heap.get? kS=some (seqObj "list" ks.toArray e))(hl:ks.length=vs.length)(Dd:vs.length < 64)
  (h:GQ prog w A D kS e1 vs (fun s'=>P (.done (.ret .none)) s') ks s):wpAny (model prog w) A (ksk_end D false vs.toArray e1 (.ref kS) ks.toArray) P E s:=by
 obtain⟨κ,key,ne,hD,kind,cmp,fin⟩:=h;have hsz:vs.toArray.size=vs.length:=by simp
 unfold ksk_end
 try dsimp only
 simp only[Bool.false_eq_true,if_false];by_cases h2:vs.toArray.size < 2
 ·rw[aZ h2,aZ h2];refine az (bF ?_);rw[StateT.run_pure];refine az (bF ?_);dsimp only;have DS:(arrOf (SortSt.mk' general' (ks.toArray.zip vs.toArray) #[] 7 none)).map (·.2)=((List.toArray (List.range vs.length)).toList.map fun i=>vs.getD i Value.none).toArray:=by
   show(ks.toArray.zip vs.toArray).map (·.2)=_;apply Array.toList_inj.mp;have e1:((ks.toArray.zip vs.toArray).map (·.2)).toList=vs:=by
    rw[Array.toList_map,Array.toList_zip];exact List.map_snd_zip (by rw[A5,A5]; lia)
   rw[e1];show vs=(List.range vs.length).map fun i=>vs.getD i Value.none;exact(range_getD vs Value.none).symm
  refine Ff hD hk ne DS (by rw[ae,A5,dr]; exact Dd) (by lia) rfl fun h' n z1 z2 z3=>?_;refine fin (List.toArray (List.range vs.length)) h' n (Lj _) (fun i j ZX hj=>?_) z1 z2 z3;have:i=j:=by lia
  subst this;exact fk _
 ·rw[aO h2,aO h2];have Sx:2<=vs.length:=by lia
  refine az (ck (kind Sx (fun κ' s'=>κ'=κ/\s'=s) ⟨rfl,rfl⟩) (fun κ' s' K3=>?_) fun _ _ x=>x.elim);obtain⟨rfl,rfl⟩:=K3;refine az (ck (kat_run (Q:=fun AW EU=>EU=s'/\ ∃p:Array Nat,p.size=vs.length/\arrOf AW=p.map (kas_item (ks.toArray.zip vs.toArray))/\failedOf AW=none/\qH vs.length p/\ly key p vs.length)
   (G:=fun p EU=>EU=s'/\qH vs.length p/\ly key p vs.length) (κ:=κ') hl Sx Dd (fun p' AW EU a1 a2 a3 a4=>⟨a4.1,p',a1,a2,a3,a4.2⟩) (uX (fun i j C hi hj q=>cmp i j C hi hj q) (fun p q=>⟨rfl,q⟩) _ (Jr (by lia)))) ?_ fun _ _ e=>e)
  rintro⟨⟨⟩,AW⟩ EU ⟨rfl,p,hp,Xf,hf,q1,q2⟩;dsimp only;exact Ff hD hk ne (kat_snds hl Xf) (by rw[ae,ow,hp]; exact Dd) (by lia) hf fun h' n z1 z2 z3=>fin p h' n q1 q2 z1 z2 z3
def L0 {D:Addr}{n:Nat}{vs:List Value}{f:Value}{P:PySem.Fin->Shared->Prop}(ho:s.heap.get? D=some (seqObj "list" vs.toArray n))(Dd:vs.length < 64)
  (h: ∀(kS:Addr) (e1:Nat) (h':Heap),(∀b o,b≠D->s.heap.get? b=some o->h'.get? b=some o)->h'.get? D=some (seqObj "list" #[] e1)->h'.get? kS=some (seqObj "list" #[] 0)->D≠kS->s.heap.objs.size<=kS->
   sX prog w A kS f (GQ prog w A D kS e1 vs (fun s'=>P (.done (.ret .none)) s')) vs [] {s with heap:=h'}):wpAny (model prog w) A (ksk_tree D f false) P E s:=by
 have ha:D < s.heap.objs.size:=aN ho;have hl:sizeLine=16777216:=eX;have s1:=rV s.heap D (Obj.mapSeq fun _=>(#[]:Array Value));obtain⟨e1,GJ⟩: ∃e1,(s.heap.update D (Obj.mapSeq fun _=>(#[]:Array Value))).get? D=some (seqObj "list" #[] e1):=⟨_,Na ho fun _=> #[]⟩;have Xm:((s.heap.update D (Obj.mapSeq fun _=>(#[]:Array Value))).push (seqObj "tuple" vs.toArray 0)).objs.size=s.heap.objs.size + 1:=by rw[size_push',px]
 unfold ksk_tree;refine az (listItems_at ho rfl ?_);refine az (wx ho rfl ?_ (by rw[bC]; lia) (bp _));refine az (seqEpoch_at GJ rfl ?_);refine az (wpAny_newTuple ?_ (by show vs.length<=_; lia));refine az (Lk ?_ (bp _));refine iy ?_;generalize hU:((s.heap.update D (Obj.mapSeq fun _=>(#[]:Array Value))).push (seqObj "tuple" vs.toArray 0))=U at Xm;have kU: ∀b o,(s.heap.update D (Obj.mapSeq fun _=>(#[]:Array Value))).get? b=some o->U.get? b=some o:=fun b o z=>by
  rw[← hU];exact ay _ z
 have QX:(U.push (seqObj "list" #[] 0)).get? U.objs.size=some (seqObj "list" #[] 0):=bO _ rfl;have start:=h U.objs.size e1 (U.push (seqObj "list" #[] 0)) (fun b o n z=>ay _ (kU b o ((s1.2 b n).trans z))) (ay _ (kU D _ GJ)) QX (by rw[Xm]; exact a8 (iV ha)) (by rw[Xm]; exact dA _);show wpAny (model prog w) A (ksk_rest D f false vs.toArray e1 (.ref U.objs.size)) P E {s with heap:=U.push (seqObj "list" #[] 0)};unfold ksk_rest;refine az (wpAny_rule ?_)
 first
  |rw[List.forIn_toArray]
  |(rw[← Array.forIn_toList]; simp only[List.toList_toArray])
 refine wpAny_bind (wpAny_mono (Fe Dd (fun x ks s' C hz hx=>?_) vs [] 0 _ (by simp) QX start) (fun _ s' hd=>?_) fun _ _ x=>x)
 ·refine az (wpAny_attempt (ck hx (fun k EU hk=>?_) fun _ _ hF=>hF.elim));obtain⟨e,nk,c⟩:=hk;have s2:=rV EU.heap U.objs.size (Obj.mapSeq (·.push k));have ea:ks.toArray.push k=(ks ++ [k]).toArray:=by simp
  obtain⟨c2,LV⟩: ∃c2,(EU.heap.update U.objs.size (Obj.mapSeq (·.push k))).get? U.objs.size=some (seqObj "list" (ks ++ [k]).toArray c2):=⟨_,by rw[← ea]; exact Na nk (·.push k)⟩
  try dsimp only
  refine az (wx nk rfl ?_ (by rw[bC]; lia) (a0 (iL (Array.size_push ..)) (by rw[bC]; lia)));exact bF ⟨rfl,k,c2,LV,c _ c2 s2 LV⟩
 ·obtain⟨ks,e,K3,hl',fin⟩:=hd
  try dsimp only
  refine az (listItems_at K3 rfl ?_);exact OY K3 hl' Dd fin
def sortedK {l q:Addr}{vs:List Value}{Q:Value->Shared->Prop}(hl:s.heap.IsList l vs.toArray)(Dd:vs.length < 64)
  (h: ∀(D kS:Addr) (e1:Nat) (h':Heap),(∀b o,s.heap.get? b=some o->h'.get? b=some o)->h'.get? D=some (seqObj "list" #[] e1)->h'.get? kS=some (seqObj "list" #[] 0)->D≠kS->s.heap.objs.size<=D->s.heap.objs.size<=kS->
   sX prog w A.in1.in1 kS (.ref q) (GQ prog w A.in1.in1 D kS e1 vs (fun s'=>Q (.ref D) s')) vs [] {s with heap:=h'}):
  wpAny (model prog w) A (call (.builtin "sorted") [.ref l] [(Str.ofString "key",.ref q)]) Q E s:=by
 have Vq:sizeLine=16777216:=eX;refine call_function_entry_kw kind_sorted plain_sorted entry_sorted (ksk_s1 _ _) ?_;unfold Builtin.«sorted»;refine az (m:=checkCount "sorted" 1 1 _) (bF ?_);refine az (collect_list hl ?_ (by lia));refine az (Lk ?_ (by show vs.length<=_; lia));have hsz:((s.heap.push (seqObj "list" #[] 0)).update s.heap.objs.size (Obj.mapSeq (· ++ vs.toArray))).objs.size=s.heap.objs.size + 1:=by
  rw[px,size_push']
 generalize hU:((s.heap.push (seqObj "list" #[] 0)).update s.heap.objs.size (Obj.mapSeq (· ++ vs.toArray)))=U at hsz;have keep: ∀b o,s.heap.get? b=some o->U.get? b=some o:=fun b o z=>by
  have lt:b < s.heap.objs.size:=aN z;rw[← hU,IB _ _ _ _ (a8 lt),mM _ _ _ (a8 lt)];exact z
 have Ob:(U.push (seqObj "list" vs.toArray 0)).get? U.objs.size=some (seqObj "list" vs.toArray 0):=bO _ rfl;show wpAny _ _ _ _ _ {s with heap:=U.push (seqObj "list" vs.toArray 0)};refine az (iy (wpAny_call_entry_kw slot_list_sort ⟨_,Ob,rfl⟩ entry_list_sort ?body (ksk_l1 _ _)))
 case body=>
  show wpAny (model prog w) A.in1.in1 (Builtin.«list.sort» ⟨[.ref U.objs.size],[(Str.ofString "key",.ref q)]⟩) _ _ _;rw[ksk_t1];refine L0 (s:={s with heap:=U.push (seqObj "list" vs.toArray 0)}) Ob Dd fun kS e1 h' kp d1 k1 ne le=>?_;have z:=h U.objs.size kS e1 h' (fun b o w=>kp b o (fun w2=>by rw[w2] at w; exact absurd (aN w) (by rw[hsz]; exact xQ.mpr (dA _))) (ay _ (keep b o w))) d1 k1 ne (by rw[hsz]; exact dA _) (by
   have Z0:(U.push (seqObj "list" vs.toArray 0)).objs.size<=kS:=le;rw[size_push',hsz] at Z0;exact a0 (Gb (dA _)) Z0)
  have mono: ∀(r ks:List Value) (s':Shared),sX prog w A.in1.in1 kS (.ref q) (GQ prog w A.in1.in1 U.objs.size kS e1 vs (fun s'=>Q (.ref U.objs.size) s')) r ks s'->
    sX prog w A.in1.in1 kS (.ref q) (GQ prog w A.in1.in1 U.objs.size kS e1 vs (fun s'=> ∃v,PySem.Fin.done (.ret .none)= .done (.ret v)/\wpAny (model prog w) A.in1 (ret (.ref U.objs.size)) (fun fin s'=> ∃v,fin=PySem.Fin.done (Flow.ret v)/\Q v s') E s')) r ks s':=by
   intro r
   induction r with
   |nil=>
    rintro ks s' ⟨κ,key,a1,a2,a3,a4,a5⟩;exact⟨κ,key,a1,a2,a3,a4,fun p h2 n b1 b2 b3 b4 b5=>⟨_,rfl,bF ⟨_,rfl,a5 p h2 n b1 b2 b3 b4 b5⟩⟩⟩
   |cons v r ih=>
    intro ks s' hh;exact ck hh (fun k s2 ⟨e,z1,z2⟩=>⟨e,z1,fun h2 c w1 w2=>ih _ _ (z2 h2 c w1 w2)⟩) fun _ _ x=>x
  exact mono vs [] _ z
end
end L2
namespace K6
open PySem
def GR (f:Array Value->Array Value)(o:Obj):(Obj.mapFields f o).dict=o.dict:=by
 obtain⟨c,d,dt,sl⟩:=o;cases dt <;> rfl
def i8 (h:Heap)(e:Addr)(cls:Value)(iO:Option Addr)(vs:Array Value):Prop:= ∃oe,h.get? e=some oe/\oe.cls=cls/\oe.dict=iO/\oe.data= .fields vs
def i8.set {h:Heap}{e:Addr}{cls:Value}{iO:Option Addr}{vs:Array Value}(x:i8 h e cls iO vs)(i:Nat)(v:Value):
  i8 (h.update e (Obj.mapFields (·.setIfInBounds i v))) e cls iO (vs.setIfInBounds i v):=by
 obtain⟨oe,he,hc,hd,hv⟩:=x;have q:=Obj.data_mapFields hv (·.setIfInBounds i v);exact⟨_,Dp _ he (Obj.isFreed_of_fields q),(Obj.cls_mapFields _ _).trans hc,(GR _ _).trans hd,q⟩
def i8.same {h h':Heap}{e:Addr}{cls:Value}{iO:Option Addr}{vs:Array Value}(x:i8 h e cls iO vs)(k: ∀o,h.get? e=some o->h'.get? e=some o):i8 h' e cls iO vs:=
 let⟨oe,he,r⟩:=x
 ⟨oe,k _ he,r⟩
def mZ (fr own:List Addr)(h h':Heap):Prop:= ∀b o,h.get? b=some o->b∉own->(b∉fr->h'.get? b=some o)/\ ∃sl,h'.get? b=some {o with slots:=sl}
def mZ.trans {fr o1 o2:List Addr}{h h1 h2:Heap}(a:mZ fr o1 h h1)(b:mZ fr o2 h1 h2):mZ fr (o1 ++ o2) h h2:=fun c ob q n=>by
 obtain⟨k,sl,e⟩:=a c ob q (fun z=>n (cW _ z));obtain⟨_,Vt,e2⟩:=b c _ e (fun z=>n (bz _ z));exact⟨fun hn=>(b c ob (k hn) (fun z=>n (bz _ z))).1 hn,Vt,e2⟩
def mZ.mono {fr QY o1 o2:List Addr}{h h1:Heap}(a:mZ fr o1 h h1)(hf: ∀b∈fr,b∈QY)(ho: ∀b∈o1,b∈o2):mZ QY o2 h h1:=fun c ob q n=>
 let⟨k,sl,e⟩:=a c ob q (fun z=>n (ho c z))
 ⟨fun hn=>k (fun z=>hn (hf c z)),sl,e⟩
def zp {fr:List Addr}{h:Heap}{a:Addr}(f:Obj->Obj):mZ fr [a] h (h.update a f):=fun b o q n=>by
 have z:(h.update a f).get? b=some o:=(mK _ _ (fun(e:a=b)=>n (ao.mpr e.symm))).trans q;exact⟨fun _=>z,o.slots,z⟩
def vi {fr own:List Addr}{h:Heap}(o':Obj):mZ fr own h (h.push o'):=fun b o q _=>⟨fun _=>ay _ q,o.slots,ay _ q⟩
def i8.but {fr own:List Addr}{h h':Heap}{e:Addr}{cls:Value}{iO:Option Addr}{vs:Array Value}(x:i8 h e cls iO vs)(b:mZ fr own h h')(n:e∉own):i8 h' e cls iO vs:=by
 obtain⟨oe,he,hc,hd,hv⟩:=x;obtain⟨_,sl,q⟩:=b e oe he n;exact⟨_,q,hc,hd,hv⟩
def K7 (h:Heap)(T:Addr)(fl:Value):Prop:= ∃c d ts,i8 h T c d ts/\ts[3]? =some fl
def fj {ts:Array Value}{i:Nat}{v:Value}(h:ts[i]? =some v):i < ts.size:=(Array.getElem?_eq_some_iff.mp h).1
def pQ {ts:Array Value}{i:Nat}{v:Value}(h:i < ts.size):(ts.setIfInBounds i v)[i]? =some v:=by
 rw[Array.getElem?_setIfInBounds_self_of_lt h]
def qN {ts:Array Value}{i j:Nat}{v:Value}(h:i≠j):(ts.setIfInBounds i v)[j]? =ts[j]? :=by
 rw[Array.getElem?_setIfInBounds_ne h]
section
variable {M:Model}{A:Around}{E:Value->Shared->Prop}{s:Shared}{env:Env}{outer:List Env}{base:Heap}{L e T:Addr}{cls:Value}{iO:Option Addr}{vs:Array Value}{Q:Unit->Shared->Prop}
def qO {a:Addr}{i:Nat}{v:Value}{R:Value->Shared->Prop}(x:i8 s.heap a cls iO vs)(h:vs[i]? =some v)(q:R v s):wpAny M A (field (.ref a) i) R E s:=by
 obtain⟨oe,he,_,_,hv⟩:=x;exact IC he hv h q
def oa {a:Addr}{i:Nat}{v:Value}(x:i8 s.heap a cls iO vs)(h:i < vs.size)
  (q: ∀h',mZ [] [a] s.heap h'->i8 h' a cls iO (vs.setIfInBounds i v)->h'.objs.size=s.heap.objs.size->Q () {s with heap:=h'}):wpAny M A (setField (.ref a) i v) Q E s:=by
 obtain⟨oe,he,hc,hd,hv⟩:=id x;exact wpAny_setField he hv h (q _ (zp _) (x.set i v) (Heap.size_after_update ..))
def vj {fl:Value}(x:i8 s.heap e cls iO vs)(h1:vs[1]? =some (.ref T))(ht:K7 s.heap T fl)
  (q: ∀h',mZ [] [T] s.heap h'->K7 h' T .none->h'.objs.size=s.heap.objs.size->Q () {s with heap:=h'}):wpAny M A (setFlight (.ref e) none) Q E s:=by
 obtain⟨c,d,ts,xt,h3⟩:=ht;unfold setFlight;refine az (qO x h1 ?_);rw[if_pos (show(Value.ref T != Value.none)=true from by simp)];exact oa xt (fj h3) fun h' b x' z=>q h' b ⟨c,d,_,x',pQ (fj h3)⟩ z
def entry {head:Value}{had:Bool}(Dg:A.frames=some (env :: outer))(hl:s.heap.FunFrames base (env :: outer))(hf:env.frame=some L)(x:i8 s.heap e cls iO vs)(hsz:1 < vs.size)
  (q: ∀h' T,mZ ((env :: outer).filterMap (·.frame)) [e] s.heap h'->i8 h' e cls iO (vs.setIfInBounds 1 (.ref T))->T=s.heap.objs.size->K7 h' T (rawInt L)->Q () {s with heap:=h'}):
  wpAny M A (do let a ← frameOf env; let pl ← entryPlaceOf L had; let b ← EntryCells.newEntry head a .none (rawInt L) .none pl; setField (.ref e) 1 b) Q E s:=by
 refine az (wpAny_frameOf_fun Dg hl hf fun h1 so=>?_);refine az (wpAny_entryPlaceOf fun pl iN=>?_);unfold EntryCells.newEntry newFields;refine az (wpAny_newObj_type ?_ (iN.sizeOk5 _ _ _ _ _));have b1:mZ ((env :: outer).filterMap (·.frame)) [] s.heap h1:=fun b o z _=>⟨fun n=>(so.2.1 b n).trans z,so.2.2 b o z⟩;have x1:i8 h1 e cls iO vs:=x.but b1 (by simp);generalize Vu:({cls:= .type "traceback",dict:=none,data:= .fields ([head,.ref L,.none,rawInt L,.none] ++ (if pl.isEmpty then List.replicate 6 Value.none else pl)).toArray}:Obj)=ob;have x2:i8 (h1.push ob) e cls iO vs:=x1.same fun o z=>ay _ z;have ne:h1.objs.size≠e:=by
  obtain⟨_,z,_⟩:=x1;exact qg (aN z)
 have xt:i8 (h1.push ob) h1.objs.size ob.cls ob.dict ([head,.ref L,.none,rawInt L,.none] ++ (if pl.isEmpty then List.replicate 6 Value.none else pl)).toArray:=by
  subst Vu;exact⟨_,bO _ rfl,rfl,rfl,rfl⟩
 refine oa (s:={s with heap:=h1.push ob}) x2 hsz fun h' b x' _=>q h' h1.objs.size ?_ x' so.1 ⟨_,_,_,xt.but b (by simpa using ne),?_⟩
 ·exact((b1.trans (vi ob (own:=[]))).trans (b.mono (by simp) (fun _ z=>z))).mono (fun _ z=>z) (by simp)
 ·simp
def OZ (Dg:A.frames=some (env :: outer))(hl:s.heap.FunFrames base (env :: outer))(hf:env.frame=some L)(x:i8 s.heap e cls iO vs)(h1:vs[1]? =some .none)
  (q: ∀h' T,mZ ((env :: outer).filterMap (·.frame)) [e] s.heap h'->i8 h' e cls iO (vs.setIfInBounds 1 (.ref T))->T=s.heap.objs.size->K7 h' T .none->Q () {s with heap:=h'}):
  wpAny M A (leaving env (.ref e)) Q E s:=by
 have ne:s.heap.objs.size≠e:=by
  obtain⟨_,z,_⟩:=x;exact qg (aN z)
 unfold leaving noteFrame;simp only[hf];refine az (az (qO x h1 ?_));rw[aO (by decide)];refine entry Dg hl hf x (fj h1) fun h' T b x' hT t=>?_;refine vj x' (pQ (fj h1)) t fun h2 b2 t2 _=>q h2 T ?_ (x'.but b2 (by rw[hT]; simpa using ne.symm)) hT t2;intro c o z n;have hc:c≠T:=fun w=>by rw[w,hT] at z; exact absurd (aN z) (iS _)
 exact(b.trans (b2.mono (by simp) (fun _ z=>z))) c o z (by simpa using⟨by simpa using n,hc⟩)
def Nr (Dg:A.frames=some (env :: outer))(hl:s.heap.FunFrames base (env :: outer))(hf:env.frame=some L)(x:i8 s.heap e cls iO vs)(h1:vs[1]? =some (.ref T))(ht:K7 s.heap T .none)(Xn:T≠e)
  (q: ∀h' T',mZ ((env :: outer).filterMap (·.frame)) [T,e] s.heap h'->i8 h' e cls iO (vs.setIfInBounds 1 (.ref T'))->T'=s.heap.objs.size->K7 h' T' (rawInt L)->Q () {s with heap:=h'}):
  wpAny M A (noteFrame (.ref e) env) Q E s:=by
 obtain⟨c,d,ts,xt,h3⟩:=ht;unfold noteFrame;simp only[hf];refine az (qO x h1 ?_);rw[if_pos (show(Value.ref T != Value.none)=true from by simp)];refine az (qO xt h3 ?_);rw[if_neg (show ¬ ((Value.none == rawInt L)=true) from by simp[rawInt])];refine az (oa xt (fj h3) fun h' b xt' sz=>?_);refine entry (s:={s with heap:=h'}) Dg (hl.of_keeps fun a o z nf=>?_) hf (x.but b (by simpa using Xn.symm)) (fj h1) fun h2 T' b2 x2 hT t2=>q h2 T' ?_ x2 (hT.trans sz) t2
 ·have na:a≠T:=fun w=>by
   obtain⟨_,z',_,_,hd⟩:=xt;rw[w,z'] at z;cases z;exact nf _ hd
  obtain⟨_,sl,z'⟩:=b a o z (by simpa using na);exact⟨_,z',rfl⟩
 ·exact((b.mono (fun _ z=>absurd z (by simp)) (fun _ z=>z)).trans b2).mono (fun _ z=>z) (by simp)
def O0 (Dg:A.frames=some (env :: outer))(hl:s.heap.FunFrames base (env :: outer))(hf:env.frame=some L)(x:i8 s.heap e cls iO vs)(h1:vs[1]? =some (.ref T))(ht:K7 s.heap T .none)(Xn:T≠e)
  (q: ∀h' T',mZ ((env :: outer).filterMap (·.frame)) [T,e] s.heap h'->i8 h' e cls iO (vs.setIfInBounds 1 (.ref T'))->T'=s.heap.objs.size->K7 h' T' .none->Q () {s with heap:=h'}):
  wpAny M A (leaving env (.ref e)) Q E s:=by
 have ne:s.heap.objs.size≠e:=by
  obtain⟨_,z,_⟩:=x;exact qg (aN z)
 unfold leaving;refine az (Nr Dg hl hf x h1 ht Xn fun h' T' b x' hT t=>?_);refine vj (s:={s with heap:=h'}) x' (pQ (fj h1)) t fun h2 b2 t2 _=>q h2 T' ?_ (x'.but b2 (by rw[hT]; simpa using ne.symm)) hT t2;intro c o z n;have hc:c≠T':=fun w=>by rw[w,hT] at z; exact absurd (aN z) (iS _)
 have n': ¬ (c=T∨c=e):=by simpa using n
 exact(b.trans (b2.mono (by simp) (fun _ z=>z))) c o z (by simp; exact⟨fun w=>n' (.inl w),fun w=>n' (.inr w),hc⟩)
end
def K8 {α:Type}(M:Model)(h:Heap)(t:Sem α)(r:α):Prop:=
 ∀(A:Around) (Q:α->Shared->Prop) (E:Value->Shared->Prop) (s:Shared),(∀b o,h.get? b=some o->s.heap.get? b=some o)->Q r s->wpAny M A t Q E s
section
variable {M:Model}{A:Around}{E:Value->Shared->Prop}{h:Heap}{g:Array GenState}{d:Drawn}{t:Nat}{os:OsState}
variable {nm q:Str}{C N:Addr}{bs bm Fg:List Value}{oC:Bool}{sn:List Str}{sub:List Value}{ab:Bool}{col:Option Bool}{dd:Option Addr}{k0 k1 k2 k3 k5:Option Value}{B newId kY:String}
def iG {X:String}{r:Bool}(hb:bm.contains (.type X)=r):(Value.ref C :: bm).contains (.type X)=r:=by
 rw[List.contains_cons,hb];rfl
def L1 (F:ExcBaseFacts B newId kY Fg)(hB:bm.contains (.type B)=true){rest:List Value}{Q:Unit->Shared->Prop}
  (hC:h.get? C=some (excClassObj nm q C N bs bm oC sn sub ab col dd k0 k1 k2 k3 k5 newId)) (hq:Q () ⟨h,g,d,t,os⟩):wpAny M A (checkBuiltinCall newId ⟨.ref C :: rest,[]⟩) Q E ⟨h,g,d,t,os⟩:=by
 have jV:=iG (C:=C) hB; have st:=F.noStar;simp only[checkBuiltinCall,F.newKind,F.newSplit,F.newRow]
 repeat (first
  |refine bA hC ?_
  |(refine cU hC ?_; rw[jV])
  |refine wpAny_staticBase_exc hC ?_
  |refine wpAny_madeBy_exc hC ?_
  |simp only[bne_self_eq_false,Bool.false_eq_true,if_false]
  |wp_step)
 exact hq
end
section
variable {prog:Program}{w:World}{A:Around}{E:Value->Shared->Prop}{R:Result->Shared->Prop}{h:Heap}{g:Array GenState}{d:Drawn}{t:Nat}{os:OsState}
variable {nm q:Str}{C N f:Addr}{bs bm Fg:List Value}{oC:Bool}{sn:List Str}{sub:List Value}{ab:Bool}{col:Option Bool}{dd:Option Addr}{k0 k1 k2 k3 k5:Option Value}{B newId kY:String}
abbrev l6 (C t:Addr):Obj:={cls:= .ref C,data:= .fields #[.ref t,.none,.none,.none,.bool false,.none]}
abbrev jt (l:List Value):Obj:={cls:= .type "tuple",data:= .seq l.toArray}
def L3 (F:ExcBaseFacts B newId kY Fg)(hB:bm.contains (.type B)=true)(hA:bm.contains (.type "AttributeError")=false)(hN:bm.contains (.type "NameError")=false)
  (hC:h.get? C=some (excClassObj nm q C N bs bm oC sn sub ab col dd k0 k1 k2 k3 k5 newId)) (hq:R (.ok (.ret (.ref (h.objs.size + 1)))) ⟨(h.push (jt [])).push (l6 C h.objs.size),g,d,t,os⟩):
  codeAny (model prog w) A (.builtin newId ⟨[.ref C],[]⟩) R ⟨h,g,d,t,os⟩:=by
 have he:=F.ends;have h1:=iG (C:=C) hB; have h2:=iG (C:=C) hA; have h3:=iG (C:=C) hN;refine codeAny_builtinAt F.entry ?_;unfold Builtin.«BaseException.__new__»;refine wpAt_bind ?_;show wpAt _ _ _ (stack >>=_) _ _ _;refine wpAt_bind (wpAt_stack fun p below=>wpAt_of_wpAny ?_)
 wp_walk
 refine wpAt_of_wpAny ?_;rw[F.owner]
 repeat (first
  |with_reducible refine wpAny_madeHere_exc F.canon hC ?_
  |with_reducible refine bA hC ?_
  |(with_reducible refine cU hC ?_; first|rw[h1]|rw[h2]|rw[h3])
  |wp_step)
 show R _ _;rw[nW];exact hq
def GS (F:ExcBaseFacts B newId kY Fg)(hB:bm.contains (.type B)=true)(hA:bm.contains (.type "AttributeError")=false)(hN:bm.contains (.type "NameError")=false){oI:Obj}{Q:Fin->Shared->Prop}
  (hC:h.get? C=some (excClassObj nm q C N bs bm oC sn sub ab col dd k0 k1 k2 k3 k5 newId)) (hi:K8 (model prog w) h (typeLookup (.ref C) "__init__") (some (.ref f))) (hf:h.get? f=some oI) (SO:oI.cls= .type "function")
  (hq:wpAny (model prog w) A (call (.ref f) [.ref (h.objs.size + 1)]) (fun r s'=>r= .none/\Q (.done (.ret (.ref (h.objs.size + 1)))) s') E ⟨(h.push (jt [])).push (l6 C h.objs.size),g,d,t,os⟩):
  wpAny (model prog w) A (Builtin.«type.__call__» ⟨[.ref C],[]⟩) Q E ⟨h,g,d,t,os⟩:=by
 repeat (first
  |with_reducible refine bA hC ?_
  |with_reducible refine wpAny_madeBy_exc hC ?_
  |wp_step)
 refine codeAny_call_builtin_code (Code.quiet_builtin _ F.quiet) (L1 F hB hC ?_);refine L3 F hB hA hN hC ?_;show wpAny _ _ _ _ _ _;have kp: ∀b o,h.get? b=some o->((h.push (jt [])).push (l6 C h.objs.size)).get? b=some o:=fun b o z=>ay _ (ay _ z);have Jx:=kp _ _ hC;have hg:((h.push (jt [])).push (l6 C h.objs.size)).get? (h.objs.size + 1)=some (l6 C h.objs.size):=by heap_get
 have SQ:(Value.ref C :: bm).contains (.ref C)=true:=by simp
 unfold isInstance
 repeat (first
  |with_reducible refine bA hg ?_
  |(with_reducible refine cU Jx ?_; rw[SQ])
  |wp_step)
 show wpAny _ _ (typeLookup (.ref C) _) _ _ _;refine hi _ _ _ _ kp ?_;refine iy (az ?_);unfold bindSpecial;refine az (wpAny_typeOf (T:="function") ⟨_,kp _ _ hf,SO⟩ ?_);rw[aZ (by decide)];refine bF (az (ck hq (fun r s' hr=>?_) fun _ _ x=>x));obtain⟨rfl,z⟩:=hr
 wp_walk
 exact z
def call_exc (F:ExcBaseFacts B newId kY Fg)(hB:bm.contains (.type B)=true)(hA:bm.contains (.type "AttributeError")=false)(hN:bm.contains (.type "NameError")=false){oI:Obj}{Q:Value->Shared->Prop}
  (hC:h.get? C=some (excClassObj nm q C N bs bm oC sn sub ab col dd k0 k1 k2 k3 k5 newId)) (hi:K8 (model prog w) h (typeLookup (.ref C) "__init__") (some (.ref f))) (hf:h.get? f=some oI) (SO:oI.cls= .type "function")
  (hq:wpAny (model prog w) (A.under (.builtin "type.__call__" ⟨[.ref C],[]⟩)) (call (.ref f) [.ref (h.objs.size + 1)]) (fun r s'=>r= .none/\Q (.ref (h.objs.size + 1)) s') E ⟨(h.push (jt [])).push (l6 C h.objs.size),g,d,t,os⟩):
  wpAny (model prog w) A (call (.ref C) []) Q E ⟨h,g,d,t,os⟩:=by
 have f1:=tc_lookup; have f2:=tc_bind (.ref C);have hT:(⟨h,g,d,t,os⟩:Shared).TypeIs (.ref C) "type":=⟨_,hC,rfl⟩;refine EG (codeAny_of_tree ?_);show wpAny _ _ (callAny (.ref C) _) _ _ _
 repeat (any_goals (first
  |assumption
  |with_reducible refine bA hC ?_
  |wp_step))
 refine⟨rfl,?_⟩;exact codeAny_call_builtin_at (Code.quiet_builtin _ (by decide +kernel)) entry_typeCall (wpAny_check_type_call_sub hC (GS F hB hA hN hC hi hf SO hq))
end
def Stop (P:Prop):Prop:=P
def Stop.out {P:Prop}(h:Stop P):P:=h
def Stop.in {P:Prop}(h:P):Stop P:=h
section
variable {prog:Program}{w:World}{A:Around}{E:Value->Shared->Prop}{R:Result->Shared->Prop}{h:Heap}{g:Array GenState}{d:Drawn}{t:Nat}{os:OsState}
variable {nm q:Str}{C N e:Addr}{bs bm Fg:List Value}{oC:Bool}{sn:List Str}{sub:List Value}{ab:Bool}{col:Option Bool}{dd iO:Option Addr}{k0 k1 k2 k3 k5:Option Value}{B newId Z1 kY:String}{vs:Array Value}
def Jy {M:Model}(F:ExcBaseFacts B Z1 kY Fg)(hB:bm.contains (.type B)=true){oe:Obj}{rest:List Value}{Q:Unit->Shared->Prop}
  (hC:h.get? C=some (excClassObj nm q C N bs bm oC sn sub ab col dd k0 k1 k2 k3 k5 newId)) (he:h.get? e=some oe) (hc:oe.cls= .ref C) (hq:Q () ⟨h,g,d,t,os⟩):
  wpAny M A (checkBuiltinCall kY ⟨.ref e :: rest,[]⟩) Q E ⟨h,g,d,t,os⟩:=by
 have h1:=iG (C:=C) hB; have h2:=F.noStar;simp only[checkBuiltinCall,F.initKind,F.initSplit,F.initRow]
 repeat (first
  |(with_reducible refine bA he ?_; rw[hc])
  |with_reducible refine bA hC ?_
  |(with_reducible refine cU hC ?_; rw[h1])
  |wp_step)
 refine wpAny_onRaise ?_;rw[show ∀(a b:String) (n:Nat),Bind.check ⟨.positional,"*",B,.self,[⟨"args",.varPos,false⟩]⟩ a b n (List.map (fun x=>x.fst) ({pos:=Value.ref e :: rest}:Args).kw)=pure () from fun a b n=>
  check_star_args _ _ _ _ _ _]
 exact bF hq
def GU (F:ExcBaseFacts B Z1 kY Fg)(hB:bm.contains (.type B)=true){v:Value}{Q:Value->Shared->Prop}
  (hC:h.get? C=some (excClassObj nm q C N bs bm oC sn sub ab col dd k0 k1 k2 k3 k5 newId)) (x:i8 h e (.ref C) iO vs) {t0:Addr} (h0:vs[0]? =some (.ref t0))
  (hq: ∀h',mZ [] [e] h h'->i8 h' e (.ref C) iO (vs.setIfInBounds 0 (.ref h.objs.size))->Q .none ⟨h',g,d,t,os⟩):
  wpAny (model prog w) A (call (.builtin kY) [.ref e,v]) Q E ⟨h,g,d,t,os⟩:=by
 obtain⟨oe,he,hc,QZ,hv⟩:=id x;refine EG (Gd F.init.plain F.initEntry (Jy F hB hC he hc ?_));unfold Builtin.«BaseException.__init__»;have Xo:(h.push (jt [v])).get? e=some oe:=ay _ he;have x1:i8 (h.push (jt [v])) e (.ref C) iO vs:=⟨oe,Xo,hc,QZ,hv⟩;have hs:=fj h0
 repeat (first
  |with_reducible refine IC Xo hv h0 ?_
  |with_reducible refine wpAny_setField Xo hv hs ?_
  |wp_step)
 have bt:mZ [] [e] h ((h.push (jt [v])).update e (Obj.mapFields (·.setIfInBounds 0 (Value.ref h.objs.size)))):=(vi (fr:=[]) (own:=[]) (jt [v])).trans (zp _);exact hq _ bt (x1.set 0 _)
end
section
variable {M:Model}{A:Around}{E:Value->Shared->Prop}{s:Shared}{env:Env}
variable {nm q:Str}{C N e:Addr}{bs bm Fg:List Value}{oC:Bool}{sn:List Str}{sub:List Value}{ab:Bool}{col:Option Bool}{dd iO:Option Addr}{k0 k1 k2 k3 k5:Option Value}{newId:String}{vs:Array Value}
def DV {x:Sem Value}{Q:Flow->Shared->Prop}(hB:bm.contains (.type "BaseException")=true)(hh:A.handled=none)
  (h:wpAny M A x (fun v s1=> ∃e iO vs,v= .ref e/\s1.heap.get? C=some (excClassObj nm q C N bs bm oC sn sub ab col dd k0 k1 k2 k3 k5 newId)/\i8 s1.heap e (.ref C) iO vs/\vs[1]? =some .none/\E (.ref e) s1) E s):
  wpAny M A (raiseStmt env (some x) none) Q E s:=by
 have h1:=iG (C:=C) hB;unfold raiseStmt;refine az (ck h (fun v s1 z=>?_) fun _ _ x=>x);obtain⟨e,iO,vs,rfl,hC,⟨oe,he,hc,QZ,hv⟩,v1,hE⟩:=z;obtain⟨hp,g,d,tk,os⟩:=s1
 repeat (first
  |(with_reducible refine bA he ?_; rw[hc])
  |with_reducible refine bA hC ?_
  |(with_reducible refine cU hC ?_; rw[h1])
  |with_reducible refine IC he hv v1 ?_
  |wp_step)
 exact wpAny_raiseNew_none hh hE
def L4 {a:Addr}{cls:Value}{i:Nat}{v:Value}{Q:Unit->Shared->Prop}(x:i8 s.heap a cls iO vs)(h:i < vs.size)
  (q: ∀h',mZ [] [a] s.heap h'->i8 h' a cls iO (vs.setIfInBounds i v)->Q () {s with heap:=h'}):wpAny M A (updateField a i v) Q E s:=
 oa (i:=i) (v:=v) x h fun h' b x' _=>q h' b x'
def wR:entryFor table "proto.unchain"=some Builtin.«proto.unchain»:=entryFor_of_tree (by kernel_rfl)
end
section
variable {prog:Program}{w:World}{A:Around}{E:Value->Shared->Prop}{s:Shared}{env:Env}
variable {nm q:Str}{C N e:Addr}{bs bm Fg:List Value}{oC:Bool}{sn:List Str}{sub:List Value}{ab:Bool}{col:Option Bool}{dd iO:Option Addr}{k0 k1 k2 k3 k5:Option Value}{newId:String}{vs:Array Value}
def DW {x c:Sem Value}{Q:Flow->Shared->Prop}{e0:Addr}(hB:bm.contains (.type "BaseException")=true)(hh:A.handled=some (.ref e0))(hc: ∀(R:Value->Shared->Prop) (s:Shared),R .none s->wpAny (model prog w) A c R E s)
  (h:wpAny (model prog w) A x (fun v s1=> ∃e iO vs c0 d0 Se,v= .ref e/\e≠e0/\s1.heap.get? C=some (excClassObj nm q C N bs bm oC sn sub ab col dd k0 k1 k2 k3 k5 newId)/\i8 s1.heap e (.ref C) iO vs/\vs[1]? =some .none/\vs.size=6/\
   i8 s1.heap e0 c0 d0 Se/\Se[2]? =some .none/\ ∀h',mZ [] [e] s1.heap h'->i8 h' e (.ref C) iO (((vs.setIfInBounds 3 .none).setIfInBounds 4 (.bool true)).setIfInBounds 2 (.ref e0))->E (.ref e) {s1 with heap:=h'}) E s):
  wpAny (model prog w) A (raiseStmt env (some x) (some c)) Q E s:=by
 have h1:=iG (C:=C) hB;unfold raiseStmt;refine az (ck h (fun v s1 z=>?_) fun _ _ x=>x);obtain⟨e,iO,vs,c0,d0,Se,rfl,ne,hC,xe,v1,sz,x0,c2,hE⟩:=z;obtain⟨oe,he,qP,QZ,hv⟩:=id xe;obtain⟨hp,g,d,tk,os⟩:=s1;have eC:e≠C:=fun q=>by
  rw[q] at he;rw[hC] at he;cases he;cases hv
 repeat (first
  |(with_reducible refine bA he ?_; rw[qP])
  |with_reducible refine bA hC ?_
  |(with_reducible refine cU hC ?_; rw[h1])
  |with_reducible refine oa xe (by rw[sz]; decide) fun h2 b2 x2 _=>Stop.out ?_
  |with_reducible refine hc _ _ ?_
  |wp_step)
 have b2':mZ [] [e] hp h2:=b2;refine Stop.in ?_;refine az (oa (s:=⟨h2,g,d,tk,os⟩) x2 (by rw[rW,sz]; decide) fun h3 b3 x3 _=>?_);have b3':mZ [] [e] h2 h3:=b3;have Xp:mZ [] [e] hp h3:=(b2'.trans b3').mono (fun _ z=>z) (by simp);have Z2:h3.get? C=_:=(Xp C _ hC (by simpa using eC.symm)).1 (by simp);have x03:i8 h3 e0 c0 d0 Se:=i8.but x0 Xp (by simpa using ne.symm);obtain⟨o3,Z3,hc3,_,hv3⟩:=id x3;obtain⟨o0,he0,_,_,Xq⟩:=id x03;have v31:((vs.setIfInBounds 3 Value.none).setIfInBounds 4 (Value.bool true))[1]? =some Value.none:=by rw[qN (by decide),qN (by decide)]; exact v1
 repeat (first
  |(with_reducible refine bA Z3 ?_; rw[hc3])
  |with_reducible refine bA Z2 ?_
  |(with_reducible refine cU Z2 ?_; rw[h1])
  |with_reducible refine IC Z3 hv3 v31 ?_
  |wp_step)
 have sz3:((vs.setIfInBounds 3 Value.none).setIfInBounds 4 (Value.bool true)).size=6:=by rw[rW,rW,sz]
 unfold raiseNew;refine az (wpAny_handled ?_);rw[hh];dsimp only;rw[if_pos (show(Value.ref e0 != Value.ref e)=true from by simpa using ne.symm)];refine az (iy (wpAny_runValue (codeAny_builtin wR ?_)));unfold Builtin.«proto.unchain»
 repeat (first
  |with_reducible refine IC he0 Xq c2 ?_
  |with_reducible refine az (L4 (s:=⟨h3,g,d,tk,os⟩) x3 (by rw[sz3]; decide) fun h4 b4 x4=>Stop.out ?_)
  |wp_step)
 refine Stop.in ?_;refine wpAny_throw (hE h4 ?_ x4);have b4':mZ [] [e] h3 h4:=b4;exact(Xp.trans b4').mono (fun _ z=>z) (by simp)
end
open PySem.Builtin PySem.Builtin.ObjectAttr
section
variable {prog:Program}{w:World}{A:Around}{E:Value->Shared->Prop}{h:Heap}{g:Array GenState}{d:Drawn}{t:Nat}{os:OsState}
variable {nm q:Str}{C N e:Addr}{bs bm:List Value}{sn:List Str}{sub:List Value}{ab:Bool}{col:Option Bool}{dd:Option Addr}{k0 k1 k2 k3 k5:Option Value}{newId:String}{vs:Array Value}{name:Str}{v:Value}
def GV {tk:Tok}{Q:Fin->Shared->Prop}(hC:h.get? C=some (excClassObj nm q C N bs bm true sn sub ab col dd k0 k1 k2 k3 k5 newId))(hp: ∀self:Value,refuseLoop self "__setattr__" (.ref C :: bm)=pure ())
  (tx:K8 (model prog w) h (typeLookup (.ref C) name) none) (x:i8 h e (.ref C) none vs)
  (hq: ∀h' O1,mZ [] [e] h h'->i8 h' e (.ref C) (some h.objs.size) vs->h'.Ns1 h.objs.size (fun y=>if y=name then some v else none)->Q (.done (.ret .none)) ⟨h',g,d,O1,os⟩):
  wpAny (model prog w) A (Builtin.«object.__setattr__» ⟨[.ref e,.str name tk,v],[]⟩) Q E ⟨h,g,d,t,os⟩:=by
 obtain⟨o,hx,hc,Xr,hv⟩:=id x;have SR:=hp (.ref e);have Xs: ∀{A':Around} {Q':Option Value->Shared->Prop} {E':Value->Shared->Prop},Q' none ⟨h,g,d,t,os⟩->wpAny (model prog w) A' (typeLookup (.ref C) name) Q' E' ⟨h,g,d,t,os⟩:=fun z=>tx _ _ _ _ (fun _ _ y=>y) z;have hnc: ∀c,o.data≠ .cls c:=fun c z=>by rw[hv] at z; cases z
 unfold Builtin.«object.__setattr__»
 repeat (first
  |rw[refuse_eq]
  |rw[SR]
  |(with_reducible refine bA hx ?_; rw[hc])
  |with_reducible refine wpAny_mroOf_exc hC ?_
  |with_reducible refine Xs ?_
  |wp_step)
 rw[Xr,if_neg (by simp[typeHasDict])];rw[hv];dsimp only;have lt:=aN hx;have ne:e≠h.objs.size:=a8 lt;generalize hD:({cls:= .type "dict",data:= .dict #[]}:Obj)=D;have yl:(h.push D).get? e=some o:=ay _ hx;refine az (wpAny_alloc' (az (wpAny_update' yl (bF ?_))));generalize hU:(h.push D).update e (fun o=>{cls:=o.cls,dict:=some h.objs.size,data:=o.data,slots:=o.slots})=U;have b1:mZ [] [e] h U:=by
  rw[← hU];exact(vi (fr:=[]) (own:=[]) D).trans (zp _)
 have x1:i8 U e (.ref C) (some h.objs.size) vs:=by
  refine⟨{cls:=o.cls,dict:=some h.objs.size,data:=o.data,slots:=o.slots},?_,hc,rfl,hv⟩;rw[← hU];exact Dp _ yl (Obj.isFreed_of_fields (vs:=vs) hv)
 have gd:U.get? h.objs.size=some {cls:= .type "dict",data:= .dict #[]}:=by
  rw[← hU,← hD];exact(IB _ _ _ _ ne.symm).trans (Heap.get?_push_at rfl rfl)
 have nd:U.Ns h.objs.size (fun _=>none):=⟨_,#[],_,gd,rfl,fun _ he=>absurd he (by simp),fun _=>rfl⟩;show wpAny _ _ (storeInDict h.objs.size (.str name tk) name v) _ _ _;unfold storeInDict newKeyGuard;refine az (bF (az (wpAny_nsSet1 (s:=⟨U,g,d,t,os⟩) (Heap.Ns1.of_empty nd) fun h' hn hs=>?_)));obtain⟨oD,esD,epD,WD,WE,WG⟩:=hn.count (Within.cons name v Within.nil);refine az (wpAny_lookBehind WD (by rw[WE]; exact pastItsLine_dict (a0 WG (by rw[bH,wC,eX]; lia))) ?_)
 wp_walk
 have lt': ∀b o',h.get? b=some o'->h'.get? b=U.get? b:=fun b o' z=>hs.2 b (a8 (aN z));refine hq h' _ (fun b ob z n=>?_) (x1.same fun ob z=>(hs.2 e ne).trans z) hn;obtain⟨z1,sl,z2⟩:=b1 b ob z n;exact⟨fun n'=>(lt' b ob z).trans (z1 n'),sl,(lt' b ob z).trans z2⟩
def O2 {M:Model}{B sa owner:String}{Fg:List Value}{o:Obj}{vk:Value}{Q:Unit->Shared->Prop}(SF:StoreFacts B Fg sa owner)(ho:bm.contains (.type owner)=true)
  (hC:h.get? C=some (excClassObj nm q C N bs bm true sn sub ab col dd k0 k1 k2 k3 k5 newId)) (hx:h.get? e=some o) (hc:o.cls= .ref C) (hq:Q () ⟨h,g,d,t,os⟩):
  wpAny M A (checkBuiltinCall sa ⟨[.ref e,vk,v],[]⟩) Q E ⟨h,g,d,t,os⟩:=by
 have h1:=iG (C:=C) ho; have ha:=SF.args (.ref e) vk v;simp only[checkBuiltinCall,SF.kind,SF.split];refine az ?_;unfold isInstance
 repeat (first
  |(with_reducible refine bA hx ?_; rw[hc])
  |(with_reducible refine cU hC ?_; rw[h1])
  |wp_step)
 cases hs:Manifest.signature? sa with
 |none=>exact bF hq
 |some sg=>
  simp only[argsOk,hs] at ha;have h2:Bind.checkArgs sa sg ⟨[.ref e,vk,v],[]⟩=pure ():=ha;show wpAny M A (Bind.checkArgs sa sg ⟨[.ref e,vk,v],[]⟩) Q E _;rw[h2];exact bF hq
def L5 {B sa owner:String}{Fg:List Value}{Q:Unit->Shared->Prop}(SF:StoreFacts B Fg sa owner)(ho:bm.contains (.type owner)=true)(hC:h.get? C=some (excClassObj nm q C N bs bm true sn sub ab col dd k0 k1 k2 k3 k5 newId))
  (hp: ∀self:Value,refuseLoop self "__setattr__" (.ref C :: bm)=pure ()) (sL:K8 (model prog w) h (typeLookup (.ref C) "__setattr__") (some (.builtin sa))) (tx:K8 (model prog w) h (typeLookup (.ref C) name) none) (x:i8 h e (.ref C) none vs)
  (hq: ∀h' O1,mZ [] [e] h h'->i8 h' e (.ref C) (some h.objs.size) vs->h'.Ns1 h.objs.size (fun y=>if y=name then some v else none)->Q () ⟨h',g,d,O1,os⟩):
  wpAny (model prog w) A (setAttr (.ref e) name v) Q E ⟨h,g,d,t,os⟩:=by
 obtain⟨o,hx,hc,_⟩:=id x;have f3:=SF.slot.bind (.ref e);have sL': ∀{tk:Nat} {A':Around} {Q':Option Value->Shared->Prop} {E':Value->Shared->Prop},Q' (some (.builtin sa)) ⟨h,g,d,tk,os⟩->wpAny (model prog w) A' (typeLookup (.ref C) "__setattr__") Q' E' ⟨h,g,d,tk,os⟩:=fun z=>sL _ _ _ _ (fun _ _ y=>y) z;unfold setAttr callSpecial? specialOf
 repeat (any_goals (first
  |assumption
  |(with_reducible refine bA hx ?_; rw[hc])
  |with_reducible refine sL' ?_
  |wp_step))
 refine Gd SF.slot.plain SF.entry (O2 SF ho hC hx hc (GV hC hp tx x fun h' O1 b x' n=>?_))
 repeat (any_goals (first
  |assumption
  |wp_step))
 exact hq h' O1 b x' n
end
section
variable {prog:Program}{w:World}{A:Around}{E:Value->Shared->Prop}{h:Heap}{g:Array GenState}{d:Drawn}{t:Nat}{os:OsState}
variable {nm q:Str}{C N e dx:Addr}{bs bm:List Value}{sn:List Str}{sub:List Value}{ab:Bool}{col:Option Bool}{dd:Option Addr}{k0 k1 k2 k3 k5:Option Value}{newId:String}{vs:Array Value}{name:Str}{v:Value}{mA:Str->Option Value}
def GW {tk:Tok}{Q:Fin->Shared->Prop}(hC:h.get? C=some (excClassObj nm q C N bs bm true sn sub ab col dd k0 k1 k2 k3 k5 newId))(tx:K8 (model prog w) h (typeLookup (.ref C) name) none)(x:i8 h e (.ref C) (some dx) vs)
  (n:h.Ns dx mA) (hm:mA name=some v) (hq:Q (.done (.ret v)) ⟨h,g,d,t,os⟩):wpAny (model prog w) A (Builtin.«object.__getattribute__» ⟨[.ref e,.str name tk],[]⟩) Q E ⟨h,g,d,t,os⟩:=by
 obtain⟨o,hx,hc,Xr,hv⟩:=id x;have Xs: ∀{A':Around} {Q':Option Value->Shared->Prop} {E':Value->Shared->Prop},Q' none ⟨h,g,d,t,os⟩->wpAny (model prog w) A' (typeLookup (.ref C) name) Q' E' ⟨h,g,d,t,os⟩:=fun z=>tx _ _ _ _ (fun _ _ y=>y) z
 repeat (any_goals (first
  |assumption
  |(with_reducible refine bA hx ?_; rw[hc])
  |with_reducible refine Xs ?_
  |wp_step))
 rw[hv];show wpAny _ _ (instanceDict e false) _ _ _;unfold instanceDict;refine az (bA hx ?_);rw[hc];dsimp only;unfold classData;refine az (az (bA hC (bF ?_)));rw[if_neg (by simp)];rw[Xr];refine bF ?_;show wpAny _ _ (nsGet dx name) _ _ _;refine wpAny_nsGet n ?_;rw[hm]
 repeat (first
  |exact hq
  |wp_step)
def O3 {M:Model}{vk:Value}{o:Obj}{Q:Unit->Shared->Prop}(hB:bm.contains (.type "BaseException")=true)(hC:h.get? C=some (excClassObj nm q C N bs bm true sn sub ab col dd k0 k1 k2 k3 k5 newId))
  (hx:h.get? e=some o) (hc:o.cls= .ref C) (hq:Q () ⟨h,g,d,t,os⟩):wpAny M A (checkBuiltinCall "BaseException.__getattribute__" ⟨[.ref e,vk],[]⟩) Q E ⟨h,g,d,t,os⟩:=by
 have hk:builtinKind "BaseException.__getattribute__"=some .slot:=by decide +kernel
 have hs:splitId "BaseException.__getattribute__"=some ("BaseException","__getattribute__"):=by decide +kernel
 have h1:=iG (C:=C) hB; have ha:=F.args_bexc_ga (.ref e) vk;simp only[checkBuiltinCall,hk,hs];refine az ?_;unfold isInstance
 repeat (first
  |(with_reducible refine bA hx ?_; rw[hc])
  |(with_reducible refine cU hC ?_; rw[h1])
  |wp_step)
 exact hq
def L6 {T:String}{expr:Bool}{Q:Value->Shared->Prop}(FB:Slot T "__getattribute__" "BaseException.__getattribute__")(hB:bm.contains (.type "BaseException")=true)(hC:h.get? C=some (excClassObj nm q C N bs bm true sn sub ab col dd k0 k1 k2 k3 k5 newId))
  (gL:K8 (model prog w) h (typeLookup (.ref C) "__getattribute__") (some (.builtin "BaseException.__getattribute__"))) (kL:K8 (model prog w) h (typeLookup (.ref C) "__getattr__") none) (tx:K8 (model prog w) h (typeLookup (.ref C) name) none)
  (x:i8 h e (.ref C) (some dx) vs) (n:h.Ns dx mA) (hm:mA name=some v) (hv:handedOut v=pure v) (hq:Q v ⟨h,g,d,t + 1,os⟩):wpAny (model prog w) A (getAttr (.ref e) name expr) Q E ⟨h,g,d,t,os⟩:=by
 obtain⟨o,hx,hc,_⟩:=id x;have f3:=FB.bind (.ref e);have x0:(expr && onTheHeap (Value.builtin "BaseException.__getattribute__"))=false:=by cases expr <;> rfl
 have x2:(Value.builtin "BaseException.__getattribute__" == Value.builtin "object.__getattribute__")=false:=by decide +kernel
 have x1:(onTheHeap (Value.ref C) && Value.builtin "BaseException.__getattribute__" == Value.builtin "object.__getattribute__")=false:=by rw[x2]; rfl
 have gL': ∀{tk:Nat} {A':Around} {Q':Option Value->Shared->Prop} {E':Value->Shared->Prop},Q' (some (.builtin "BaseException.__getattribute__")) ⟨h,g,d,tk,os⟩->wpAny (model prog w) A' (typeLookup (.ref C) "__getattribute__") Q' E' ⟨h,g,d,tk,os⟩:=
  fun z=>gL _ _ _ _ (fun _ _ y=>y) z
 have kL': ∀{tk:Nat} {A':Around} {Q':Option Value->Shared->Prop} {E':Value->Shared->Prop},Q' none ⟨h,g,d,tk,os⟩->wpAny (model prog w) A' (typeLookup (.ref C) "__getattr__") Q' E' ⟨h,g,d,tk,os⟩:=fun z=>kL _ _ _ _ (fun _ _ y=>y) z;unfold getAttr
 repeat (any_goals (first
  |assumption
  |(with_reducible refine bA hx ?_; rw[hc])
  |with_reducible refine gL' ?_
  |with_reducible refine kL' ?_
  |wp_step))
 refine Gd FB.plain F.entry_bexc_ga (O3 hB hC hx hc (GW hC tx x n hm ?_))
 repeat (any_goals (first
  |assumption
  |wp_step))
end
section
variable {M:Model}{A:Around}{E:Value->Shared->Prop}
variable {nm q:Str}{C N:Addr}{bs bm:List Value}{oC:Bool}{sn:List Str}{sub:List Value}{ab:Bool}{col:Option Bool}{dd:Option Addr}{k0 k1 k2 k3 k5:Option Value}{newId:String}
variable {nm' q':Str}{R N':Addr}{bs' Xt:List Value}{SS:Bool}{sn':List Str}{Xu:List Value}{ab':Bool}{Xv:Option Bool}{E1:Option Addr}{j0 j1 j2 j3 j5:Option Value}{O4:String}
def ym {h:Heap}{g:Array GenState}{d:Drawn}{t:Nat}{os:OsState}{e:Addr}{iO:Option Addr}{vs:Array Value}{b:Bool}{Q:Bool->Shared->Prop}
  (hC:h.get? C=some (excClassObj nm q C N bs bm oC sn sub ab col dd k0 k1 k2 k3 k5 newId)) (hR:h.get? R=some (excClassObj nm' q' R N' bs' Xt SS sn' Xu ab' Xv E1 j0 j1 j2 j3 j5 O4))
  (x:i8 h e (.ref C) iO vs) (qD:Xt.contains (.type "BaseException")=true) (up:(Value.ref C :: bm).contains (.ref R)=b)
  (hq:Q b ⟨h,g,d,t,os⟩):wpAny M A (excMatches (.ref e) (.ref R)) Q E ⟨h,g,d,t,os⟩:=by
 obtain⟨oe,he,Oa,_⟩:=x;have Xw:(Value.ref R :: Xt).contains (.type "BaseException")=true:=by rw[List.contains_cons,qD,Bool.or_true]
 have f:=tc_notTuple;unfold excMatches
 repeat (first|(with_reducible refine cU hR ?_; rw[Xw])|(with_reducible refine cU hC ?_; rw[up])|(with_reducible refine bA he ?_; rw[Oa])|with_reducible refine bA hR ?_|wp_step)
 cases b <;> (wp_walk; exact hq)
end
end K6
namespace L2
open PySem PySem.Spec PyProof.Rows K6
structure gW (K:Frag)(C R:Addr):Prop where
 obj: ∃(nm q:Str) (N:Addr) (bs bm:List Value) (sn:List Str) (sub:List Value) (ab:Bool) (col:Option Bool) (dd:Option Addr) (k0 k1 k2 k3 k5:Option Value),
  K.lookup C=some (excClassObj nm q C N bs bm true sn sub ab col dd k0 k1 k2 k3 k5 "Exception.__new__")/\
   (bm=[.type "Exception",.type "BaseException",.type "object"]/\C=R∨bm=[.ref R,.type "Exception",.type "BaseException",.type "object"])
 sa:findIn K (.ref C) "__setattr__"=some (some (.builtin "object.__setattr__"))
 ga:findIn K (.ref C) "__getattribute__"=some (some (.builtin "BaseException.__getattribute__"))
 gk:findIn K (.ref C) "__getattr__"=some none
 tx:findIn K (.ref C) "text"=some none
structure Xx (h:Heap)(C R:Addr)(nm q:Str)(N:Addr)(bs bm:List Value)(sn:List Str)(sub:List Value)(ab:Bool)(col:Option Bool)(dd:Option Addr)(k0 k1 k2 k3 k5:Option Value):Prop where
 at_:h.get? C=some (excClassObj nm q C N bs bm true sn sub ab col dd k0 k1 k2 k3 k5 "Exception.__new__")
 e:bm.contains (.type "Exception")=true
 b:bm.contains (.type "BaseException")=true
 o:bm.contains (.type "object")=true
 na:bm.contains (.type "AttributeError")=false
 nn:bm.contains (.type "NameError")=false
 rf: ∀self:Value,refuseLoop self "__setattr__" (.ref C :: bm)=pure ()
 up:(Value.ref C :: bm).contains (.ref R)=true
def gW.on {K:Frag}{C R:Addr}(k:gW K C R): ∃nm q N bs bm sn sub ab col dd k0 k1 k2 k3 k5,∀h:Heap,K.In h->Xx h C R nm q N bs bm sn sub ab col dd k0 k1 k2 k3 k5:=by
 obtain⟨nm,q,N,bs,bm,sn,sub,ab,col,dd,k0,k1,k2,k3,k5,l,hb⟩:=k.obj;have pass: ∀self:Value,refuseLoop self "__setattr__" [.type "Exception",.type "BaseException",.type "object"]=pure ():=F.store_Exception.passes;refine⟨nm,q,N,bs,bm,sn,sub,ab,col,dd,k0,k1,k2,k3,k5,fun h X=>?_⟩;rcases hb with⟨rfl,rfl⟩|rfl
 ·exact⟨X _ _ l,by decide +kernel,by decide +kernel,by decide +kernel,by decide +kernel,by decide +kernel,fun self=>by rw[refuseLoop_ref]; exact pass self,by simp⟩
 ·exact⟨X _ _ l,iG (by decide +kernel),iG (by decide +kernel),iG (by decide +kernel),iG (by decide +kernel),iG (by decide +kernel),fun self=>by rw[refuseLoop_ref,refuseLoop_ref]; exact pass self,by simp⟩
def lC {K:Frag}{M:Model}{h:Heap}(X:K.In h){t:Value}{name:Str}{r:Option Value}(e:findIn K t name=some r):K8 M h (typeLookup t name) r:=PySem.W.looks_findIn X e
abbrev xo (e C:Addr)(iO:Option Addr)(vs:Array Value):HO:= .ext fun h=>i8 h e (.ref C) iO vs
def Jz {P:Program}{w:World}{H:Hp}{h:Heap}{e C:Addr}{iO:Option Addr}{vs:Array Value}(x:i8 h e (.ref C) iO vs):dC P w H h e (xo e C iO vs):=by
 refine⟨x,?_,fun h1 h2 z k=>i8.same z k⟩;obtain⟨o,z,_⟩:=x;exact⟨o,z⟩
abbrev v0 (t:Addr):Array Value:= #[.ref t,.none,.none,.none,.bool false,.none]
section
variable {X:Cx}{pins:List (Addr×Obj)}{σ:St}{H:Hp}{s:Shared}{e C R dx:Addr}{iO:Option Addr}{vs Xy:Array Value}{h':Heap}{t':Nat}
def Inv.DX (I:Inv X pins σ H s)(h:H e=some (xo e C iO vs)):i8 s.heap e (.ref C) iO vs:=(I.cy e _ h).1
def Inv.O5 (I:Inv X pins σ H s)(h:H e=some (xo e C iO vs))(b:mZ [] [e] s.heap h')(x:i8 h' e (.ref C) iO Xy):Inv X pins σ (upd H e (xo e C iO Xy)) {s with heap:=h',toks:=t'}:=by
 refine I.write (x:=e) (e:=e) (by rw[h]; exact True.intro) (.inl rfl) (fun c u n z=>(b c u z (by simpa using n)).1 (by simp)) ?_ (Jz x);obtain⟨o,z,_⟩:=x;exact⟨o,z⟩
def Inv.L8 {f:Str}{y:V}{u:Value}(I:Inv X pins σ H s)(h:H e=some (xo e C none vs))(b:mZ [] [e] s.heap h')(x:i8 h' e (.ref C) (some s.heap.objs.size) vs)(n:h'.Ns1 s.heap.objs.size (fun z=>if z=f then some u else none))(r:RelV y u):
  Inv X pins σ (upd (upd H s.heap.objs.size (.xd [(f,y)])) e (xo e C (some s.heap.objs.size) vs)) {s with heap:=h',toks:=t'}:=by
 have hn:H s.heap.objs.size=none:=I.cy.fresh (aI _);have ne:e≠s.heap.objs.size:=aK h hn;have off: ∀c u,H c=some u->c≠s.heap.objs.size:=fun c u z=>aK z hn;have kp: ∀c o,c≠e->s.heap.get? c=some o->h'.get? c=some o:=fun c o n z=>(b c o z (by simpa using n)).1 (by simp);have low: ∀c o,s.heap.get? c=some o->c≠s.heap.objs.size:=fun c o z=>a8 (aN z);have same: ∀c,c≠e->c≠s.heap.objs.size->upd (upd H s.heap.objs.size (.xd [(f,y)])) e (xo e C (some s.heap.objs.size) vs) c=H c:=fun c n1 n2=>by rw[aA n1,aA n2]
 refine I.un ⟨fun c o z hc _ _=>kp c o (fun w=>by rw[w,h] at hc; cases hc) z,fun c o z hc _ _=>⟨o.slots,kp c o (fun w=>by rw[w,h] at hc; cases hc) z⟩,fun c o z hc _=>?_,fun c o z _=>?_,fun c xs z=>?_,fun c o u z=>?_,fun c ps z=>?_⟩ fun c u z=>?_
 ·rw[same c (fun w=>by rw[w,h] at hc; cases hc) (low c o z)];exact hc
 ·by_cases q:c=e
  ·rw[q];obtain⟨oe,w,_⟩:=x;exact⟨oe,w⟩
  ·exact⟨o,kp c o q z⟩
 ·rw[same c (fun w=>by rw[w,h] at z; cases z) (off c _ z)];exact z
 ·rw[same c (fun w=>by rw[w,h] at z; cases z) (off c _ z)];exact z
 ·refine⟨#[],?_⟩;rw[same c (fun w=>by rw[w,h] at z; cases z) (off c _ z),z];simp
 ·by_cases q:c=e
  ·subst q;rw[ag] at z;cases z;exact Jz x
  ·rw[aA q] at z;by_cases q2:c=s.heap.objs.size
   ·subst q2;rw[ag] at z;cases z;refine⟨_,n,fun g=>?_⟩;show lj (List.lookup g [(f,y)]) (if g=f then some u else none);by_cases w:g=f
    ·subst w;rw[aZ rfl];simpa[List.lookup,lj] using r
    ·rw[aO w];have:(g == f)=false:=by simpa using w
     simp[List.lookup,this,lj]
   ·rw[aA q2] at z;refine(I.cy c u z).tQ (fun d o hd w=>?_) (fun d w=>?_) fun d xs w=>?_
    ·refine kp d o (fun w2=>?_) w;rcases hd with hd|hd
     ·exact q (hd▸w2)
     ·rw[w2,h] at hd;cases hd
    ·rw[same d (fun w2=>by rw[w2,h] at w; cases w) (off d _ w)];exact w
    ·rw[same d (fun w2=>by rw[w2,h] at w; cases w) (off d _ w)];exact w
def gone (H:Hp)(a:Addr):Hp:=fun b=>if b=a then none else H b
def yn {a:Addr}:gone H a a=none:=by unfold gone; rw[if_pos rfl]
def iH {a b:Addr}(h:b≠a):gone H a b=H b:=by unfold gone; rw[if_neg h]
def Inv.drop {H0:Hp}{s0:Shared}{φ:Heap->Prop}(I0:Inv X pins σ H0 s0)(h0:H0 e=none)(I:Inv X pins σ H s)(h:H e=some (.ext φ)):Inv X pins σ (gone H e) s:=by
 have off: ∀c u,H c=some u->u≠ .ext φ->c≠e:=fun c u z n w=>by
  rw[w,h] at z;cases z;exact n rfl
 refine⟨I.ok,I.os,I.bare,⟨I.base.keep,I.base.slot,fun c o z hc hx=>?_,I.base.there,fun c xs z=>?_,fun c o u z=>?_,fun c ps z=>?_⟩,I.loc,I.cell,?_,fun x c z=>?_,fun p hp=>?_,fun c u z=>?_,I.len⟩
 ·have w:=I.base.free c o z hc hx;rw[iH (fun q=>by rw[q,h] at w; cases w)];exact w
 ·rw[iH (aK (I0.base.qt c xs z) h0)];exact I.base.qt c xs z
 ·rw[iH (aK (I0.base.pz c o u z) h0)];exact I.base.pz c o u z
 ·obtain⟨m,w⟩:=I0.base.pA c ps z;obtain⟨m',w'⟩:=I.base.pA c ps z;exact⟨m',by rw[iH (aK w h0)]; exact w'⟩
 ·rw[iH (fun q=>by have w:=I.free; rw[q,h] at w; cases w)];exact I.free
 ·have w:=I.iP x c z;rw[iH (fun q=>by rw[q,h] at w; cases w)];exact w
 ·obtain⟨w1,w2,w3⟩:=I.pin p hp;refine⟨w1,?_,w3⟩;rw[iH (fun q=>by rw[q,h] at w2; cases w2)];exact w2
 ·by_cases q:c=e
  ·rw[q,yn] at z;cases z
  ·rw[iH q] at z;refine(I.cy c u z).tQ (fun d o _ w=>w) (fun d w=>?_) fun d xs w=>?_
   ·rw[iH (off d _ w (by intro z; cases z))];exact w
   ·rw[iH (off d _ w (by intro z; cases z))];exact w
end
structure iq (k:Nat)(A:Around):Prop where
 dp:A.depth + 3 * k + 5 < recursionLimit
 un:A.units + 16 * k + 200 < cLine
def eY.h {k:Nat}{A:Around}(r:eY k A):iq k A:=⟨r.dp,r.un⟩
def iq.mono {j k:Nat}{A:Around}(r:iq k A)(h:j<=k):iq j A:=⟨by have:=r.dp; lia,by have:=r.un; lia⟩
def iq.deeper {k:Nat}{A:Around}(r:iq (k + 1) A)(env:Env):iq k (A.deeper env):=
 ⟨by have:=r.dp; show A.depth + 1 + 3 * k + 5 < _; lia,by have:=r.un; show A.units + 3 + 16 * k + 200 < _; lia⟩
def iq.make {k:Nat}{A:Around}(r:iq (k + 1) A)(C:Addr)(us:List Value)(kw:List (Str×Value)):iq k (A.under (.builtin "type.__call__" ⟨.ref C :: us,kw⟩)):=
 ⟨by have:=r.dp; rw[uI]; lia,by have:=r.un; rw[uJ]; lia⟩
def iq.mark {k:Nat}{A:Around}(r:iq k A)(e:Option Value):iq k (A.mark e):=⟨r.dp,r.un⟩
structure SU (P:Program)(w:World)(K:Frag)(mg:Str->Option Value)(base:Heap)(k:Nat)(f:Addr)(fd:FuncData)(ps:List Str)(sp:Sp):Prop where
 len: ∀vs H Q E,sp vs H Q E->vs.length=ps.length
 run: ∀(A:Around) (outer:List Env) (s:Shared) (H:Hp) (args:Args) (us:List Value) (vs:List V) (Q:VK) (E:XK),iq k A->qx P w K mg base A outer s H->BindsTo s fd args (ps.zip us)->Vals vs us->sp vs H Q E->
  codeAny (model P w) A (.call (.ref f) args) (CR sf outer P w H s Q E) s
abbrev vm (P:Program)(w:World)(K:Frag)(mg:Str->Option Value)(base:Heap)(N:List Str)(qual:Str)(scope:Scope)(f:Addr)(cd:Value)(A:Around)(outer:List Env)(s:Shared)(H:Hp)(E:XK):Cx:=
 {kQ sf P w K mg base N qual scope f cd A outer s H E with calm:=false}
def vn {P:Program}{w:World}{K:Frag}{mg:Str->Option Value}{base:Heap}{N ps:List Str}{qual:Str}{scope:Scope}{f:Addr}{cd:Value}{A:Around}{outer:List Env}{s s1:Shared}{H:Hp}{E:XK}{us:List Value}{vs:List V}
  (S:aW N ps scope) (e0:qx P w K mg base A outer s H) (hl:vs.length=ps.length) (r:Vals vs us)
  (x:InCallC s s.heap.objs.size (bindL (envOfC qual scope s.heap.objs.size f cd).kindOf (ps.zip us) fun _=>none) (cellsFrom (s.heap.objs.size + 1) scope.names []) (bindC (envOfC qual scope s.heap.objs.size f cd).kindOf (ps.zip us) fun _=>none) s1):
  Inv (vm P w K mg base N qual scope f cd A outer s H E) [] (start N vs) H s1:=by
 have I:=xZ (CX:=sf) (E:=E) (A:={A with handled:=none}) (K:=K) (base:=base) (P:=P) (w:=w) (mg:=mg) (N:=N) S rfl ⟨e0.frames,e0.mod,e0.bs,e0.A8,e0.lT,e0.EH,e0.cy,e0.bare⟩ hl r x;have ok:=I.ok;exact⟨⟨ok.mod,ok.kind,ok.glob,ok.blt,ok.above,ok.inj,ok.has,ok.K0,(fun z=>by cases z),Around.frames_deeper e0.frames,ok.Io,ok.Lp,ok.bs,ok.A8,ok.wG,ok.wH,ok.lT,ok.EH⟩,I.os,I.bare,I.base,I.loc,I.cell,I.free,I.iP,I.pin,I.cy,I.len⟩
def l7 {P:Program}{w:World}{K:Frag}{mg:Str->Option Value}{base:Heap}{k:Nat}{f:Addr}{x qual:Str}{st:Stmt}{fd:FuncData}{N ps:List Str}{sp:Sp}(F:gp K x qual st f fd)(S:aW N ps (ax st))
  (len: ∀vs H Q E,sp vs H Q E->vs.length=ps.length)
  (fS: ∀(cO:Value) (A:Around) (outer:List Env) (s:Shared) (H:Hp) (vs:List V) (Q:VK) (E:XK),iq k (A.deeper (envOfC qual (ax st) s.heap.objs.size f cO))->sp vs H Q E->
   ∃t,oN (vm P w K mg base N qual (ax st) f cO A outer s H E).Dv (dD st) t/\t {nx:=fun _ H'=>Q .eu H',rt:=Q} (start N vs) H):SU P w K mg base (k + 1) f fd ps sp:=by
 obtain⟨oc,od,kV,doc,pm,an,cO,ct,Gs,rfl,lk,rM⟩:=F.ex;refine⟨len,fun A outer s H args us vs Q E hr e0 hb r ya=>?_⟩;have hl:=len _ _ _ _ ya;have KX:K.In s.heap:=e0.mod.Lo.keeps fun b o e=>(e0.bs b o e).1;have lim:s.heap.NoLimit:=e0.mod.nolimit.keeps fun b o e=>(e0.bs b o e).1;have mQ: ∀y∈ps.zip us,(ax st).names.lookup y.1=some .local∨((ax st).names.lookup y.1=some .cell/\((cellsFrom (s.heap.objs.size + 1) (ax st).names []).lookup y.1).isSome=true):=fun⟨n,v⟩ hy=>by
  rcases S.par n (oq hy).1 with q|q
  ·exact .inl q
  ·exact .inr ⟨q,lg _ _ _ (.inl q)⟩
 have dp:A.depth < recursionLimit:=by have:=hr.dp; lia
 refine codeAny_call_function dp (KX _ _ lk) rfl S.co S.gen rfl (PySem.W.codeRec_of KX rM) (hb _ _ _ _ ?_);refine tN S.kind mQ fun env he s1 y=>?_;subst he;refine⟨lim.keeps y.toInCall.keep,codeAny_func ?_⟩;obtain⟨t,ht,hq⟩:=fS cO A outer s H vs Q E (hr.deeper _) ya;have I:Inv (vm P w K mg base N qual (ax st) f cO A outer s H E) [] (start N vs) H s1:=vn S e0 hl r y;refine ck (ht.Dv [] s1 (start N vs) H _ I hq) (fun fl s' hs=>?_) fun e s' hs=>hs;have fin: ∀{σ':St} {H':Hp} {v:V} {u:Value},Inv (vm P w K mg base N qual (ax st) f cO A outer s H E) [] σ' H' s'->RelV v u->Q v H'->CE outer P w H s Q u s':=
  fun{σ' H' v u} J rv q=>⟨v,H',J.os,J.bare,J.base,J.cy,rv,q⟩
 cases fl with
 |ret u=>
  obtain⟨v,σ',H',J,rv,q⟩:=hs;exact fin J rv q
 |next=>
  obtain⟨σ',H',J,q⟩:=hs;exact fin (v:=V.eu) (u:=Value.none) J rfl q
 |brk=>
  obtain⟨_,_,_,q⟩:=hs;exact False.elim q
 |cont=>
  obtain⟨_,_,_,q⟩:=hs;exact False.elim q
section
variable {X:Cx}{k:Nat}{f C R:Addr}{fd:FuncData}{ps:List Str}{sp:Sp}{x:Str}{p pos apos pos':Pos}{a b o value e:Expr}{es:List Expr}{ta tb tv:TE}{t:TA}
def Fh {A:Around}{xe:Value->Shared->Prop}{pins:List (Addr×Obj)}{σ:St}{H:Hp}{s:Shared}{Q:VK}{us:List Value}{vs:List V}(F:SU X.prog X.w X.K X.mg X.base k f fd ps sp)(hr:iq k A)(e0:qx X.prog X.w X.K X.mg X.base A X.stack s H)(hb:Binds X.K fd ps [])
  (I:Inv X pins σ H s) (r:Vals vs us) (h:sp vs H Q E0):wpAny (model X.prog X.w) A (call (.ref f) us) (EP X pins σ Q) xe s:=by
 have hl:(us ++ []).length=ps.length:=by rw[bU,← r.length]; exact F.len _ _ _ _ h
 have bd:=hb s us I.gR hl;rw[bU] at bd;refine EG (Dn (F.run A X.stack s H ⟨us,[]⟩ us vs Q E0 hr e0 bd r h) fun r s' hq=>?_);cases r with
 |error e=>exact False.elim hq
 |ok fl=>
  cases fl with
  |ret u=>exact I.after hq
  |next=>exact False.elim hq
  |brk=>exact False.elim hq
  |cont=>exact False.elim hq
def O6 (K:Frag)(t:TA):TE:=fun σ H Q=>t σ H fun xs H2=> ∃(e C R t0:Addr) (iO:Option Addr) (vs:Array Value) (y:V),xs=[.ref e,y]/\H2 e=some (xo e C iO vs)/\gW K C R/\vs[0]? =some (.ref t0)/\ ∀t',Q .eu (upd H2 e (xo e C iO (vs.setIfInBounds 0 (.ref t'))))
def JA {pl:Sem Bool}(hg:Gl X "Exception")(hm:X.mg "Exception"=none)(ha:PA X (e :: es) t)
  (hs:starEach (e :: es) X.env=(false,eval e X.env) :: starEach es X.env:=by rfl) (iN:(backTo pos (starEach es X.env)).any (·.1)=false:=by rfl)
  (ht:eval (.Call (.Attribute (.Name "Exception" p) "__init__" apos) (e :: es) [] pos) X.env=(do
   let ov ← eval (.Name "Exception" p) X.env
   standAt apos.atName
   let(f,first) ← holding [ov] (getMethod ov "__init__" pl)
   callWith pos f first (backTo pos (starEach (e :: es) X.env)) (backToKw pos (keywordEach [] X.env))):=by rfl):
  PE X (.Call (.Attribute (.Name "Exception" p) "__init__" apos) (e :: es) [] pos) (O6 X.K t):=by
 intro pins s σ H Q I h;obtain⟨m,F⟩:=I.fr;refine wz (pl:=pl) (pB I hg hm (u:= .type "Exception") (by rfl) ?_) ht;refine PySem.W.method_type (v:= .builtin "Exception.__init__") F I.mod.Lo (by rfl) (by decide +kernel) (by rfl) (by rfl) ?_;have hA:=ha pos pins {s with toks:=s.toks + 1} σ H _ (I.tok _) h;rw[hs] at hA ⊢;refine iT (by show(false || (backTo pos (starEach es X.env)).any (·.1))=false; rw[iN] <;> rfl) (FZ ?_);refine dZ hA fun us s2 ⟨vs,H2,I2,r2,e,C,R,t0,iO,ws,y,e1,e2,k,e3,q⟩=>?_;subst e1;obtain⟨u1,u2,rfl,ru,_⟩:=vals2 r2;obtain rfl:u1=Value.ref e:=ru;obtain⟨nm,qn,N,bs,bm,sn,sub,ab,col,dd,k0,k1,k2,k3,k5,c⟩:=k.on;have c:=c _ I2.gR;obtain⟨hp,g,d,tk,os⟩:=s2;exact GU N2 c.e c.at_ (I2.DX e2) e3 fun h' b x'=>⟨.eu,_,I2.O5 (t':=tk) e2 b x',rfl,q _⟩
def SV (K:Frag)(ta tv:TE):TS:=fun D σ H=>tv σ H fun y H1=>ta σ H1 fun x H2=> ∃(e C R:Addr) (vs:Array Value),x= .ref e/\H2 e=some (xo e C none vs)/\gW K C R/\
 ∀dx,H2 dx=none->D.nx σ (upd (upd H2 dx (.xd [("text",y)])) e (xo e C (some dx) vs))
def L9 (ha:PE X o ta)(hv:PE X value tv)(hs:swapsWith value (some (.Attribute o "text" pos')) pos.line X.env=pure false):PS X (.Assign [.Attribute o "text" pos'] value pos) (SV X.K ta tv):=by
 intro pins s σ H D I h;refine NY (dZ (hv pins s σ H _ I h) fun u s1 ⟨y,H1,I1,ry,q⟩=>dZ (ha pins s1 σ H1 _ I1 q) fun ov s2 ⟨x,H2,I2,rx,e,C,R,vs,e1,e2,k,q2⟩=>?_) hs;subst e1;obtain rfl:ov=Value.ref e:=rx;obtain⟨nm,qn,N,bs,bm,sn,sub,ab,col,dd,k0,k1,k2,k3,k5,c⟩:=k.on;have c:=c _ I2.gR;have hn:=I2.cy.fresh (aI s2.heap.objs.size);obtain⟨hp,g,d,tk,os⟩:=s2;refine L5 PySem.F.store_Exception c.o c.at_ c.rf (lC I2.gR k.sa) (lC I2.gR k.tx) (I2.DX e2) fun h' O1 b x' n=>?_;exact⟨σ,_,I2.L8 (t':=O1) e2 b x' n ry,q2 _ hn⟩
structure Fj (K:Frag)(R f:Addr):Prop where
 rd:readsIn K R (.type "type")=true
 sp:specialIn K (.ref R) "__getattribute__"=some (some (.builtin "type.__getattribute__"))
 fd:findCls K (.ref R) (.type "type") "__init__"=some (.val (.ref f))
 kp:keepIn K (.ref f)=true
def jj {pl:Sem Bool}(i:Fj X.K R f)(F:SU X.prog X.w X.K X.mg X.base k f fd ps sp)(hr:iq k X.A)(hb:Binds X.K fd ps [])(hg:Gl X x)(hm:X.mg x=some (.ref R))(ha:PA X (e :: es) t)(qy:(x == ("__debug__":Str))=false:=by decide)
  (hs:starEach (e :: es) X.env=(false,eval e X.env) :: starEach es X.env:=by rfl) (iN:(backTo pos (starEach es X.env)).any (·.1)=false:=by rfl)
  (ht:eval (.Call (.Attribute (.Name x p) "__init__" apos) (e :: es) [] pos) X.env=(do
   let ov ← eval (.Name x p) X.env
   standAt apos.atName
   let(f,first) ← holding [ov] (getMethod ov "__init__" pl)
   callWith pos f first (backTo pos (starEach (e :: es) X.env)) (backToKw pos (keywordEach [] X.env))):=by rfl):
  PE X (.Call (.Attribute (.Name x p) "__init__" apos) (e :: es) [] pos) (uK sp [] E0 t):=by
 intro pins s σ H Q I h;refine wz (pl:=pl) (jA I hg hm ?_ qy) ht;refine PySem.W.method_cls I.gR i.sp (PySem.W.cls_value I.gR i.rd i.fd rfl ?_);refine km (h₀:=X.base) I.ok.mod.Lo i.kp (dZ (ha pos pins _ σ H _ (I.tok _) h) fun us s1 ⟨vs,H1,I1,r,q⟩=>⟨I1.gR,?_⟩) hs iN;have q2:sp (vs ++ []) H1 Q E0:=q;rw[bU] at q2;exact Fh F hr I1.IU hb I1 r q2
end
def Fly (mg:Str->Option Value)(n0:Nat)(H:Hp)(h:Heap)(a C dx:Addr):Prop:=
 ∃(vs:Array Value) (T:Addr),i8 h a (.ref C) (some dx) vs/\vs[1]? =some (.ref T)/\K7 h T .none/\T≠a/\n0<=a/\n0<=T/\H a=none/\H T=none/\(vs[2]? =some .none∨mg "Needed"=some (.ref C))
def mG (P:Program)(w:World)(mg:Str->Option Value):ER:=fun outer H s E e s'=>
 ∃(a C dx:Addr) (H':Hp),e= .ref a/\s'.os=s.os/\AllBare s'.gens/\Un (Dq outer) [] H H' s.heap s'.heap/\oz P w H' s'.heap/\Fly mg s.heap.objs.size H' s'.heap a C dx/\E (.ref C) (some dx) H'
def Fl {fs fr own:List Addr}{H H2:Hp}{h h2 h3:Heap}(u:Un fs [] H H2 h h2)(b:mZ fr own h2 h3)(ho: ∀c∈own,h.objs.size<=c)(hf: ∀c∈fr,c∈fs∨h.objs.size<=c):Un fs [] H H2 h h3 where
 keep:=fun c o z n hc hx=>(b c o (u.keep c o z n hc hx) (fun w=>absurd (aN z) (xQ.mpr (ho c w)))).1 (fun w=>(hf c w).elim hc (fun q=>absurd (aN z) (xQ.mpr q)))
 slot:=fun c o z n hc hx=>by
  obtain⟨sl,e⟩:=u.slot c o z n hc hx;obtain⟨_,Vt,e2⟩:=b c _ e (fun w=>absurd (aN z) (xQ.mpr (ho c w)));exact⟨Vt,e2⟩
 free:=u.free
 there:=fun c o z hx=>by
  obtain⟨o',e⟩:=u.there c o z hx;obtain⟨_,Vt,e2⟩:=b c _ e (fun w=>absurd (aN z) (xQ.mpr (ho c w)));exact⟨_,e2⟩
 qt:=u.qt
 pz:=u.pz
 pA:=u.pA
def zq {P:Program}{w:World}{fr own:List Addr}{H:Hp}{h h':Heap}(k:oz P w H h)(b:mZ fr own h h')(hf: ∀c∈fr,H c=none)(ho: ∀c∈own,H c=none):oz P w H h':=fun c u z=>by
 refine(k c u z).tQ (fun d o hd w=>?_) (fun _ q=>q) fun _ _ q=>q;have t: ∃u',H d=some u':=hd.elim (fun q=>⟨u,by rw[q]; exact z⟩) (fun q=>⟨_,q⟩);obtain⟨u',y⟩:=t;exact(b d o w (fun q=>by rw[ho d q] at y; cases y)).1 (fun q=>by rw[hf d q] at y; cases y)
section
variable {X:Cx}{pins:List (Addr×Obj)}{σ:St}{H:Hp}{s:Shared}{h':Heap}{own:List Addr}
def Inv.jW {c:Addr}(I:Inv X pins σ H s)(h:s.heap.objs.size<=c):(c∈X.ex∨X.s₀.heap.objs.size<=c)/\c≠X.env.locals/\(∀x k,X.env.cells.lookup x=some k->k≠c)/\ ∀p∈X.pn ++ pins,p.1≠c:=by
 refine⟨.inr (a0 I.sz h),(a8 (bo I.lt h)).symm,fun x k z=>?_,fun p hp=>?_⟩
 ·obtain⟨v,w⟩:=I.cell x k z;exact a8 (bo w.lt h)
 ·exact a8 (bo (aN (I.pin p hp).1) h)
def Inv.but (I:Inv X pins σ H s)(b:mZ (Dq X.stack) own s.heap h')
  (ho: ∀c∈own,H c=none/\(c∈X.ex∨X.s₀.heap.objs.size<=c)/\c≠X.env.locals/\(∀x k,X.env.cells.lookup x=some k->k≠c)/\ ∀p∈X.pn ++ pins,p.1≠c):Inv X pins σ H {s with heap:=h'}:=by
 refine I.EI (s':={s with heap:=h'}) (ch:=own) rfl ⟨fun c o z n hc hx=>(b c o z hx).1 hc,fun c o z n hc hx=>(b c o z hx).2,fun c o z n hx=>n,fun c o z hx=>?_,fun _ _ z=>z,fun _ _ _ z=>z,fun c ps z=>⟨#[],by rw[z]; simp⟩⟩ ?_ I.bare fun c hc=>(ho c hc).2
 ·obtain⟨_,sl,e⟩:=b c o z hx;exact⟨_,e⟩
 ·exact zq I.cy b I.qu fun c hc=>(ho c hc).1
end
structure Q0 (X:Cx)(E:XK):Prop where
 pass:Passes (mG X.prog X.w X.mg) X E
 mr: ∀{pins:List (Addr×Obj)} {σ:St} {H:Hp} {s:Shared} {a C dx:Addr} {vs:Array Value},Inv X pins σ H s->i8 s.heap a (.ref C) (some dx) vs->vs[1]? =some .none->(vs[2]? =some .none∨X.mg "Needed"=some (.ref C))->
  X.s₀.heap.objs.size<=a->H a=none->E (.ref C) (some dx) H->X.xe (.ref a) s
 own:PassesOwn (model X.prog X.w) X.A X.env X.xe
 ownAt: ∀hd:Option Value,PassesOwnAt (model X.prog X.w) (X.A.mark hd) X.A X.env X.xe
 Io:X.stack=X.env :: X.outer
 Z4:X.env.frame=some X.env.locals
section
variable {P:Program}{w:World}{K:Frag}{mg:Str->Option Value}{base:Heap}{N:List Str}{qual:Str}{scope:Scope}{f:Addr}{cd:Value}{A:Around}{outer:List Env}{s:Shared}{H:Hp}{E:XK}
def SW:Passes (mG P w mg) (kQ (mG P w mg) P w K mg base N qual scope f cd A outer s H E) E:=by
 rintro pins σ H1 s1 e s2 I ⟨a,C,dx,H2,rfl,ho,hg,u,cy,⟨vs,T,x,h1,ft,ne,na,nT,Ha,HT,h2⟩,q⟩;have I2:=I.EI (ch:=[]) ho u cy hg (fun b z=>absurd z (by simp));have sz:s.heap.objs.size<=s1.heap.objs.size:=I.sz;have Q1:a < s2.heap.objs.size:=by
  obtain⟨o,z,_⟩:=x;exact aN z
 show wpAny _ _ (leaving (envOfC qual scope s.heap.objs.size f cd) (.ref a)) _ _ s2;refine O0 (base:=base) (outer:=outer) (L:=s.heap.objs.size) I.ok.frames I2.stack rfl x h1 ft ne fun h3 T' b x' hT t'=>?_;have Q2:T'≠a:=by
  rw[hT];exact(a8 Q1).symm
 refine⟨a,C,dx,H2,rfl,I2.os,I2.bare,Fl I2.base b ?_ ?_,zq cy b I2.qu ?_,⟨_,T',x',pQ (fj h1),t',Q2,a0 sz na,?_,Ha,I2.cy.fresh (iL hT.symm),?_⟩,q⟩
 ·intro c hc;rcases aw.mp hc with rfl|hc
  ·exact a0 sz nT
  ·rw[ao.mp hc];exact a0 sz na
 ·intro c hc;rcases aw.mp (I2.uD c hc) with hc|hc
  ·rw[hc];exact .inr (aI _)
  ·exact .inl hc
 ·intro c hc;rcases aw.mp hc with rfl|hc
  ·exact HT
  ·rw[ao.mp hc];exact Ha
 ·rw[hT];exact I2.sz
 ·rw[qN (by decide)];exact h2
def O7:Q0 (kQ (mG P w mg) P w K mg base N qual scope f cd A outer s H E) E where
 pass:=SW
 mr:=by
  intro pins σ H1 s1 a C dx vs I x h1 h2 na Ha q;have Q1:a < s1.heap.objs.size:=by
   obtain⟨o,z,_⟩:=x;exact aN z
  show wpAny _ _ (leaving (envOfC qual scope s.heap.objs.size f cd) (.ref a)) _ _ s1;refine OZ (base:=base) (outer:=outer) (L:=s.heap.objs.size) I.ok.frames I.stack rfl x h1 fun h3 T' b x' hT t'=>?_;have Q2:T'≠a:=by
   rw[hT];exact(a8 Q1).symm
  refine⟨a,C,dx,H1,rfl,I.os,I.bare,Fl I.base b ?_ ?_,zq I.cy b I.qu ?_,⟨_,T',x',pQ (fj h1),t',Q2,na,?_,Ha,I.cy.fresh (iL hT.symm),?_⟩,q⟩
  ·intro c hc;rw[ao.mp hc];exact na
  ·intro c hc;rcases aw.mp (I.uD c hc) with hc|hc
   ·rw[hc];exact .inr (aI _)
   ·exact .inl hc
  ·intro c hc;rw[ao.mp hc];exact Ha
  ·rw[hT];exact I.sz
  ·rw[qN (by decide)];exact h2
 own:=PassesOwn.leaving
 ownAt:=fun _=>PassesOwnAt.leaving
 Io:=rfl
 Z4:=rfl
def gp.Z5 {x qual:Str}{st:Stmt}{f:Addr}{fd:FuncData}{N ps:List Str}{k:Nat}{sp:Sp}(F:gp K x qual st f fd)(S:aW N ps (ax st))(len: ∀vs H Q E,sp vs H Q E->vs.length=ps.length)
  (fS: ∀(cO:Value) (A:Around) (outer:List Env) (s:Shared) (H:Hp) (vs:List V) (Q:VK) (E:XK),eY k (A.deeper (envOfC qual (ax st) s.heap.objs.size f cO))->Q0 (kQ (mG P w mg) P w K mg base N qual (ax st) f cO A outer s H E) E->sp vs H Q E->
   ∃t,oN (kQ (mG P w mg) P w K mg base N qual (ax st) f cO A outer s H E) (dD st) t/\t {nx:=fun _ H'=>Q .eu H',rt:=Q} (start N vs) H):lW P w K mg base (mG P w mg) (k + 1) f fd ps sp:=by
 obtain⟨oc,od,kV,doc,pm,an,cO,ct,Gs,rfl,lk,rM⟩:=F.ex;exact IX lk rM S len fun A outer s H vs Q E hr ya=>fS cO A outer s H vs Q E hr O7 ya
end
def O8 (K:Frag)(txt:Str):Sp:=fun vs H Q _=> ∃(e C R t0:Addr),vs=[.ref e]/\H e=some (xo e C none (v0 t0))/\gW K C R/\ ∀dx t',H dx=none->Q .eu (upd (upd H dx (.xd [("text",.str txt)])) e (xo e C (some dx) (v0 t')))
def O9 (E:XK)(C:Addr)(txt:Str):TS:=fun _ _ H=> ∀dx,H dx=none->E (.ref C) (some dx) (upd H dx (.xd [("text",.str txt)]))
structure JB (P:Program)(w:World)(K:Frag)(mg:Str->Option Value)(base:Heap)(k:Nat)(x:Str)(C R:Addr)(txt:Str):Prop where
 Z6:mg x=some (.ref C)
 ek:gW K C R
 kp:keepIn K (.ref C)=true
 init: ∃(f:Addr) (fd:FuncData),findIn K (.ref C) "__init__"=some (some (.ref f))/\typeIn K (.ref f)=some (.type "function")/\SU P w K mg base k f fd ["self"] (O8 K txt)/\Binds K fd ["self"] []
section
variable {X:Cx}{k:Nat}{C R:Addr}{x txt:Str}{p pos gH:Pos}{E:XK}
def JC (M:JB X.prog X.w X.K X.mg X.base k x C R txt)(hr:iq (k + 1) X.A)(hg:Gl X x)(qy:(x == ("__debug__":Str))=false){pins:List (Addr×Obj)}{σ:St}{H:Hp}{s:Shared}{Q:Value->Shared->Prop}{xe:Value->Shared->Prop}(I:Inv X pins σ H s)
  (q: ∀(s2:Shared) (e dx t':Addr),s.heap.objs.size<=e->H dx=none->H e=none->dx≠e->Inv X pins σ (upd H dx (.xd [("text",.str txt)])) s2->i8 s2.heap e (.ref C) (some dx) (v0 t')->Q (.ref e) s2):
  wpAny (model X.prog X.w) X.A (eval (.Call (.Name x p) [] [] gH) X.env) Q xe s:=by
 obtain⟨f,fd,hi,hf,F,hb⟩:=M.init;refine eG (jA I hg M.Z6 ?_ qy);refine A4 I.gR M.kp ?_;obtain⟨nm,qn,N,bs,bm,sn,sub,ab,col,dd,k0,k1,k2,k3,k5,c⟩:=M.ek.on;have c:=c _ I.gR;have hz:=I.cy.fresh (dA s.heap.objs.size);have I1:=I.kept (t':=s.toks) (h':=s.heap.push (jt [])) (fun b u z=>ay _ z);have ex:i8 ((s.heap.push (jt [])).push (l6 C s.heap.objs.size)) (s.heap.objs.size + 1) (.ref C) none (v0 s.heap.objs.size):=⟨l6 C s.heap.objs.size,by heap_get,rfl,rfl,rfl⟩;have I2:=I1.laid (a:=s.heap.objs.size + 1) (o:=xo (s.heap.objs.size + 1) C none (v0 s.heap.objs.size)) (t':=s.toks) (h':=(s.heap.push (jt [])).push (l6 C s.heap.objs.size)) (fun b u z=>ay _ z) (iL (nW _ _)) (Jz ex);have Vj:=PySem.W.looks_typeIn (M:=model X.prog X.w) I.gR hf;have Pa: ∃oI,s.heap.get? f=some oI/\oI.cls= .type "function":=by
  have z:=hf;unfold typeIn at z;dsimp only at z;cases w:X.K.lookup f with
  |none=>rw[w] at z; cases z
  |some o=>
   rw[w] at z;exact⟨o,I.gR _ _ w,aD z⟩
 obtain⟨oI,Pa,SO⟩:=Pa;have e0:=I2.IU.make C [] [];obtain⟨hp,g,d,tk,os⟩:=s;refine call_exc N2 c.e c.na c.nn c.at_ (lC I.gR hi) Pa SO ?_;refine dZ (Fh (X:=X) F (hr.make C [] []) e0 hb I2 (us:=[.ref (hp.objs.size + 1)]) (vs:=[.ref (hp.objs.size + 1)]) (Q:=fun v H'=>v= .eu/\ ∃dx t',H dx=none/\dx≠hp.objs.size + 1/\H'=upd (upd (upd H (hp.objs.size + 1) (xo (hp.objs.size + 1) C none (v0 hp.objs.size))) dx (.xd [("text",.str txt)])) (hp.objs.size + 1) (xo (hp.objs.size + 1) C (some dx) (v0 t'))) (.cons rfl .nil) ?_) fun u s2 h2=>?_
 ·refine⟨_,C,R,_,rfl,ag,M.ek,fun dx t' Dh=>⟨rfl,dx,t',?_⟩⟩;have ne:dx≠hp.objs.size + 1:=fun z=>by
   rw[z,ag] at Dh;cases Dh
  rw[aA ne] at Dh;exact⟨Dh,ne,rfl⟩
 ·obtain⟨v,H',I3,rv,rfl,dx,t',Dh,ne,rfl⟩:=h2;refine⟨rv,?_⟩;have I4:=Inv.drop I hz I3 ag;have eH:gone (upd (upd (upd H (hp.objs.size + 1) (xo (hp.objs.size + 1) C none (v0 hp.objs.size))) dx (.xd [("text",.str txt)])) (hp.objs.size + 1) (xo (hp.objs.size + 1) C (some dx) (v0 t'))) (hp.objs.size + 1)=upd H dx (.xd [("text",.str txt)]):=by
   funext b
   by_cases h1:b=hp.objs.size + 1
   ·rw[h1,yn,aA ne.symm,hz]
   ·rw[iH h1,aA h1];by_cases h2:b=dx
    ·rw[h2,ag,ag]
    ·rw[aA h2,aA h2,aA h1]
  rw[eH] at I4;exact q s2 _ dx t' (dA _) Dh hz ne I4 (I3.DX ag)
def jX (T:Q0 X E)(M:JB X.prog X.w X.K X.mg X.base k x C R txt)(hr:iq (k + 1) X.A)(hg:Gl X x)(hc:X.calm=true)(qy:(x == ("__debug__":Str))=false:=by decide):
  PS X (.Raise (some (.Call (.Name x p) [] [] gH)) none pos) (O9 E C txt):=by
 intro pins s σ H D I h;rw[arm_exec_Raise];obtain⟨nm,qn,N,bs,bm,sn,sub,ab,col,dd,k0,k1,k2,k3,k5,c⟩:=M.ek.on;refine az (iz (DV (C:=C) (nm:=nm) (q:=qn) (N:=N) (bs:=bs) (bm:=bm) (oC:=true) (sn:=sn) (sub:=sub) (ab:=ab) (col:=col) (dd:=dd) (k0:=k0) (k1:=k1) (k2:=k2) (k3:=k3) (k5:=k5) (newId:="Exception.__new__") (c _ I.gR).b (I.ok.hd hc) (az (JC M hr hg qy I fun s2 e dx t' he Dh hz ne I2 x2=>az (iz (bF ?_))))));exact⟨e,some dx,v0 t',rfl,(c _ I2.gR).at_,x2,rfl,T.mr I2 x2 rfl (.inl rfl) (a0 I.sz he) (by rw[aA ne.symm]; exact hz) (h dx Dh)⟩
end
abbrev Cx.wU (X:Cx)(xe:Value->Shared->Prop)(pn:List (Addr×Obj)):Cx:={X with xe:=xe,pn:=pn}
abbrev Cx.K9 (X:Cx)(e:Value)(pn:List (Addr×Obj))(xe:Value->Shared->Prop):Cx:={X with A:=X.A.mark (some e),calm:=false,pn:=pn,xe:=xe}
section
variable {X:Cx}{pins Ba l:List (Addr×Obj)}{σ:St}{H:Hp}{s:Shared}{xe:Value->Shared->Prop}{E:XK}
def Inv.wU (I:Inv X pins σ H s)(xe:Value->Shared->Prop):Inv (X.wU xe (X.pn ++ pins)) [] σ H s:=
 have ok:=I.ok
 ⟨⟨ok.mod,ok.kind,ok.glob,ok.blt,ok.above,ok.inj,ok.has,ok.K0,ok.hd,ok.frames,ok.Io,ok.Lp,ok.bs,ok.A8,ok.wG,ok.wH,ok.lT,ok.EH⟩,I.os,I.bare,I.base,I.loc,I.cell,I.free,I.iP,fun p hp=>I.pin p (by simpa using hp),I.cy,I.len⟩
def Inv.jY (I:Inv (X.wU xe (X.pn ++ pins)) Ba σ H s):Inv X pins σ H s:=
 have ok:=I.ok
 ⟨⟨ok.mod,ok.kind,ok.glob,ok.blt,ok.above,ok.inj,ok.has,ok.K0,ok.hd,ok.frames,ok.Io,ok.Lp,ok.bs,ok.A8,ok.wG,ok.wH,ok.lT,ok.EH⟩,I.os,I.bare,I.base,I.loc,I.cell,I.free,I.iP,fun p hp=>I.pin p (cW _ hp),I.cy,I.len⟩
def Inv.K9 (I:Inv X pins σ H s)(e:Value)(xe:Value->Shared->Prop)(h: ∀p∈l,s.heap.get? p.1=some p.2/\H p.1=none/\p.1≠X.env.locals/\p.1∉X.fs/\ ∀v,p.2.data≠ .cell v):Inv (X.K9 e (X.pn ++ pins ++ l) xe) [] σ H s:=
 have ok:=I.ok
 ⟨⟨ok.mod,ok.kind,ok.glob,ok.blt,ok.above,ok.inj,ok.has,ok.K0,(fun z=>by cases z),ok.frames,ok.Io,ok.Lp,ok.bs,ok.A8,ok.wG,ok.wH,ok.lT,ok.EH⟩,I.os,I.bare,I.base,I.loc,I.cell,I.free,I.iP,
  fun p hp=>by
   rw[bU] at hp;exact(bq.mp hp).elim (fun z=>I.pin p z) (h p),I.cy,I.len⟩
def Inv.SX (I0:Inv X pins σ H s){e:Value}{σ':St}{H':Hp}{s':Shared}(I:Inv (X.K9 e (X.pn ++ pins ++ l) xe) Ba σ' H' s'):Inv X pins σ' H' s':=
 have ok:=I.ok
 ⟨⟨ok.mod,ok.kind,ok.glob,ok.blt,ok.above,ok.inj,ok.has,ok.K0,I0.ok.hd,ok.frames,ok.Io,ok.Lp,ok.bs,ok.A8,ok.wG,ok.wH,ok.lT,ok.EH⟩,I.os,I.bare,I.base,I.loc,I.cell,I.free,I.iP,
  fun p hp=>I.pin p (cW _ (cW _ hp)),I.cy,I.len⟩
def SP.jY {D:Ends}{f:Flow}{s':Shared}(h:SP (X.wU xe (X.pn ++ pins)) [] D f s'):SP X pins D f s':=by
 cases f with
 |next=>obtain⟨σ',H',I,q⟩:=h; exact⟨σ',H',I.jY,q⟩
 |brk=>obtain⟨σ',H',I,q⟩:=h; exact⟨σ',H',I.jY,q⟩
 |cont=>obtain⟨σ',H',I,q⟩:=h; exact⟨σ',H',I.jY,q⟩
 |ret u=>obtain⟨v,σ',H',I,r,q⟩:=h; exact⟨v,σ',H',I.jY,r,q⟩
def Inv.renamed {h5:Heap}{m5:Str->Option Value}{t':Nat}(I:Inv X pins σ H s)(n5:h5.Ns X.env.locals m5)(sb:Heap.SameBut X.env.locals s.heap h5):Inv X pins (List.replicate X.N.length none) H {s with heap:=h5,toks:=t'}:=by
 have low: ∀c o,X.s₀.heap.get? c=some o->c≠X.env.locals:=fun c o z=>a8 (bo (aN z) I.ok.above);refine⟨I.ok,I.os,I.bare,⟨fun c o z n hc hx=>(sb.2 c (low c o z)).trans (I.base.keep c o z n hc hx),fun c o z n hc hx=>?_,I.base.free,fun c o z hx=>?_,I.base.qt,I.base.pz,I.base.pA⟩,⟨m5,n5,fun i x v h1 h2 _=>?_⟩,fun x c z=>?_,I.free,I.iP,fun p hp=>?_,fun c u z=>?_,?_⟩
 ·obtain⟨sl,e⟩:=I.base.slot c o z n hc hx;exact⟨sl,(sb.2 c (low c o z)).trans e⟩
 ·obtain⟨o',e⟩:=I.base.there c o z hx;exact⟨o',(sb.2 c (low c o z)).trans e⟩
 ·rw[List.getElem?_replicate] at h2;split at h2 <;> cases h2
 ·obtain⟨v,w⟩:=I.cell x c z;exact⟨v,w.sameBut sb (I.Nb x c z)⟩
 ·obtain⟨w1,w2,w3,w4⟩:=I.pin p hp;exact⟨(sb.2 _ w3).trans w1,w2,w3,w4⟩
 ·refine(I.cy c u z).tQ (fun d o hd w=>(sb.2 d (fun q=>?_)).trans w) (fun _ q=>q) fun _ _ q=>q;rcases hd with hd|hd
  ·rw[← hd,q,I.free] at z;cases z
  ·rw[q,I.free] at hd;cases hd
 ·rw[iM]
def land (nX:X.stack=X.env :: X.outer)(Dg:X.env.frame=some X.env.locals){e:Value}{s':Shared}(I:Inv X pins σ H s)(c:mG X.prog X.w X.mg X.stack H s E e s'){hs:List ExceptHandler}{Q:Flow->Shared->Prop}
  (q: ∀(a C dx T:Addr) (vs:Array Value) (H':Hp) (s3:Shared),e= .ref a->Inv X pins σ H' s3->i8 s3.heap a (.ref C) (some dx) vs->vs[1]? =some (.ref T)->K7 s3.heap T .none->T≠a->s.heap.objs.size<=a->s.heap.objs.size<=T->H' a=none->H' T=none->
   (vs[2]? =some .none∨X.mg "Needed"=some (.ref C))->E (.ref C) (some dx) H'->wpAny (model X.prog X.w) X.A (handleBy e X.env hs) Q xe s3):
  wpAny (model X.prog X.w) X.A (noteFrame e X.env) (fun _ s2=>wpAny (model X.prog X.w) X.A (setFlight e none) (fun _ s3=>wpAny (model X.prog X.w) X.A (handleBy e X.env hs) Q xe s3) xe s2) xe s':=by
 obtain⟨a,C,dx,H2,rfl,ho,hg,u,cy,⟨vs,T,x,h1,ft,ne,na,nT,Ha,HT,h2⟩,z⟩:=c;have I2:=I.EI (ch:=[]) ho u cy hg (fun b z=>absurd z (by simp));have st:=I2.stack;rw[nX] at st;have Q1:a < s'.heap.objs.size:=by
  obtain⟨o,z,_⟩:=x;exact aN z
 have Xz:s.heap.objs.size<=s'.heap.objs.size:=a0 na (df Q1);refine Nr (base:=X.base) (outer:=X.outer) (by rw[I.ok.frames,nX]) st Dg x h1 ft ne fun h3 T' b x3 hT t3=>?_;have Q2:T'≠a:=by
  rw[hT];exact(a8 Q1).symm
 have Z7:H2 T'=none:=I2.cy.fresh (iL hT.symm);have nT':=I2.jW (iL hT.symm);have b':mZ (Dq X.stack) [T,a] s'.heap h3:=by
  rw[nX];exact b
 have I3:=I2.but b' (fun c hc=>by
  rcases aw.mp hc with rfl|hc
  ·exact⟨HT,I.jW nT⟩
  ·rw[ao.mp hc];exact⟨Ha,I.jW na⟩)
 refine vj (s:={s' with heap:=h3}) x3 (pQ (fj h1)) t3 fun h4 b4 t4 _=>?_;have I4:=I3.but (h':=h4) (own:=[T']) (b4.mono (fun _ z=>absurd z (by simp)) (fun _ z=>z)) (fun c hc=>by
  rw[ao.mp hc];exact⟨Z7,nT'⟩)
 refine q a C dx T' _ H2 _ rfl I4 (x3.but b4 (by simpa using Q2.symm)) (pQ (fj h1)) t4 Q2 na (by rw[hT]; exact Xz) Ha Z7 ?_ z;rw[qN (by decide)];exact h2
end
section
variable {X:Cx}{R:Addr}{n x:Str}{i k:Nat}{p1 p2 p3 p4 p5 pos gH:Pos}{body:List Stmt}{t:XK->TS}{E:XK}{CN:Addr}{txt:Str}
def SY (K:Frag)(R:Addr)(D:Ends):XK:=fun c d H'=> ∃(C dx:Addr) (txt:Str),c= .ref C/\d=some dx/\gW K C R/\H' dx=some (.xd [("text",.str txt)])/\D.rt (.str txt) H'
def Ma (K:Frag)(R:Addr)(t:XK->TS):TS:=fun D σ H=>t (SY K R D) D σ H
def GX (nX:X.stack=X.env :: X.outer)(Dg:X.env.frame=some X.env.locals)(hc:X.calm=true)(hN:X.N.Nodup)(hi:X.N[i]? =some n)(hl:X.env.scope.names.lookup n=some .local)(hg:Gl X x)(hm:X.mg x=some (.ref R))(kR:gW X.K R R)
  (hb: ∀(xe:Value->Shared->Prop) (pn:List (Addr×Obj)) (E:XK),Passes (mG X.prog X.w X.mg) (X.wU xe pn) E->oN (X.wU xe pn) body (t E)) (hd:(n == ("__debug__":Str))=false:=by decide) (rM:(n == ("__classdict__":Str))=false:=by decide) (hx:(x == ("__debug__":Str))=false:=by decide):
  PS X (.Try body [.ExceptHandler (some (.Name x p1)) (some n) [.Return (some (.Attribute (.Name n p2) "text" p3)) p4] p5] [] [] pos) (Ma X.K R t):=by
 intro pins s σ H D I h;refine wpAny_Try_except (ck (hb (fun e s1=>wpAny (model X.prog X.w) X.A (noteFrame e X.env) (fun _ s2=>wpAny (model X.prog X.w) X.A (setFlight e none) (fun _ s3=>
  wpAny (model X.prog X.w) X.A (handleBy e X.env [.ExceptHandler (some (.Name x p1)) (some n) [.Return (some (.Attribute (.Name n p2) "text" p3)) p4] p5]) (SP X pins D) X.xe s3) X.xe s2) X.xe s1) (X.pn ++ pins) (SY X.K R D) ?_ [] s σ H D (I.wU _) h) (fun f s1 q=>?_) fun _ _ z=>z)
 ·rintro S4 σ1 H1 s1 e s2 I1 cx;refine land nX Dg I1.jY cx fun a C dx T vs H2 s3 he I3 x3 h1 ft ne na nT Ha HT h2 z=>?_;subst he;obtain⟨C',dx',txt,e1,e2,ek,ed,q⟩:=z;cases e1;cases e2;obtain⟨oe,XA,QP,Pb,S5⟩:=id x3;have cC:=ek.on;have cR:=kR.on;obtain⟨_,_,_,_,_,_,_,_,_,_,_,_,_,_,_,cC⟩:=cC;obtain⟨_,_,_,_,_,_,_,_,_,_,_,_,_,_,_,cR⟩:=cR;have nw:=I1.jY.jW na;have Im:=I3.K9 (l:=[(a,oe)]) (.ref a) (fun _ _=>False) (fun p hp=>by
   rw[ao.mp hp];exact⟨XA,Ha,nw.2.1,I1.jY.Gi na,fun v z=>by rw[S5] at z; cases z⟩)
  refine wpAny_handleBy_cons (codeAny_handlers_test (jA Im hg hm ?_ hx)) (by intro q; cases q);obtain⟨hp,g,d,tk,os⟩:=s3;refine ym (cC _ I3.gR).at_ (cR _ I3.gR).at_ x3 (cR _ I3.gR).b (cC _ I3.gR).up ?_;refine codeAny_handlers_suite_as ?_;refine vj x3 h1 ft fun h4 b4 t4 _=>?_;have Mb:=I1.jY.jW nT;have I4:=Im.but (h':=h4) (own:=[T]) (b4.mono (fun _ z=>absurd z (by simp)) (fun _ z=>z)) (fun c hc=>by
   rw[ao.mp hc];refine⟨HT,Mb.1,Mb.2.1,Mb.2.2.1,fun p hp=>?_⟩;rw[bU] at hp;rcases bq.mp hp with hp|hp
   ·exact Mb.2.2.2 p hp
   ·rw[ao.mp hp];exact ne.symm)
  refine uE (X:=X.K9 (.ref a) (X.pn ++ pins ++ [(a,oe)]) (fun _ _=>False)) (v:= .ref a) I4 hN hi (.inl hl) rfl (fun s5 I5=>?_) (.inr hl);have pe:PE (X.K9 (.ref a) (X.pn ++ pins ++ [(a,oe)]) (fun _ _=>False)) (.Attribute (.Name n p2) "text" p3) (fun σ H Q=>σ[i]? =some (some (.ref a))/\H dx=some (.xd [("text",.str txt)])/\Q (.str txt) H):=by
   rintro Nt s6 σ6 H6 Q6 J ⟨e1,e2,q6⟩;refine EO rfl (dZ (Dr (X:=X.K9 (.ref a) (X.pn ++ pins ++ [(a,oe)]) (fun _ _=>False)) hi (.inl hl) hd rM Nt s6 σ6 H6 (fun v H'=>v= .ref a/\H'=H6) J ⟨_,e1,rfl,rfl⟩) ?_);rintro u s7 ⟨v,H7,J7,rv,rfl,rfl⟩;obtain rfl:u=Value.ref a:=rv;obtain⟨w1,_⟩:=J7.pin (a,oe) (cW _ (bz _ (ao.mpr rfl)));obtain⟨mA,n1,rl⟩:=J7.cy dx _ e2;have rt:=rl "text";have lk:List.lookup ("text":Str) [("text",V.str txt)]=some (V.str txt):=by simp[List.lookup]
   rw[lk] at rt;cases XB:mA "text" with
   |none=>rw[XB] at rt; exact False.elim rt
   |some u7=>
    rw[XB] at rt;obtain⟨tk7,rfl⟩: ∃tk,u7=Value.str txt tk:=rt;obtain⟨hp7,g7,d7,t7,os7⟩:=s7;refine L6 PySem.F.attr_Exception.ga (cC _ J7.gR).b (cC _ J7.gR).at_ (lC J7.gR ek.ga) (lC J7.gR ek.gk) (lC J7.gR ek.tx) ⟨oe,w1,QP,Pb,S5⟩ n1.ns XB rfl ?_;exact⟨.str txt,H7,J7.tok _,⟨_,rfl⟩,q6⟩
  have hlen:i < σ1.length:=by
   rw[I1.len];exact(ak.mp hi).1
  refine wpAny_mono (au (a9 pe) [] s5 _ H2 {nx:=fun _ _=>False,rt:=fun v H'=>v= .str txt/\H'=H2} I5 ⟨by simp[hlen],ed,rfl,rfl⟩) (fun f s6 q6=>?_) fun _ _ z=>z.elim;cases f with
  |next=>obtain⟨_,_,_,z⟩:=q6; exact z.elim
  |brk=>obtain⟨_,_,_,z⟩:=q6; exact z.elim
  |cont=>obtain⟨_,_,_,z⟩:=q6; exact z.elim
  |ret u=>
   obtain⟨v,σ6,H6,I6,rv,rfl,rfl⟩:=q6;have I7:Inv X pins σ6 H6 s6:=Inv.SX I3 I6;obtain⟨m6,n6,_⟩:=id I7.loc;have kd:(X.env.scope.kind == .class || (X.env.scope.kind == .module && X.env.locals != X.env.globals))=false:=by
    rw[I.ok.kind];rfl
   refine wpAny_nameGoes hl n6 kd fun h7 m7 n7 sb=>?_;exact⟨.str txt,_,H6,I7.renamed n7 sb,rv,q⟩
 ·have q':=SP.jY q;cases f with
  |next=>exact jq q'
  |brk=>exact q'
  |cont=>exact q'
  |ret u=>exact q'
def JD (CT CN:Addr)(txt:Str)(E:XK):XK:=fun c d H'=>c= .ref CT/\ ∀dx,H' dx=none->E (.ref CN) (some dx) (upd H' dx (.xd [("text",.str txt)]))
def GY (CT CN:Addr)(txt:Str)(E:XK)(t:XK->TS):TS:=fun D σ H=>t (JD CT CN txt E) D σ H
def BD {CT:Addr}{kk:_}(T:Q0 X E)(hc:X.calm=true)(hg:Gl X x)(hm:X.mg x=some (.ref CT))(kT:gW X.K CT R)(js:X.mg "Needed"≠some (.ref CT))(M:JB X.prog X.w X.K X.mg X.base k "Needed" CN R txt)(hr:iq (k + 1) X.A)(hgN:Gl X "Needed")
  (hb: ∀(xe:Value->Shared->Prop) (pn:List (Addr×Obj)) (E:XK),Passes (mG X.prog X.w X.mg) (X.wU xe pn) E->oN (X.wU xe pn) body (t E)) (hx:(x == ("__debug__":Str))=false:=by decide):
  PS X (.Try body [.ExceptHandler (some (.Name x p1)) none [.Raise (some (.Call (.Name "Needed" p2) [] [] gH)) (some (.Constant .none kk p3)) p4] p5] [] [] pos) (GY CT CN txt E t):=by
 intro pins s σ H D I h;refine wpAny_Try_except (ck (hb (fun e s1=>wpAny (model X.prog X.w) X.A (noteFrame e X.env) (fun _ s2=>wpAny (model X.prog X.w) X.A (setFlight e none) (fun _ s3=>
  wpAny (model X.prog X.w) X.A (handleBy e X.env [.ExceptHandler (some (.Name x p1)) none [.Raise (some (.Call (.Name "Needed" p2) [] [] gH)) (some (.Constant .none kk p3)) p4] p5]) (SP X pins D) X.xe s3) X.xe s2) X.xe s1) (X.pn ++ pins) (JD CT CN txt E) ?_ [] s σ H D (I.wU _) h) (fun f s1 q=>?_) fun _ _ z=>z)
 ·rintro S4 σ1 H1 s1 e s2 I1 cx;refine land T.Io T.Z4 I1.jY cx fun a C dx T0 vs H2 s3 he I3 x3 h1 ft ne na nT Ha HT h2 z=>?_;subst he;obtain⟨e1,q⟩:=z;cases e1;have v2:vs[2]? =some .none:=h2.elim id (fun z=>absurd z js);obtain⟨oe,XA,QP,Pb,S5⟩:=id x3;obtain⟨_,_,_,_,_,_,_,_,_,_,_,_,_,_,_,cT⟩:=kT.on;obtain⟨nm,qn,N,bs,bm,sn,sub,ab,col,dd,k0,k1,k2,k3,k5,cN⟩:=M.ek.on;have nw:=I1.jY.jW na;have XC: ∀p∈[(a,oe)],s3.heap.get? p.1=some p.2/\H2 p.1=none/\p.1≠X.env.locals/\p.1∉X.fs/\ ∀v,p.2.data≠ .cell v:=fun p hp=>by
   rw[ao.mp hp];exact⟨XA,Ha,nw.2.1,I1.jY.Gi na,fun v z=>by rw[S5] at z; cases z⟩
  have Im:=I3.K9 (l:=[(a,oe)]) (.ref a) X.xe XC;refine wpAny_handleBy_cons (codeAny_handlers_test (jA Im hg hm ?_ hx)) (by intro q; cases q);obtain⟨hp,g,d,tk,os⟩:=s3;refine ym (b:=true) (cT _ I3.gR).at_ (cT _ I3.gR).at_ x3 (cT _ I3.gR).b (by simp) ?_;refine codeAny_handlers_suite ?_;refine vj x3 h1 ft fun h4 b4 t4 _=>?_;have Mb:=I1.jY.jW nT;have I4:=Im.but (h':=h4) (own:=[T0]) (b4.mono (fun _ z=>absurd z (by simp)) (fun _ z=>z)) (fun c hc=>by
   rw[ao.mp hc];refine⟨HT,Mb.1,Mb.2.1,Mb.2.2.1,fun p hp=>?_⟩;rw[bU] at hp;rcases bq.mp hp with hp|hp
   ·exact Mb.2.2.2 p hp
   ·rw[ao.mp hp];exact ne.symm)
  refine wpAny_passesOwnAt (T.ownAt (some (.ref a))) ?_;have ps:PS (X.K9 (.ref a) (X.pn ++ pins ++ [(a,oe)]) X.xe) (.Raise (some (.Call (.Name "Needed" p2) [] [] gH)) (some (.Constant .none kk p3)) p4) (fun _ _ H=> ∀dx,H dx=none->E (.ref CN) (some dx) (upd H dx (.xd [("text",.str txt)]))):=by
   intro Nt s6 σ6 H6 D6 J h6;rw[arm_exec_Raise];refine az (iz (DW (C:=CN) (e0:=a) (nm:=nm) (q:=qn) (N:=N) (bs:=bs) (bm:=bm) (oC:=true) (sn:=sn) (sub:=sub) (ab:=ab) (col:=col) (dd:=dd) (k0:=k0) (k1:=k1) (k2:=k2) (k3:=k3) (k5:=k5) (newId:="Exception.__new__") (cN _ J.gR).b rfl (fun Rr s7 z=>az (Constant_none (az (iz (bF z))))) (az (JC (X:=X.K9 (.ref a) (X.pn ++ pins ++ [(a,oe)]) X.xe) M (hr.mark _) hgN (by decide) J fun s7 e XD t' he Dh hz ne7 I7 x7=>az (iz (bF ?_))))));obtain⟨w1,_⟩:=I7.pin (a,oe) (cW _ (bz _ (ao.mpr rfl)));have w0:=(J.pin (a,oe) (cW _ (bz _ (ao.mpr rfl)))).1;have nea:e≠a:=fun q=>by
    rw[q] at he;exact absurd (aN w0) (xQ.mpr he)
   refine⟨e,some XD,v0 t',.ref CT,some dx,vs,rfl,nea,(cN _ I7.gR).at_,x7,rfl,rfl,⟨oe,w1,QP,Pb,S5⟩,v2,fun h8 b8 x8=>?_⟩;have Hz:upd H6 XD (.xd [("text",.str txt)]) e=none:=by
    rw[aA ne7.symm];exact hz
   have I8:=I7.but (h':=h8) (own:=[e]) (b8.mono (fun _ z=>absurd z (by simp)) (fun _ z=>z)) (fun c hc=>by
    rw[ao.mp hc];exact⟨Hz,J.jW he⟩)
   exact T.mr (Inv.SX I3 I8) x8 rfl (.inr M.Z6) (a0 J.sz he) Hz (h6 XD Dh)
  refine ck (au ps [] _ _ H2 {nx:=fun _ _=>False,rt:=fun _ _=>False} I4 q) (fun f s9 z=>?_) fun _ _ z=>z;cases f with
  |next=>obtain⟨_,_,_,z⟩:=z; exact z.elim
  |brk=>obtain⟨_,_,_,z⟩:=z; exact z.elim
  |cont=>obtain⟨_,_,_,z⟩:=z; exact z.elim
  |ret u=>obtain⟨_,_,_,_,_,z⟩:=z; exact z.elim
 ·have q':=SP.jY q;cases f with
  |next=>exact jq q'
  |brk=>exact q'
  |cont=>exact q'
  |ret u=>exact q'
end
open PySem.W
def BMain (mg:Str->Option Value)(h:Heap):Prop:= ∃bm o,mg "__builtins__"=some (.ref bm)/\bm≠builtinsNs/\bm≠mainGlobals/\h.get? bm=some o/\o.cls= .type "module"/\o.dict=some builtinsNs/\o.data= .plain
abbrev yo (c:Addr)(qual:Str):HO:= .ext fun h=>h.CodeRec (.ref c) qual
def JE {P:Program}{w:World}{H:Hp}{h:Heap}{c:Addr}{qual:Str}(x:h.CodeRec (.ref c) qual):dC P w H h c (yo c qual):=by
 refine⟨x,?_,fun h1 h2 z k=>?_⟩
 ·obtain⟨c',o,vs,t,e,g,_⟩:=x;cases e;exact⟨o,g⟩
 ·obtain⟨c',o,vs,t,e,g,r⟩:=z;cases e;exact⟨c,o,vs,t,rfl,k o g,r⟩
def Tb (H:Hp)(P:Addr)(pos:Pos)(qual:Str):Prop:= ∃ps:Array Value,H P=some (.mL ps)/\TriplesOk ps.toList/\(codeAmong pos ps.toList=none∨ ∃c',codeAmong pos ps.toList=some (.ref c')/\H c'=some (yo c' qual))
section
variable {X:Cx}{pins:List (Addr×Obj)}{σ:St}{H:Hp}{s:Shared}{c P:Addr}{params:Arguments}{body:Expr}{scope:Scope}{pos:Pos}{Q:Value->Shared->Prop}{xe:Value->Shared->Prop}
def BMain.at {mg:Str->Option Value}{h h':Heap}(B:BMain mg h)(k: ∀b o,h.get? b=some o->h'.get? b=some o){ps:Array Value}(hP:h'.get? P=some (tabObj ps)):h'.BuiltinsAt mg P:=by
 obtain⟨bm,o,b1,b2,b3,b4,b5,b6,b7⟩:=B;refine⟨bm,o,b1,b2,b3,fun z=>?_,k _ _ b4,b5,b6,b7⟩;have e:=k _ _ b4;rw[z,hP] at e;cases e;cases b5
def JF (I:Inv X pins σ H s)(B:BMain X.mg X.base)(Fm:X.env.code= .ref c)(C:CodeHd X.base c P)(tb:Tb H P pos (X.env.qual ++ "<lambda>"))(Pc:defaultsOf params X.env=([],[]))(qP:closureFor scope X.env=pure [])
  (q: ∀(f c':Addr) (Fn:Value) (H':Hp) (s':Shared),Inv X pins σ H' s'->Frame [P] H H'->Tb H' P pos (X.env.qual ++ "<lambda>")->H' f=none->s'.heap.get? f=some (kla_obj "<lambda>" (X.env.qual ++ "<lambda>") params body scope [] ((X.mg "__name__").getD .none) c' Fn)->
   H' c'=some (yo c' (X.env.qual ++ "<lambda>"))->s.heap.objs.size<=f->Q (.ref f) s'):wpAny (model X.prog X.w) X.A (eval (.Lambda params body scope pos) X.env) Q xe s:=by
 obtain⟨ps,hP,ht,hc⟩:=tb;have Vv:s.heap.get? P=some (tabObj ps):=I.cy P _ hP;have hg:s.heap.Ns mainGlobals X.mg:=I.mod.glob.keeps I.bk;have hgP:mainGlobals≠P:=fun z=>by
  obtain⟨o,es,ep,e,hd,_⟩:=hg;rw[z,Vv] at e;cases e;cases hd
 have hB:=B.at I.bk Vv;refine kla_eval Pc ?_;rcases hc with hn|⟨c',hf,Vw⟩
 ·refine kla_makeFunction qP I.ok.glob hg Fm (C.keeps I.bk) Vv ht hn hgP hB fun c' Fn h' tk hx OS iX XE Q3=>?_;have XF:H c'=none:=I.cy.fresh OS;have cP:c'≠P:=fun z=>by rw[z,hP] at XF; cases XF
  have lt: ∀b o,s.heap.get? b=some o->b≠c':=fun b o z=>a8 (bo (aN z) OS);have same: ∀b,b≠P->b≠c'->upd (upd H P (.mL (ps ++ #[rawInt pos.line,rawInt pos.col,.ref c']))) c' (yo c' (X.env.qual ++ "<lambda>")) b=H b:=fun b n1 n2=>by rw[aA n2,aA n1]
  have Mc: ∀b u,H b=some u->u≠ .mL ps->b≠P:=fun b u z n w=>by
   rw[w,hP] at z;cases z;exact n rfl
  have GZ: ∀b u,H b=some u->b≠c':=fun b u z=>aK z XF;generalize Vu:kla_obj "<lambda>" (X.env.qual ++ "<lambda>") params body scope [] ((X.mg "__name__").getD .none) c' Fn=ob;have hf:(h'.push ob).get? h'.objs.size=some ob:=by
   rw[← Vu];exact bO _ rfl
  have kp: ∀b o,b≠P->s.heap.get? b=some o->(h'.push ob).get? b=some o:=fun b o n z=>ay _ (hx b o n z);have S6:(h'.push ob).get? P=some (tabObj (ps ++ #[rawInt pos.line,rawInt pos.col,.ref c'])):=ay _ Q3;have I2:Inv X pins σ (upd (upd H P (.mL (ps ++ #[rawInt pos.line,rawInt pos.col,.ref c']))) c' (yo c' (X.env.qual ++ "<lambda>"))) {s with heap:=h'.push ob,toks:=tk}:=by
   refine I.un ⟨fun b o z n _ _=>kp b o (fun w=>by rw[w,hP] at n; cases n) z,fun b o z n _ _=>⟨o.slots,kp b o (fun w=>by rw[w,hP] at n; cases n) z⟩,fun b o z n _=>?_,fun b o z _=>?_,fun b xs z=>?_,fun b o u z=>?_,fun b qs z=>?_⟩ fun b u z=>?_
   ·rw[same b (fun w=>by rw[w,hP] at n; cases n) (lt b o z)];exact n
   ·by_cases w:b=P
    ·rw[w];exact⟨_,S6⟩
    ·exact⟨o,kp b o w z⟩
   ·rw[same b (Mc b _ z (by intro w; cases w)) (GZ b _ z)];exact z
   ·rw[same b (Mc b _ z (by intro w; cases w)) (GZ b _ z)];exact z
   ·by_cases w:b=P
    ·rw[w] at z ⊢;rw[hP] at z;cases z;exact⟨_,by rw[aA cP.symm,ag]⟩
    ·exact⟨#[],by rw[same b w (GZ b _ z),z]; simp⟩
   ·by_cases w:b=c'
    ·subst w;rw[ag] at z;cases z;exact JE (XE.push ob)
    ·rw[aA w] at z;by_cases w2:b=P
     ·subst w2;rw[ag] at z;cases z;exact S6
     ·rw[aA w2] at z;refine(I.cy b u z).tQ (fun d o hd y=>kp d o (fun w3=>?_) y) (fun d y=>?_) fun d xs y=>?_
      ·rcases hd with hd|hd
       ·exact w2 (hd▸w3)
       ·rw[w3,hP] at hd;cases hd
      ·rw[same d (Mc d _ y (by intro w; cases w)) (GZ d _ y)];exact y
      ·rw[same d (Mc d _ y (by intro w; cases w)) (GZ d _ y)];exact y
  have Lr:H h'.objs.size=none:=I.cy.fresh (a0 OS (df iX));refine q h'.objs.size c' Fn _ _ I2 (fun b o nb z=>?_) ⟨ps ++ #[rawInt pos.line,rawInt pos.col,.ref c'],by rw[aA cP.symm,ag],?_,.inr ⟨c',?_,ag⟩⟩ ?_ (by rw[Vu]; exact hf) ag (a0 OS (df iX))
  ·rw[same b (fun w=>nb (by rw[w]; exact ao.mpr rfl)) (GZ b _ z)];exact z
  ·rw[Array.toList_append];exact TriplesOk_snoc _ _ _ _ ht
  ·rw[Array.toList_append];exact codeAmong_snoc _ ht hn
  ·rw[same _ (fun w=>by rw[w,hP] at Lr; cases Lr) (qg iX)];exact Lr
 ·refine kla_makeFunctionHit qP I.ok.glob hg Fm (C.keeps I.bk) Vv ht hf hB fun Fn h' tk hk hsz=>?_;have I2:=(I.kept (t':=tk) (h':=h'.push (kla_obj "<lambda>" (X.env.qual ++ "<lambda>") params body scope [] ((X.mg "__name__").getD .none) c' Fn)) fun b u z=>ay _ (hk b u z));exact q h'.objs.size c' Fn H _ I2 Frame.refl ⟨ps,hP,ht,.inr ⟨c',hf,Vw⟩⟩ (I.cy.fresh hsz) (bO _ rfl) Vw hsz
def JG {A:Around}{name qual:Str}{pm Fn:Value}{f c':Addr}{N ps:List Str}{us:List Value}{vs:List V}{t:TE}{R:VK}(I:Inv X pins σ H s)(e0:qx X.prog X.w X.K X.mg X.base A X.stack s H)(Vx:A.depth < recursionLimit)
  (ho:s.heap.get? f=some (kla_obj name qual params body scope [] pm c' Fn)) (rM:s.heap.CodeRec (.ref c') qual) (S:aW N ps scope) (hb:bindArgs (kla_fn name qual params body scope [] pm (.ref c') Fn) ⟨us,[]⟩=pure (ps.zip us)) (hl:vs.length=ps.length) (r:Vals vs us)
  (fS:PE (vm X.prog X.w X.K X.mg X.base N qual scope f (.ref c') A X.stack s H E0).Dv body t) (h:t (start N vs) H R):wpAny (model X.prog X.w) A (call (.ref f) us) (EP X pins σ R) xe s:=by
 have lim:s.heap.NoLimit:=I.nolimit;have mQ: ∀y∈ps.zip us,scope.names.lookup y.1=some .local∨(scope.names.lookup y.1=some .cell/\((cellsFrom (s.heap.objs.size + 1) scope.names []).lookup y.1).isSome=true):=fun⟨n,v⟩ hy=>by
  rcases S.par n (oq hy).1 with q|q
  ·exact .inl q
  ·exact .inr ⟨q,lg _ _ _ (.inl q)⟩
 refine EG (kla_callFunE Vx ho rfl S.co S.gen rfl rM ?_);rw[hb];refine bF ?_;refine tN S.kind mQ fun env he s1 y=>?_;subst he;refine⟨lim.keeps y.toInCall.keep,kla_codeExpr ?_⟩;have J:Inv (vm X.prog X.w X.K X.mg X.base N qual scope f (.ref c') A X.stack s H E0) [] (start N vs) H s1:=vn S e0 hl r y;refine ck (fS [] s1 (start N vs) H R (J.uF _) h) (fun v s' hs=>?_) fun e s' hs=>hs.elim;obtain⟨v',H',J',rv,q'⟩:=hs;exact I.after ⟨v',H',J'.os,J'.bare,J'.base,J'.cy,rv,q'⟩
end
section
variable {X:Cx}{pins:List (Addr×Obj)}{σ:St}{H:Hp}{s:Shared}
def Inv.S7 {D:Addr}{o:HO}(I:Inv X pins σ H s)(hn:H D=none)(ok:dC X.prog X.w (upd H D o) s.heap D o)(nw:(D∈X.ex∨X.s₀.heap.objs.size<=D)/\D≠X.env.locals/\(∀x k,X.env.cells.lookup x=some k->k≠D)/\ ∀p∈X.pn ++ pins,p.1≠D)
  (hx:X.s₀.heap.objs.size<=D):Inv X pins σ (upd H D o) s:=by
 have off: ∀b u,H b=some u->b≠D:=fun b u z=>aK z hn;have low: ∀b ob,X.s₀.heap.get? b=some ob->b≠D:=fun b ob z=>a8 (bo (aN z) hx);refine⟨I.ok,I.os,I.bare,⟨I.base.keep,I.base.slot,fun b ob z n hb=>?_,I.base.there,fun b xs z=>?_,fun b ob u z=>?_,fun b ps z=>?_⟩,I.loc,I.cell,?_,fun x k z=>?_,fun p hp=>?_,fun b u z=>?_,I.len⟩
 ·rw[aA (low b ob z)];exact I.base.free b ob z n hb
 ·have w:=I.base.qt b xs z;rw[aA (off b _ w)];exact w
 ·have w:=I.base.pz b ob u z;rw[aA (off b _ w)];exact w
 ·obtain⟨m,w⟩:=I.base.pA b ps z;exact⟨m,by rw[aA (off b _ w)]; exact w⟩
 ·rw[aA nw.2.1.symm];exact I.free
 ·rw[aA (nw.2.2.1 x k z)];exact I.iP x k z
 ·obtain⟨w1,w2,w3⟩:=I.pin p hp;exact⟨w1,by rw[aA (nw.2.2.2 p hp)]; exact w2,w3⟩
 ·by_cases q:b=D
  ·subst q;rw[ag] at z;cases z;exact ok
  ·rw[aA q] at z;exact(I.cy b u z).tQ (fun _ _ _ w=>w) (fun d w=>by rw[aA (off d _ w)]; exact w) fun d xs w=>by rw[aA (off d _ w)]; exact w
def Frame.sql {K:Frag}{fp:List Addr}{H H':Hp}{a:Addr}{xs:List V}(f:Frame fp H H')(h:bw K H a xs)(ha: ∀o,H a=some o->a∉fp):bw K H' a xs:=by
 rcases h with(h|⟨o,h⟩)|h
 ·exact .inl (.inl (f _ _ (ha _ h) h))
 ·exact .inl (.inr ⟨o,f _ _ (ha _ h) h⟩)
 ·exact .inr h
def Tb.upd {P:Addr}{pos:Pos}{qual:Str}{p:Addr}{o:HO}(t:Tb H P pos qual)(hp:H p=none):Tb (upd H p o) P pos qual:=by
 obtain⟨ps,h1,h2,h3⟩:=t;refine⟨ps,by rw[aA (aK h1 hp)]; exact h1,h2,?_⟩;rcases h3 with h3|⟨c',h3,h4⟩
 ·exact .inl h3
 ·exact .inr ⟨c',h3,by rw[aA (aK h4 hp)]; exact h4⟩
def Frame.new {fp:List Addr}{H H':Hp}{p:Addr}{o:HO}(f:Frame fp H H')(hp:H' p=none):Frame fp H (L2.upd H' p o):=fun b u hb z=>by
 have w:=f b u hb z;rw[aA (aK w hp)];exact w
end
def Nu (K:Frag)(P:Addr)(pos:Pos)(qual:Str)(N:List Str)(tb:TE)(Q:VK)(x:V)(H1:Hp):Prop:= ∃(a:Addr) (xs:List V) (ts:List (List Int)) (key:List Int->Int),x= .ref a/\bw K H1 a xs/\xs.length < 64/\ts.length=xs.length/\Tb H1 P pos qual/\
 (∀t∈ts,t≠[])/\(∀t∈ts,∀u∈ts,HT.lexLt t u=decide (key t < key u))/\
 (∀i,i < xs.length-> ∀H2,Frame [P] H1 H2-> ∀R:VK,(∀p,H2 p=none->R (.ref p) (upd H2 p (.tup ((ts.getD i []).map V.int))))->tb (start N [xs.getD i .eu]) H2 R)/\
 ∀(D:Addr) (p:List Nat) (H2:Hp),p.Perm (List.range xs.length)->p.Pairwise (fun i j=>key (ts.getD i [])<=key (ts.getD j []))->Frame [P] H1 H2->Tb H2 P pos qual->H1 D=none->H2 D=some (.lst (p.map fun i=>xs.getD i .eu))->Q (.ref D) H2
def JH (K:Frag)(P:Addr)(pos:Pos)(qual:Str)(N:List Str)(ta tb:TE):TE:=fun σ H Q=>ta σ H (Nu K P pos qual N tb Q)
def gr.snoc {H:Hp}: ∀{ts:List (List Int)} {xs:List V} {t:List Int} {p:Addr},gr H ts xs->H p=some (.tup (t.map V.int))->gr H (ts ++ [t]) (xs ++ [.ref p])
 |_,_,_,p,.nil,h=> .cons ⟨p,rfl,h⟩ .nil
 |_,_,_,p,.cons a r,h=> .cons a (gr.snoc r h)
def take_succ_getD {α:Type}{l:List α}{i:Nat}{d:α}(h:i < l.length):l.take (i + 1)=l.take i ++ [l.getD i d]:=by
 rw[AV,af h,aj,af h];rfl
section
variable {X:Cx}{c P:Addr}{params:Arguments}{body e:Expr}{scope:Scope}{p pos JI RV:Pos}{ta tb:TE}{N:List Str}{y:Str}
def vo (hg:Gl X "sorted")(hm:X.mg "sorted"=none)(B:BMain X.mg X.base)(Fm:X.env.code= .ref c)(C:CodeHd X.base c P)(hr:eY 1 X.A)(S:aW N [y] scope)
  (fS: ∀(f c':Addr) (A:Around) (s:Shared) (H:Hp),PE (vm X.prog X.w X.K X.mg X.base N (X.env.qual ++ "<lambda>") scope f (.ref c') A X.stack s H E0).Dv body tb) (ha:PE X e ta)
  (hb: ∀(pm Fn u:Value) (c':Addr),bindArgs (kla_fn "<lambda>" (X.env.qual ++ "<lambda>") params body scope [] pm (.ref c') Fn) ⟨[u],[]⟩=pure ([y].zip [u]):=by intros; rfl)
  (Pc:defaultsOf params X.env=([],[]):=by rfl) (qP:closureFor scope X.env=pure []:=by rfl)
  (he:backTo pos (starEach [e] X.env)=(false,eval e X.env) :: backTo pos (starEach [] X.env):=by rfl)
  (hs:starEach [e] X.env=(false,eval e X.env) :: starEach [] X.env:=by rfl) (uN:(backTo pos (starEach [e] X.env)).any (·.1)=false:=by rfl):
  PE X (.Call (.Name "sorted" p) [e] [⟨some "key",.Lambda params body scope JI,RV⟩] pos) (JH X.K P JI (X.env.qual ++ "<lambda>") N ta tb):=by
 intro pins s σ H Q I h;refine eG (pB I hg hm (u:= .builtin "sorted") (by rfl) ?_);refine PyProof.Rows.callWith_kw (dZ ((aa ha av hs) pos pins s σ H (fun vs H1=>match vs with|[x]=>Nu X.K P JI (X.env.qual ++ "<lambda>") N tb Q x H1|_=>False) I h) fun us s1 h1=>?_) he uN rfl rfl;obtain⟨vs,H1,I1,rv,q1⟩:=h1;cases vs with
 |nil=>exact q1.elim
 |cons x vs=>
 cases vs with
 |cons _ _=>exact q1.elim
 |nil=>
 obtain⟨a,xs,ts,key,rfl,hS,Dd,iX,Z8,js,IP,hbd,fin⟩:=q1;obtain⟨u,rfl,ru⟩:=vals1 rv;obtain rfl:u=Value.ref a:=ru;show wpAny _ _ (evalAll [(do let v ← eval (.Lambda params body scope JI) X.env; standAt pos; pure v)]) _ _ s1;refine wpAny_evalAll_cons (az (JF I1 B Fm C Z8 Pc qP fun f c' Fn H2 s2 I2 Z9 tb2 Lr Pa Vw hle=>az (iz (bF (wpAny_evalAll_nil ?_)))));show wpAny _ _ (call (.builtin "sorted") [.ref a] [(Str.ofString "key",.ref f)]) _ _ s2;have aP: ∀o,H1 a=some o->a∉[P]:=fun o z w=>by
  obtain⟨ps,hP,_⟩:=Z8;have w':=ao.mp w;rcases hS with(hS|⟨_,hS⟩)|⟨ob,_,_,hK,qP,_⟩
  ·rw[w',hP] at hS; cases hS
  ·rw[w',hP] at hS; cases hS
  ·have e1:=I1.gR _ _ hK;have e2:s1.heap.get? P=some _:=I1.cy P _ hP;rw[w',e2] at e1;cases e1;cases qP
 have Pd:=Z9.sql hS aP;obtain⟨bZ,XG,pl,hz⟩:=I2.list Pd;have hl:=XG.length;have lf:f < s2.heap.objs.size:=aN Pa;have Xz:s1.heap.objs.size<=s2.heap.objs.size:=a0 hle (df lf);refine sortedK pl.isList (by lia) fun D kS e1 h' kp d1 k1 neD Q4 Vy=>?_;have I3:=I2.kept (t':=s2.toks) kp;have HD:H2 D=none:=I2.cy.fresh Q4;have HK:H2 kS=none:=I2.cy.fresh Vy;have Nv:=I2.jW Q4;have Pe:=I2.jW Vy;have nwf:=I1.jW hle;have fD:f≠D:=a8 (bo lf Q4);have fK:f≠kS:=a8 (bo lf Vy);have dp:X.A.in1.in1.depth < recursionLimit:=hr.depth;generalize S8:kla_obj "<lambda>" (X.env.qual ++ "<lambda>") params body scope [] ((X.mg "__name__").getD .none) c' Fn=Q5 at Pa;have loop: ∀(r:List Value) (i:Nat) (ks:List Value) (bg:List V) (Hi:Hp) (si:Shared),r=bZ.drop i->i<=xs.length->Inv X (pins ++ [(f,Q5),(D,seqObj "list" #[] e1)]) σ Hi si->(∃e,si.heap.get? kS=some (seqObj "list" ks.toArray e))->Hi kS=none->
   Frame [P] H1 Hi->Tb Hi P JI (X.env.qual ++ "<lambda>")->Hi c'=some (yo c' (X.env.qual ++ "<lambda>"))->gr Hi (ts.take i) bg->Vals bg ks->
   sX X.prog X.w X.A.in1.in1 kS (.ref f) (GQ X.prog X.w X.A.in1.in1 D kS e1 bZ (fun s'=>EP X pins σ Q (.ref D) s')) r ks si:=by
  intro r
  induction r with
  |nil=>
   intro i ks bg Hi si hr hi Ii hk Md Vz XH VA hT rk;have ei:i=xs.length:=by
    have:=cY List.length hr;rw[wC,mC] at this;lia
   have La:gr Hi ts bg:=by rwa [ei,← iX,aY] at hT
   have lk:bg.length=xs.length:=by have:=La.length; lia
   have lk2:=rk.length;obtain⟨w1,w2,_⟩:=Ii.pin (D,seqObj "list" #[] e1) (List.mem_append_right _ (List.mem_append_right _ (by simp)));refine⟨tuples' true,fun i=>key (ts.getD i []),neD,w1,fun h2 Q' q'=>?_,fun a b C ha hb q'=>?_,fun pr h5 n S9 hUp hsz hD5 Fo=>?_⟩
   ·obtain⟨fs,f1,f2,f3⟩:=sk Ii (fun _ _ z=>z) La rk js;refine kat_kind (T:= .type "int") f1 (by lia) (fun v hv=>?_) rfl q';obtain⟨n,t,rfl⟩:=f3 v hv;exact Looks.of_pure rfl
   ·obtain⟨p1,g1,g2⟩:=La.get (i:=a) (by lia);obtain⟨p2,g3,g4⟩:=La.get (i:=b) (by lia);have v1:=jG rk a;have v2:=jG rk b;rw[g1] at v1;rw[g3] at v2;have v1':ks.getD a Value.none= .ref p1:=v1;have v2':ks.getD b Value.none= .ref p2:=v2;rw[v1',v2'];obtain⟨o1,Xg,n1,GJ,hc1,lz,Sy⟩:=Ii.tupI g2;obtain⟨o2,Gv,n2,QW,LV,hd2,Sz⟩:=Ii.tupI g4;refine kat_lt GJ lz QW hd2 ?_;have l1:=Sy.length;have l2:=Sz.length;have m1:ts.getD a []∈ts:=by rw[aj,af (show a < ts.length by lia)]; exact bN _
    have m2:ts.getD b []∈ts:=by rw[aj,af (show b < ts.length by lia)]; exact bN _
    have kx:=mV (prog:=X.prog) (w:=X.w) (A:=X.A.in1.in1) (b:=true) (Q:=C) (s:=si) 0 Sy Sz (by rw[IP _ m1 _ m2]; exact q');rw[bC,bC,l1,l2];exact kx
   ·have In:=Ii.jg;have bt:mZ (Dq X.stack) [D,kS] si.heap h5:=fun b o z nb=>by
     have n1:b≠D:=fun w=>nb (by simp[w]);have n2:b≠kS:=fun w=>nb (by simp[w]);have e:=(Fo b n1 n2).trans z;exact⟨fun _=>e,o.slots,e⟩
    have I5:=In.but bt (fun cc hc=>by
     rcases aw.mp hc with rfl|hc
     ·exact⟨w2,Nv⟩
     ·rw[ao.mp hc];exact⟨Md,Pe⟩)
    have mF:=S9.size;have I6:=I5.S7 (D:=D) (o:= .lst (pr.toList.map fun i=>xs.getD i .eu)) w2 ⟨by rw[ae,ow,mF]; exact a0 (iL hl.symm) hz,_,n,sj XG pr.toList,hD5⟩ Nv (a0 I2.sz Q4);refine⟨.ref D,_,I6,rfl,fin D pr.toList _ ?_ ?_ (Vz.new w2) (XH.upd w2) (I1.cy.fresh (a0 Xz Q4)) ag⟩
    ·have:=S9.list;rwa [← hl] at this
    ·exact sS mF hUp
  |cons v r ih=>
   intro i ks bg Hi si hr hi Ii hk Md Vz XH VA hT rk;have wN:i < xs.length:=by
    have:=cY List.length hr;rw[bH,mC] at this;lia
   have hv:v=bZ.getD i Value.none/\r=bZ.drop (i + 1):=by
    rw[N3 (by lia)] at hr;injection hr with h1 h2;refine⟨?_,h2⟩;rw[h1,aj,af (by lia)];rfl
   obtain⟨hv,XI⟩:=hv;obtain⟨ek,hk⟩:=hk;have Ip:Inv X (pins ++ [(f,Q5),(D,seqObj "list" #[] e1)] ++ [(kS,seqObj "list" ks.toArray ek)]) σ Hi si:=Ii.uf fun p hp=>by
    rcases bq.mp hp with hp|hp
    ·exact Ii.pin p (bz _ hp)
    ·rw[ao.mp hp];exact⟨hk,Md,Pe.2.1,I2.Gi Vy,fun v z=>by cases z⟩
   have XJ:si.heap.get? f=some Q5:=(Ip.pin (f,Q5) (List.mem_append_right _ (List.mem_append_left _ (List.mem_append_right _ (by simp))))).1;have rM:si.heap.CodeRec (.ref c') (X.env.qual ++ "<lambda>"):=(Ip.cy c' _ VA).1;have rvi:=jG XG i;rw[← hv] at rvi;show wpAny _ _ (call (.ref f) [v]) _ _ si;refine ck (JG (us:=[v]) (vs:=[xs.getD i .eu]) (R:=fun y H'=> ∃p,y= .ref p/\Hi p=none/\H'=upd Hi p (.tup ((ts.getD i []).map V.int))) (xe:=fun _ _=>False) Ip Ip.IU.in1.in1 dp (by rw[XJ,← S8]) rM S (hb _ _ _ _) rfl (.cons rvi .nil) (fS _ _ _ _ _)
    (hbd i wN Hi Vz _ fun p hp=>⟨p,rfl,hp,rfl⟩)) (fun u s5 h5=>?_) fun _ _ z=>z
   obtain⟨y,H5,I5,ry,pp,rfl,zr,rfl⟩:=h5;obtain rfl:u=Value.ref pp:=ry;obtain⟨z1,z2,_⟩:=I5.pin (kS,seqObj "list" ks.toArray ek) (List.mem_append_right _ (List.mem_append_right _ (by simp)));refine⟨ek,z1,fun h6 cc sb hk6=>?_⟩;have I6:Inv X (pins ++ [(f,Q5),(D,seqObj "list" #[] e1)]) σ _ _:=Inv.jg I5;have I7:=I6.turned (t':=s5.toks) (it:=kS) (h':=h6) (fun b o n z=>(sb.2 b n).trans z) z2 Pe.2.1 Pe.1 Pe.2.2.1 (fun p hp=>by
    rcases bq.mp hp with hp|hp
    ·exact Pe.2.2.2 p (cW _ hp)
    ·rcases bq.mp hp with hp|hp
     ·exact Pe.2.2.2 p (bz _ hp)
     ·rcases aw.mp hp with rfl|hp
      ·exact fK
      ·rw[ao.mp hp];exact neD)
   have cpp:c'≠pp:=aK VA zr;refine ih (i + 1) (ks ++ [.ref pp]) (bg ++ [.ref pp]) _ _ XI wN I7 ⟨cc,hk6⟩ z2 (Vz.new zr) (XH.upd zr) (by rw[aA cpp]; exact VA) ?_ (rk.append (show Vals [V.ref pp] [Value.ref pp] from .cons rfl .nil));rw[take_succ_getD (d:=[]) (by lia)];exact gr.snoc (hT.mono fun b xs z=>by rw[aA (aK z zr)]; exact z) ag
 have Ip:Inv X (pins ++ [(f,Q5),(D,seqObj "list" #[] e1)]) σ H2 {s2 with heap:=h'}:=I3.uf fun p hp=>by
  rcases bq.mp hp with hp|hp
  ·exact I3.pin p (bz _ hp)
  ·rcases aw.mp hp with rfl|hp
   ·exact⟨kp _ _ Pa,Lr,nwf.2.1,I1.Gi hle,fun v z=>by rw[← S8] at z; cases z⟩
   ·rw[ao.mp hp];exact⟨d1,HD,Nv.2.1,I2.Gi Q4,fun v z=>by cases z⟩
 exact loop bZ 0 [] [] H2 _ rfl (bp _) Ip ⟨0,k1⟩ HK Z9 tb2 Vw .nil .nil
end
def G0 {P:Program}{w:World}{K:Frag}{mg mb:Str->Option Value}{CX:ER}{k:Nat}{fa a:Addr}{fd:FuncData}{x:Str}{sp:Sp}{s₁:Shared}{vs:List Value}{ns:List Int}{cps:List (Addr×Addr)}
  (KX:K.In s₁.heap) (hns:s₁.heap.Ns mainGlobals mg) (hb:s₁.heap.Ns builtinsNs mb) (hbb: ∀x:Str,x≠"__name__"->mb x=bootBuiltins x) (XM:s₁.heap.NoLimit) (hg:s₁.gens= #[])
  (ha:s₁.heap.get? a=some {cls:= .type "list",data:= .seq vs.toArray}) (hi:IntsAre vs ns) (hl:ns.length<=sizeLine) (hr:eY k callerA)
  (bm:BMain mg s₁.heap) (Q3: ∀cp∈cps,s₁.heap.get? cp.2=some (tabObj #[])) (Ta: ∀cp∈cps,codeHdIn K cp.1 cp.2=true/\K.lookup cp.2=none)
  (F: ∀base:Heap,K.In base->base.Ns mainGlobals mg->BMain mg base->lW P w K mg base CX k fa fd [x] sp) (Tc: ∀(s:Shared) (u:Value),BindsTo s fd ⟨[u],[]⟩ [(x,u)])
  (ya: ∀H:Hp,(∀cp∈cps,H cp.2=some (.mL #[]))->bw K H a (ns.map V.int)->sp [.ref a] H (fun v _=>v= .bl true) fun _ _ _=>False)
  (hCX: ∀H e s',CX [] H s₁ (fun _ _ _=>False) e s'->False):
  codeAny (model P w) callerA (.call (.ref fa) ⟨[.ref a],[]⟩) (fun r s'=>r= .ok (.ret (.bool true))/\OldK s₁.heap s'.heap/\s'.os=s₁.os/\AllBare s'.gens) s₁:=by
 have rv:=yf hi;have Td:=hi.length;have aT: ∀cp∈cps,cp.2≠a:=fun cp hc z=>by
  have e:=Q3 cp hc;rw[z,ha] at e;cases e
 have core: ∀H:Hp,(∀b,H b=none∨(b=a/\H b=some (.Dc {cls:= .type "list",data:= .seq vs.toArray} (.lst (ns.map V.int)))/\K.lookup a=none)∨ ∃cp∈cps,b=cp.2/\H b=some (.mL #[]))->(∀cp∈cps,H cp.2=some (.mL #[]))->bw K H a (ns.map V.int)->
   codeAny (model P w) callerA (.call (.ref fa) ⟨[.ref a],[]⟩) (fun r s'=>r= .ok (.ret (.bool true))/\OldK s₁.heap s'.heap/\s'.os=s₁.os/\AllBare s'.gens) s₁:=by
  intro H hO hT hS;have cy:oz P w H s₁.heap:=fun b u z=>by
   rcases hO b with w|⟨rfl,w,_⟩|⟨cp,hc,rfl,w⟩
   ·rw[z] at w; cases w
   ·rw[z] at w;cases w;exact⟨ha,by rw[ae]; exact hl,vs,_,rv,ha⟩
   ·rw[z] at w;cases w;exact Q3 cp hc
  have zt: ∀{b:Addr} {o:Obj},s₁.heap.get? b=some o->H b=none->(wF s₁.heap H).get? b=some o:=fun e n=>ID e n;have noD: ∀{b:Addr} {o:Obj},s₁.heap.get? b=some o->((∃es ep,o.data= .dict es ep)∨o.data= .plain)->H b=none:=fun{b o} e d=>by
   rcases hO b with w|⟨rfl,w,_⟩|⟨cp,hc,rfl,w⟩
   ·exact w
   ·rw[ha] at e;cases e;rcases d with⟨es,ep,d⟩|d <;> cases d
   ·rw[Q3 cp hc] at e;cases e;rcases d with⟨es,ep,d⟩|d <;> cases d
  have VB: ∀{b:Addr} {m:Str->Option Value},s₁.heap.Ns b m->(wF s₁.heap H).Ns b m:=fun{b m} ⟨o,es,ep,e,d,r⟩=>⟨o,es,ep,zt e (noD e (.inl ⟨es,ep,d⟩)),d,r⟩;have hKb:K.In (wF s₁.heap H):=fun b o e=>zt (KX b o e) (by
   rcases hO b with w|⟨rfl,w,hk⟩|⟨cp,hc,rfl,w⟩
   ·exact w
   ·rw[hk] at e; cases e
   ·rw[(Ta cp hc).2] at e; cases e)
  have hBb:BMain mg (wF s₁.heap H):=by
   obtain⟨b,o,b1,b2,b3,b4,b5,b6,b7⟩:=bm;exact⟨b,o,b1,b2,b3,zt b4 (noD b4 (.inr b7)),b5,b6,b7⟩
  have hM:Mod K mg (wF s₁.heap H):=⟨hKb,VB hns,⟨mb,VB hb,hbb⟩,let⟨mc,h1,h2⟩:=XM; ⟨mc,VB h1,h2⟩⟩;have e0:qx P w K mg (wF s₁.heap H) callerA [] s₁ H:=⟨rfl,hM,fun b o e=>Ln e,Nat.le_of_eq (Gh _ _),trivial,fun b hb=>absurd (show b∈([]:List Addr) from hb) (by simp),cy,.of_eq hg⟩;refine Dn ((F _ hKb (VB hns) hBb).run callerA [] s₁ H ⟨[.ref a],[]⟩ [.ref a] [.ref a] _ _ hr e0 (Tc s₁ (.ref a)) (.cons rfl .nil) (ya H hT hS)) fun r s' h=>?_;cases r with
  |error e=>exact(hCX H e s' h).elim
  |ok fl=>
   cases fl with
   |next=>exact False.elim h
   |brk=>exact False.elim h
   |cont=>exact False.elim h
   |ret u=>
    obtain⟨v,H',os,bare,un,Te,r',q⟩:=h;have q':v= .bl true:=q;subst q';obtain rfl:u=Value.bool true:=r';have old: ∀b o,s₁.heap.get? b=some o->asItWas s₁.heap s'.heap b o:=fun b o e=>by
     rcases hO b with z|⟨rfl,z,_⟩|⟨cp,hc,rfl,z⟩
     ·exact .inl (un.keep b o e z (by intro w; exact absurd (show b∈([]:List Addr) from w) (by simp)) (by simp))
     ·have z2:=un.pz b _ _ z;obtain⟨e2,_⟩:=Te b _ z2;rw[ha] at e;cases e;exact .inl e2
     ·obtain⟨more,z2⟩:=un.pA _ _ z;have e2:s'.heap.get? cp.2=some (tabObj (#[] ++ more)):=Te _ _ z2;have e1:=Q3 cp hc;rw[e1] at e;cases e;obtain⟨oc,ws,_,_,_,_,_,_,_,c1,c2,c3,c4,_⟩:=codeHd_of_K KX (Ta cp hc).1;exact .inr (.inl ⟨⟨cp.1,oc,ws,c1,c2,c3,c4⟩,rfl,#[],more,rfl,e2⟩)
    refine⟨rfl,⟨old,fun b o e=>?_⟩,os,bare⟩;exact un.there b o e (by simp)
 cases hk:K.lookup a with
 |some o=>
  have e:=KX a o hk;rw[ha] at e;cases e;refine core (fun b=>if b∈cps.map (·.2) then some (.mL #[]) else none) (fun b=>?_) (fun cp hc=>if_pos (List.mem_map.mpr ⟨cp,hc,rfl⟩)) (.inr ⟨_,vs.toArray,_,hk,rfl,rfl,rfl,by rw[List.size_toArray,Td]; exact hl,by simpa using rv⟩);by_cases hb:b∈cps.map (·.2)
  ·obtain⟨cp,hc,rfl⟩:=bG.mp hb;exact .inr (.inr ⟨cp,hc,rfl,aZ hb⟩)
  ·exact .inl (aO hb)
 |none=>
  have na:a∉cps.map (·.2):=fun h=>by
   obtain⟨cp,hc,z⟩:=bG.mp h;exact aT cp hc z
  refine core (fun b=>if b=a then some (.Dc {cls:= .type "list",data:= .seq vs.toArray} (.lst (ns.map V.int))) else if b∈cps.map (·.2) then some (.mL #[]) else none) (fun b=>?_) (fun cp hc=>?_) (.inl (.inr ⟨{cls:= .type "list",data:= .seq vs.toArray},aZ rfl⟩))
  ·by_cases h1:b=a
   ·exact .inr (.inl ⟨h1,by rw[aZ h1],hk⟩)
   ·by_cases hb:b∈cps.map (·.2)
    ·obtain⟨cp,hc,rfl⟩:=bG.mp hb;exact .inr (.inr ⟨cp,hc,rfl,by rw[aO h1,aZ hb]⟩)
    ·exact .inl (by rw[aO h1,aO hb])
  ·show(if cp.2=a then _ else if cp.2∈cps.map (·.2) then _ else _)=_;rw[aO (aT cp hc),aZ (bG.mpr ⟨cp,hc,rfl⟩)]
def JJ {l:PySem.W.OpenLaw}{n k:Nat}{q:Program}{loose:List Str}{XP:(Str->Option Value)->Heap->Prop}{YP:World->Heap->Prop}{d:DefRec}{K:Params->Frag}{ts:List Addr}{sp:Frag->List (Addr×Addr)->Sp}{x:Str}
  (hn:l.most=some n) (Vh:n<=sizeLine) (WX:d.params.defaults=[]) (hr:eY k callerA)
  (hY: ∀(w:World) (h:Heap),YP w h->(K w.params).In h/\ ∀P∈ts,h.get? P=some (tabObj #[]))
  (F: ∀(w:World) (mg:Str->Option Value) (fa:Addr) (h:Heap),(K w.params).In h->h.Ns mainGlobals mg->mg d.name=some (.ref fa)->
   ∃(fd:FuncData) (cps:List (Addr×Addr)),(∀cp∈cps,cp.2∈ts)/\(∀cp∈cps,codeHdIn (K w.params) cp.1 cp.2=true/\(K w.params).lookup cp.2=none)/\(∀(s:Shared) (u:Value),BindsTo s fd ⟨[u],[]⟩ [(x,u)])/\
    ∀base:Heap,(K w.params).In base->base.Ns mainGlobals mg->BMain mg base->lW l.prog w (K w.params) mg base sf k fa fd [x] (sp (K w.params) cps))
  (ya: ∀(K:Frag) (cps:List (Addr×Addr)) (H:Hp) (a:Addr) (ns:List Int),ns.length<=n->(∀cp∈cps,H cp.2=some (.mL #[]))->bw K H a (ns.map V.int)->sp K cps [.ref a] H (fun v _=>v= .bl true) fun _ _ _=>False):
  PySem.W.WalkO q loose XP YP l.row.toRowW d [] (fun f vs=>PySem.call f vs):=by
 refine ZN.Bs hn WX fun w s₀ s₁ mg mb fa o pm cd doc a vs ns G Y ho hd rM Sf OK hints hlen hg=>?_;obtain⟨KX,hT⟩:=hY w _ Y;obtain⟨fd,cps,h1,h2,hb,hF⟩:=F w mg fa _ KX G.T.g Sf;obtain⟨bm,ob,b1,b2,b3,b4,b5,b6⟩:=G.T.bmain;have b7:bm≠mainGlobals:=fun z=>by
  obtain⟨o',es,ep,e,Iq,_⟩:=G.T.g;rw[z,e] at b3;cases b3;rw[Iq] at b6;cases b6
 exact G0 KX G.T.g G.T.b G.T.builtins G.T.nolimit hg OK hints (a0 hlen Vh) hr ⟨bm,ob,b1,b2,b7,b3,b4,b5,b6⟩ (fun cp hc=>hT _ (h1 cp hc)) h2 hF hb (fun H hO hS=>ya _ cps H a ns hlen hO hS) fun H e s' z=>z
def Lb {C:ER}{P:Program}{w:World}{K:Frag}{mg:Str->Option Value}{base:Heap}{N:List Str}{q:Str}{sc:Scope}{f:Addr}{cd:Value}{A:Around}{o:List Env}{s:Shared}{H:Hp}{E:XK}:(kQ C P w K mg base N q sc f cd A o s H E).Dv.K=K:=rfl
section
variable {X:Cx}{K:Frag}{x:Str}{k n:Nat}{ps:List Str}{sp:Sp}{e:Expr}{es:List Expr}{t:TA}{p pos:Pos}
def fc (C:eW X.prog X.w X.K X.mg X.base x k ps sp)(hr:eY n X.A)(ha:PA X (e :: es) t)(hle:k<=n:=by decide)(hg:Gl X x:=by rfl)(qy:(x == ("__debug__":Str))=false:=by decide)
  (he:starEach (e :: es) X.env=(false,eval e X.env) :: starEach es X.env:=by rfl) (iN:(backTo pos (starEach es X.env)).any (·.1)=false:=by rfl):PE X (.Call (.Name x p) (e :: es) [] pos) (uK sp [] E0 t):=Sq C (hr.mono hle) hg ha qy he iN
def sv (i:Nat){te:TE}{pos':Pos}(hN:X.N.Nodup)(he:PE X e te)(hi:X.N[i]? =some x:=by rfl)(hx:Loc X.env.scope x:=by first|exact Or.inl rfl|exact Or.inr rfl)(hs:swapsWith e (some (.Name x pos')) pos.line X.env=pure false:=by rfl)(hf:X.fn x=true∨X.env.scope.names.lookup x=some .local:=by first|exact .inl rfl|exact .inr rfl|assumption):
  PS X (.Assign [.Name x pos'] e pos) (Lv te (Bf i)):=Oh hN hi hx he hs hf
def gn (i:Nat)(hN:X.N.Nodup)(hi:X.N[i]? =some x:=by rfl)(hx:Loc X.env.scope x:=by first|exact Or.inl rfl|exact Or.inr rfl)(hf:X.fn x=true∨X.env.scope.names.lookup x=some .local:=by first|exact .inl rfl|exact .inr rfl|assumption):PG X (.Name x pos) (Bf i):=ez hN hi hx hf
def xl {a b:Expr}{ta tb:TE}(ha:PE X a ta)(hb:PE X b tb)(hs:yX b:=by exact fun _ _=>rfl)(hK:X.K=K:=by first|with_reducible exact Lb|with_reducible exact kx|rfl):PE X (.Subscript a b pos) (QT (Ow K) ta tb):=by subst hK; exact iQ yY ha hb hs
def xt {a b:Expr}{ta tb:TE}(ha:PE X a ta)(hb:PE X b tb)(hs:yX b:=by exact fun _ _=>rfl)(hK:X.K=K:=by first|with_reducible exact Lb|with_reducible exact kx|rfl):PE X (.Subscript a b pos) (QT (Ox K) ta tb):=by subst hK; exact iQ DE ha hb hs
def ql {tg l:Expr}{tl:TE}(hl:PE X l tl)(hK:X.K=K:=by first|with_reducible exact Lb|with_reducible exact kx|rfl):PI X tg l (Nd K tl):=by subst hK; exact Lw hl
def gT {es:List Expr}{k:Nat}{t:Lu}{n:Nat}(h:IF X es t)(hc:X.calm=true:=by rfl)(hn:(assignEach es X.env).length=n:=by first|exact(rfl:_ =2)|exact(rfl:_ =3)|exact(rfl:_ =4)|rfl)(nX:(assignEach es X.env).findIdx? (·.1)=none:=by rfl)(hK:X.K=K:=by first|with_reducible exact Lb|with_reducible exact kx|rfl):PG X (.Tuple es k pos) (Og K n t):=by subst hK; exact IG hc h hn nX
def VC (hK:X.K=K:=by first|with_reducible exact Lb|with_reducible exact kx|rfl):Ni X (RY K):=by subst hK; exact LF
def kz {f:Str}{ta:TE}(he:PE X e ta)(hb:attributeBase e f X.env (eval e X.env)=eval e X.env:=by rfl)(hK:X.K=K:=by first|with_reducible exact Lb|with_reducible exact kx|rfl):PE X (.Attribute e f pos) (Oq K ta f):=by subst hK; exact IT he hb
def l8 {o value:Expr}{f:Str}{pos':Pos}{ta tv:TE}(ha:PE X o ta)(hv:PE X value tv)(hs:swapsWith value (some (.Attribute o f pos')) pos.line X.env=pure false:=by rfl)(hK:X.K=K:=by first|with_reducible exact Lb|with_reducible exact kx|rfl):PS X (.Assign [.Attribute o f pos'] value pos) (RU K ta tv f):=by subst hK; exact Ou ha hv hs
end
inductive EvN (xs:List V)(S:Addr->List V->Prop)(k:Int->Prop):Prop
 |mk (p:Addr)(ys:List V)(h:xs=[.ref p])(s:S p ys)(q:k ys.length):EvN xs S k
def Tf (K:Frag):List V->Hp->VK->Prop:=fun xs H Q=>EvN xs (fun p ys=>bw K H p ys∨cz K H p ys) fun n=>Q (.int n) H
def G1 {X:Cx}:hZ X (.builtin "len") (Tf X.K):=fun pins s σ H xs us Q I rv h=>y1 pins s σ H xs us Q I rv (by obtain⟨p,ys,e,z,q⟩:=h; exact⟨p,ys,e,z,q⟩)
inductive EvS (K:Frag)(xs:List V)(H:Hp)(k:Bool->Prop):Prop
 |mk (x:V)(c:String)(t:Value)(b:Bool)(h:xs=[x,.ty c])(ty:mD K H x t)(e:PySem.W.kitOne K t (.type c)=some b)(q:k b):EvS K xs H k
def rIs (K:Frag):List V->Hp->VK->Prop:=fun xs H Q=>EvS K xs H fun b=>Q (.bl b) H
def JK {X:Cx}:hZ X (.builtin "isinstance") (rIs X.K):=fun pins s σ H xs us Q I rv h=>DO pins s σ H xs us Q I rv (by obtain⟨x,c,t,b,e,ty,z,q⟩:=h; exact⟨x,c,t,b,e,ty,z,q⟩)
section
variable {X:Cx}{K:Frag}{o e:Expr}{p pos apos gH:Pos}{to te:TE}
def mH (hm:X.mg "len"=none)(h:PE X e te)(hg:Gl X "len":=by rfl)(he:starEach [e] X.env=(false,eval e X.env) :: starEach [] X.env:=by rfl)(iN:(backTo pos (starEach [] X.env)).any (·.1)=false:=by rfl)(hK:X.K=K:=by first|with_reducible exact Lb|with_reducible exact kx|rfl):PE X (.Call (.Name "len" p) [e] [] pos) (Vi (Tf K) (Bi te Bh)):=by
 subst hK;exact eN G1 hg hm PySem.boot_len (aa h av he) (by decide) (by decide) he iN
def vp {c:String}{y:Str}{p2:Pos}(hm:X.mg "isinstance"=none)(hy:X.mg y=none)(hb:bootBuiltins y=some (.type c))(h:PE X e te)(hg:Gl X "isinstance":=by rfl)(hg2:Gl X y:=by rfl)(hn:y≠"__name__":=by decide)(hd:(y == ("__debug__":Str))=false:=by decide)(he:starEach [e,.Name y p2] X.env=(false,eval e X.env) :: starEach [.Name y p2] X.env:=by rfl)(W7:starEach [.Name y p2] X.env=(false,eval (.Name y p2) X.env) :: starEach [] X.env:=by rfl)(iN:(backTo pos (starEach [.Name y p2] X.env)).any (·.1)=false:=by rfl)(hK:X.K=K:=by first|with_reducible exact Lb|with_reducible exact kx|rfl):PE X (.Call (.Name "isinstance" p) [e,.Name y p2] [] pos) (Vi (rIs K) (Bi te (Bi (tC (.ty c)) Bh))):=by
 subst hK;exact eN JK hg hm boot_isinstance (aa h (aa (yR (v:= .ty c) hg2 hy hb rfl hn hd) av W7) he) (by decide) (by decide) he iN
def pS (ho:PE X o to)(h:PE X e te)(qD:attributeBase o "append" X.env (eval o X.env)=eval o X.env:=by rfl)
  (OB:((backTo gH (starEach [e] X.env)).all (fun x=> !x.1) && (backToKw gH (keywordEach [] X.env)).all (fun x=>x.1.isSome)
   && decide ([e].length + ([]:List Keyword).length + (if([]:List Keyword).isEmpty then 0 else 1) < 30))=true:=by rfl)
  (uM:(apos.endLine == gH.line)=true:=by rfl) (hs:starEach [e] X.env=(false,eval e X.env) :: starEach [] X.env:=by rfl) (uN:(backTo gH (starEach [] X.env)).any (·.1)=false:=by rfl) (hK:X.K=K:=by first|with_reducible exact Lb|with_reducible exact kx|rfl):PE X (.Call (.Attribute o "append" apos) [e] [] gH) (ZI K "list" EY to (Bi te Bh)):=by
 subst hK;exact RZ PySem.F.plainAttrs_list PySem.F.slot_list_append PySem.F.type_list_append yb ho (aa h av hs) qD OB uM hs uN
end
def Df.fv {P:Program}{w:World}{K:Frag}{mg:Str->Option Value}{base:Heap}{x:Str}{st:Stmt}{N ps:List Str}{k:Nat}{sp:Sp}(D:Df K mg x st)(S:aW N ps (ax st))
  (fS: ∀(f:Addr) (cO:Value) (A:Around) (outer:List Env) (s:Shared) (H:Hp) (vs:List V) (Q:VK) (E:XK),eY k (A.deeper (envOfC x (ax st) s.heap.objs.size f cO))->sp vs H Q E->
   ∃t,oN (kQ sf P w K mg base N x (ax st) f cO A outer s H E).Dv (dD st) t/\t {nx:=fun _ H'=>Q .eu H',rt:=Q} (start N vs) H)
  (hb: ∀(kV doc pm:Value) (an:Option Addr) (cO ct:Value) (us:List Value),us.length=ps.length->bindArgs (fnOf x x (gI st) (dD st) (ax st) .none kV doc pm an cO ct) ⟨us,[]⟩=pure (ps.zip us):=by intro _ _ _ _ _ _ us hl; rcases us with _|⟨_,_|⟨_,_|⟨_,_|⟨_,_|⟨_,_|⟨_,_|⟨_,_⟩⟩⟩⟩⟩⟩⟩ <;> first|(cases hl; done)|rfl)
  (len: ∀vs H Q E,sp vs H Q E->vs.length=ps.length:=by intro _ _ _ _ h; first|(cases h; subst_vars; rfl)|(repeat (first|(obtain⟨rfl,_⟩:=h; rfl; done)|obtain⟨_,h⟩:=h))):eW P w K mg base x (k + 1) ps sp:=D.cal S hb len fS
end L2
namespace eJ
open PySem L2 PyProof.Rows K6
seal L2.oN L2.PS L2.PE L2.PT L2.PW L2.PA L2.PC L2.PG L2.IF L2.PI L2.LK L2.K2 L2.PO L2.oA L2.Ng L2.hZ L2.I9 L2.Ni
def top (i:Nat):Stmt:=PySem.Challenge.pw_spikebook_k05_whole_nothing_lost.main.body.getD i (.Pass ⟨0,0,0,0⟩)
structure Txt (K:Frag)(mg:Str->Option Value):Prop where
 DY:Df K mg "place_of" (top 1)
 Pf:Df K mg "fits" (top 15)
 wV:Df K mg "counts_from" (top 16)
 G2:Df K mg "bills_in_order" (top 17)
 DZ:Df K mg "credits_in_order" (top 18)
 Me:Df K mg "alike" (top 20)
 wW:Df K mg "first_alike" (top 21)
 zu:Df K mg "shared_out" (top 22)
 D0:Df K mg "parts_of" (top 23)
 vq:Df K mg "check_amount" (top 26)
 wX:Df K mg "row_of_fits" (top 27)
 Pg:Df K mg "done" (top 30)
 zv:Df K mg "done_again" (top 31)
 G3:Df K mg "answers" (top 33)
 zw:Df K mg "answers_in" (top 34)
 BE:Df K mg "answer_of" (top 35)
 G4:Df K mg "owed_at" (top 36)
 G5:Df K mg "free_at" (top 37)
 vt:Df K mg "remaining_at" (top 38)
 wY:Df K mg "counting_at" (top 39)
 BF:Df K mg "counts_at" (top 40)
 G6:Df K mg "ages_at" (top 41)
 BG:Df K mg "_law_room" (top 43)
 BH:Df K mg "_law_draw" (top 44)
 zx:Df K mg "_law_whole" (top 45)
 G7:Df K mg "_law_at" (top 46)
 zy:Df K mg "_law_alike" (top 47)
 wZ:Df K mg "_law_people" (top 48)
 w6:Df K mg "_law_penned" (top 49)
 w9:Df K mg "_law_chosen" (top 50)
 zz:Df K mg "_law_hasty" (top 51)
 xa:Df K mg "_law_due_in" (top 52)
 zA:Df K mg "_law_deeds" (top 53)
 zB:Df K mg "_law_begun" (top 54)
 BI:Df K mg "_law_goes" (top 55)
 D3:Df K mg "_law_put" (top 56)
 vv:Df K mg "_law_in_turn" (top 57)
 zC:Df K mg "_law_swept" (top 58)
 xc:Df K mg "_law_barred" (top 59)
 zD:Df K mg "_law_enter" (top 60)
 xg:Df K mg "_law_worked" (top 61)
 zE:Df K mg "_law_tells" (top 62)
 BJ:Df K mg "_law_done" (top 63)
 xh:Df K mg "_law_at_day" (top 64)
 oE:Df K mg "_law_gone_through" (top 65)
 aai:Df K mg "law" (top 66)
 dP:mg "len"=none
 di:mg "isinstance"=none
 sY:mg "int"=none
 Ph:mg "bool"=none
 Fp:mg "str"=none
 vw:mg "list"=none
 ui:mg "tuple"=none
 kG:mg "range"=none
 JL:mg "min"=none
 Nw:mg "max"=none
 BK:mg "sum"=none
 qQ:mg "sorted"=none
 jk:mg "enumerate"=none
 Pj:mg "dict"=none
 BL:mg "Exception"=none
end eJ
namespace L2
open PySem PySem.Spec PySem.W PyProof.Rows K6
structure XN (P:Program)(w:World)(K:Frag)(mg:Str->Option Value)(base:Heap)(k:Nat)(fa:Addr)(sp:Sp):Prop where
 ex: ∃(fd:FuncData) (ps:List Str),lW P w K mg base sf k fa fd ps sp/\keepIn K (.ref fa)=true/\Binds K fd ps []
def eW.fnv {P:Program}{w:World}{K:Frag}{mg:Str->Option Value}{base:Heap}{x:Str}{k:Nat}{ps:List Str}{sp:Sp}(C:eW P w K mg base x k ps sp): ∃fa,mg x=some (.ref fa)/\XN P w K mg base k fa sp:=by
 obtain⟨f,fd,F,hm,hk,hb⟩:=C.ex;exact⟨f,hm,⟨fd,ps,F,hk,hb⟩⟩
section
variable {X:Cx}{x:Str}{i k:Nat}{e:Expr}{es:List Expr}{t:TA}{p pos:Pos}
def Pk (P:Program)(w:World)(K:Frag)(mg:Str->Option Value)(base:Heap)(k i:Nat)(t:TA):TE:=fun σ H Q=> ∃fa sp,σ[i]? =some (some (.ref fa))/\XN P w K mg base k fa sp/\t σ H fun vs H1=>sp vs H1 Q E0
def Pl (hr:eY k X.A)(hN:X.N[i]? =some x)(hv:RB X.env.scope x)(ha:PA X (e :: es) t)(hd:(x == ("__debug__":Str))=false:=by decide)(rM:(x == ("__classdict__":Str))=false:=by decide)
  (he:starEach (e :: es) X.env=(false,eval e X.env) :: starEach es X.env:=by rfl) (iN:(backTo pos (starEach es X.env)).any (·.1)=false:=by rfl):PE X (.Call (.Name x p) (e :: es) [] pos) (Pk X.prog X.w X.K X.mg X.base k i t):=by
 rintro pins s σ H Q I ⟨fa,sp,e1,⟨fd,ps,F,hk,hb⟩,h⟩;refine eG (dZ (Dr hN hv hd rM pins s σ H (fun v H'=>v= .ref fa/\H'=H) I ⟨_,e1,rfl,rfl⟩) ?_);rintro u s1 ⟨v,H1,I1,rv,rfl,rfl⟩;obtain rfl:u=Value.ref fa:=rv;refine km (h₀:=X.base) I.ok.mod.Lo hk (dZ (ha pos pins s1 σ H1 _ I1 h) fun us s2 ⟨vs,H2,I2,r,q⟩=>⟨I2.gR,?_⟩) he iN;exact yU F hr hb .nil mT I2 r (by rw[bU]; exact q)
end
def BN {X:Cx}:hZ X (.type "dict") (fun xs H Q=> ∃a bg,xs=[.ref a]/\H a=some (.dK bg)/\ ∀p,H p=none->Q (.ref p) (upd H p (.dK bg))):=by
 intro pins s σ H xs us Q I r h;obtain⟨a,bg,rfl,e,q⟩:=h;obtain⟨u,rfl,ru⟩:=vals1 r;cases ru;exact Ji I (.inl e) fun p s' hp I'=>⟨.ref p,_,I',rfl,q p hp⟩
def Fq (P:Program)(w:World)(d:Addr)(bg:List (Key×V))(φ:Heap->Prop):Prop:=(∀(H:Hp) (h:Heap),φ h->dC P w H h d (.dK bg))/\ ∀q:Str,φ≠fun h=>h.CodeRec (.ref d) q
def Tg (P:Program)(w:World)(td:TE)(g:TG)(tb:TS):TS:=fun D σ H=>td σ H fun v H1=> ∃d bg,v= .ref d/\H1 d=some (.dK bg)/\ ∀φ,Fq P w d bg φ->
 ∃W:Nat->Nat->St->Hp->Prop,(∃m,W 0 m σ (upd H1 d (.ext φ)))/\ ∀i m σ' H',W i m σ' H'->H' d=some (.ext φ)/\((bg.length<=i/\D.nx σ' (upd H' d (.dK bg)))∨
  ∃x,(bg.map (·.2))[i]? =some x/\ ∃N:St->Hp->Prop,(∀LP y4,N LP y4-> ∃m',m' < m/\W (i + 1) m' LP y4)/\g x σ' H' fun σ2 H2=>tb {D with nx:=N,ct:=N,bk:=fun _ _=>False} σ2 H2)
def Mf {X:Cx}{tg o:Expr}{apos gH pos:Pos}{body:List Stmt}{td:TE}{g:TG}{tb:TS}(hp:PassesOwn (model X.prog X.w) X.A X.env X.xe)(hc:X.calm=true)(ho:PE X o td)(hg:PG X tg g)(hb:oN X body tb)
  (qD:attributeBase o "values" X.env (eval o X.env)=eval o X.env:=by rfl) (uM:(apos.endLine == gH.line)=true:=by rfl)
  (hs: ∀x,foldedSetIterable (.Call (.Attribute o "values" apos) [] [] gH) X.env x=pure x:=by intro _; rfl):PS X (.For tg (.Call (.Attribute o "values" apos) [] [] gH) body [] pos) (Tg X.prog X.w td g tb):=by
 intro pins s σ H D I h;refine wpAny_For (wpAny_Call_method0_late qD uM (dZ (ho pins s σ H _ I h) ?_)) hs;rintro u s1 ⟨v,H1,I1,rv,d,bg,rfl,ed,h⟩;obtain rfl:u=Value.ref d:=rv;obtain⟨hz,hd,vs,rel,dd⟩:=EZ I1.cy ed;refine⟨"dict","dict.values",PySem.F.plainAttrs_dict,QN,PySem.F.type_dict_values,dd.typeIs,dd.mapOf.noDict,iT rfl (PySem.evalArgs_none ?_)⟩;refine call_meetsIn QN dd.typeIs PySem.F.entry_dict_values (PySem.F.args_dict_values_1 _) (meets_dict_values (dX X.prog X.w) d hd) ⟨⟨vs,dd⟩,?_⟩;have I2:=I1.kept (t':=s1.toks) (h':=s1.heap.push {cls:= .type "dict_values",data:= .fields #[.ref d]}) (fun b ob e=>ay _ e);obtain⟨ep,da⟩:=dd.dictAt;obtain⟨od,es,Pb,r⟩:=id da;have XO: ∀h:Heap,h.get? d=some od->h.DictAt (dX X.prog X.w) d vs ep:=fun h e=>⟨od,es,e,r⟩;have hKd:Fq X.prog X.w d bg (fun h=>h.get? d=some od):=⟨fun H h e=>⟨hz,hd,vs,rel,⟨od,es,ep,e,r⟩⟩,fun q z=>by
  have z1:(s1.heap.get? d=some od)=s1.heap.CodeRec (.ref d) q:=congrFun z s1.heap;obtain⟨c,o,Xy,t,e1,e2,e3,_⟩:=Eq.mp z1 Pb;cases e1;rw[Pb] at e2;cases e2;rw[r.2.1] at e3;cases e3⟩
 obtain⟨W,⟨m0,w0⟩,turn⟩:=h _ hKd;generalize hh2:s1.heap.push {cls:= .type "dict_values",data:= .fields #[.ref d]}=h2 at I2;have Pm:h2.IsValuesView s1.heap.objs.size d:=by
  rw[← hh2];exact⟨_,bO _ rfl,rfl,rfl⟩
 have Th:h2.get? d=some od:=by
  rw[← hh2];exact ay _ Pb
 refine wpAny_pyIter_values (knd:=dX X.prog X.w) Pm (XO _ Th) ?_;have I3:=I2.kept (t':=s1.toks) (h':=h2.push {cls:= .type "dict_valueiterator",data:= .fields #[.ref d,.int 0 0,.int vs.length 0,.int ep 0]}) (fun b ob e=>ay _ e);have Pn:(h2.push {cls:= .type "dict_valueiterator",data:= .fields #[.ref d,.int 0 0,.int vs.length 0,.int ep 0]}).IsValIter h2.objs.size d 0 vs.length ep:=⟨_,bO _ rfl,rfl,rfl⟩;have Mg:(h2.push {cls:= .type "dict_valueiterator",data:= .fields #[.ref d,.int 0 0,.int vs.length 0,.int ep 0]}).get? d=some od:=ay _ Th;have Dg:H1 h2.objs.size=none:=I2.cy.fresh (aI _);have js:d≠h2.objs.size:=aK ed Dg;have XQ:=I2.Gk (aI _) Dg;generalize h2.push {cls:= .type "dict_valueiterator",data:= .fields #[.ref d,.int 0 0,.int vs.length 0,.int ep 0]}=h3 at I3 Pn Mg;generalize h2.objs.size=it at Pn Dg js XQ;have I4:Inv X pins σ (upd H1 d (.ext fun h=>h.get? d=some od)) {s1 with heap:=h3}:=by
  refine I3.write (x:=d) (e:=d) (t':=s1.toks) (h':=h3) (by rw[ed]; exact True.intro) (.inl rfl) (fun _ _ _ q=>q) ⟨od,Mg⟩ ?_;exact⟨Mg,⟨od,Mg⟩,fun h1 h2 q k=>k od q⟩
 have fit:upd H1 d (.ext fun h=>h.get? d=some od) it=none:=by
  rw[aA js.symm];exact Dg
 have Td:vs.length=bg.length:=(aL rel).symm;refine codeAny_forLoop_any (fun n s'=> ∃i σ' H',Inv X pins σ' H' s'/\s'.heap.IsValIter it d i vs.length ep/\H' it=none/\W i n σ' H') ?_ m0 ⟨0,σ,_,I4,Pn,fit,w0⟩;rintro n s5 ⟨i,σ5,H5,I5,it5,QS,w5⟩;obtain⟨e5,tn⟩:=turn i n σ5 H5 w5;have XR:s5.heap.get? d=some od:=(I5.cy d _ e5).1;have f5:uG X pins H5 it:=⟨QS,XQ.2⟩;obtain⟨f0,f1,f2,f3,f4,f6⟩:=f5;rcases tn with⟨hle,qn⟩|⟨x,hx,N,hN,step⟩
 ·refine dQ hp (wpAny_pyNext_values_end (knd:=dX X.prog X.w) (I5.ok.hd hc) it5 (XO _ XR) (by rw[qp]; lia) fun h6 eb=>?_);have I6:Inv X pins σ5 H5 {s5 with heap:=h6}:=I5.turned (t':=s5.toks) (fun b o hb e=>eb b o hb e) f0 f1 f3 f4 f6;have od6:h6.get? d=some od:=eb d od js XR;have I7:=I6.write (x:=d) (e:=d) (t':=s5.toks) (h':=h6) (o:= .dK bg) (by rw[e5]; exact True.intro) (.inl rfl) (fun _ _ _ q=>q) ⟨od,od6⟩ (hKd.1 _ _ od6);exact jq ⟨σ5,_,I7,qn⟩
 ·rw[aB] at hx;obtain⟨kv,VD,rfl⟩:=br.mp hx;obtain⟨ku,hku,e1,ru⟩:=bB rel VD;obtain⟨k1,u⟩:=ku;refine dQ hp (wpAny_pyNext_values_item (knd:=dX X.prog X.w) it5 (XO _ XR) hku fun h6 it6 sb=>?_);have I6:Inv X pins σ5 H5 {s5 with heap:=h6}:=I5.turned (t':=s5.toks) (fun b o hb e=>(sb.2 b hb).trans e) f0 f1 f3 f4 f6;obtain⟨oi,GJ,QW,XS⟩:=id it6;refine dQ hp (EK (s:={s5 with heap:=h6}) GJ QW XS (by decide +kernel) ?_);have I6':Inv X (pins ++ pC [it] h6) σ5 H5 {s5 with heap:=h6}:=I6.pinned (fun b hb=>by rw[ao.mp hb]; exact⟨QS,XQ.2⟩) (fun b hb=>by
   rw[ao.mp hb];exact⟨oi,GJ,fun v z=>by rw[XS] at z; cases z⟩)
  refine dQ hp (dZ (hg _ _ σ5 H5 kv.2 u _ I6' ru step) fun _ s7 ⟨σ7,H7,I7,q7⟩=>?_);refine dQ hp (dZ (hb _ s7 σ7 H7 _ I7 q7) fun f s8 q8=>?_);have again: ∀{σ8:St} {H8:Hp},Inv X (pins ++ pC [it] h6) σ8 H8 s8->N σ8 H8-> ∃m,m < n/\ ∃i σ' H',Inv X pins σ' H' s8/\s8.heap.IsValIter it d i vs.length ep/\H' it=none/\W i m σ' H':=fun{σ8 H8} I8 n8=>by
   obtain⟨m',hm,w8⟩:=hN σ8 H8 n8;have pn:=I8.pin (it,oi) (List.mem_append_right _ (List.mem_append_right _ (jN (by simp) GJ)));exact⟨m',hm,i + 1,σ8,H8,I8.jg,⟨oi,pn.1,QW,XS⟩,pn.2.1,w8⟩
  cases f with
  |next=>obtain⟨σ8,H8,I8,n8⟩:=q8; exact again I8 n8
  |cont=>obtain⟨σ8,H8,I8,n8⟩:=q8; exact again I8 n8
  |brk=>obtain⟨σ8,H8,I8,q8⟩:=q8; exact q8.elim
  |ret v=>obtain⟨x8,σ8,H8,I8,r8,q8⟩:=q8; exact⟨x8,σ8,H8,I8.jg,r8,q8⟩
def JM {P:Program}{w:World}{td:TE}{g:TG}{tb:TS}{D:Ends}{σ:St}{H1:Hp}{d:Addr}{bg:List (Key×V)}(ed:H1 d=some (.dK bg))
  (h: ∀φ,Fq P w d bg φ-> ∃Pv:Nat->St->Hp->Prop,Pv 0 σ (upd H1 d (.ext φ))/\(∀i σ' H',Pv i σ' H'->H' d=some (.ext φ))/\(∀i x σ' H',(bg.map (·.2))[i]? =some x->Pv i σ' H'->g x σ' H' fun σ2 H2=>tb {D with nx:=Pv (i + 1),ct:=Pv (i + 1),bk:=fun _ _=>False} σ2 H2)/\
   ∀σ' H',Pv bg.length σ' H'->D.nx σ' (upd H' d (.dK bg))):
  ∃d' JN,V.ref d= .ref d'/\H1 d'=some (.dK JN)/\ ∀φ,Fq P w d' JN φ->
 ∃W:Nat->Nat->St->Hp->Prop,(∃m,W 0 m σ (upd H1 d' (.ext φ)))/\ ∀i m σ' H',W i m σ' H'->H' d'=some (.ext φ)/\((JN.length<=i/\D.nx σ' (upd H' d' (.dK JN)))∨
  ∃x,(JN.map (·.2))[i]? =some x/\ ∃N:St->Hp->Prop,(∀LP y4,N LP y4-> ∃m',m' < m/\W (i + 1) m' LP y4)/\g x σ' H' fun σ2 H2=>tb {D with nx:=N,ct:=N,bk:=fun _ _=>False} σ2 H2):=by
 refine⟨d,bg,rfl,ed,fun φ hφ=>?_⟩;obtain⟨Pv,p0,pk,ps,pe⟩:=h φ hφ;refine⟨fun i m σ' H'=>m=bg.length - i/\i<=bg.length/\Pv i σ' H',⟨bg.length,by simp,Nat.zero_le _,p0⟩,?_⟩;rintro i m σ' H' ⟨rfl,hi,p⟩;refine⟨pk i σ' H' p,?_⟩;by_cases iX:i < bg.length
 ·have hg:(bg.map (·.2))[i]? =some bg[i].2:=by rw[aB,af iX]; rfl
  exact .inr ⟨_,hg,Pv (i + 1),fun LP y4 p'=>⟨bg.length - (i + 1),by lia,rfl,iX,p'⟩,ps i _ σ' H' hg p⟩
 ·have e:i=bg.length:=by lia
  subst e;exact .inl ⟨aI _,pe σ' H' p⟩
def m8 {α:Type}(f:α->Int): ∀(l2 l1:List α),l1.Perm l2->l1.Pairwise (fun a b=>f a<=f b)->l2.Pairwise (fun a b=>f a < f b)->l1=l2
 |[],l1,p,_,_=>List.Perm.eq_nil p
 |b :: l2,[],p,_,_=>absurd p.length_eq (by simp)
 |b :: l2,a :: l1,p,h1,h2=>by
  rw[fh] at h1 h2;have hb:b∈a :: l1:=p.mem_iff.mpr bc;have e:a=b:=by
   rcases aw.mp (p.mem_iff.mp (bc (a:=a) (l:=l1))) with e|ha
   ·exact e
   ·rcases aw.mp hb with e|hb
    ·exact e.symm
    ·have z1:=h1.1 b hb;have z2:=h2.1 a ha;lia
  subst e;rw[m8 f l2 l1 (List.Perm.cons_inv p) h1.2 h2.2]
def Mh {x y:Int×Nat}(hx:x.2 < 1000)(hy:y.2 < 1000)(h:tV x=tV y):x.2=y.2:=by
 unfold tV at h;lia
def BO {l:List (Int×Nat)}(h: ∀x∈l,x.2 < 1000)(nd:(l.map (·.2)).Nodup):(eB l).Pairwise (fun a b=>tV a < tV b):=by
 have p:=cL l;have VE:((eB l).map (·.2)).Nodup:=(p.map (·.2)).nodup_iff.mpr nd;have h': ∀x∈eB l,x.2 < 1000:=fun x hx=>h x (p.mem_iff.mp hx);have le:=u0 l;generalize eB l=m at VE h' le
 induction m with
 |nil=>exact .nil
 |cons a m ih=>
  rw[fh] at le ⊢;rw[bM,ej] at VE;refine⟨fun b hb=>?_,ih VE.2 (fun x hx=>h' x (aS _ hx)) le.2⟩;have z:=le.1 b hb;have n:tV a≠tV b:=fun e=>VE.1 (by
   rw[Mh (h' a bc) (h' b (aS _ hb)) e];exact bG.mpr ⟨b,hb,rfl⟩)
  lia
def tW (t:List Int):Int:=t.getD 0 0 * 1000 + t.getD 1 0
def qR {x y:Int×Nat}{u v:List Int}(hx:x.2 < 1000)(hy:y.2 < 1000)(h:x.2=y.2->u=v/\x=y)(hs:HT.lexLt u u=false):HT.lexLt (x.1 :: (x.2:Int) :: u) (y.1 :: (y.2:Int) :: v)=decide (tW (x.1 :: (x.2:Int) :: u) < tW (y.1 :: (y.2:Int) :: v)):=by
 show _ =decide (x.1 * 1000 + (x.2:Int) < y.1 * 1000 + (y.2:Int));rw[HT.lX];by_cases c:x.1=y.1
 ·rw[aZ c,HT.lX];by_cases d:x.2=y.2
  ·rw[aZ (by lia),← (h d).1,hs,ba (by lia)]
  ·rw[aO (by lia)];exact jw.mpr (by lia)
 ·rw[aO c];exact jw.mpr (by lia)
def sZ {ks:List (Int×Nat)}{g:Int×Nat->List Int}{us:List (List Int)}(h: ∀x∈ks,x.2 < 1000)(nd:(ks.map (·.2)).Nodup)(hg: ∀x∈ks,tW (g x)=tV x)(p:us.Perm (ks.map g))(le:us.Pairwise (fun t u=>tW t<=tW u)):us=(eB ks).map g:=by
 refine m8 tW _ _ (p.trans ((cL ks).map g).symm) le ?_;rw[rR];refine(BO h nd).imp_of_mem fun{a b} ha hb z=>?_;rw[hg a ((cL ks).mem_iff.mp ha),hg b ((cL ks).mem_iff.mp hb)];exact z
def dh.tk {H H':Hp}{sd:Addr}{S:Bk}{f:fC}(h:dh H sd S f)(k:Frame f.fp H H'):cB H H':=fun b xs e=>k b _ (fun hb=>by
 obtain⟨ms,m1,_⟩:=h.hm;unfold fC.fp at hb;rcases aw.mp hb with rfl|hb
 ·rw[h.hb] at e; cases e
 ·rcases aw.mp hb with rfl|hb
  ·rw[h.hc] at e; cases e
  ·rcases aw.mp hb with rfl|hb
   ·rw[m1] at e; cases e
   ·have rows: ∀(rs:List Rw) (ps:List Addr),eP H rs ps->b∈ps->False:=fun rs ps hr hp=>by
     obtain⟨i,hi⟩:=yQ hp;have iX:i < rs.length:=by
      rw[hr.length];exact(ak.mp hi).1
     obtain⟨q,e1,e2⟩:=hr.at iX;rw[e1] at hi;cases hi;rw[e2] at e;cases e
    rcases bq.mp hb with hb|hb
    ·exact rows _ _ h.rb hb
    ·exact rows _ _ h.rc hb) e
def Frame.l9 {fp:List Addr}{H1 H2 H3:Hp}(a:aE H1 H2)(b:Frame fp H2 H3):Frame fp H1 H3:=fun x o hx e=>b x o hx (a x o e)
def Frame.c8 {fp:List Addr}{H1 H2 H3:Hp}(a:Frame fp H1 H2)(b:aE H2 H3):Frame fp H1 H3:=fun x o hx e=>b x o (a x o hx e)
def Frame.tr {fp:List Addr}{H1 H2 H3:Hp}(a:Frame fp H1 H2)(b:Frame fp H2 H3):Frame fp H1 H3:=fun x o hx e=>b x o hx (a x o hx e)
def zl.dt:zl->Dt
 | .int i=> .int i
 | .txt s=> .str s
 | .sets l=> .lst (l.map fun t=> .tup [.int t.1,.int t.2.1,.int t.2.2])
 | .pairs l=> .lst (l.map fun t=> .tup [.int t.1,.int t.2])
 | .ints l=> .lst (l.map Dt.int)
def il.Lc {H:Hp}: ∀{ms:List (Nat×Nat×Int)} {vs:List V},il H ms vs->ie H (ms.map fun t=> .tup [.int t.1,.int t.2.1,.int t.2.2]) vs
 |_,_,.nil=>cI.mpr rfl
 |_,_,.cons ⟨p,e,q⟩ t=>by
  subst e;exact bI.mpr ⟨_,_,rfl,eO q (bI.mpr ⟨_,_,rfl,dj.mpr rfl,bI.mpr ⟨_,_,rfl,dj.mpr rfl,bI.mpr ⟨_,_,rfl,dj.mpr rfl,cI.mpr rfl⟩⟩⟩),il.Lc t⟩
def fC.iu (f:fC)(p:Addr):fC:={f with ix:=f.ix ++ [p]}
def fC.fN (f:fC)(p:Addr):fC:={f with cps:=f.cps ++ [p]}
def fC.JO (f:fC)(p:Addr):(f.iu p).fp.Perm (p :: f.fp):=by
 show(f.pb :: f.pc :: f.pm :: ((f.ix ++ [p]) ++ f.cps)).Perm (p :: f.pb :: f.pc :: f.pm :: (f.ix ++ f.cps));have h:((f.ix ++ [p]) ++ f.cps).Perm (p :: (f.ix ++ f.cps)):=by
  rw[dR];exact List.perm_middle
 exact(((h.cons f.pm).trans (List.Perm.swap _ _ _)).cons f.pc |>.trans (List.Perm.swap _ _ _)).cons f.pb |>.trans (List.Perm.swap _ _ _)
def fC.Fs (f:fC)(p:Addr):(f.fN p).fp.Perm (p :: f.fp):=by
 show(f.pb :: f.pc :: f.pm :: (f.ix ++ (f.cps ++ [p]))).Perm (p :: f.pb :: f.pc :: f.pm :: (f.ix ++ f.cps));have h:(f.ix ++ (f.cps ++ [p])).Perm (p :: (f.ix ++ f.cps)):=by
  rw[← dR];exact List.perm_append_singleton _ _
 exact(((h.cons f.pm).trans (List.Perm.swap _ _ _)).cons f.pc |>.trans (List.Perm.swap _ _ _)).cons f.pb |>.trans (List.Perm.swap _ _ _)
def dh.off {H:Hp}{sd D:Addr}{S:Bk}{f:fC}(h:dh H sd S f)(n:H D=none):D∉f.fp:=fun z=>by
 obtain⟨ms,m1,_⟩:=h.hm;have rows: ∀(rs:List Rw) (ps:List Addr),eP H rs ps->D∈ps->False:=fun rs ps hr hp=>by
  obtain⟨i,hi⟩:=yQ hp;have iX:i < rs.length:=by
   rw[hr.length];exact(ak.mp hi).1
  obtain⟨q,e1,e2⟩:=hr.at iX;rw[e1] at hi;cases hi;rw[n] at e2;cases e2
 unfold fC.fp at z;rcases aw.mp z with rfl|z
 ·have:=h.hb; rw[n] at this; cases this
 rcases aw.mp z with rfl|z
 ·have:=h.hc; rw[n] at this; cases this
 rcases aw.mp z with rfl|z
 ·rw[n] at m1; cases m1
 rcases bq.mp z with z|z
 ·exact rows _ _ h.rb z
 ·exact rows _ _ h.rc z
section
variable {H:Hp}{sd pr:Addr}{S:Bk}{f:fC}{r:Rw}
def dh.iu (h:dh H sd S f)(n:H pr=none):dh (upd (upd H pr (.lst r.vs)) f.pb (.lst (f.ix.map V.ref ++ [.ref pr]))) sd (S.iu r) (f.iu pr):=by
 have s1:aE H (upd H pr (.lst r.vs)):=aE.new n;have h1:=h.same s1;have g1:upd H pr (.lst r.vs) pr=some (.lst r.vs):=ag;have np:=h.off n;have Mi:sd≠pr:=aK h.dict n;generalize upd H pr (.lst r.vs)=H1 at s1 h1 g1;obtain⟨d1,d2,d3,d4,d5,d6,d7⟩:=fC.SG h.nd;obtain⟨ms,m1,m2⟩:=h1.hm;have es:sd≠f.pb:=fun z=>h.ns (by rw[z]; simp[fC.fp]);have ep:pr≠f.pb:=fun z=>np (by rw[z]; simp[fC.fp]);refine⟨by rw[aA es]; exact h1.dict,?_,by rw[show(f.iu pr).pc=f.pc from rfl,aA d1.symm]; exact h1.hc,⟨ms,by rw[show(f.iu pr).pm=f.pm from rfl,aA d2.symm]; exact m1,m2.mono (fb h1.hb)⟩,?_,?_,?_,?_⟩
 ·show upd H1 f.pb _ f.pb=some (.lst ((f.ix ++ [pr]).map V.ref));rw[ag,aJ]; rfl
 ·exact cw (h1.rb.ip fun z=>(d4 _ z).1 rfl) (by rw[aA ep]; exact g1)
 ·exact h1.rc.ip fun z=>(d5 _ z).1 rfl
 ·exact(f.JO pr).nodup_iff.mpr (ej.mpr ⟨np,h.nd⟩)
 ·intro z;rcases aw.mp ((f.JO pr).mem_iff.mp z) with z|z
  ·exact Mi z
  ·exact h.ns z
def dh.fN (h:dh H sd S f)(n:H pr=none):dh (upd (upd H pr (.lst r.vs)) f.pc (.lst (f.cps.map V.ref ++ [.ref pr]))) sd (S.fN r) (f.fN pr):=by
 have s1:aE H (upd H pr (.lst r.vs)):=aE.new n;have h1:=h.same s1;have g1:upd H pr (.lst r.vs) pr=some (.lst r.vs):=ag;have np:=h.off n;have Mi:sd≠pr:=aK h.dict n;generalize upd H pr (.lst r.vs)=H1 at s1 h1 g1;obtain⟨d1,d2,d3,d4,d5,d6,d7⟩:=fC.SG h.nd;obtain⟨ms,m1,m2⟩:=h1.hm;have es:sd≠f.pc:=fun z=>h.ns (by rw[z]; simp[fC.fp]);have ep:pr≠f.pc:=fun z=>np (by rw[z]; simp[fC.fp]);refine⟨by rw[aA es]; exact h1.dict,by rw[show(f.fN pr).pb=f.pb from rfl,aA d1]; exact h1.hb,?_,⟨ms,by rw[show(f.fN pr).pm=f.pm from rfl,aA d3.symm]; exact m1,m2.mono (fb h1.hc)⟩,?_,?_,?_,?_⟩
 ·show upd H1 f.pc _ f.pc=some (.lst ((f.cps ++ [pr]).map V.ref));rw[ag,aJ]; rfl
 ·exact h1.rb.ip fun z=>(d4 _ z).2.1 rfl
 ·exact cw (h1.rc.ip fun z=>(d5 _ z).2.1 rfl) (by rw[aA ep]; exact g1)
 ·exact(f.Fs pr).nodup_iff.mpr (ej.mpr ⟨np,h.nd⟩)
 ·intro z;rcases aw.mp ((f.Fs pr).mem_iff.mp z) with z|z
  ·exact Mi z
  ·exact h.ns z
end
structure d8 where
 dW:Addr
 d9:Addr
 work:Addr
 book:Addr
 refusal:Addr
 jZ:Addr
 pT:Addr
 jJ:Addr
 iI:Addr
 tooEarly:Addr
 tooMuch:Addr
 jK:Addr
 i9:Addr
def eD (H:Hp)(p C:Addr)(fs:List (Str×V)):Prop:= ∃dx,H p=some (.ins C dx fs)
def eD.same {H H':Hp}{p C:Addr}{fs:List (Str×V)}(h:eD H p C fs)(s:aE H H'):eD H' p C fs:=let⟨dx,e⟩:=h; ⟨dx,s _ _ e⟩
def eD.frame {H H':Hp}{p C:Addr}{fs:List (Str×V)}{fp:List Addr}(h:eD H p C fs)(s:Frame fp H H')(n:p∉fp):eD H' p C fs:=let⟨dx,e⟩:=h; ⟨dx,s _ _ n e⟩
def tf (c:Int):V:=if c= -1 then .eu else .int c
def fz (i:Nat)(r:Rw):List (Str×V):=[("number",.int i),("who",.str r.aC),("day",.int r.a),("due",.int r.b),("amount",.int r.c)]
def fe (i:Nat)(r:Rw):List (Str×V):=[("number",.int i),("who",.str r.aC),("day",.int r.a),("amount",.int r.b),("only",tf r.c)]
section
variable (i:Nat)(r:Rw)
def lD:(fz i r).lookup ("number":Str)=some (V.int i):=by rfl
def D4:(fz i r).lookup ("who":Str)=some (V.str r.aC):=by rfl
def Pp:(fz i r).lookup ("day":Str)=some (V.int r.a):=by rfl
def JP:(fz i r).lookup ("due":Str)=some (V.int r.b):=by rfl
def og:(fe i r).lookup ("number":Str)=some (V.int i):=by rfl
def JQ:(fe i r).lookup ("who":Str)=some (V.str r.aC):=by rfl
def JR:(fe i r).lookup ("day":Str)=some (V.int r.a):=by rfl
def Mj:(fe i r).lookup ("only":Str)=some (tf r.c):=by rfl
end
structure eK where
 pb:Addr
 pc:Addr
 pl:Addr
 pf:Addr
 pm:Addr
 ix:List Addr
 cps:List Addr
def eK.fp (f:eK):List Addr:=[f.pb,f.pc,f.pl,f.pf,f.pm]
def lE (f:eK):List (Str×V):=[("bills",.ref f.pb),("all_credits",.ref f.pc),("lefts",.ref f.pl),("frees",.ref f.pf),("made",.ref f.pm)]
def jl (f:eK):(lE f).lookup ("bills":Str)=some (V.ref f.pb):=by rfl
def g9 (f:eK):(lE f).lookup ("all_credits":Str)=some (V.ref f.pc):=by rfl
def lF (f:eK):(lE f).lookup ("lefts":Str)=some (V.ref f.pl):=by rfl
def lG (f:eK):(lE f).lookup ("frees":Str)=some (V.ref f.pf):=by rfl
def Ft (f:eK):(lE f).lookup ("made":Str)=some (V.ref f.pm):=by rfl
def gv (H:Hp)(C:Addr)(fs:Nat->Rw->List (Str×V))(rows:List Rw)(ps:List Addr):Prop:=ps.length=rows.length/\ ∀i p,ps[i]? =some p->eD H p C (fs i (rows.getD i default))
def gv.keep {H H':Hp}{C:Addr}{fs:Nat->Rw->List (Str×V)}{rows:List Rw}{ps:List Addr}(h:gv H C fs rows ps)(k: ∀p dx gs,H p=some (.ins C dx gs)->H' p=some (.ins C dx gs)):gv H' C fs rows ps:=
 ⟨h.1,fun i p e=>let⟨dx,z⟩:=h.2 i p e; ⟨dx,k _ _ _ z⟩⟩
def gv.get {H:Hp}{C:Addr}{fs:Nat->Rw->List (Str×V)}{rows:List Rw}{ps:List Addr}(h:gv H C fs rows ps){i:Nat}(hi:i < rows.length): ∃p,ps[i]? =some p/\eD H p C (fs i (rows.getD i default)):=by
 have iX:i < ps.length:=by rw[h.1]; exact hi
 exact⟨ps[i],af iX,h.2 i _ (af iX)⟩
def gv.rows {H:Hp}{C:Addr}{fs:Nat->Rw->List (Str×V)}{rows iE:List Rw}{ps:List Addr}(h:gv H C fs rows ps)(hl:iE.length=rows.length)(e: ∀i,fs i (iE.getD i default)=fs i (rows.getD i default)):gv H C fs iE ps:=
 ⟨h.1.trans hl.symm,fun i p z=>by rw[e]; exact h.2 i p z⟩
def gv.add {H:Hp}{C p:Addr}{fs:Nat->Rw->List (Str×V)}{rows:List Rw}{r:Rw}{ps:List Addr}(h:gv H C fs rows ps)(n:eD H p C (fs rows.length r)):gv H C fs (rows ++ [r]) (ps ++ [p]):=by
 refine⟨by rw[aH,aH,h.1]; rfl,fun i q e=>?_⟩;by_cases hi:i < ps.length
 ·rw[N1 hi] at e;rw[getD_snoc (by rw[← h.1]; exact hi)];exact h.2 i q e
 ·rw[fR (by lia)] at e;have e0:i - ps.length=0:=by
   have:=(ak.mp e).1;simp at this;lia
  rw[e0] at e;obtain rfl:p=q:=by simpa using e
  obtain rfl:i=rows.length:=by have:=h.1; lia
  rw[getD_last];exact n
structure dH (A:d8)(H:Hp)(pw:Addr)(S:Bk)(f:eK):Prop where
 obj:eD H pw A.work (lE f)
 hb:H f.pb=some (.lst (f.ix.map V.ref))
 hc:H f.pc=some (.lst (f.cps.map V.ref))
 hl:H f.pl=some (.lst (S.aF.map fun r=>V.int r.d))
 hf:H f.pf=some (.lst (S.credits.map fun r=>V.int r.d))
 hm: ∃ms,H f.pm=some (.lst ms)/\il H S.made ms
 rb:gv H A.dW fz S.aF f.ix
 rc:gv H A.d9 fe S.credits f.cps
 nd:f.fp.Nodup
section
variable {A:d8}{H H':Hp}{pw:Addr}{S:Bk}{f:eK}
def dH.lists (h:dH A H pw S f): ∀p∈f.fp,∃xs,H p=some (.lst xs):=fun p hp=>by
 obtain⟨ms,m1,_⟩:=h.hm;simp only[eK.fp,List.mem_cons,List.not_mem_nil,or_false] at hp;rcases hp with rfl|rfl|rfl|rfl|rfl
 ·exact⟨_,h.hb⟩
 ·exact⟨_,h.hc⟩
 ·exact⟨_,h.hl⟩
 ·exact⟨_,h.hf⟩
 ·exact⟨_,m1⟩
def dH.off (h:dH A H pw S f){p:Addr}(n: ∀xs,H p≠some (.lst xs)):p∉f.fp:=fun z=>by
 obtain⟨xs,e⟩:=h.lists p z;exact n xs e
def dH.new (h:dH A H pw S f){p:Addr}(n:H p=none):p∉f.fp:=h.off fun xs e=>by rw[n] at e; cases e
def dH.ins (h:dH A H pw S f){p C:Addr}{fs:List (Str×V)}(n:eD H p C fs):p∉f.fp:=h.off fun xs e=>by
 obtain⟨dx,z⟩:=n;rw[z] at e;cases e
def dH.tk (h:dH A H pw S f)(k:Frame f.fp H H'):cB H H':=fun b xs e=>k b _ (h.off fun ys z=>by rw[e] at z; cases z) e
def dH.objs (h:dH A H pw S f)(k:Frame f.fp H H'):eD H' pw A.work (lE f)/\gv H' A.dW fz S.aF f.ix/\gv H' A.d9 fe S.credits f.cps:=by
 have go: ∀{p C:Addr} {dx:Addr} {gs:List (Str×V)},H p=some (.ins C dx gs)->H' p=some (.ins C dx gs):=fun e=>k _ _ (h.off fun ys z=>by rw[e] at z; cases z) e;exact⟨let⟨dx,e⟩:=h.obj; ⟨dx,go e⟩,h.rb.keep fun _ _ _ e=>go e,h.rc.keep fun _ _ _ e=>go e⟩
def dH.same (h:dH A H pw S f)(s:aE H H'):dH A H' pw S f:=by
 obtain⟨o1,o2,o3⟩:=h.objs (s.frame (fp:=f.fp));obtain⟨ms,m1,m2⟩:=h.hm;exact⟨o1,s _ _ h.hb,s _ _ h.hc,s _ _ h.hl,s _ _ h.hf,⟨ms,s _ _ m1,m2.mono s.tk⟩,o2,o3,h.nd⟩
def eK.ne (h:f.fp.Nodup):f.pb≠f.pc/\f.pb≠f.pl/\f.pb≠f.pf/\f.pb≠f.pm/\f.pc≠f.pl/\f.pc≠f.pf/\f.pc≠f.pm/\f.pl≠f.pf/\f.pl≠f.pm/\f.pf≠f.pm:=by
 simp only[eK.fp,List.nodup_cons,List.mem_cons,List.not_mem_nil,or_false,not_or] at h;obtain⟨⟨h1,h2,h3,h4⟩,⟨h5,h6,h7⟩,⟨h8,h9⟩,K5,_⟩:=h;exact⟨h1,h2,h3,h4,h5,h6,h7,h8,h9,K5⟩
def yp {rows:List Rw}{i:Nat}{x:Int}:(rows.set i ((rows.getD i default).less x)).map (fun r=>V.int r.d)=(rows.map fun r=>V.int r.d).set i (.int ((rows.getD i default).d - x)):=by
 rw[List.map_set]; rfl
def dH.put (h:dH A H pw S f){c b:Nat}{x:Int}{ms:List V}{p:Addr}(hc:c < S.credits.length)(hb:b < S.aF.length)(m1:H f.pm=some (.lst ms))(m2:il H S.made ms)(np:H p=none):
  dH A (upd (upd (upd (upd H f.pf (.lst ((S.credits.map fun r=>V.int r.d).set c (.int ((S.cr c).d - x))))) f.pl (.lst ((S.aF.map fun r=>V.int r.d).set b (.int ((S.bl b).d - x))))) p (.tup [.int c,.int b,.int x])) f.pm (.lst (ms ++ [.ref p]))) pw (S.put c b x) f/\
  Frame f.fp H (upd (upd (upd (upd H f.pf (.lst ((S.credits.map fun r=>V.int r.d).set c (.int ((S.cr c).d - x))))) f.pl (.lst ((S.aF.map fun r=>V.int r.d).set b (.int ((S.bl b).d - x))))) p (.tup [.int c,.int b,.int x])) f.pm (.lst (ms ++ [.ref p]))):=by
 obtain⟨e1,e2,e3,e4,e5,e6,e7,e8,e9,Nx⟩:=eK.ne h.nd;have pf: ∀q∈f.fp,q≠p:=fun q hq z=>h.new np (z▸hq);have i1:f.pb∈f.fp:=by simp[eK.fp]
 have i2:f.pc∈f.fp:=by simp[eK.fp]
 have i3:f.pl∈f.fp:=by simp[eK.fp]
 have i4:f.pf∈f.fp:=by simp[eK.fp]
 have i5:f.pm∈f.fp:=by simp[eK.fp]
 have t3: ∀(G:Hp) (q:Addr),q≠f.pf->q≠f.pl->q≠p->q≠f.pm-> ∀(a b c d:HO),upd (upd (upd (upd G f.pf a) f.pl b) p c) f.pm d q=G q:=fun G q h1 h2 h3 h4 a b c d=>by
  rw[aA h4,aA h3,aA h2,aA h1]
 have F:Frame f.fp H (upd (upd (upd (upd H f.pf (.lst ((S.credits.map fun r=>V.int r.d).set c (.int ((S.cr c).d - x))))) f.pl (.lst ((S.aF.map fun r=>V.int r.d).set b (.int ((S.bl b).d - x))))) p (.tup [.int c,.int b,.int x])) f.pm (.lst (ms ++ [.ref p]))):=fun q o hq e=>by
  rw[t3 H q (fun z=>hq (z▸i4)) (fun z=>hq (z▸i3)) (aK e np) (fun z=>hq (z▸i5))];exact e
 refine⟨?_,F⟩;obtain⟨o1,o2,o3⟩:=h.objs F;have tk:=h.tk F;refine⟨o1,by rw[t3 H _ e3 e2 (pf _ i1) e4]; exact h.hb,by rw[t3 H _ e6 e5 (pf _ i2) e7]; exact h.hc,?_,?_,⟨_,ag,?_⟩,?_,?_,h.nd⟩
 ·rw[aA e9,aA (pf _ i3),ag];show _ =some (HO.lst ((S.aF.set b ((S.aF.getD b default).less x)).map fun r=>V.int r.d));rw[yp]; rfl
 ·rw[aA Nx,aA (pf _ i4),aA e8.symm,ag];show _ =some (HO.lst ((S.credits.set c ((S.credits.getD c default).less x)).map fun r=>V.int r.d));rw[yp]; rfl
 ·refine cw (m2.mono tk) ⟨p,rfl,?_⟩;rw[aA (pf _ i5).symm,ag]
 ·refine o2.rows eU fun i=>?_;show fz i ((S.put c b x).bl i)=fz i (S.bl i);rw[pK hb];split
  ·rename_i z; subst z; rfl
  ·rfl
 ·refine o3.rows eU fun i=>?_;show fe i ((S.put c b x).cr i)=fe i (S.cr i);rw[pL hc];split
  ·rename_i z; subst z; rfl
  ·rfl
end
end L2
namespace eJ
open PySem L2 PyProof.Rows K6
def Ml:Stmt->List Stmt
 | .ClassDef _ _ _ b _ _ _ _ _ _ _=>b
 |_=>[]
def mem (i j:Nat):Stmt:=(Ml (top i)).getD j (.Pass ⟨0,0,0,0⟩)
structure jD (K:Frag)(mg:Str->Option Value)(A:d8):Prop where
 fO:mg "Refusal"=some (.ref A.refusal)
 D5:gW K A.refusal A.refusal
 Pq:keepIn K (.ref A.refusal)=true
 gx: ∃f fd,gp K "__init__" "Refusal.__init__" (mem 3 0) f fd/\Fj K A.refusal f
 BP:mg "NoCredit"=some (.ref A.jZ)
 tj:gW K A.jZ A.refusal
 BQ:keepIn K (.ref A.jZ)=true
 BR: ∃f fd,gp K "__init__" "NoCredit.__init__" (mem 4 0) f fd/\findIn K (.ref A.jZ) "__init__"=some (some (.ref f))/\typeIn K (.ref f)=some (.type "function")
 G8:mg "NoBill"=some (.ref A.pT)
 yq:gW K A.pT A.refusal
 G9:keepIn K (.ref A.pT)=true
 Hb: ∃f fd,gp K "__init__" "NoBill.__init__" (mem 5 0) f fd/\findIn K (.ref A.pT) "__init__"=some (some (.ref f))/\typeIn K (.ref f)=some (.type "function")
 zF:mg "NotTheirs"=some (.ref A.jJ)
 qS:gW K A.jJ A.refusal
 zG:keepIn K (.ref A.jJ)=true
 zH: ∃f fd,gp K "__init__" "NotTheirs.__init__" (mem 6 0) f fd/\findIn K (.ref A.jJ) "__init__"=some (some (.ref f))/\typeIn K (.ref f)=some (.type "function")
 BS:mg "NoAmount"=some (.ref A.iI)
 kH:gW K A.iI A.refusal
 BU:keepIn K (.ref A.iI)=true
 BV: ∃f fd,gp K "__init__" "NoAmount.__init__" (mem 7 0) f fd/\findIn K (.ref A.iI) "__init__"=some (some (.ref f))/\typeIn K (.ref f)=some (.type "function")
 BW:mg "TooEarly"=some (.ref A.tooEarly)
 tq:gW K A.tooEarly A.refusal
 BX:keepIn K (.ref A.tooEarly)=true
 BY: ∃f fd,gp K "__init__" "TooEarly.__init__" (mem 8 0) f fd/\findIn K (.ref A.tooEarly) "__init__"=some (some (.ref f))/\typeIn K (.ref f)=some (.type "function")
 vx:mg "TooMuch"=some (.ref A.tooMuch)
 pU:gW K A.tooMuch A.refusal
 D7:keepIn K (.ref A.tooMuch)=true
 D8: ∃f fd,gp K "__init__" "TooMuch.__init__" (mem 9 0) f fd/\findIn K (.ref A.tooMuch) "__init__"=some (some (.ref f))/\typeIn K (.ref f)=some (.type "function")
 zI:mg "NoSetting"=some (.ref A.jK)
 qT:gW K A.jK A.refusal
 zJ:keepIn K (.ref A.jK)=true
 zK: ∃f fd,gp K "__init__" "NoSetting.__init__" (mem 10 0) f fd/\findIn K (.ref A.jK) "__init__"=some (some (.ref f))/\typeIn K (.ref f)=some (.type "function")
 yr:mg "Needed"=some (.ref A.i9)
 yt:gW K A.i9 A.refusal
 Hc:keepIn K (.ref A.i9)=true
 Hd: ∃f fd,gp K "__init__" "Needed.__init__" (mem 11 0) f fd/\findIn K (.ref A.i9) "__init__"=some (some (.ref f))/\typeIn K (.ref f)=some (.type "function")
 Mm:mg "Bill"=some (.ref A.dW)
 ee:wI K A.dW
 eQ:b9 K A.dW "number"
 kI:b9 K A.dW "who"
 m9:b9 K A.dW "day"
 ng:b9 K A.dW "due"
 ni:b9 K A.dW "amount"
 Mn: ∃f fd,gp K "__init__" "Bill.__init__" (mem 13 0) f fd/\Mk K A.dW f
 He:mg "Credit"=some (.ref A.d9)
 c9:wI K A.d9
 eL:b9 K A.d9 "number"
 kZ:b9 K A.d9 "who"
 je:b9 K A.d9 "day"
 lH:b9 K A.d9 "amount"
 j7:b9 K A.d9 "only"
 Hf: ∃f fd,gp K "__init__" "Credit.__init__" (mem 14 0) f fd/\Mk K A.d9 f
 Mo:mg "Work"=some (.ref A.work)
 bJ:wI K A.work
 dY:b9 K A.work "bills"
 cD:b9 K A.work "all_credits"
 fA:b9 K A.work "lefts"
 fB:b9 K A.work "frees"
 md:b9 K A.work "made"
 Mp: ∃f fd,gp K "__init__" "Work.__init__" (mem 25 0) f fd/\Mk K A.work f
 qU: ∃f fd,gp K "tell_bill" "Work.tell_bill" (mem 25 1) f fd/\Meth K A.work "tell_bill" f
 nj: ∃f fd,gp K "tell_payment" "Work.tell_payment" (mem 25 2) f fd/\Meth K A.work "tell_payment" f
 qV: ∃f fd,gp K "tell_note" "Work.tell_note" (mem 25 3) f fd/\Meth K A.work "tell_note" f
 oF: ∃f fd,gp K "tell_credit" "Work.tell_credit" (mem 25 4) f fd/\Meth K A.work "tell_credit" f
 oG: ∃f fd,gp K "set_by_hand" "Work.set_by_hand" (mem 25 5) f fd/\Meth K A.work "set_by_hand" f
 xi: ∃f fd,gp K "sweep" "Work.sweep" (mem 25 6) f fd/\Meth K A.work "sweep" f
 qW: ∃f fd,gp K "one_round" "Work.one_round" (mem 25 7) f fd/\Meth K A.work "one_round" f
 BZ: ∃f fd,gp K "put" "Work.put" (mem 25 8) f fd/\Meth K A.work "put" f
 qX: ∃f fd,gp K "credit_at" "Work.credit_at" (mem 25 9) f fd/\Meth K A.work "credit_at" f
 tX: ∃f fd,gp K "bill_at" "Work.bill_at" (mem 25 10) f fd/\Meth K A.work "bill_at" f
 Mq:mg "Book"=some (.ref A.book)
 eR:wI K A.book
 gK:b9 K A.book "kept"
 gN:b9 K A.book "work"
 Mr: ∃f fd,gp K "__init__" "Book.__init__" (mem 29 0) f fd/\Mk K A.book f
 D9: ∃f fd,gp K "do" "Book.do" (mem 29 1) f fd/\Meth K A.book "do" f
 zL: ∃f fd,gp K "undo" "Book.undo" (mem 29 2) f fd/\Meth K A.book "undo" f
 sx: ∃f fd,gp K "in_force" "Book.in_force" (mem 29 3) f fd/\Meth K A.book "in_force" f
end eJ
namespace L2
open PySem PySem.Spec PySem.W PyProof.Rows K6
structure gX (CX:ER)(P:Program)(w:World)(K:Frag)(mg:Str->Option Value)(base:Heap)(C:Addr)(m:Str)(k:Nat)(ps:List Str)(sp:Sp):Prop where
 ex: ∃(f:Addr) (fd:FuncData),wI K C/\Meth K C m f/\lW P w K mg base CX k f fd ps sp/\Binds K fd ps []
structure vy (P:Program)(w:World)(K:Frag)(mg:Str->Option Value)(base:Heap)(x:Str)(k:Nat)(ps:List Str)(sp:Sp):Prop where
 ex: ∃(f:Addr) (fd:FuncData),lW P w K mg base (mG P w mg) k f fd ps sp/\mg x=some (.ref f)/\keepIn K (.ref f)=true/\Binds K fd ps []
structure tY (P:Program)(w:World)(K:Frag)(mg:Str->Option Value)(base:Heap)(x:Str)(C:Addr)(k:Nat)(ps:List Str)(sp:Sp):Prop where
 ex: ∃(f:Addr) (fd:FuncData),Mk K C f/\lW P w K mg base sf k f fd ps sp/\Binds K fd ps []/\mg x=some (.ref C)
section
variable {X:Cx}{CX:ER}{C:Addr}{x m:Str}{k:Nat}{ps:List Str}{sp:Sp}{o e:Expr}{es:List Expr}{ta:TE}{t:TA}{p pos apos:Pos}{E:XK}
def nu {pl:Sem Bool}(M:gX CX X.prog X.w X.K X.mg X.base C m k ps sp)(hr:eY k X.A)(hx:Passes CX X E)(he:PE X o ta)(ha:PA X (e :: es) t)
  (nX:starEach (e :: es) X.env=(false,eval e X.env) :: starEach es X.env:=by rfl) (iN:(backTo pos (starEach es X.env)).any (·.1)=false:=by rfl)
  (ht:eval (.Call (.Attribute o m apos) (e :: es) [] pos) X.env=(do
   let ov ← eval o X.env
   standAt apos.atName
   let(f,first) ← holding [ov] (getMethod ov m pl)
   callWith pos f first (backTo pos (starEach (e :: es) X.env)) (backToKw pos (keywordEach [] X.env))):=by rfl):
  PE X (.Call (.Attribute o m apos) (e :: es) [] pos) (Nh C m sp [] E ta t):=by
 obtain⟨f,fd,hc,hm,F,hb⟩:=M.ex;exact LA he hc hm F hr hb .nil hx ha nX iN ht
def sy (M:vy X.prog X.w X.K X.mg X.base x k ps sp)(hr:eY k X.A)(hg:Gl X x)(hx:Passes (mG X.prog X.w X.mg) X E)(ha:PA X (e :: es) t)(qy:(x == ("__debug__":Str))=false:=by decide)
  (he:starEach (e :: es) X.env=(false,eval e X.env) :: starEach es X.env:=by rfl) (iN:(backTo pos (starEach es X.env)).any (·.1)=false:=by rfl):PE X (.Call (.Name x p) (e :: es) [] pos) (uK sp [] E t):=by
 obtain⟨f,fd,F,hm,hk,hb⟩:=M.ex;exact ET F hr hg hm hk hb .nil hx ha qy he iN
def Ti (M:tY X.prog X.w X.K X.mg X.base x C k ps sp)(hr:eY (k + 1) X.A)(hg:Gl X x)(ha:PA X (e :: es) t)(qy:(x == ("__debug__":Str))=false:=by decide)
  (he:starEach (e :: es) X.env=(false,eval e X.env) :: starEach es X.env:=by rfl) (iN:(backTo pos (starEach es X.env)).any (·.1)=false:=by rfl):PE X (.Call (.Name x p) (e :: es) [] pos) (ES C sp [] E0 t):=by
 obtain⟨f,fd,hk,F,hb,hm⟩:=M.ex;exact LB hk F hr hg hm hb .nil mT ha qy he iN
def JS (M:tY X.prog X.w X.K X.mg X.base x C k ps sp)(hr:eY (k + 1) X.A)(hg:Gl X x)(qy:(x == ("__debug__":Str))=false:=by decide):PE X (.Call (.Name x p) [] [] pos) (ES C sp [] E0 Bh):=by
 obtain⟨f,fd,hk,F,hb,hm⟩:=M.ex;exact IW hk F hr hg hm hb .nil mT qy
end
section
variable {P:Program}{w:World}{K:Frag}{mg:Str->Option Value}{base:Heap}{C:Addr}{x m qual:Str}{st:Stmt}{N ps:List Str}{k:Nat}{sp:Sp}
def Ms (D: ∃f fd,gp K m qual st f fd/\Meth K C m f)(hc:wI K C)(S:aW N ps (ax st))
  (fS: ∀(f:Addr) (cO:Value) (A:Around) (outer:List Env) (s:Shared) (H:Hp) (vs:List V) (Q:VK) (E:XK),eY k (A.deeper (envOfC qual (ax st) s.heap.objs.size f cO))->sp vs H Q E->
   ∃t,oN (kQ sf P w K mg base N qual (ax st) f cO A outer s H E).Dv (dD st) t/\t {nx:=fun _ H'=>Q .eu H',rt:=Q} (start N vs) H)
  (hb: ∀(kV doc pm:Value) (an:Option Addr) (cO ct:Value) (us:List Value),us.length=ps.length->bindArgs (fnOf m qual (gI st) (dD st) (ax st) .none kV doc pm an cO ct) ⟨us,[]⟩=pure (ps.zip us):=by intro _ _ _ _ _ _ us hl; rcases us with _|⟨_,_|⟨_,_|⟨_,_|⟨_,_|⟨_,_|⟨_,_|⟨_,_⟩⟩⟩⟩⟩⟩⟩ <;> first|(cases hl; done)|rfl)
  (len: ∀vs H Q E,sp vs H Q E->vs.length=ps.length:=by intro _ _ _ _ h; first|(cases h; subst_vars; rfl)|(repeat (first|(obtain⟨rfl,_⟩:=h; rfl; done)|obtain⟨_,h⟩:=h))):gX sf P w K mg base C m (k + 1) ps sp:=by
 obtain⟨f,fd,F,hm⟩:=D;exact⟨f,fd,hc,hm,F.ok S len (fS f),F.binds hb⟩
def qY (D: ∃f fd,gp K m qual st f fd/\Meth K C m f)(hc:wI K C)(S:aW N ps (ax st))
  (fS: ∀(f:Addr) (cO:Value) (A:Around) (outer:List Env) (s:Shared) (H:Hp) (vs:List V) (Q:VK) (E:XK),eY k (A.deeper (envOfC qual (ax st) s.heap.objs.size f cO))->Q0 (kQ (mG P w mg) P w K mg base N qual (ax st) f cO A outer s H E) E->sp vs H Q E->
   ∃t,oN (kQ (mG P w mg) P w K mg base N qual (ax st) f cO A outer s H E) (dD st) t/\t {nx:=fun _ H'=>Q .eu H',rt:=Q} (start N vs) H)
  (hb: ∀(kV doc pm:Value) (an:Option Addr) (cO ct:Value) (us:List Value),us.length=ps.length->bindArgs (fnOf m qual (gI st) (dD st) (ax st) .none kV doc pm an cO ct) ⟨us,[]⟩=pure (ps.zip us):=by intro _ _ _ _ _ _ us hl; rcases us with _|⟨_,_|⟨_,_|⟨_,_|⟨_,_|⟨_,_|⟨_,_|⟨_,_⟩⟩⟩⟩⟩⟩⟩ <;> first|(cases hl; done)|rfl)
  (len: ∀vs H Q E,sp vs H Q E->vs.length=ps.length:=by intro _ _ _ _ h; first|(cases h; subst_vars; rfl)|(repeat (first|(obtain⟨rfl,_⟩:=h; rfl; done)|obtain⟨_,h⟩:=h))):gX (mG P w mg) P w K mg base C m (k + 1) ps sp:=by
 obtain⟨f,fd,F,hm⟩:=D;exact⟨f,fd,hc,hm,F.Z5 S len (fS f),F.binds hb⟩
def Pr (D:Df K mg x st)(S:aW N ps (ax st))
  (fS: ∀(f:Addr) (cO:Value) (A:Around) (outer:List Env) (s:Shared) (H:Hp) (vs:List V) (Q:VK) (E:XK),eY k (A.deeper (envOfC x (ax st) s.heap.objs.size f cO))->Q0 (kQ (mG P w mg) P w K mg base N x (ax st) f cO A outer s H E) E->sp vs H Q E->
   ∃t,oN (kQ (mG P w mg) P w K mg base N x (ax st) f cO A outer s H E) (dD st) t/\t {nx:=fun _ H'=>Q .eu H',rt:=Q} (start N vs) H)
  (hb: ∀(kV doc pm:Value) (an:Option Addr) (cO ct:Value) (us:List Value),us.length=ps.length->bindArgs (fnOf x x (gI st) (dD st) (ax st) .none kV doc pm an cO ct) ⟨us,[]⟩=pure (ps.zip us):=by intro _ _ _ _ _ _ us hl; rcases us with _|⟨_,_|⟨_,_|⟨_,_|⟨_,_|⟨_,_|⟨_,_|⟨_,_⟩⟩⟩⟩⟩⟩⟩ <;> first|(cases hl; done)|rfl)
  (len: ∀vs H Q E,sp vs H Q E->vs.length=ps.length:=by intro _ _ _ _ h; first|(cases h; subst_vars; rfl)|(repeat (first|(obtain⟨rfl,_⟩:=h; rfl; done)|obtain⟨_,h⟩:=h))):vy P w K mg base x (k + 1) ps sp:=by
 obtain⟨f,fd,F,hm⟩:=D.ex;exact⟨f,fd,F.Z5 S len (fS f),hm,F.kp,F.binds hb⟩
def Mt (D: ∃f fd,gp K "__init__" qual st f fd/\Mk K C f)(hm:mg x=some (.ref C))(S:aW N ps (ax st))
  (fS: ∀(f:Addr) (cO:Value) (A:Around) (outer:List Env) (s:Shared) (H:Hp) (vs:List V) (Q:VK) (E:XK),eY k (A.deeper (envOfC qual (ax st) s.heap.objs.size f cO))->sp vs H Q E->
   ∃t,oN (kQ sf P w K mg base N qual (ax st) f cO A outer s H E).Dv (dD st) t/\t {nx:=fun _ H'=>Q .eu H',rt:=Q} (start N vs) H)
  (hb: ∀(kV doc pm:Value) (an:Option Addr) (cO ct:Value) (us:List Value),us.length=ps.length->bindArgs (fnOf "__init__" qual (gI st) (dD st) (ax st) .none kV doc pm an cO ct) ⟨us,[]⟩=pure (ps.zip us):=by intro _ _ _ _ _ _ us hl; rcases us with _|⟨_,_|⟨_,_|⟨_,_|⟨_,_|⟨_,_|⟨_,_|⟨_,_⟩⟩⟩⟩⟩⟩⟩ <;> first|(cases hl; done)|rfl)
  (len: ∀vs H Q E,sp vs H Q E->vs.length=ps.length:=by intro _ _ _ _ h; first|(cases h; subst_vars; rfl)|(repeat (first|(obtain⟨rfl,_⟩:=h; rfl; done)|obtain⟨_,h⟩:=h))):tY P w K mg base x C (k + 1) ps sp:=by
 obtain⟨f,fd,F,hk⟩:=D;exact⟨f,fd,hk,F.ok S len (fS f),F.binds hb,hm⟩
end
end L2
namespace eJ
open PySem L2 PyProof.Rows K6
seal L2.oN L2.PS L2.PE L2.PT L2.PW L2.PA L2.PC L2.PG L2.IF L2.PI L2.LK L2.K2 L2.PO L2.oA L2.Ng L2.hZ L2.I9 L2.Ni
section
variable {P:Program}{w:World}{K:Frag}{mg:Str->Option Value}{base:Heap}
def Hg {H:Hp}{e dx:Addr}{a b c:HO}(h:dx≠e):upd (upd (upd H e a) dx b) e c=upd (upd H dx b) e c:=by
 funext q
 by_cases h1:q=e
 ·rw[h1,ag,ag]
 ·rw[aA h1,aA h1];by_cases h2:q=dx
  ·rw[h2,ag,ag]
  ·rw[aA h2,aA h2,aA h1]
inductive Ny (K:Frag)(vs:List V)(H:Hp)(Q:VK)(E':XK):Prop
 |mk (e C R t0:Addr)(txt:Str)(h1:vs=[.ref e,.str txt])(h2:H e=some (xo e C none (v0 t0)))(h3:gW K C R)(h4: ∀dx t',H dx=none->Q .eu (upd (upd H dx (.xd [("text",.str txt)])) e (xo e C (some dx) (v0 t')))):Ny K vs H Q E'
def Ea:aW ["self","text"] ["self","text"] (ax (mem 3 0)):={}
def gy (T:Txt K mg){f:Addr}{fd:FuncData}(F:gp K "__init__" "Refusal.__init__" (mem 3 0) f fd):SU P w K mg base 1 f fd ["self","text"] (Ny K):=by
 refine l7 (k:=0) F Ea (fun vs H Q E h=>?_) (fun cO A outer s H vs Q E hr h=>?_)
 ·obtain⟨e,C,R,t0,txt,rfl,_⟩:=h;rfl
 ·obtain⟨e,C,R,t0,txt,rfl,he,ek,k⟩:=h;refine⟨_,(ah (bK (JA rfl T.BL (aa (pv 0) (aa (pv 1) av)))) (au (L9 (pv 0) (pv 1) rfl))),?_⟩;refine⟨_,rfl,_,rfl,e,C,R,t0,none,v0 t0,_,rfl,he,ek,rfl,fun t'=>?_⟩;refine⟨_,rfl,_,rfl,e,C,R,v0 t',rfl,ag,ek,fun dx JT=>?_⟩;have ne:dx≠e:=fun z=>by rw[z,ag] at JT; cases JT
  rw[aA ne] at JT;have q:=k dx t' JT;rw[← Hg (a:=xo e C none (v0 t')) ne] at q;exact q
def B0:aW ["self"] ["self"] (ax (mem 4 0)):={}
def B4 (T:Txt K mg){A:d8}(G:jD K mg A):JB P w K mg base 2 "NoCredit" A.jZ A.refusal "no credit":=by
 obtain⟨f,fd,F,hi,ht⟩:=G.BR;obtain⟨f0,Pt,F0,ik⟩:=G.gx;refine⟨G.BP,G.tj,G.BQ,f,fd,hi,ht,?_,F.binds (fun _ _ _ _ _ _ us hl=>match us,hl with|[_],_=>rfl)⟩;refine l7 (k:=1) F B0 (fun vs H Q E h=>?_) (fun cO A' outer s H vs Q E hr h=>?_)
 ·obtain⟨e,C,R,t0,rfl,_⟩:=h;rfl
 ·obtain⟨e,C,R,t0,rfl,he,ek,k⟩:=h;refine⟨_,(au (bK (jj ik (gy T F0) hr (F0.binds (fun _ _ _ _ _ _ us hl=>match us,hl with|[_,_],_=>rfl)) rfl G.fO (aa (pv 0) (aa aV av))))),?_⟩;exact⟨_,rfl,e,C,R,t0,_,rfl,he,ek,fun dx t' n=>k dx t' n⟩
def Hh:aW ["self"] ["self"] (ax (mem 5 0)):={}
def Hj (T:Txt K mg){A:d8}(G:jD K mg A):JB P w K mg base 2 "NoBill" A.pT A.refusal "no bill":=by
 obtain⟨f,fd,F,hi,ht⟩:=G.Hb;obtain⟨f0,Pt,F0,ik⟩:=G.gx;refine⟨G.G8,G.yq,G.G9,f,fd,hi,ht,?_,F.binds (fun _ _ _ _ _ _ us hl=>match us,hl with|[_],_=>rfl)⟩;refine l7 (k:=1) F Hh (fun vs H Q E h=>?_) (fun cO A' outer s H vs Q E hr h=>?_)
 ·obtain⟨e,C,R,t0,rfl,_⟩:=h;rfl
 ·obtain⟨e,C,R,t0,rfl,he,ek,k⟩:=h;refine⟨_,(au (bK (jj ik (gy T F0) hr (F0.binds (fun _ _ _ _ _ _ us hl=>match us,hl with|[_,_],_=>rfl)) rfl G.fO (aa (pv 0) (aa aV av))))),?_⟩;exact⟨_,rfl,e,C,R,t0,_,rfl,he,ek,fun dx t' n=>k dx t' n⟩
def zM:aW ["self"] ["self"] (ax (mem 6 0)):={}
def zN (T:Txt K mg){A:d8}(G:jD K mg A):JB P w K mg base 2 "NotTheirs" A.jJ A.refusal "not theirs":=by
 obtain⟨f,fd,F,hi,ht⟩:=G.zH;obtain⟨f0,Pt,F0,ik⟩:=G.gx;refine⟨G.zF,G.qS,G.zG,f,fd,hi,ht,?_,F.binds (fun _ _ _ _ _ _ us hl=>match us,hl with|[_],_=>rfl)⟩;refine l7 (k:=1) F zM (fun vs H Q E h=>?_) (fun cO A' outer s H vs Q E hr h=>?_)
 ·obtain⟨e,C,R,t0,rfl,_⟩:=h;rfl
 ·obtain⟨e,C,R,t0,rfl,he,ek,k⟩:=h;refine⟨_,(au (bK (jj ik (gy T F0) hr (F0.binds (fun _ _ _ _ _ _ us hl=>match us,hl with|[_,_],_=>rfl)) rfl G.fO (aa (pv 0) (aa aV av))))),?_⟩;exact⟨_,rfl,e,C,R,t0,_,rfl,he,ek,fun dx t' n=>k dx t' n⟩
def B6:aW ["self"] ["self"] (ax (mem 7 0)):={}
def B7 (T:Txt K mg){A:d8}(G:jD K mg A):JB P w K mg base 2 "NoAmount" A.iI A.refusal "no amount":=by
 obtain⟨f,fd,F,hi,ht⟩:=G.BV;obtain⟨f0,Pt,F0,ik⟩:=G.gx;refine⟨G.BS,G.kH,G.BU,f,fd,hi,ht,?_,F.binds (fun _ _ _ _ _ _ us hl=>match us,hl with|[_],_=>rfl)⟩;refine l7 (k:=1) F B6 (fun vs H Q E h=>?_) (fun cO A' outer s H vs Q E hr h=>?_)
 ·obtain⟨e,C,R,t0,rfl,_⟩:=h;rfl
 ·obtain⟨e,C,R,t0,rfl,he,ek,k⟩:=h;refine⟨_,(au (bK (jj ik (gy T F0) hr (F0.binds (fun _ _ _ _ _ _ us hl=>match us,hl with|[_,_],_=>rfl)) rfl G.fO (aa (pv 0) (aa aV av))))),?_⟩;exact⟨_,rfl,e,C,R,t0,_,rfl,he,ek,fun dx t' n=>k dx t' n⟩
def B8:aW ["self"] ["self"] (ax (mem 8 0)):={}
def Ca (T:Txt K mg){A:d8}(G:jD K mg A):JB P w K mg base 2 "TooEarly" A.tooEarly A.refusal "too early":=by
 obtain⟨f,fd,F,hi,ht⟩:=G.BY;obtain⟨f0,Pt,F0,ik⟩:=G.gx;refine⟨G.BW,G.tq,G.BX,f,fd,hi,ht,?_,F.binds (fun _ _ _ _ _ _ us hl=>match us,hl with|[_],_=>rfl)⟩;refine l7 (k:=1) F B8 (fun vs H Q E h=>?_) (fun cO A' outer s H vs Q E hr h=>?_)
 ·obtain⟨e,C,R,t0,rfl,_⟩:=h;rfl
 ·obtain⟨e,C,R,t0,rfl,he,ek,k⟩:=h;refine⟨_,(au (bK (jj ik (gy T F0) hr (F0.binds (fun _ _ _ _ _ _ us hl=>match us,hl with|[_,_],_=>rfl)) rfl G.fO (aa (pv 0) (aa aV av))))),?_⟩;exact⟨_,rfl,e,C,R,t0,_,rfl,he,ek,fun dx t' n=>k dx t' n⟩
def Eb:aW ["self"] ["self"] (ax (mem 9 0)):={}
def Ec (T:Txt K mg){A:d8}(G:jD K mg A):JB P w K mg base 2 "TooMuch" A.tooMuch A.refusal "too much":=by
 obtain⟨f,fd,F,hi,ht⟩:=G.D8;obtain⟨f0,Pt,F0,ik⟩:=G.gx;refine⟨G.vx,G.pU,G.D7,f,fd,hi,ht,?_,F.binds (fun _ _ _ _ _ _ us hl=>match us,hl with|[_],_=>rfl)⟩;refine l7 (k:=1) F Eb (fun vs H Q E h=>?_) (fun cO A' outer s H vs Q E hr h=>?_)
 ·obtain⟨e,C,R,t0,rfl,_⟩:=h;rfl
 ·obtain⟨e,C,R,t0,rfl,he,ek,k⟩:=h;refine⟨_,(au (bK (jj ik (gy T F0) hr (F0.binds (fun _ _ _ _ _ _ us hl=>match us,hl with|[_,_],_=>rfl)) rfl G.fO (aa (pv 0) (aa aV av))))),?_⟩;exact⟨_,rfl,e,C,R,t0,_,rfl,he,ek,fun dx t' n=>k dx t' n⟩
def zO:aW ["self"] ["self"] (ax (mem 10 0)):={}
def zP (T:Txt K mg){A:d8}(G:jD K mg A):JB P w K mg base 2 "NoSetting" A.jK A.refusal "no setting":=by
 obtain⟨f,fd,F,hi,ht⟩:=G.zK;obtain⟨f0,Pt,F0,ik⟩:=G.gx;refine⟨G.zI,G.qT,G.zJ,f,fd,hi,ht,?_,F.binds (fun _ _ _ _ _ _ us hl=>match us,hl with|[_],_=>rfl)⟩;refine l7 (k:=1) F zO (fun vs H Q E h=>?_) (fun cO A' outer s H vs Q E hr h=>?_)
 ·obtain⟨e,C,R,t0,rfl,_⟩:=h;rfl
 ·obtain⟨e,C,R,t0,rfl,he,ek,k⟩:=h;refine⟨_,(au (bK (jj ik (gy T F0) hr (F0.binds (fun _ _ _ _ _ _ us hl=>match us,hl with|[_,_],_=>rfl)) rfl G.fO (aa (pv 0) (aa aV av))))),?_⟩;exact⟨_,rfl,e,C,R,t0,_,rfl,he,ek,fun dx t' n=>k dx t' n⟩
def Hl:aW ["self"] ["self"] (ax (mem 11 0)):={}
def Hm (T:Txt K mg){A:d8}(G:jD K mg A):JB P w K mg base 2 "Needed" A.i9 A.refusal "needed":=by
 obtain⟨f,fd,F,hi,ht⟩:=G.Hd;obtain⟨f0,Pt,F0,ik⟩:=G.gx;refine⟨G.yr,G.yt,G.Hc,f,fd,hi,ht,?_,F.binds (fun _ _ _ _ _ _ us hl=>match us,hl with|[_],_=>rfl)⟩;refine l7 (k:=1) F Hl (fun vs H Q E h=>?_) (fun cO A' outer s H vs Q E hr h=>?_)
 ·obtain⟨e,C,R,t0,rfl,_⟩:=h;rfl
 ·obtain⟨e,C,R,t0,rfl,he,ek,k⟩:=h;refine⟨_,(au (bK (jj ik (gy T F0) hr (F0.binds (fun _ _ _ _ _ _ us hl=>match us,hl with|[_,_],_=>rfl)) rfl G.fO (aa (pv 0) (aa aV av))))),?_⟩;exact⟨_,rfl,e,C,R,t0,_,rfl,he,ek,fun dx t' n=>k dx t' n⟩
def oS (rc rb:Rw)(b:Nat):Bool:=if rc.c= -1 then decide (rc.aC=rb.aC) else decide (rc.c=(b:Int))
def EX (E:XK)(C:Addr)(txt:Str)(H:Hp):Prop:= ∀(dx:Addr) (H':Hp),aE H H'->H dx=none->H' dx=some (.xd [("text",.str txt)])->E (.ref C) (some dx) H'
def EX.at {E:XK}{C dx:Addr}{txt:Str}{H:Hp}(h:EX E C txt H)(n:H dx=none):E (.ref C) (some dx) (upd H dx (.xd [("text",.str txt)])):=h dx _ (aE.new n) n ag
inductive qZ (A:d8)(vs:List V)(H:Hp)(Q:VK)(E:XK):Prop
 |mk (a:Int)(h1:vs=[.int a])(h2:(1<=a->Q .eu H))(h3:(a < 1->EX E A.iI "no amount" H)):qZ A vs H Q E
def tZ:aW ["amount"] ["amount"] (ax (top 26)):={}
def j8 (T:Txt K mg){A:d8}(G:jD K mg A):vy P w K mg base "check_amount" 4 ["amount"] (qZ A):=by
 refine Pr (k:=3) T.vq tZ (fun f cO A' outer s H vs Q E hr mr h=>?_)
 ·obtain⟨a,rfl,k1,k2⟩:=h;refine⟨_,(au (bP (aX jO (pv 0) ai (a6 _)) (au (jX mr (B7 T G) hr.h rfl rfl)) bh)),?_⟩;refine⟨_,rfl,_,_,rfl,rfl,_,rfl,cu (fun z=>?_) (fun z=>?_)⟩
  ·exact fun dx n=>(k2 (aM z)).at n
  ·exact k1 (by have: ¬ a < 1:=fun q=>z (aG q); lia)
inductive zQ (A:d8)(vs:List V)(H:Hp)(Q:VK)(E':XK):Prop
 |mk (p q:Addr)(c b:Nat)(rc rb:Rw)(h1:vs=[.ref p,.ref q])(h2:eD H p A.d9 (fe c rc))(h3:eD H q A.dW (fz b rb))(h4:Q (.bl (oS rc rb b)) H):zQ A vs H Q E'
def Mu:aW ["credit","bill"] ["credit","bill"] (ax (top 15)):={}
def JU (T:Txt K mg){A:d8}(G:jD K mg A):eW P w K mg base "fits" 1 ["credit","bill"] (zQ A):=by
 refine T.Pf.fv (k:=0) Mu (fun f cO A' outer s H vs Q E hr h=>?_)
 ·obtain⟨p,q,c,b,rc,rb,rfl,⟨dp,hp⟩,⟨dq,hq⟩,k⟩:=h;refine⟨_,(ah (bP (yS (IE (kz (pv 0))))
(au (a9 (eA cG (kz (pv 0)) (kz (pv 1)) (a6 _))))
bh)
(au (a9 (eA cG (kz (pv 0)) (kz (pv 1)) (a6 _))))),?_⟩
  have fo:=Mj c rc;refine⟨_,rfl,p,_,dp,_,_,rfl,hp,G.c9,G.j7,fo,?_⟩;by_cases z:rc.c= -1
  ·have e:tf rc.c= .eu:=aZ z;refine⟨true,by rw[e]; rfl,fF ?_⟩;refine⟨_,rfl,p,_,dp,_,_,rfl,hp,G.c9,G.kZ,JQ c rc,_,rfl,q,_,dq,_,_,rfl,hq,G.ee,G.kI,D4 b rb,rfl,?_⟩;have e2:oS rc rb b=decide (V.str rc.aC=V.str rb.aC):=by
    unfold oS;rw[aZ z];exact jw.mpr ⟨fun h=>by rw[h],fun h=>by injection h⟩
   rw[e2] at k;exact k
  ·have e:tf rc.c= .int rc.c:=aO z;refine⟨false,by rw[e]; rfl,bV ?_⟩;rw[e] at fo;refine⟨_,rfl,p,_,dp,_,_,rfl,hp,G.c9,G.j7,fo,_,rfl,q,_,dq,_,_,rfl,hq,G.ee,G.eQ,lD b rb,rfl,?_⟩;have e2:oS rc rb b=decide (V.int rc.c=V.int (b:Int)):=by
    unfold oS;rw[aO z];exact jw.mpr ⟨fun h=>by rw[h],fun h=>by injection h⟩
   rw[e2] at k;exact k
inductive Ed (A:d8)(vs:List V)(H:Hp)(Q:VK)(E':XK):Prop
 |mk (p q:Addr)(c b:Nat)(rc rb:Rw)(h1:vs=[.ref p,.ref q])(h2:eD H p A.d9 (fe c rc))(h3:eD H q A.dW (fz b rb))(h4:Q (.int (if rb.a > rc.a then rb.a else rc.a)) H):Ed A vs H Q E'
def vz:aW ["credit","bill"] ["credit","bill"] (ax (top 16)):={}
def xj (T:Txt K mg){A:d8}(G:jD K mg A):eW P w K mg base "counts_from" 1 ["credit","bill"] (Ed A):=by
 refine T.wV.fv (k:=0) vz (fun f cO A' outer s H vs Q E hr h=>?_)
 ·obtain⟨p,q,c,b,rc,rb,rfl,⟨dp,hp⟩,⟨dq,hq⟩,k⟩:=h;refine⟨_,(au (a9 (eN (xU rfl) (by rfl) T.Nw boot_max (aa (kz (pv 0)) (aa (kz (pv 1)) av))))),?_⟩;exact⟨_,rfl,p,_,dp,_,_,rfl,hp,G.c9,G.je,JR c rc,_,rfl,q,_,dq,_,_,rfl,hq,G.ee,G.m9,Pp b rb,_,_,rfl,k⟩
def getD_at {α:Type}{xs:List α}{d:α}{i:Nat}(h:i < xs.length):xs.getD i d=xs[i]:=by rw[aj,af h]; rfl
def pV {g:Int->V}{xs:List Int}{i:Nat}(h:i < xs.length):se (xs.map g) (i:Int)=some (g (xs.getD i 0)):=by
 rw[getD_at h];exact cf (by rw[aB,af h]; rfl)
def uj {n j:Nat}(h:j < n):LD n (j:Int)=some j:=by
 unfold LD;rw[if_pos (by lia),if_pos (by lia)]; simp
def fY {H H':Hp}(s:aE H H'): ∀b xs,H b=some (.tup xs)->H' b=some (.tup xs):=fun b xs e=>s _ _ e
def gQ {α:Type}{xs:List α}{m:Nat}(h:m < xs.length):xs.take (m + 1)=xs.take m ++ [xs[m]]:=by
 rw[AV,af h]; rfl
def Tj (cs:List Int)(lo hi:Option Int): ∃ds:List Int,qB (cs.map V.int) lo hi=ds.map V.int/\ds.length<=cs.length:=by
 unfold qB;refine⟨_,by rw[← List.map_drop,← List.map_take],?_⟩;rw[bb,mC];lia
def zR (x m:Int)(h:0 < m): ∃n:Nat,x % m=(n:Int)/\(n:Int) < m:=by
 have h1:=ko x (show m≠0 by lia);have h2:=qj x h;exact⟨(x % m).toNat,by lia,by lia⟩
def kJ {α:Type}{g:α->V}{xs:List α}{m:Int}{x:Int}(hm:m=(xs.length:Int))(h:0 < m): ∃y∈xs,se (xs.map g) (x % m)=some (g y):=by
 obtain⟨n,e,hn⟩:=zR x m h;have hl:n < xs.length:=by lia
 exact⟨xs[n],bN _,by rw[e]; exact cf (by rw[aB,af hl]; rfl)⟩
inductive Ee (vs:List V)(H:Hp)(Q:VK)(E':XK):Prop
 |mk (n p m:Int)(h1:vs=[.int n,.int p,.int m])(h2:0 < p)(h3:0 < m)(h4: ∀r,0<=r->r < m->Q (.int r) H):Ee vs H Q E'
def zS:aW ["_law_number","_law_prime","_law_many"] ["_law_number","_law_prime","_law_many"] (ax (top 44)):={}
def Cb (T:Txt K mg):eW P w K mg base "_law_draw" 1 ["_law_number","_law_prime","_law_many"] Ee:=by
 refine T.BH.fv (k:=0) zS (fun f cO A outer s H vs Q E hr h=>?_)
 ·obtain⟨n,p,m,rfl,hp,hm,k⟩:=h;refine⟨_,(au (a9 (aQ b0 (aQ b0 (aQ jr (pv 0) ai) (pv 1)) (pv 2)))),?_⟩;refine⟨_,rfl,_,_,rfl,rfl,.inr ⟨by decide,by decide⟩,_,rfl,_,_,rfl,rfl,hp,_,rfl,_,_,rfl,rfl,hm,?_⟩;exact k _ (ko _ (by lia)) (qj _ hm)
inductive vA (K:Frag)(vs:List V)(H:Hp)(Q:VK)(E':XK):Prop
 |mk (a:Addr)(cs:List Int)(h1:vs=[.ref a])(h2:bw K H a (cs.map V.int))(h3: ∀(pn:Addr) (names:List Str) (H':Hp),aE H H'->H' pn=some (.lst (names.map V.str))->names≠[]->names.length<=6->Q (.ref pn) H'):vA K vs H Q E'
def nv:aW ["_law_cells","_law_spot","_law_made"] ["_law_cells"] (ax (top 48)):={}
def oT (T:Txt K mg):eW P w K mg base "_law_people" 1 ["_law_cells"] (vA K):=by
 refine T.wZ.fv (k:=0) nv (fun f cO A outer s H vs Q E hr h=>?_)
 ·obtain⟨a,cs,rfl,hS,k⟩:=h;have nd:=nv.nd;refine⟨_,(ah (sv 1 nd (aQ b0 (aQ jB (eN (lA rfl) (by rfl) T.BK boot_sum (aa (qA VC (pv 0) yW (qz ai)) av)) ai) ai))
(ah (sv 2 nd (bQ (aa (bQ (aa aV (aa aV (aa aV av)))) (aa (bQ (aa aV (aa aV (aa aV av)))) av))))
(ah (bK (pS (pv 2) (bQ (aa (aQ zh aV ai) (aa (aQ uH (aQ uH (aQ zh aV (pv 1)) aV) (aQ zh aV (aQ eI ai (pv 1)))) (aa aV av))))))
(au (a9 (xl (aQ lY (pv 2) (bQ (aa (bQ (aa aV (aa aV (aa aV (aa aV (aa aV (aa aV av))))))) av))) (aQ b0 (aQ jB (eN (lA rfl) (by rfl) T.BK boot_sum (aa (qA VC (pv 0) yW (qz ai)) av)) ai) ai))))))),?_⟩
  refine⟨_,rfl,_,rfl,a,_,rfl,hS,fun p1 n1=>?_⟩;obtain⟨ds,ed,_⟩:=Tj cs none (some 1);rw[ed];have s1:aE H (upd H p1 (.lst (ds.map V.int))):=aE.new n1;refine⟨p1,ds,rfl,bw.of ag,_,_,rfl,rfl,⟨by decide,by decide⟩,_,_,rfl,rfl,(by show(0:Int) < 60; decide),?_⟩;obtain⟨sp,VF,ya⟩:=zR (ds.sum / 28) 60 (by decide);show _;generalize upd H p1 (.lst (ds.map V.int))=H1 at s1 ⊢;refine⟨(by show 3<=sizeLine; decide),fun p2 n2=>⟨(by show 3<=sizeLine; decide),fun p3 n3=>⟨(by show 2<=sizeLine; decide),fun p4 n4=>?_⟩⟩⟩;have t2:=aE.new (o:= .lst [V.str "ann",.str "",.str "bo"]) n2;have t3:=aE.new (o:= .lst [V.str "ann",.str "ann lee",.str "Ann"]) n3;have t4:=aE.new (o:= .lst [V.ref p2,.ref p3]) n4;have s4:=((s1.trans t2).trans t3).trans t4;have g2:=(t3.trans t4) _ _ (ag (H:=H1) (a:=p2) (o:= .lst [V.str "ann",.str "",.str "bo"]));have g3:=t4 _ _ (ag (H:=upd H1 p2 (.lst [V.str "ann",.str "",.str "bo"])) (a:=p3) (o:= .lst [V.str "ann",.str "ann lee",.str "Ann"]));have g4:=ag (H:=upd (upd H1 p2 (.lst [V.str "ann",.str "",.str "bo"])) p3 (.lst [V.str "ann",.str "ann lee",.str "Ann"])) (a:=p4) (o:= .lst [V.ref p2,.ref p3]);have m4:H p4=none:=((s1.trans t2).trans t3).free n4;generalize upd (upd (upd H1 p2 (.lst [V.str "ann",.str "",.str "bo"])) p3 (.lst [V.str "ann",.str "ann lee",.str "Ann"])) p4 (.lst [V.ref p2,.ref p3])=H4 at s4 g2 g3 g4 ⊢;clear t2 t3 t4;refine⟨_,rfl,.inl ⟨rfl,_,bw.of g4⟩,?_⟩;refine⟨_,_,rfl,rfl,rfl,(by decide),(by decide),fun z1 hz1=>?_⟩;refine⟨_,rfl,_,_,rfl,rfl,rfl,(by rw[VF]; lia),(by rw[VF]; lia),fun z2 hz2=>?_⟩;refine⟨_,_,rfl,rfl,df (jd (by show z2.length + 1<=_; lia)),?_⟩;refine⟨_,rfl,_,_,rfl,rfl,_,_,rfl,rfl,rfl,(by rw[VF]; lia),(by rw[VF]; lia),fun z3 hz3=>?_⟩;refine⟨_,_,rfl,rfl,df (jd (by
   have:(z2 ++ ("y":Str)).length=z2.length + 1:=by
    show(z2.cps ++ _).size=_;rw[Array.size_append]; rfl
   rw[this]; lia)),?_⟩
  refine⟨(by show 3<=sizeLine; decide),fun p5 n5=>?_⟩;generalize (z2 ++ ("y":Str)) ++ z3=z4;have t5:=aE.new (o:= .lst [V.str z1,.str z4,.str " ~"]) n5;refine⟨p4,_,_,rfl,rfl,t5 _ _ g4,(by show 2 < sizeLine; decide),?_⟩;have s5:aE H (upd (upd H4 p5 (.lst [V.str z1,.str z4,.str " ~"])) p4 (.lst ([V.ref p2,.ref p3] ++ [.ref p5]))):=(s4.trans t5).cV m4;have XT:p2≠p4:=fun e=>by rw[e,g4] at g2; cases g2
  have XU:p3≠p4:=fun e=>by rw[e,g4] at g3; cases g3
  have XW:p5≠p4:=(aK g4 n5).symm;have j2:upd (upd H4 p5 (.lst [V.str z1,.str z4,.str " ~"])) p4 (.lst ([V.ref p2,.ref p3] ++ [.ref p5])) p2=some (.lst [V.str "ann",.str "",.str "bo"]):=by rw[aA XT]; exact t5 _ _ g2
  have j3:upd (upd H4 p5 (.lst [V.str z1,.str z4,.str " ~"])) p4 (.lst ([V.ref p2,.ref p3] ++ [.ref p5])) p3=some (.lst [V.str "ann",.str "ann lee",.str "Ann"]):=by rw[aA XU]; exact t5 _ _ g3
  have j5:upd (upd H4 p5 (.lst [V.str z1,.str z4,.str " ~"])) p4 (.lst ([V.ref p2,.ref p3] ++ [.ref p5])) p5=some (.lst [V.str z1,.str z4,.str " ~"]):=by rw[aA XW]; exact ag
  have j4:upd (upd H4 p5 (.lst [V.str z1,.str z4,.str " ~"])) p4 (.lst ([V.ref p2,.ref p3] ++ [.ref p5])) p4=some (.lst ([V.ref p2,.ref p3] ++ [.ref p5])):=ag;generalize upd (upd H4 p5 (.lst [V.str z1,.str z4,.str " ~"])) p4 (.lst ([V.ref p2,.ref p3] ++ [.ref p5]))=H5 at s5 j2 j3 j4 j5 ⊢;clear t5;refine⟨_,rfl,?_⟩;refine⟨(by show 6<=sizeLine; decide),fun p6 n6=>⟨(by show 1<=sizeLine; decide),fun p7 n7=>?_⟩⟩;have t6:=aE.new (o:= .lst [V.str "ann",.str "",.str "bo",.str "Cy ~",.str "ann ",.str "dee"]) n6;have t7:=aE.new (o:= .lst [V.ref p6]) n7;have t67:=t6.trans t7;have j6:=t7 _ _ (ag (H:=H5) (a:=p6) (o:= .lst [V.str "ann",.str "",.str "bo",.str "Cy ~",.str "ann ",.str "dee"]));refine⟨p4,p7,_,_,rfl,rfl,t67 _ _ j4,ag,(by show 4<=sizeLine; decide),fun p8 n8=>?_⟩;have t8:=aE.new (o:= .lst (([V.ref p2,.ref p3] ++ [.ref p5]) ++ [.ref p6])) n8;have t78:=t67.trans t8;have s8:=s5.trans t78;refine⟨_,rfl,_,rfl,a,_,rfl,s8.seq hS,fun p9 n9=>?_⟩;rw[ed];have t9:=aE.new (o:= .lst (ds.map V.int)) n9;refine⟨p9,ds,rfl,bw.of ag,_,_,rfl,rfl,⟨by decide,by decide⟩,_,_,rfl,rfl,(by show(0:Int) < 4; decide),?_⟩;obtain⟨r,er,XX⟩:=zR (ds.sum / 7) 4 (by decide);have XY:r < 4:=by lia
  have fin: ∀(pn:Addr) (names:List Str),H5 pn=some (.lst (names.map V.str))∨upd (upd H5 p6 (.lst [V.str "ann",.str "",.str "bo",.str "Cy ~",.str "ann ",.str "dee"])) p7 (.lst [V.ref p6]) pn=some (.lst (names.map V.str))->names≠[]->names.length<=6->Q (.ref pn) _:=fun pn names h h1 h2=>
   k pn names _ (s8.trans t9) (by
    rcases h with h|h
    ·exact(t78.trans t9) _ _ h
    ·exact(t8.trans t9) _ _ h) h1 h2
  have VG:=t9 _ _ (ag (H:=upd (upd H5 p6 (.lst [V.str "ann",.str "",.str "bo",.str "Cy ~",.str "ann ",.str "dee"])) p7 (.lst [V.ref p6])) (a:=p8) (o:= .lst (([V.ref p2,.ref p3] ++ [.ref p5]) ++ [.ref p6])))
  match r,XY,er with
  |0,_,er=>exact⟨p8,_,_,.ref p2,rfl,rfl,bw.of VG,by show se _ (ds.sum / 7 % 4)=_; rw[er]; rfl,fin p2 [_,_,_] (.inl j2) (by simp) (by simp)⟩
  |1,_,er=>exact⟨p8,_,_,.ref p3,rfl,rfl,bw.of VG,by show se _ (ds.sum / 7 % 4)=_; rw[er]; rfl,fin p3 [_,_,_] (.inl j3) (by simp) (by simp)⟩
  |2,_,er=>exact⟨p8,_,_,.ref p5,rfl,rfl,bw.of VG,by show se _ (ds.sum / 7 % 4)=_; rw[er]; rfl,fin p5 [_,_,_] (.inl j5) (by simp) (by simp)⟩
  |3,_,er=>exact⟨p8,_,_,.ref p6,rfl,rfl,bw.of VG,by show se _ (ds.sum / 7 % 4)=_; rw[er]; rfl,fin p6 [_,_,_,_,_,_] (.inr j6) (by simp) (by simp)⟩
  |r + 4,h,_=>lia
def at4 (a b c d x:Int): ∃y,se [V.int a,V.int b,V.int c,V.int d] (x % 4)=some (V.int y):=by
 obtain⟨y,_,h⟩:=kJ (g:=V.int) (xs:=[a,b,c,d]) (m:=4) (x:=x) rfl (by decide);exact⟨y,h⟩
def at3 (a b c x:Int): ∃y,(y=a∨y=b∨y=c)/\se [V.int a,V.int b,V.int c] (x % 3)=some (V.int y):=by
 obtain⟨y,hy,h⟩:=kJ (g:=V.int) (xs:=[a,b,c]) (m:=3) (x:=x) rfl (by decide);exact⟨y,by simpa using hy,h⟩
def Cc {x:Int}(h:x<=1000000000):x<=vh:=Fd (lS h (by decide +kernel))
def XZ (a b x:Int): ∃y,(y=a∨y=b)/\se [V.int a,V.int b] (x % 2)=some (V.int y):=by
 obtain⟨y,hy,h⟩:=kJ (g:=V.int) (xs:=[a,b]) (m:=2) (x:=x) rfl (by decide);exact⟨y,by simpa using hy,h⟩
inductive vB (K:Frag)(vs:List V)(H:Hp)(Q:VK)(E':XK):Prop
 |mk (a:Addr)(cs:List Int)(i:Nat)(h1:vs=[.ref a,.int i])(h2:bw K H a (cs.map V.int))(h3:i < cs.length)(h4: ∀(p:Addr) (aC:Str) (day dN:Int) (H':Hp),aE H H'->H' p=some (.tup [.str aC,.int day,.int dN])->day<=vh->Q (.ref p) H'):vB K vs H Q E'
def ny:aW ["_law_cells","_law_k","_law_cell","_law_rest","_law_names","_law_who","_law_day","_law_amount"] ["_law_cells","_law_k"] (ax (top 49)):={}
def xk (T:Txt K mg):eW P w K mg base "_law_penned" 2 ["_law_cells","_law_k"] (vB K):=by
 have k4:eW P w K mg base "_law_people" 1 ["_law_cells"] (vA K):=oT T;have nz:eW P w K mg base "_law_draw" 1 ["_law_number","_law_prime","_law_many"] Ee:=Cb T;refine T.w6.fv (k:=1) ny (fun f cO A outer s H vs Q E hr h=>?_)
 ·obtain⟨a,cs,i,rfl,hS,hi,k⟩:=h;have nd:=ny.nd;refine⟨_,(ah (sv 2 nd (xl (pv 0) (pv 1)))
(ah (sv 3 nd (aQ jB (pv 2) ai))
(ah (sv 4 nd (fc k4 hr (aa (pv 0) av)))
(ah (sv 5 nd (xl (pv 4) (aQ b0 (aQ cE (pv 3) (pv 1)) (mH T.dP (pv 4)))))
(ah (sv 6 nd (aQ eI (fc nz hr (aa (aQ cE (pv 2) (aQ jr ai (pv 1))) (aa ai (aa ai av)))) ai))
(ah (sv 7 nd (aQ cE ai (fc nz hr (aa (aQ cE (pv 2) (aQ jr ai (pv 1))) (aa ai (aa ai av))))))
(jc (bP (aX cG (aQ b0 (pv 2) ai) ai (a6 _))
(au (sv 7 nd (aQ cE ai (aQ jr (fc nz hr (aa (aQ cE (pv 2) (aQ jr ai (pv 1))) (aa ai (aa ai av)))) ai))))
bh)
(jc (bP (aX cG (aQ b0 (pv 2) ai) ai (a6 _))
(au (sv 7 nd (aQ cE ai (aQ b0 (pv 2) (aQ eI (aQ LR (aQ iZ ai ai) (aQ iZ ai ai)) ai)))))
bh)
(jc (bP (aX cG (aQ b0 (pv 2) ai) ai (a6 _))
(au (sv 7 nd (xl (bQ (aa ai (aa (oO kP ai) (aa (aQ iZ ai ai) (aa (aQ eI ai (aQ b0 (pv 2) (aQ iZ ai ai))) av))))) (aQ b0 (pv 3) ai))))
bh)
(jc (bP (aX cG (aQ b0 (pv 2) ai) ai (a6 _))
(au (sv 6 nd (xl (bQ (aa (aQ iZ ai ai) (aa (oO kP (aQ iZ ai ai)) (aa (aQ eI (aQ b0 (pv 2) ai) ai) av)))) (aQ b0 (pv 3) ai))))
bh)
(jc (bP (aX cG (aQ b0 (pv 2) ai) ai (a6 _))
(au (sv 6 nd (aQ jr (aQ b0 (pv 2) (aQ iZ ai ai)) (xl (bQ (aa ai (aa (oO kP ai) av))) (aQ b0 (pv 1) ai)))))
bh)
(au (a9 (cK (aa (pv 5) (aa (pv 6) (aa (pv 7) av))))))))))))))))),?_⟩
  refine⟨_,rfl,_,rfl,a,_,_,.int (cs.getD i 0),rfl,rfl,hS,pV hi,?_⟩;generalize cs.getD i 0=cell;refine⟨_,rfl,_,_,rfl,rfl,⟨by decide,by decide⟩,?_⟩;refine⟨_,rfl,a,cs,rfl,hS,fun pn names H1 s1 Hn hn0 hn6=>?_⟩;have Tn:0 < names.length:=List.length_pos_iff.mpr hn0;obtain⟨aC,_,To⟩:=kJ (g:=V.str) (xs:=names) (m:=((names.map V.str).length:Int)) (x:=cell / 16 + (i:Int)) (by rw[ae]) (by rw[ae]; lia);refine⟨_,rfl,_,rfl,_,rfl,_,_,rfl,rfl,_,rfl,pn,_,rfl,.inl (bw.of Hn),_,_,rfl,rfl,(by rw[ae]; show(0:Int) < _; lia),pn,_,_,.str aC,rfl,rfl,bw.of Hn,To,?_⟩;refine⟨_,rfl,_,rfl,_,_,rfl,rfl,.inl ⟨by decide,by decide⟩,_,_,rfl,rfl,_,_,_,rfl,by decide,by decide,fun r1 _ Ld=>⟨_,_,rfl,rfl,?_⟩⟩;refine⟨_,rfl,_,rfl,_,_,rfl,rfl,.inl ⟨by decide,by decide⟩,_,_,rfl,rfl,_,_,_,rfl,by decide,by decide,fun r2 _ _=>⟨_,_,rfl,rfl,?_⟩⟩;refine⟨fun σ' H'=> ∃day dN:Int,σ'=[some (.ref a),some (.int i),some (.int cell),some (.int (cell / 16)),some (.ref pn),some (.str aC),some (.int day),some (.int dN)]/\aE H H'/\day<=vh,?_,?_⟩
  ·refine⟨_,rfl,_,_,rfl,rfl,(by show(0:Int) < 7; decide),rfl,_,rfl,cu (fun c=>?_) (fun c=>⟨_,_,rfl,s1,Cc (by lia)⟩)⟩;refine⟨_,rfl,_,rfl,_,_,rfl,rfl,.inl ⟨by decide,by decide⟩,_,_,rfl,rfl,_,_,_,rfl,by decide,by decide,fun r3 _ _=>⟨_,_,rfl,rfl,.inr ⟨by decide,by decide⟩,_,_,rfl,rfl,?_⟩⟩;exact⟨_,_,rfl,s1,Cc (by lia)⟩
  rintro σ' H2 ⟨day,dN,rfl,s2,oH⟩;clear Hn To s1;refine⟨fun σ' H'=> ∃day dN:Int,σ'=[some (.ref a),some (.int i),some (.int cell),some (.int (cell / 16)),some (.ref pn),some (.str aC),some (.int day),some (.int dN)]/\aE H H'/\day<=vh,?_,?_⟩
  ·refine⟨_,rfl,_,_,rfl,rfl,(by show(0:Int) < 41; decide),rfl,_,rfl,cu (fun c=>?_) (fun c=>⟨_,_,rfl,s2,oH⟩)⟩;refine⟨_,rfl,_,_,rfl,rfl,⟨by decide,by decide,by decide⟩,_,_,rfl,rfl,⟨by decide,by decide,by decide⟩,_,_,rfl,rfl,⟨by decide +kernel,by decide +kernel⟩,_,_,rfl,rfl,_,_,rfl,rfl,(by show(0:Int) < _; decide +kernel),_,_,rfl,rfl,?_⟩;exact⟨_,_,rfl,s2,oH⟩
  rintro σ' H3 ⟨day,dN,rfl,s3,oH⟩;refine⟨fun σ' H'=> ∃day dN:Int,σ'=[some (.ref a),some (.int i),some (.int cell),some (.int (cell / 16)),some (.ref pn),some (.str aC),some (.int day),some (.int dN)]/\aE H H'/\day<=vh,?_,?_⟩
  ·refine⟨_,rfl,_,_,rfl,rfl,(by show(0:Int) < 41; decide),rfl,_,rfl,cu (fun c=>?_) (fun c=>⟨_,_,rfl,s3,oH⟩)⟩;refine⟨_,rfl,_,_,rfl,rfl,⟨by decide,by decide,by decide⟩,_,rfl,_,_,rfl,rfl,⟨by decide,by decide,by decide⟩,_,_,rfl,rfl,(by show(0:Int) < _; decide +kernel),_,_,rfl,rfl,(by show 4<=sizeLine; decide),fun p4 n4=>?_⟩;obtain⟨y,hy⟩:=at4 0 (-1) (10 ^ (12:Int).toNat) (0 - cell % 10 ^ (60:Int).toNat) (cell / 16);refine⟨_,rfl,_,_,rfl,rfl,(by show(0:Int) < 4; decide),p4,_,_,.int y,rfl,rfl,bw.of ag,hy,?_⟩;exact⟨_,_,rfl,s3.trans (aE.new n4),oH⟩
  rintro σ' H4 ⟨day,dN,rfl,s4,oH⟩;refine⟨fun σ' H'=> ∃day dN:Int,σ'=[some (.ref a),some (.int i),some (.int cell),some (.int (cell / 16)),some (.ref pn),some (.str aC),some (.int day),some (.int dN)]/\aE H H'/\day<=vh,?_,?_⟩
  ·refine⟨_,rfl,_,_,rfl,rfl,(by show(0:Int) < 43; decide),rfl,_,rfl,cu (fun c=>?_) (fun c=>⟨_,_,rfl,s4,oH⟩)⟩;refine⟨_,_,rfl,rfl,⟨by decide,by decide,by decide⟩,_,_,rfl,rfl,⟨by decide,by decide,by decide⟩,_,rfl,_,rfl,_,_,rfl,rfl,(by show(0:Int) < 2001; decide),_,_,rfl,rfl,(by show 3<=sizeLine; decide),fun p4 n4=>?_⟩;obtain⟨y,hy3,hy⟩:=at3 (10 ^ (9:Int).toNat) (-(10 ^ (9:Int).toNat)) (cell % 2001 - 1000) (cell / 16);refine⟨_,rfl,_,_,rfl,rfl,(by show(0:Int) < 3; decide),p4,_,_,.int y,rfl,rfl,bw.of ag,hy,?_⟩;refine⟨_,_,rfl,s4.trans (aE.new n4),?_⟩;rcases hy3 with rfl|rfl|rfl
   ·exact Cc (by decide +kernel)
   ·exact Cc (by decide +kernel)
   ·exact Cc (by lia)
  rintro σ' H5 ⟨day,dN,rfl,s5,oH⟩;refine⟨fun σ' H'=> ∃day dN:Int,σ'=[some (.ref a),some (.int i),some (.int cell),some (.int (cell / 16)),some (.ref pn),some (.str aC),some (.int day),some (.int dN)]/\aE H H'/\day<=vh,?_,?_⟩
  ·refine⟨_,rfl,_,_,rfl,rfl,(by show(0:Int) < 43; decide),rfl,_,rfl,cu (fun c=>?_) (fun c=>⟨_,_,rfl,s5,oH⟩)⟩;refine⟨_,rfl,_,_,rfl,rfl,⟨by decide,by decide,by decide⟩,_,_,rfl,rfl,(by show(0:Int) < _; decide +kernel),_,rfl,(by show 2<=sizeLine; decide),fun p4 n4=>?_⟩;obtain⟨y,X0,hy⟩:=XZ 1 (-1) (i:Int);refine⟨_,rfl,_,_,rfl,rfl,(by show(0:Int) < 2; decide),p4,_,_,.int y,rfl,rfl,bw.of ag,hy,_,_,rfl,rfl,.inr (by rcases X0 with rfl|rfl <;> exact⟨by decide,by decide⟩),?_⟩;refine⟨_,_,rfl,s5.trans (aE.new n4),?_⟩;have m1:0<=cell % 10 ^ (60:Int).toNat:=ko _ (by decide +kernel);have m2:cell % 10 ^ (60:Int).toNat < 10 ^ 60:=qj _ (by decide +kernel);have m3:(0:Int)<=10 ^ 60:=by decide +kernel
   refine Fd ?_;generalize (10:Int) ^ 60=b60 at m2 m3 ⊢;rcases X0 with rfl|rfl <;> lia
  rintro σ' H6 ⟨day,dN,rfl,s6,oH⟩;refine⟨_,rfl,_,rfl,_,rfl,(by show 3<=sizeLine; decide),fun p n=>?_⟩;exact k p aC day dN _ (s6.trans (aE.new n)) ag oH
def fZ {H:Hp}{a:Addr}{o o':HO}:upd (upd H a o) a o'=upd H a o':=by
 funext b
 by_cases h:b=a
 ·rw[h,ag,ag]
 ·rw[aA h,aA h,aA h]
def pl {f:Str}{v:V}{fs:List (Str×V)}{n:Nat}(h:fs.length<=n):(eF f v fs).length<=n + 1:=a0 (mP f v fs) (Nat.add_le_add_right h 1)
def Cd:([]:List (Str×V)).length<=0:=aI _
def lt1000 {fs:List (Str×V)}{n:Nat}(h:fs.length<=n)(k:n < 1000):fs.length < 1000:=qh h k
def JV (n:Nat)(r:Rw):eF "amount" (.int r.c) (eF "due" (.int r.b) (eF "day" (.int r.a) (eF "who" (.str r.aC) (eF "number" (.int n) []))))=fz n r:=by rfl
def JW (n:Nat)(r:Rw):eF "only" (tf r.c) (eF "amount" (.int r.b) (eF "day" (.int r.a) (eF "who" (.str r.aC) (eF "number" (.int n) []))))=fe n r:=by rfl
inductive zT (A:d8)(vs:List V)(H:Hp)(Q:VK)(E':XK):Prop
 |mk (x dx:Addr)(n:Nat)(r:Rw)(h1:vs=[.ref x,.int n,.str r.aC,.int r.a,.int r.b,.int r.c])(h2:H x=some (.ins A.dW dx []))(h3:Q .eu (upd H x (.ins A.dW dx (fz n r)))):zT A vs H Q E'
def Mv:aW ["self","number","who","day","due","amount"] ["self","number","who","day","due","amount"] (ax (mem 13 0)):={}
def Pu {A:d8}(G:jD K mg A):tY P w K mg base "Bill" A.dW 1 ["self","number","who","day","due","amount"] (zT A):=by
 refine Mt (k:=0) G.Mn G.Mm Mv (fun f cO A' outer s H vs Q E hr h=>?_)
 ·obtain⟨x,dx,n,r,rfl,hx,k⟩:=h;refine⟨_,(ah (l8 (pv 0) (pv 1))
(ah (l8 (pv 0) (pv 2))
(ah (l8 (pv 0) (pv 3))
(ah (l8 (pv 0) (pv 4))
(au (l8 (pv 0) (pv 5))))))),?_⟩
  refine⟨_,rfl,_,rfl,x,_,dx,_,rfl,hx,G.ee,G.eQ,lt1000 Cd (by decide),?_⟩;refine⟨_,rfl,_,rfl,x,_,dx,_,rfl,ag,G.ee,G.kI,lt1000 (pl Cd) (by decide),?_⟩;refine⟨_,rfl,_,rfl,x,_,dx,_,rfl,ag,G.ee,G.m9,lt1000 (pl (pl Cd)) (by decide),?_⟩;refine⟨_,rfl,_,rfl,x,_,dx,_,rfl,ag,G.ee,G.ng,lt1000 (pl (pl (pl Cd))) (by decide),?_⟩;refine⟨_,rfl,_,rfl,x,_,dx,_,rfl,ag,G.ee,G.ni,lt1000 (pl (pl (pl (pl Cd)))) (by decide),?_⟩;rw[fZ,fZ,fZ,fZ,JV];exact k
inductive zU (A:d8)(vs:List V)(H:Hp)(Q:VK)(E':XK):Prop
 |mk (x dx:Addr)(n:Nat)(r:Rw)(h1:vs=[.ref x,.int n,.str r.aC,.int r.a,.int r.b,tf r.c])(h2:H x=some (.ins A.d9 dx []))(h3:Q .eu (upd H x (.ins A.d9 dx (fe n r)))):zU A vs H Q E'
def Ho:aW ["self","number","who","day","amount","only"] ["self","number","who","day","amount","only"] (ax (mem 14 0)):={}
def JX {A:d8}(G:jD K mg A):tY P w K mg base "Credit" A.d9 1 ["self","number","who","day","amount","only"] (zU A):=by
 refine Mt (k:=0) G.Hf G.He Ho (fun f cO A' outer s H vs Q E hr h=>?_)
 ·obtain⟨x,dx,n,r,rfl,hx,k⟩:=h;refine⟨_,(ah (l8 (pv 0) (pv 1))
(ah (l8 (pv 0) (pv 2))
(ah (l8 (pv 0) (pv 3))
(ah (l8 (pv 0) (pv 4))
(au (l8 (pv 0) (pv 5))))))),?_⟩
  refine⟨_,rfl,_,rfl,x,_,dx,_,rfl,hx,G.c9,G.eL,lt1000 Cd (by decide),?_⟩;refine⟨_,rfl,_,rfl,x,_,dx,_,rfl,ag,G.c9,G.kZ,lt1000 (pl Cd) (by decide),?_⟩;refine⟨_,rfl,_,rfl,x,_,dx,_,rfl,ag,G.c9,G.je,lt1000 (pl (pl Cd)) (by decide),?_⟩;refine⟨_,rfl,_,rfl,x,_,dx,_,rfl,ag,G.c9,G.lH,lt1000 (pl (pl (pl Cd))) (by decide),?_⟩;refine⟨_,rfl,_,rfl,x,_,dx,_,rfl,ag,G.c9,G.j7,lt1000 (pl (pl (pl (pl Cd)))) (by decide),?_⟩;rw[fZ,fZ,fZ,fZ,JW];exact k
inductive zV (A:d8)(vs:List V)(H:Hp)(Q:VK)(E':XK):Prop
 |mk (pw:Addr)(S:Bk)(f:eK)(c b:Nat)(x:Int)(h1:vs=[.ref pw,.int c,.int b,.int x])(h2:dH A H pw S f)(h3:c < S.credits.length)(h4:b < S.aF.length)(h5:S.made.length < sizeLine)(h6: ∀H',Frame f.fp H H'->dH A H' pw (S.put c b x) f->Q .eu H'):zV A vs H Q E'
def Ce:aW ["self","credit_number","bill_number","amount"] ["self","credit_number","bill_number","amount"] (ax (mem 25 8)):={}
def Mw {rows:List Rw}{i:Nat}(h:i < rows.length):se (rows.map fun r=>V.int r.d) (i:Int)=some (.int (rows.getD i default).d):=cf (by
 rw[aB,aj,af h]; rfl)
def Nz {A:d8}(G:jD K mg A):gX sf P w K mg base A.work "put" 1 ["self","credit_number","bill_number","amount"] (zV A):=by
 refine Ms (k:=0) G.BZ G.bJ Ce (fun f cO A' outer s H vs Q E hr h=>?_)
 ·obtain⟨pw,S,g,c,b,x,rfl,hW,hc,hb,hz,k⟩:=h;obtain⟨dw,hw⟩:=hW.obj;obtain⟨ms,m1,m2⟩:=hW.hm;obtain⟨e1,e2,e3,e4,e5,e6,e7,e8,e9,Nx⟩:=eK.ne hW.nd;have nw: ∀q∈g.fp,pw≠q:=fun q hq z=>hW.ins hW.obj (z▸hq);have w3:=nw g.pl (by simp[eK.fp]);have w4:=nw g.pf (by simp[eK.fp]);refine⟨_,(ah (lV (aQ eI (xl (kz (pv 0)) (pv 1)) (pv 3)) (rX (kz (pv 0)) (pv 1) set_list))
(ah (lV (aQ eI (xl (kz (pv 0)) (pv 2)) (pv 3)) (rX (kz (pv 0)) (pv 2) set_list))
(au (bK (pS (kz (pv 0)) (cK (aa (pv 1) (aa (pv 2) (aa (pv 3) av))))))))),?_⟩
  refine⟨_,rfl,pw,_,dw,_,_,rfl,hw,G.bJ,G.fB,lG g,_,rfl,g.pf,_,_,_,rfl,rfl,bw.of hW.hf,Mw hc,_,rfl,_,_,rfl,rfl,?_⟩;refine⟨_,rfl,pw,_,dw,_,_,rfl,hw,G.bJ,G.fB,lG g,_,rfl,g.pf,_,_,c,rfl,rfl,hW.hf,uj (by rw[ae]; exact hc),?_⟩;have Tp:upd H g.pf (.lst ((S.credits.map fun r=>V.int r.d).set c (.int ((S.cr c).d - x)))) pw=some (.ins A.work dw (lE g)):=by rw[aA w4]; exact hw
  have Le:upd H g.pf (.lst ((S.credits.map fun r=>V.int r.d).set c (.int ((S.cr c).d - x)))) g.pl=some (.lst (S.aF.map fun r=>V.int r.d)):=by rw[aA e8]; exact hW.hl
  refine⟨_,rfl,pw,_,dw,_,_,rfl,Tp,G.bJ,G.fA,lF g,_,rfl,g.pl,_,_,_,rfl,rfl,bw.of Le,Mw hb,_,rfl,_,_,rfl,rfl,?_⟩;refine⟨_,rfl,pw,_,dw,_,_,rfl,Tp,G.bJ,G.fA,lF g,_,rfl,g.pl,_,_,b,rfl,rfl,Le,uj (by rw[ae]; exact hb),?_⟩;have Q7:upd (upd H g.pf (.lst ((S.credits.map fun r=>V.int r.d).set c (.int ((S.cr c).d - x))))) g.pl (.lst ((S.aF.map fun r=>V.int r.d).set b (.int ((S.bl b).d - x)))) pw=some (.ins A.work dw (lE g)):=by rw[aA w3]; exact Tp
  have Tq:upd (upd H g.pf (.lst ((S.credits.map fun r=>V.int r.d).set c (.int ((S.cr c).d - x))))) g.pl (.lst ((S.aF.map fun r=>V.int r.d).set b (.int ((S.bl b).d - x)))) g.pm=some (.lst ms):=by rw[aA e9.symm,aA Nx.symm]; exact m1
  refine⟨_,rfl,pw,_,dw,_,_,rfl,Q7,G.bJ,G.md,Ft g,.inl ⟨rfl,_,bw.of Tq⟩,_,rfl,_,rfl,_,rfl,(by show 3<=sizeLine; decide),fun p8 n8=>?_⟩;have n8':H p8=none:=by
   by_cases z1:p8=g.pl
   ·rw[z1,ag] at n8; cases n8
   ·rw[aA z1] at n8;by_cases z2:p8=g.pf
    ·rw[z2,ag] at n8; cases n8
    ·rw[aA z2] at n8; exact n8
  refine⟨g.pm,ms,_,rfl,rfl,aE.new n8 _ _ Tq,by rw[← aL m2]; exact hz,?_⟩;obtain⟨W,F⟩:=hW.put (x:=x) hc hb m1 m2 n8';exact k _ F W
end
end eJ
namespace L2
open PySem PySem.Spec PySem.W PyProof.Rows
section
variable {A:d8}{H H':Hp}{pw x:Addr}{S:Bk}{f:eK}{r:Rw}
def eK.iu (f:eK)(p:Addr):eK:={f with ix:=f.ix ++ [p]}
def eK.fN (f:eK)(p:Addr):eK:={f with cps:=f.cps ++ [p]}
def dH.iu (h:dH A H pw S f)(hx:eD H x A.dW (fz S.aF.length r)):
  dH A (upd (upd H f.pb (.lst (f.ix.map V.ref ++ [.ref x]))) f.pl (.lst ((S.aF.map fun r=>V.int r.d) ++ [.int r.d]))) pw (S.iu r) (f.iu x)/\Frame f.fp H (upd (upd H f.pb (.lst (f.ix.map V.ref ++ [.ref x]))) f.pl (.lst ((S.aF.map fun r=>V.int r.d) ++ [.int r.d]))):=by
 obtain⟨e1,e2,e3,e4,e5,e6,e7,e8,e9,Nx⟩:=eK.ne h.nd;have F:Frame f.fp H (upd (upd H f.pb (.lst (f.ix.map V.ref ++ [.ref x]))) f.pl (.lst ((S.aF.map fun r=>V.int r.d) ++ [.int r.d]))):=(Frame.upd (by simp[eK.fp])).tr (Frame.upd (by simp[eK.fp]));refine⟨?_,F⟩;obtain⟨o1,o2,o3⟩:=h.objs F;have tk:=h.tk F;obtain⟨ms,m1,m2⟩:=h.hm;have t: ∀q,q≠f.pb->q≠f.pl->upd (upd H f.pb (.lst (f.ix.map V.ref ++ [.ref x]))) f.pl (.lst ((S.aF.map fun r=>V.int r.d) ++ [.int r.d])) q=H q:=fun q z1 z2=>by rw[aA z2,aA z1]
 refine⟨o1,?_,?_,?_,?_,⟨ms,?_,m2.mono tk⟩,o2.add (hx.frame F (h.ins hx)),o3,h.nd⟩
 ·show upd (upd H f.pb _) f.pl _ f.pb=some (.lst ((f.ix ++ [x]).map V.ref));rw[aA e2,ag,aJ]; rfl
 ·exact(t f.pc e1.symm e5).trans h.hc
 ·show upd (upd H f.pb _) f.pl _ f.pl=some (.lst ((S.aF ++ [r]).map fun r=>V.int r.d));rw[ag,aJ]; rfl
 ·exact(t f.pf e3.symm e8.symm).trans h.hf
 ·exact(t f.pm e4.symm e9.symm).trans m1
def dH.fN (h:dH A H pw S f)(hx:eD H x A.d9 (fe S.credits.length r)):
  dH A (upd (upd H f.pc (.lst (f.cps.map V.ref ++ [.ref x]))) f.pf (.lst ((S.credits.map fun r=>V.int r.d) ++ [.int r.d]))) pw (S.fN r) (f.fN x)/\Frame f.fp H (upd (upd H f.pc (.lst (f.cps.map V.ref ++ [.ref x]))) f.pf (.lst ((S.credits.map fun r=>V.int r.d) ++ [.int r.d]))):=by
 obtain⟨e1,e2,e3,e4,e5,e6,e7,e8,e9,Nx⟩:=eK.ne h.nd;have F:Frame f.fp H (upd (upd H f.pc (.lst (f.cps.map V.ref ++ [.ref x]))) f.pf (.lst ((S.credits.map fun r=>V.int r.d) ++ [.int r.d]))):=(Frame.upd (by simp[eK.fp])).tr (Frame.upd (by simp[eK.fp]));refine⟨?_,F⟩;obtain⟨o1,o2,o3⟩:=h.objs F;have tk:=h.tk F;obtain⟨ms,m1,m2⟩:=h.hm;have t: ∀q,q≠f.pc->q≠f.pf->upd (upd H f.pc (.lst (f.cps.map V.ref ++ [.ref x]))) f.pf (.lst ((S.credits.map fun r=>V.int r.d) ++ [.int r.d])) q=H q:=fun q z1 z2=>by rw[aA z2,aA z1]
 refine⟨o1,?_,?_,?_,?_,⟨ms,?_,m2.mono tk⟩,o2,o3.add (hx.frame F (h.ins hx)),h.nd⟩
 ·exact(t f.pb e1 e3).trans h.hb
 ·show upd (upd H f.pc _) f.pf _ f.pc=some (.lst ((f.cps ++ [x]).map V.ref));rw[aA e6,ag,aJ]; rfl
 ·exact(t f.pl e5.symm e8).trans h.hl
 ·show upd (upd H f.pc _) f.pf _ f.pf=some (.lst ((S.credits ++ [r]).map fun r=>V.int r.d));rw[ag,aJ]; rfl
 ·exact(t f.pm e7.symm Nx.symm).trans m1
end
end L2
namespace eJ
open PySem L2 PyProof.Rows K6
seal L2.oN L2.PS L2.PE L2.PT L2.PW L2.PA L2.PC L2.PG L2.IF L2.PI L2.LK L2.K2 L2.PO L2.oA L2.Ng L2.hZ L2.I9 L2.Ni
section
variable {P:Program}{w:World}{K:Frag}{mg:Str->Option Value}{base:Heap}
def Mx (A:d8)(K:Frag)(E:XK)(t:Str)(H:Hp):Prop:= ∀C,gW K C A.refusal->(t="too much"->C=A.tooMuch)->EX E C t H
inductive JY (A:d8)(K:Frag)(vs:List V)(H:Hp)(Q:VK)(E:XK):Prop
 |mk (pw:Addr)(S:Bk)(f:eK)(n:Int)(h1:vs=[.ref pw,.int n])(h2:dH A H pw S f)(h3:(qk n S.credits.length-> ∀p,eD H p A.d9 (fe n.toNat (S.cr n.toNat))->Q (.ref p) H))(h4:(¬ qk n S.credits.length->Mx A K E "no credit" H)):JY A K vs H Q E
inductive Fu (A:d8)(K:Frag)(vs:List V)(H:Hp)(Q:VK)(E:XK):Prop
 |mk (pw:Addr)(S:Bk)(f:eK)(n:Int)(h1:vs=[.ref pw,.int n])(h2:dH A H pw S f)(h3:(qk n S.aF.length-> ∀p,eD H p A.dW (fz n.toNat (S.bl n.toNat))->Q (.ref p) H))(h4:(¬ qk n S.aF.length->Mx A K E "no bill" H)):Fu A K vs H Q E
def q0:aW ["self","number"] ["self","number"] (ax (mem 25 9)):={}
def Cf (T:Txt K mg){A:d8}(G:jD K mg A):gX (mG P w mg) P w K mg base A.work "credit_at" 4 ["self","number"] (JY A K):=by
 refine qY (k:=3) G.qX G.bJ q0 (fun f cO A' outer s H vs Q E hr mr h=>?_)
 ·obtain⟨pw,S,g,n,rfl,hW,k1,k2⟩:=h;obtain⟨dw,hw⟩:=hW.obj;have hlen:(g.cps.map V.ref).length=S.credits.length:=by rw[ae]; exact hW.rc.1
  refine⟨_,(ah (bP (PW.pt (pw_or (aX jO (pv 1) ai (a6 _)) (pw_or1 (aX IK (pv 1) (mH T.dP (kz (pv 0))) (a6 _)))))
(au (jX mr (B4 T G) (hr.h.mono (by decide)) rfl rfl))
bh)
(au (a9 (xl (kz (pv 0)) (pv 1))))),?_⟩
  have no: ¬ qk n S.credits.length-> ∀dx,H dx=none->E (.ref A.jZ) (some dx) (upd H dx (.xd [("text",.str "no credit")])):=fun z dx hd=>(k2 z A.jZ G.tj (fun q=>absurd q (by decide +kernel))).at hd;refine⟨_,rfl,_,_,rfl,rfl,_,rfl,cu (fun z=>fF (no fun q=>?_)) (fun z=>?_)⟩
  ·have z':n < 0:=aM z;have:=q.1;lia
  have z1: ¬ n < 0:=fun q=>z (aG q);refine⟨_,rfl,_,rfl,pw,_,dw,_,_,rfl,hw,G.bJ,G.cD,g9 g,g.pc,_,rfl,.inl (bw.of hW.hc),_,_,rfl,rfl,_,rfl,cu (fun z=>no fun q=>?_) (fun z=>?_)⟩
  ·have z':((g.cps.map V.ref).length:Int)<=n:=aM z;have:=q.2;lia
  have z2: ¬ ((g.cps.map V.ref).length:Int)<=n:=fun q=>z (aG q);have jV:qk n S.credits.length:=⟨by lia,by lia⟩;obtain⟨c,rfl⟩:=cv jV.1;have hc:c < S.credits.length:=by have:=jV.2; lia
  obtain⟨p,X1,tR⟩:=hW.rc.get hc;refine⟨_,rfl,pw,_,dw,_,_,rfl,hw,G.bJ,G.cD,g9 g,_,rfl,g.pc,_,_,.ref p,rfl,rfl,bw.of hW.hc,cf (by rw[aB,X1]; rfl),?_⟩;exact k1 jV p tR
def ua:aW ["self","number"] ["self","number"] (ax (mem 25 10)):={}
def yu (T:Txt K mg){A:d8}(G:jD K mg A):gX (mG P w mg) P w K mg base A.work "bill_at" 4 ["self","number"] (Fu A K):=by
 refine qY (k:=3) G.tX G.bJ ua (fun f cO A' outer s H vs Q E hr mr h=>?_)
 ·obtain⟨pw,S,g,n,rfl,hW,k1,k2⟩:=h;obtain⟨dw,hw⟩:=hW.obj;have hlen:(g.ix.map V.ref).length=S.aF.length:=by rw[ae]; exact hW.rb.1
  refine⟨_,(ah (bP (PW.pt (pw_or (aX jO (pv 1) ai (a6 _)) (pw_or1 (aX IK (pv 1) (mH T.dP (kz (pv 0))) (a6 _)))))
(au (jX mr (Hj T G) (hr.h.mono (by decide)) rfl rfl))
bh)
(au (a9 (xl (kz (pv 0)) (pv 1))))),?_⟩
  have no: ¬ qk n S.aF.length-> ∀dx,H dx=none->E (.ref A.pT) (some dx) (upd H dx (.xd [("text",.str "no bill")])):=fun z dx hd=>(k2 z A.pT G.yq (fun q=>absurd q (by decide +kernel))).at hd;refine⟨_,rfl,_,_,rfl,rfl,_,rfl,cu (fun z=>fF (no fun q=>?_)) (fun z=>?_)⟩
  ·have z':n < 0:=aM z;have:=q.1;lia
  have z1: ¬ n < 0:=fun q=>z (aG q);refine⟨_,rfl,_,rfl,pw,_,dw,_,_,rfl,hw,G.bJ,G.dY,jl g,g.pb,_,rfl,.inl (bw.of hW.hb),_,_,rfl,rfl,_,rfl,cu (fun z=>no fun q=>?_) (fun z=>?_)⟩
  ·have z':((g.ix.map V.ref).length:Int)<=n:=aM z;have:=q.2;lia
  have z2: ¬ ((g.ix.map V.ref).length:Int)<=n:=fun q=>z (aG q);have jV:qk n S.aF.length:=⟨by lia,by lia⟩;obtain⟨c,rfl⟩:=cv jV.1;have hc:c < S.aF.length:=by have:=jV.2; lia
  obtain⟨p,X1,tR⟩:=hW.rb.get hc;refine⟨_,rfl,pw,_,dw,_,_,rfl,hw,G.bJ,G.dY,jl g,_,rfl,g.pb,_,_,.ref p,rfl,rfl,bw.of hW.hb,cf (by rw[aB,X1]; rfl),?_⟩;exact k1 jV p tR
def Tr (A:d8)(Q:VK)(H:Hp)(pw:Addr)(f:eK)(S':Bk)(v:V):Prop:= ∀f' H',f'.fp=f.fp->Frame f.fp H H'->dH A H' pw S' f'->Q v H'
inductive uk (A:d8)(K:Frag)(vs:List V)(H:Hp)(Q:VK)(E:XK):Prop
 |mk (pw:Addr)(S:Bk)(f:eK)(aC:Str)(day dN only:Int)(h1:vs=[.ref pw,.str aC,.int day,.int dN,tf only])(h2:dH A H pw S f)(h3:S.credits.length<=900)(h4:(1<=dN->Tr A Q H pw f (S.fN ⟨aC,day,dN,only,dN⟩) (.int S.credits.length)))(h5:(dN < 1->Mx A K E "no amount" H)):uk A K vs H Q E
def jx:aW ["self","who","day","amount","only","number"] ["self","who","day","amount","only"] (ax (mem 25 4)):={}
def lI {H:Hp}{x dx C:Addr}{fs:List (Str×V)}(nx:H x=none)(nd:H dx=none)(ne:dx≠x):aE H (upd (upd H dx (.own x)) x (.ins C dx fs)):=(aE.new nd).trans (aE.new (by rw[aA ne.symm]; exact nx))
def oU (T:Txt K mg){A:d8}(G:jD K mg A):gX (mG P w mg) P w K mg base A.work "tell_credit" 5 ["self","who","day","amount","only"] (uk A K):=by
 have gz:vy P w K mg base "check_amount" 4 ["amount"] (qZ A):=j8 T G;have JZ:tY P w K mg base "Credit" A.d9 1 ["self","number","who","day","amount","only"] (zU A):=JX G;refine qY (k:=4) G.oF G.bJ jx (fun f cO A' outer s H vs Q E hr mr h=>?_)
 ·obtain⟨pw,S,g,aC,day,dN,only,rfl,hW,hl,k1,k2⟩:=h;have nd:=jx.nd;obtain⟨dw,hw⟩:=hW.obj;have hlen:(g.cps.map V.ref).length=S.credits.length:=by rw[ae]; exact hW.rc.1
  refine⟨_,(ah (bK (sy gz (hr.mono (by decide)) rfl mr.pass (aa (pv 3) av)))
(ah (sv 5 nd (mH T.dP (kz (pv 0))))
(ah (bK (pS (kz (pv 0)) (Ti JZ (hr.mono (by decide)) rfl (aa (pv 5) (aa (pv 1) (aa (pv 2) (aa (pv 3) (aa (pv 4) av))))))))
(ah (bK (pS (kz (pv 0)) (pv 3)))
(au (a9 (pv 5))))))),?_⟩
  refine⟨_,rfl,dN,rfl,fun h1=>?_,fun h2=>k2 h2 A.iI G.kH (fun q=>absurd q (by decide +kernel))⟩;refine⟨_,rfl,pw,_,dw,_,_,rfl,hw,G.bJ,G.cD,g9 g,g.pc,_,rfl,.inl (bw.of hW.hc),?_⟩;refine⟨_,rfl,pw,_,dw,_,_,rfl,hw,G.bJ,G.cD,g9 g,.inl ⟨rfl,_,bw.of hW.hc⟩,_,rfl,_,rfl,_,rfl,_,rfl,_,rfl,fun x dx nx JT ne=>?_⟩;refine⟨x,dx,(g.cps.map V.ref).length,⟨aC,day,dN,only,dN⟩,rfl,ag,rfl,?_⟩;rw[fZ,hlen];have s1:=lI (C:=A.d9) (fs:=fe S.credits.length ⟨aC,day,dN,only,dN⟩) nx JT ne;have hx:eD (upd (upd H dx (.own x)) x (.ins A.d9 dx (fe S.credits.length ⟨aC,day,dN,only,dN⟩))) x A.d9 (fe S.credits.length ⟨aC,day,dN,only,dN⟩):=⟨dx,ag⟩;generalize upd (upd H dx (.own x)) x (.ins A.d9 dx (fe S.credits.length ⟨aC,day,dN,only,dN⟩))=H3 at s1 hx;have zW:=hW.same s1;obtain⟨W4,F4⟩:=zW.fN hx;refine⟨g.pc,_,_,rfl,rfl,zW.hc,bf (by lia),?_⟩;have ew:pw≠g.pc:=fun z=>zW.ins zW.obj (z▸(by simp[eK.fp]));obtain⟨e1,e2,e3,e4,e5,e6,e7,e8,e9,Nx⟩:=eK.ne zW.nd;refine⟨_,rfl,pw,_,dw,_,_,rfl,(by rw[aA ew]; exact s1 _ _ hw),G.bJ,G.fB,lG g,.inl ⟨rfl,_,bw.of (by rw[aA e6.symm]; exact zW.hf)⟩,_,rfl,g.pf,_,_,rfl,rfl,(by rw[aA e6.symm]; exact zW.hf),bf (by rw[ae]; lia),?_⟩;refine⟨_,rfl,?_⟩;exact k1 h1 (g.fN x) _ rfl (F4.l9 s1) W4
inductive zX (A:d8)(K:Frag)(vs:List V)(H:Hp)(Q:VK)(E:XK):Prop
 |mk (pw:Addr)(S:Bk)(f:eK)(aC:Str)(day AY dN:Int)(h1:vs=[.ref pw,.str aC,.int day,.int AY,.int dN])(h2:dH A H pw S f)(h3:S.aF.length<=900)(h4:(S.bar (.dW aC day AY dN)=""->Tr A Q H pw f (S.enter (.dW aC day AY dN)) (.int S.aF.length)))(h5:(S.bar (.dW aC day AY dN)≠""->Mx A K E (S.bar (.dW aC day AY dN)) H)):zX A K vs H Q E
def kK:aW ["self","who","day","due","amount","number"] ["self","who","day","due","amount"] (ax (mem 25 1)):={}
def Cg (T:Txt K mg){A:d8}(G:jD K mg A):gX (mG P w mg) P w K mg base A.work "tell_bill" 5 ["self","who","day","due","amount"] (zX A K):=by
 have gz:vy P w K mg base "check_amount" 4 ["amount"] (qZ A):=j8 T G;have Pw:tY P w K mg base "Bill" A.dW 1 ["self","number","who","day","due","amount"] (zT A):=Pu G;refine qY (k:=4) G.qU G.bJ kK (fun f cO A' outer s H vs Q E hr mr h=>?_)
 ·obtain⟨pw,S,g,aC,day,AY,dN,rfl,hW,hl,k1,k2⟩:=h;have nd:=kK.nd;obtain⟨dw,hw⟩:=hW.obj;have oJ:S.bar (.dW aC day AY dN)=(if dN < 1 then("no amount":Str) else if AY < day then("too early":Str) else("":Str)):=rfl;rw[oJ] at k1 k2;have hlen:(g.ix.map V.ref).length=S.aF.length:=by rw[ae]; exact hW.rb.1
  refine⟨_,(ah (bK (sy gz (hr.mono (by decide)) rfl mr.pass (aa (pv 4) av)))
(ah (bP (aX jO (pv 3) (pv 2) (a6 _))
(au (jX mr (Ca T G) (hr.h.mono (by decide)) rfl rfl))
bh)
(ah (sv 5 nd (mH T.dP (kz (pv 0))))
(ah (bK (pS (kz (pv 0)) (Ti Pw (hr.mono (by decide)) rfl (aa (pv 5) (aa (pv 1) (aa (pv 2) (aa (pv 3) (aa (pv 4) av))))))))
(ah (bK (pS (kz (pv 0)) (pv 4)))
(au (a9 (pv 5)))))))),?_⟩
  refine⟨_,rfl,dN,rfl,fun h1=>?_,fun h2=>?_⟩
  ·have n1': ¬ dN < 1:=by lia
   rw[aO n1'] at k1 k2;refine⟨_,rfl,_,rfl,_,_,rfl,rfl,_,rfl,cu (fun z=>?_) (fun z=>?_)⟩
   ·have z':AY < day:=aM z;rw[aZ z'] at k2;exact fun dx n=>(k2 (by decide +kernel) A.tooEarly G.tq (fun q=>absurd q (by decide +kernel))).at n
   have z': ¬ AY < day:=fun q=>z (aG q);rw[aO z'] at k1;refine⟨_,rfl,pw,_,dw,_,_,rfl,hw,G.bJ,G.dY,jl g,g.pb,_,rfl,.inl (bw.of hW.hb),?_⟩;refine⟨_,rfl,pw,_,dw,_,_,rfl,hw,G.bJ,G.dY,jl g,.inl ⟨rfl,_,bw.of hW.hb⟩,_,rfl,_,rfl,_,rfl,_,rfl,_,rfl,fun x dx nx JT ne=>?_⟩;refine⟨x,dx,(g.ix.map V.ref).length,⟨aC,day,AY,dN,dN⟩,rfl,ag,rfl,?_⟩;rw[fZ,hlen];have s1:=lI (C:=A.dW) (fs:=fz S.aF.length ⟨aC,day,AY,dN,dN⟩) nx JT ne;have hx:eD (upd (upd H dx (.own x)) x (.ins A.dW dx (fz S.aF.length ⟨aC,day,AY,dN,dN⟩))) x A.dW (fz S.aF.length ⟨aC,day,AY,dN,dN⟩):=⟨dx,ag⟩;generalize upd (upd H dx (.own x)) x (.ins A.dW dx (fz S.aF.length ⟨aC,day,AY,dN,dN⟩))=H3 at s1 hx;have zW:=hW.same s1;obtain⟨W4,F4⟩:=zW.iu hx;refine⟨g.pb,_,_,rfl,rfl,zW.hb,bf (by lia),?_⟩;have ew:pw≠g.pb:=fun z=>zW.ins zW.obj (z▸(by simp[eK.fp]));obtain⟨e1,e2,e3,e4,e5,e6,e7,e8,e9,Nx⟩:=eK.ne zW.nd;refine⟨_,rfl,pw,_,dw,_,_,rfl,(by rw[aA ew]; exact s1 _ _ hw),G.bJ,G.fA,lF g,.inl ⟨rfl,_,bw.of (by rw[aA e2.symm]; exact zW.hl)⟩,_,rfl,g.pl,_,_,rfl,rfl,(by rw[aA e2.symm]; exact zW.hl),bf (by rw[ae]; lia),?_⟩;refine⟨_,rfl,?_⟩;exact k1 rfl (g.iu x) _ rfl (F4.l9 s1) W4
  ·rw[aZ h2] at k2;exact k2 (by decide +kernel) A.iI G.kH (fun q=>absurd q (by decide +kernel))
def nA (g:eK):(lE g).lookup ("tell_credit":Str)=none:=by rfl
def vC (g:eK):(lE g).lookup ("bill_at":Str)=none:=by rfl
def zY (g:eK):(lE g).lookup ("credit_at":Str)=none:=by rfl
def J0 (g:eK):(lE g).lookup ("put":Str)=none:=by rfl
inductive zZ (A:d8)(K:Frag)(vs:List V)(H:Hp)(Q:VK)(E:XK):Prop
 |mk (pw:Addr)(S:Bk)(f:eK)(aC:Str)(day dN:Int)(h1:vs=[.ref pw,.str aC,.int day,.int dN])(h2:dH A H pw S f)(h3:S.credits.length<=900)(h4:(S.bar (.qK aC day dN)=""->Tr A Q H pw f (S.enter (.qK aC day dN)) (.int S.credits.length)))(h5:(S.bar (.qK aC day dN)≠""->Mx A K E (S.bar (.qK aC day dN)) H)):zZ A K vs H Q E
def nE:aW ["self","who","day","amount"] ["self","who","day","amount"] (ax (mem 25 2)):={}
def vF (T:Txt K mg){A:d8}(G:jD K mg A):gX (mG P w mg) P w K mg base A.work "tell_payment" 6 ["self","who","day","amount"] (zZ A K):=by
 have k6:gX (mG P w mg) P w K mg base A.work "tell_credit" 5 ["self","who","day","amount","only"] (uk A K):=oU T G;refine qY (k:=5) G.nj G.bJ nE (fun f cO A' outer s H vs Q E hr mr h=>?_)
 ·obtain⟨pw,S,g,aC,day,dN,rfl,hW,hl,k1,k2⟩:=h;obtain⟨dw,hw⟩:=hW.obj;have oJ:S.bar (.qK aC day dN)=(if dN < 1 then("no amount":Str) else("":Str)):=rfl;rw[oJ] at k1 k2;refine⟨_,(au (a9 (nu k6 (hr.mono (by decide)) mr.pass (pv 0) (aa (pv 1) (aa (pv 2) (aa (pv 3) (aa Du av))))))),?_⟩;refine⟨_,rfl,pw,dw,_,rfl,hw,nA g,_,rfl,_,rfl,_,rfl,pw,S,g,aC,day,dN,-1,rfl,hW,hl,fun h1=>?_,fun h2=>?_⟩
  ·rw[aO (by lia)] at k1;exact k1 rfl
  ·rw[aZ h2] at k2;exact k2 (by decide +kernel)
inductive z5 (A:d8)(K:Frag)(vs:List V)(H:Hp)(Q:VK)(E:XK):Prop
 |mk (pw:Addr)(S:Bk)(f:eK)(b day dN:Int)(h1:vs=[.ref pw,.int b,.int day,.int dN])(h2:dH A H pw S f)(h3:S.credits.length<=900)(h4:(S.bar (.note b day dN)=""->Tr A Q H pw f (S.enter (.note b day dN)) (.int S.credits.length)))(h5:(S.bar (.note b day dN)≠""->Mx A K E (S.bar (.note b day dN)) H)):z5 A K vs H Q E
def kM:aW ["self","bill_number","day","amount","bill"] ["self","bill_number","day","amount"] (ax (mem 25 3)):={}
def Ci (T:Txt K mg){A:d8}(G:jD K mg A):gX (mG P w mg) P w K mg base A.work "tell_note" 6 ["self","bill_number","day","amount"] (z5 A K):=by
 have k6:gX (mG P w mg) P w K mg base A.work "tell_credit" 5 ["self","who","day","amount","only"] (uk A K):=oU T G;have sC:gX (mG P w mg) P w K mg base A.work "bill_at" 4 ["self","number"] (Fu A K):=yu T G;refine qY (k:=5) G.qV G.bJ kM (fun f cO A' outer s H vs Q E hr mr h=>?_)
 ·obtain⟨pw,S,g,b,day,dN,rfl,hW,hl,k1,k2⟩:=h;have nd:=kM.nd;obtain⟨dw,hw⟩:=hW.obj;rw[vd] at k1 k2;refine⟨_,(ah (sv 4 nd (nu sC (hr.mono (by decide)) mr.pass (pv 0) (aa (pv 1) av)))
(au (a9 (nu k6 (hr.mono (by decide)) mr.pass (pv 0) (aa (kz (pv 4)) (aa (pv 2) (aa (pv 3) (aa (pv 1) av)))))))),?_⟩
  refine⟨_,rfl,pw,dw,_,rfl,hw,vC g,_,rfl,pw,S,g,b,rfl,hW,fun jV p hp=>?_,fun hn=>?_⟩
  ·obtain⟨dp,Ts⟩:=hp;have zb: ¬ ¬ qk b S.aF.length:=fun z=>z jV;rw[aO zb] at k1 k2;have ho:tf b=V.int b:=aO (fun z=>by have:=jV.1; lia);refine⟨_,rfl,pw,dw,_,rfl,hw,nA g,_,rfl,p,_,dp,_,_,rfl,Ts,G.ee,G.kI,D4 _ _,_,rfl,_,rfl,_,rfl,pw,S,g,(S.bl b.toNat).aC,day,dN,b,(by rw[ho]; rfl),hW,hl,fun h1=>?_,fun h2=>?_⟩
   ·rw[aO (by lia)] at k1;exact k1 rfl
   ·rw[aZ h2] at k2;exact k2 (by decide +kernel)
  ·rw[aZ hn] at k2;exact k2 (by decide +kernel)
def yw {S:Bk}{n c b:Nat}(wf:WF S n)(hc:c < S.credits.length)(hb:b < S.aF.length):oS (S.cr c) (S.bl b) b=S.dO c b:=by
 unfold oS Bk.dO;by_cases z:(S.cr c).c= -1
 ·rw[aZ z,aG z,Bool.true_or,Bool.and_true]
 ·rw[aO z,ba z,Bool.false_or];rcases wf.o c hc with q|⟨b',e1,e2,e3⟩
  ·exact absurd q z
  ·by_cases y:(S.cr c).c=(b:Int)
   ·have:b'=b:=by lia
    subst this;rw[aG y,aG e3]; rfl
   ·rw[ba y,hV]
inductive J1 (A:d8)(K:Frag)(vs:List V)(H:Hp)(Q:VK)(E:XK):Prop
 |mk (pw:Addr)(S:Bk)(f:eK)(n:Nat)(ci bi dN:Int)(h1:vs=[.ref pw,.int ci,.int bi,.int dN])(h2:dH A H pw S f)(h3:WF S n)(h4:S.made.length < sizeLine)(h5:(S.bar (.set ci bi dN)=""->Tr A Q H pw f (S.enter (.set ci bi dN)) (.int dN)))(h6:(S.bar (.set ci bi dN)≠""->Mx A K E (S.bar (.set ci bi dN)) H)):J1 A K vs H Q E
def jy:aW ["self","credit_number","bill_number","amount","credit","bill"] ["self","credit_number","bill_number","amount"] (ax (mem 25 5)):={}
def xm (T:Txt K mg){A:d8}(G:jD K mg A):gX (mG P w mg) P w K mg base A.work "set_by_hand" 5 ["self","credit_number","bill_number","amount"] (J1 A K):=by
 have Cj:gX (mG P w mg) P w K mg base A.work "credit_at" 4 ["self","number"] (JY A K):=Cf T G;have sC:gX (mG P w mg) P w K mg base A.work "bill_at" 4 ["self","number"] (Fu A K):=yu T G;have J2:gX sf P w K mg base A.work "put" 1 ["self","credit_number","bill_number","amount"] (zV A):=Nz G;have Ef:eW P w K mg base "fits" 1 ["credit","bill"] (zQ A):=JU T G;have gz:vy P w K mg base "check_amount" 4 ["amount"] (qZ A):=j8 T G;refine qY (k:=4) G.oG G.bJ jy (fun f cO A' outer s H vs Q E hr mr h=>?_)
 ·obtain⟨pw,S,g,n,ci,bi,dN,rfl,hW,wf,hz,k1,k2⟩:=h;have nd:=jy.nd;obtain⟨dw,hw⟩:=hW.obj;rw[zo] at k1 k2;refine⟨_,(ah (sv 4 nd (nu Cj (hr.mono (by decide)) mr.pass (pv 0) (aa (pv 1) av)))
(ah (sv 5 nd (nu sC (hr.mono (by decide)) mr.pass (pv 0) (aa (pv 2) av)))
(ah (bP (jM (gf (fc Ef hr (aa (pv 4) (aa (pv 5) av)))))
(au (jX mr (zN T G) (hr.h.mono (by decide)) rfl rfl))
bh)
(ah (bK (sy gz (hr.mono (by decide)) rfl mr.pass (aa (pv 3) av)))
(ah (bP (PW.pt (pw_or (aX jh (pv 3) (xl (kz (pv 0)) (pv 1)) (a6 _)) (pw_or1 (aX jh (pv 3) (xl (kz (pv 0)) (pv 2)) (a6 _)))))
(au (jX mr (Ec T G) (hr.h.mono (by decide)) rfl rfl))
bh)
(ah (bK (nu J2 (hr.mono (by decide)) mT (pv 0) (aa (pv 1) (aa (pv 2) (aa (pv 3) av)))))
(au (a9 (pv 3))))))))),?_⟩
  refine⟨_,rfl,pw,dw,_,rfl,hw,zY g,_,rfl,pw,S,g,ci,rfl,hW,fun ic p hp=>?_,fun hn=>?_⟩
  case refine_2=>
   rw[aZ hn] at k2;exact k2 (by decide +kernel)
  have zc: ¬ ¬ qk ci S.credits.length:=fun z=>z ic;rw[aO zc] at k1 k2;refine⟨_,rfl,pw,dw,_,rfl,hw,vC g,_,rfl,pw,S,g,bi,rfl,hW,fun ib q hq=>?_,fun hn=>?_⟩
  case refine_2=>
   rw[aZ hn] at k2;exact k2 (by decide +kernel)
  have zb: ¬ ¬ qk bi S.aF.length:=fun z=>z ib;rw[aO zb] at k1 k2;obtain⟨c,rfl⟩:=cv ic.1;obtain⟨b,rfl⟩:=cv ib.1;have hc:c < S.credits.length:=by have:=ic.2; lia
  have hb:b < S.aF.length:=by have:=ib.2; lia
  rw[dm] at hp hq k1 k2;rw[dm] at k1 k2;have hfg:=yw wf hc hb;refine⟨_,rfl,_,rfl,p,q,c,b,_,_,rfl,hp,hq,_,rfl,?_⟩;rw[hfg];refine cu (fun z=>?_) (fun z=>?_)
  ·have z':S.dO c b=false:=by simpa using z
   rw[aZ z'] at k2;exact fun dx nn=>(k2 (by decide +kernel) A.jJ G.qS (fun q=>absurd q (by decide +kernel))).at nn
  have zg: ¬ S.dO c b=false:=by simpa using z
  rw[aO zg] at k1 k2;refine⟨_,rfl,dN,rfl,fun h1=>?_,fun h2=>?_⟩
  case refine_2=>
   rw[aZ h2] at k2;exact k2 (by decide +kernel) A.iI G.kH (fun q=>absurd q (by decide +kernel))
  rw[aO (by lia: ¬ dN < 1)] at k1 k2;have Tt:gJ (S.cr c).d (S.bl b).d < dN-> ∀dx,H dx=none->E (.ref A.tooMuch) (some dx) (upd H dx (.xd [("text",.str "too much")])):=fun z dx nn=>by
   rw[aZ z] at k2;exact(k2 (by decide +kernel) A.tooMuch G.pU (fun _=>rfl)).at nn
  refine⟨_,rfl,_,rfl,pw,_,dw,_,_,rfl,hw,G.bJ,G.fB,lG g,_,rfl,g.pf,_,_,_,rfl,rfl,bw.of hW.hf,Mw hc,_,_,rfl,rfl,_,rfl,cu (fun z=>fF (Tt ?_)) (fun z=>?_)⟩
  ·have z':(S.cr c).d < dN:=aM z;unfold gJ;split <;> lia
  have z1: ¬ (S.cr c).d < dN:=fun q=>z (aG q);refine⟨_,rfl,_,rfl,pw,_,dw,_,_,rfl,hw,G.bJ,G.fA,lF g,_,rfl,g.pl,_,_,_,rfl,rfl,bw.of hW.hl,Mw hb,_,_,rfl,rfl,_,rfl,cu (fun z=>Tt ?_) (fun z=>?_)⟩
  ·have z':(S.bl b).d < dN:=aM z;unfold gJ;split <;> lia
  have z2: ¬ (S.bl b).d < dN:=fun q=>z (aG q);have zm: ¬ gJ (S.cr c).d (S.bl b).d < dN:=by
   unfold gJ;split <;> lia
  rw[aO zm] at k1;refine⟨_,rfl,pw,dw,_,rfl,hw,J0 g,_,rfl,_,rfl,_,rfl,pw,S,g,c,b,dN,rfl,hW,hc,hb,hz,fun H2 F2 W2=>?_⟩;exact⟨_,rfl,k1 rfl g H2 rfl F2 W2⟩
def Fv:Sp:=fun vs H Q _=>vs=[]/\ ∀(sd:Addr) (f:fC) (H':Hp),aE H H'->dh H' sd Bk.new f->H sd=none->(∀b∈f.fp,H b=none)->Q (.ref sd) H'
def xn:aW [] [] (ax (top 54)):={}
def ra (T:Txt K mg):eW P w K mg base "_law_begun" 1 [] Fv:=by
 refine T.zB.fv (k:=0) xn (fun f cO A outer s H vs Q E hr h=>?_)
 ·obtain⟨rfl,k⟩:=h;refine⟨_,(au (a9 (LN (uR aV (bQ av) (uR aV (bQ av) (uR aV (bQ av) LM))) (by rfl) rfl (by simp) (by decide)))),?_⟩;intro sd Mi;refine⟨bp _,fun pb nb=>⟨bp _,fun pc nc=>⟨bp _,fun pm nm=>?_⟩⟩⟩;have t0:=aE.new (o:= .dK []) Mi;have t1:=aE.new (o:= .lst []) nb;have t2:=aE.new (o:= .lst []) nc;have t3:=aE.new (o:= .lst []) nm;have g0:=((t1.trans t2).trans t3) _ _ (ag (H:=H) (a:=sd) (o:= .dK []));have gb:=(t2.trans t3) _ _ (ag (H:=upd H sd (.dK [])) (a:=pb) (o:= .lst []));have gc:=t3 _ _ (ag (H:=upd (upd H sd (.dK [])) pb (.lst [])) (a:=pc) (o:= .lst []));have gm:=ag (H:=upd (upd (upd H sd (.dK [])) pb (.lst [])) pc (.lst [])) (a:=pm) (o:= .lst []);have nb0:=t0.free nb;have nc0:=(t0.trans t1).free nc;have X2:=((t0.trans t1).trans t2).free nm;have e1:sd≠pb:=aK ag nb;have e2:sd≠pc:=aK (t1 _ _ ag) nc;have e3:sd≠pm:=aK ((t1.trans t2) _ _ ag) nm;have e4:pb≠pc:=aK ag nc;have e5:pb≠pm:=aK (t2 _ _ ag) nm;have e6:pc≠pm:=aK ag nm;have s3:=((t0.trans t1).trans t2).trans t3;generalize upd (upd (upd (upd H sd (.dK [])) pb (.lst [])) pc (.lst [])) pm (.lst [])=H3 at g0 gb gc gm s3 ⊢;refine⟨g0,[(Sum.inr "bills",.ref pb),(Sum.inr "credits",.ref pc),(Sum.inr "made",.ref pm)],rfl,(by show 3<=15; lia),?_⟩;refine k sd ⟨pb,pc,pm,[],[]⟩ _ (s3.cV Mi) ⟨?_,by rw[aA e1.symm]; exact gb,by rw[aA e2.symm]; exact gc,⟨[],by rw[aA e3.symm]; exact gm,.nil⟩,.nil,.nil,?_,?_⟩ Mi ?_
  ·rw[ag,OX]; rfl
  ·simp[fC.fp,e4,e5,e6]
  ·simp[fC.fp,e1,e2,e3]
  ·intro b hb;simp only[fC.fp,List.append_nil,List.mem_cons,List.not_mem_nil,or_false] at hb;rcases hb with rfl|rfl|rfl
   ·exact nb0
   ·exact nc0
   ·exact X2
inductive z6 (vs:List V)(H:Hp)(Q:VK)(E':XK):Prop
 |mk (sd:Addr)(S:Bk)(f:fC)(c b:Nat)(h1:vs=[.ref sd,.int c,.int b])(h2:dh H sd S f)(h3:c < S.credits.length)(h4:b < S.aF.length)(h5: ∀H',aE H H'->Q (.bl (S.dO c b)) H'):z6 vs H Q E'
def rg:aW ["_law_state","_law_credit","_law_bill","_law_one"] ["_law_state","_law_credit","_law_bill"] (ax (top 55)):={}
def tu (T:Txt K mg):eW P w K mg base "_law_goes" 1 ["_law_state","_law_credit","_law_bill"] z6:=by
 refine T.BI.fv (k:=0) rg (fun f cO A outer s H vs Q E hr h=>?_)
 ·obtain⟨sd,S,g,c,b,rfl,hB,hc,hb,k⟩:=h;have hu:=jP hr;have nd:=rg.nd;obtain⟨p,_,ap,hp⟩:=hB.lc hc;obtain⟨q,_,aq,hq⟩:=hB.lb hb;refine⟨_,(ah (sv 3 nd (xl (cA hu (pv 0) aV (fun _ _=>rfl)) (pv 1)))
(au (a9 (mN (eA cG (xl (pv 3) ai) (xl (xl (cA hu (pv 0) aV (fun _ _=>rfl)) (pv 2)) ai) (a6 _)) (lU (eA nY (xl (pv 3) ai) (bQ (aa (oO kP ai) (aa (pv 2) av))) (by rfl))))))),?_⟩
  refine⟨_,rfl,sd,_,rfl,hB.gC,_,rfl,g.pc,_,_,.ref p,rfl,rfl,bw.of hB.hc,ap,?_⟩;refine⟨_,rfl,p,_,_,.str (S.cr c).aC,rfl,rfl,bw.of hp,rfl,_,rfl,sd,_,rfl,hB.gB,_,rfl,g.pb,_,_,.ref q,rfl,rfl,bw.of hB.hb,aq,q,_,_,.str (S.bl b).aC,rfl,rfl,bw.of hq,rfl,rfl,_,rfl,cu (fun d=>?_) (fun d=>?_)⟩
  ·have d':(S.cr c).aC=(S.bl b).aC:=by have:=aM d; injection this
   refine⟨_,rfl,p,_,_,.int (S.cr c).c,rfl,rfl,bw.of hp,rfl,_,rfl,_,rfl,(by show 2<=sizeLine; decide),fun p9 n9=>?_⟩;refine⟨p9,_,rfl,.inl (bw.of ag),rfl,rfl,?_⟩;have e:S.dO c b=wK (V.int (S.cr c).c) [V.int (-1),V.int (b:Int)]:=by
    unfold Bk.dO;rw[aG d',Bool.true_and];rw[oo];simp[wK,LG];lia
   have q9:=k _ (aE.new (o:= .lst [V.int (-1),V.int (b:Int)]) n9);rw[e] at q9;exact q9
  ·have d': ¬ (S.cr c).aC=(S.bl b).aC:=fun z=>d (aG (by rw[z]));have e:S.dO c b=false:=by
    unfold Bk.dO;rw[ba d',qq]
   have q9:=k H (aE.refl _);rw[e] at q9;exact q9
def jE {A:Hp->Prop}{H H':Hp}(e:H=H')(h:A H'):A H:=e▸h
inductive Ck (vs:List V)(H:Hp)(Q:VK)(E':XK):Prop
 |mk (sd:Addr)(S:Bk)(f:fC)(c b:Nat)(x:Int)(h1:vs=[.ref sd,.int c,.int b,.int x])(h2:dh H sd S f)(h3:c < S.credits.length)(h4:b < S.aF.length)(h5:S.made.length < sizeLine)(h6: ∀H',Frame f.fp H H'->dh H' sd (S.put c b x) f->Q .eu H'):Ck vs H Q E'
def tw:aW ["_law_state","_law_credit","_law_bill","_law_amount"] ["_law_state","_law_credit","_law_bill","_law_amount"] (ax (top 56)):={}
def vG (T:Txt K mg):eW P w K mg base "_law_put" 1 ["_law_state","_law_credit","_law_bill","_law_amount"] Ck:=by
 refine T.D3.fv (k:=0) tw (fun f cO A outer s H vs Q E hr h=>?_)
 ·obtain⟨sd,S,g,c,b,x,rfl,hB,hc,hb,hz,k⟩:=h;have hu:=jP hr;have nd:=tw.nd;obtain⟨p,pi,ap,hp⟩:=hB.lc hc;refine⟨_,(ah (lV (aQ eI (xl (xl (cA hu (pv 0) aV (fun _ _=>rfl)) (pv 1)) ai) (pv 3)) (rX (xl (cA hu (pv 0) aV (fun _ _=>rfl)) (pv 1)) ai set_list))
(ah (lV (aQ eI (xl (xl (cA hu (pv 0) aV (fun _ _=>rfl)) (pv 2)) ai) (pv 3)) (rX (xl (cA hu (pv 0) aV (fun _ _=>rfl)) (pv 2)) ai set_list))
(au (bK (pS (cA hu (pv 0) aV (fun _ _=>rfl)) (cK (aa (pv 1) (aa (pv 2) (aa (pv 3) av))))))))),?_⟩
  refine⟨_,rfl,sd,_,rfl,hB.gC,_,rfl,g.pc,_,_,.ref p,rfl,rfl,bw.of hB.hc,ap,p,_,_,.int (S.cr c).d,rfl,rfl,bw.of hp,rfl,_,rfl,_,_,rfl,rfl,?_⟩;refine⟨_,rfl,sd,_,rfl,hB.gC,_,rfl,g.pc,_,_,.ref p,rfl,rfl,bw.of hB.hc,ap,p,_,4,4,rfl,rfl,hp,rfl,?_⟩;have B1:=hB.setC (r:=(S.cr c).less x) pi ⟨_,hp⟩;have F1:Frame g.fp H (upd H p (.lst ((S.cr c).less x).vs)):=Frame.upd (by have:=List.mem_of_getElem? pi; simp[fC.fp,this]);refine jE (H':=upd H p (.lst ((S.cr c).less x).vs)) rfl ?_;generalize upd H p (.lst ((S.cr c).less x).vs)=H1 at B1 F1 ⊢;obtain⟨q,qi,aq,hq⟩:=B1.lb (b:=b) hb
  change H1 q=some (.lst (S.bl b).vs) at hq
  refine⟨_,rfl,sd,_,rfl,B1.gB,_,rfl,g.pb,_,_,.ref q,rfl,rfl,bw.of B1.hb,aq,q,_,_,.int (S.bl b).d,rfl,rfl,bw.of hq,rfl,_,rfl,_,_,rfl,rfl,?_⟩;refine⟨_,rfl,sd,_,rfl,B1.gB,_,rfl,g.pb,_,_,.ref q,rfl,rfl,bw.of B1.hb,aq,q,_,4,4,rfl,rfl,hq,rfl,?_⟩;have B2:=B1.setB (r:=(S.bl b).less x) qi ⟨_,hq⟩;have F2:Frame g.fp H1 (upd H1 q (.lst ((S.bl b).less x).vs)):=Frame.upd (by have:=List.mem_of_getElem? qi; simp[fC.fp,this]);refine jE (H':=upd H1 q (.lst ((S.bl b).less x).vs)) rfl ?_;generalize upd H1 q (.lst ((S.bl b).less x).vs)=H2 at B2 F2 ⊢;obtain⟨ms,m1,m2⟩:=B2.hm;refine⟨_,rfl,sd,_,rfl,B2.gM,.inl ⟨rfl,_,bw.of m1⟩,_,rfl,_,rfl,_,rfl,(by show 3<=sizeLine; decide),fun p8 n8=>?_⟩;have t8:=aE.new (o:= .tup [V.int c,.int b,.int x]) n8;refine⟨g.pm,ms,_,rfl,rfl,t8 _ _ m1,?_,?_⟩
  ·rw[← aL m2];exact hz
  ·refine k _ ((F1.tr F2).tr ((t8.frame).tr (Frame.upd (by simp[fC.fp])))) ?_;exact(B2.same t8).Xl (t:=(c,b,x)) (t8 _ _ m1) (m2.mono t8.tk) ag
def Fw (x:Int×Nat):List Int:=[x.1,(x.2:Int)]
def Cm (rows:List Rw)(aC:Str)(key:Rw->Int)(i:Nat):List (Int×Nat):=
 ((List.range i).filter fun k=>decide ((rows.getD k default).aC=aC) && decide (0 < (rows.getD k default).d)).map fun k=>(key (rows.getD k default),k)
def My {rows:List Rw}{aC:Str}{key:Rw->Int}{i:Nat}(h:(rows.getD i default).aC=aC)(h2:0 < (rows.getD i default).d):Cm rows aC key (i + 1)=Cm rows aC key i ++ [(key (rows.getD i default),i)]:=by
 unfold Cm;rw[oy,f9,aJ]
 congr 1
 rw[bS (by rw[aG h,aG h2]; rfl)];rfl
def Px {rows:List Rw}{aC:Str}{key:Rw->Int}{i:Nat}(h: ¬ ((rows.getD i default).aC=aC/\0 < (rows.getD i default).d)):Cm rows aC key (i + 1)=Cm rows aC key i:=by
 unfold Cm;rw[List.range_succ,List.filter_append,List.map_append,List.filter_cons_of_neg (by simpa using h)];simp
def Py {rows:List Rw}{aC:Str}{key:Rw->Int}{i:Nat}: ∀x∈Cm rows aC key i,x.2 < i:=by
 intro x hx;obtain⟨k,hk,rfl⟩:=bG.mp hx;exact cS.mp (dJ.mp hk).1
def Pz {rows:List Rw}{aC:Str}{key:Rw->Int}{i:Nat}:((Cm rows aC key i).map (·.2)).Nodup:=by
 unfold Cm;rw[dB];have e:((fun x:Int×Nat=>x.2) ∘ fun k=>(key (rows.getD k default),k))=id:=rfl;rw[e,tP];exact jv.filter _
def z7 {rows:List Rw}{aC:Str}{key:Rw->Int}{i:Nat}:(Cm rows aC key i).length<=i:=by
 unfold Cm;rw[ae];exact a0 (a7 _ _) (by rw[dr]; exact aI _)
def um {x y:Str}(d:decide (V.str x=V.str y)=true):x=y:=by
 have:=aM d;injection this
def rh {x y:Str}(d: ¬ decide (V.str x=V.str y)=true): ¬ x=y:=fun z=>d (aG (by rw[z]))
def lJ: ∀{l:List (Int×Nat)} {x y:Int×Nat},(l.map (·.2)).Nodup->x∈l->y∈l->x.2=y.2->x=y
 |[],_,_,_,h,_,_=>by cases h
 |z :: l,x,y,nd,hx,hy,e=>by
  rw[bM,ej] at nd;rcases aw.mp hx with yl|yl
  ·rcases aw.mp hy with z8|z8
   ·rw[yl,z8]
   ·exact absurd (bG.mpr ⟨y,z8,by rw[← e,yl]⟩) nd.1
  ·rcases aw.mp hy with z8|z8
   ·exact absurd (bG.mpr ⟨x,yl,by rw[e,z8]⟩) nd.1
   ·exact lJ nd.2 yl z8 e
inductive vH (vs:List V)(H:Hp)(Q:VK)(E':XK):Prop
 |mk (p:Addr)(ps:List Addr)(rows:List Rw)(aC:Str)(z9:Int)(key:Rw->Int)(h1:vs=[.ref p,.str aC,.int z9])(h2:H p=some (.lst (ps.map V.ref)))(h3:eP H rows ps)(h4:rows.length < 64)(h5:(∀r:Rw,se r.vs z9=some (.int (key r))))(h6: ∀D H',aE H H'->H D=none->H' D=some (.lst ((inTurn rows aC key).map fun(k:Nat)=>V.int (k:Int)))->Q (.ref D) H'):vH vs H Q E'
def mv:aW ["_law_rows","_law_who","_law_spot","_law_keys","_law_k"] ["_law_rows","_law_who","_law_spot"] (ax (top 57)):={}
def vI (T:Txt K mg):eW P w K mg base "_law_in_turn" 1 ["_law_rows","_law_who","_law_spot"] vH:=by
 refine T.vv.fv (k:=0) mv (fun f cO A outer s H vs Q E hr h=>?_)
 ·obtain⟨p,ps,rows,aC,z9,key,rfl,hp,hR,hl,hk,k⟩:=h;have nd:=mv.nd;have hlen:=hR.length;refine⟨_,(ah (sv 3 nd (bQ av))
(ah (dS bu rfl (hX rfl T.kG (aa (mH T.dP (pv 0)) av)) (gn 4 nd)
(au (bP (PW.pt (pw_and (aX cG (xl (xl (pv 0) (pv 4)) ai) (pv 1) (a6 _)) (pw_and1 (aX jh (xl (xl (pv 0) (pv 4)) ai) ai (a6 _)))))
(au (bK (pS (pv 3) (cK (aa (xl (xl (pv 0) (pv 4)) (pv 2)) (aa (pv 4) av))))))
bh)))
(au (a9 (gq (tn:=["_law_key"]) (cn:=[]) (cj:=[]) rfl uh (ql (eN qJ (by rfl) T.qQ boot_sorted (aa (pv 3) av))) (fun _ _ _ _=>(ez (i:=0) (show(["_law_key"]:List Str).Nodup by decide +kernel) rfl (Or.inl rfl))) (fun _ _ _ _=>kW) (fun _ _ _ _=>(iQ (kE (K:=K) rfl) (pv 0) ai (fun _ _=>rfl)))))))),?_⟩
  refine⟨bp _,fun pk nk=>?_⟩;have s1:aE H (upd H pk (.lst [])):=aE.new nk;refine⟨_,rfl,p,_,rfl,.inl (bw.of (s1 _ _ hp)),((ps.map V.ref).length:Int),rfl,by lia,by rw[ae]; lia,?_⟩;rw[dm];refine iY (lo:=0) (n:=(ps.map V.ref).length) (fun i σ H2=> ∃(xs:List V) (x4:Option V),σ=[some (.ref p),some (.str aC),some (.int z9),some (.ref pk),x4]/\aE H H2/\H2 pk=some (.lst xs)/\gr H2 ((Cm rows aC key i).map Fw) xs)
   ⟨[],none,rfl,s1,ag,.nil⟩ ?_ ?_
  ·rintro i σ H2 hi ⟨xs,x4,rfl,s2,hx,hT⟩;rw[gS];have wN:i < rows.length:=by rw[ae] at hi; lia
   obtain⟨r,ri,Ld⟩:=hR.at wN;have ar:se (ps.map V.ref) (i:Int)=some (.ref r):=cf (by rw[aB,ri]; rfl);have tR:=s2 _ _ hp;have yx:=s2 _ _ Ld;have PB:xs.length<=i:=by
    have:=aL hT;rw[ae] at this;have:=z7 (rows:=rows) (aC:=aC) (key:=key) (i:=i);lia
   have no: ¬ ((rows.getD i default).aC=aC/\0 < (rows.getD i default).d)-> ∃(xs:List V) (x4:Option V),[some (V.ref p),some (.str aC),some (.int z9),some (.ref pk),some (.int (i:Int))]=[some (.ref p),some (.str aC),some (.int z9),some (.ref pk),x4]/\aE H H2/\H2 pk=some (.lst xs)/\gr H2 ((Cm rows aC key (i + 1)).map Fw) xs:=fun n=>
    ⟨xs,_,rfl,s2,hx,by rw[Px n]; exact hT⟩
   generalize Hq:rows.getD i default=row at yx no;refine⟨_,rfl,_,rfl,p,_,_,.ref r,rfl,rfl,bw.of tR,ar,r,_,_,.str row.aC,rfl,rfl,bw.of yx,rfl,_,rfl,rfl,_,rfl,cu (fun d1=>?_) (fun d1=>bV (no fun z=>rh d1 z.1))⟩;refine⟨_,rfl,_,rfl,p,_,_,.ref r,rfl,rfl,bw.of tR,ar,r,_,_,.int row.d,rfl,rfl,bw.of yx,rfl,_,_,rfl,rfl,_,rfl,cu (fun d2=>?_) (fun d2=>no fun z=>d2 (aG z.2))⟩;have Tu:=um d1;have X3:0 < row.d:=aM d2;refine⟨_,rfl,.inl ⟨rfl,_,bw.of hx⟩,_,rfl,_,rfl,p,_,_,.ref r,rfl,rfl,bw.of tR,ar,_,rfl,r,_,_,.int (key row),rfl,rfl,bw.of yx,hk row,_,rfl,(by show 2<=sizeLine; decide),fun p8 n8=>?_⟩;have t8:=aE.new (o:= .tup [V.int (key row),.int (i:Int)]) n8;refine⟨pk,xs,_,rfl,rfl,t8 _ _ hx,bf (by lia),xs ++ [.ref p8],_,rfl,(s2.trans t8).cV nk,ag,?_⟩;rw[My (by rw[Hq]; exact Tu) (by rw[Hq]; exact X3),aJ,Hq];exact gr.snoc (hT.mono (t8.tk.trans (fb (t8 _ _ hx)))) (dE (t8 _ _ hx) _ _ ag)
  ·rintro σ H2 ⟨xs,x4,rfl,s2,hx,hT⟩;have PB:=aL hT;have VH:=z7 (rows:=rows) (aC:=aC) (key:=key) (i:=(ps.map V.ref).length);have Fx:=Py (rows:=rows) (aC:=aC) (key:=key) (i:=(ps.map V.ref).length);have mF:(ps.map V.ref).length=rows.length:=by rw[ae]; lia
   have hle: ∀x∈Cm rows aC key (ps.map V.ref).length,x.2 < 1000:=fun x hx=>by have:=Fx x hx; lia
   have jV:inTurn rows aC key=(eB (Cm rows aC key (ps.map V.ref).length)).map (·.2):=by rw[mF]; rfl
   have hnd:=Pz (rows:=rows) (aC:=aC) (key:=key) (i:=(ps.map V.ref).length);generalize Cm rows aC key (ps.map V.ref).length=ks at hT PB VH hle jV hnd;rw[ae] at PB;refine⟨_,rfl,pk,xs,_,tW,rfl,bw.of hx,(by lia),hT,(fun t ht=>?_),(fun t ht u hu=>?_),fun D ys us nD La perm le=>?_⟩
   ·obtain⟨x,_,rfl⟩:=bG.mp ht;simp[Fw]
   ·obtain⟨x,yl,rfl⟩:=bG.mp ht;obtain⟨y,z8,rfl⟩:=bG.mp hu;refine qR (hle x yl) (hle y z8) (fun e=>⟨rfl,?_⟩) rfl;exact lJ hnd yl z8 e
   ·have R3:=sZ hle hnd (fun x _=>rfl) perm le;subst R3;have tD:=aE.new (o:= .lst ys) nD;refine⟨D,rfl,⟨_,bw.of ag⟩,?_⟩;have Fy:=La.mono tD.tk;generalize Mz:upd H2 D (.lst ys)=H3 at tD Fy;have X4:H3 D=some (.lst ys):=by rw[← Mz]; exact ag
    have s3:=s2.trans tD;clear Mz La perm le hT;have Tv:=aL Fy;refine dU (K:=K) (a:=D) (xs:=ys) (fun D' i σ H6=>H3 D'=none/\ ∃v,σ=[v]/\aE H3 H6/\H6 D'=some (.lst (((eB ks).take i).map fun x=>V.int (x.2:Int)))) (fun D' vJ=>⟨vJ,none,rfl,aE.new vJ,ag⟩) (fun D' i σ H6 _ ⟨_,_,_,t3,_⟩=>bw.of (t3 _ _ X4)) ?_ ?_
    ·rintro D' i x σ H6 Ka ⟨vJ,v,rfl,t3,gF⟩;have hi:i < (eB ks).length:=by
      have:=(ak.mp Ka).1;rw[ae] at Tv;lia
     have g0:((eB ks).map Fw)[i]? =some (Fw (eB ks)[i]):=by rw[aB,af hi]; rfl
     obtain⟨v',hv,pp,e1,zr⟩:=bB Fy g0;rw[Ka] at hv;obtain rfl:x=v':=aD hv;subst e1;have kq:=gQ hi;have xp:=t3 _ _ zr;generalize (eB ks)[i]=z at xp kq;have Iu:((eB ks).take i).length<=100:=by
      rw[bb];have:=(cL ks).length_eq;lia
     refine⟨_,rfl,pp,_,_,.int (z.2:Int),rfl,rfl,cz.of xp,rfl,_,gF,bf (by rw[ae]; lia),vJ,_,rfl,t3.cV vJ,?_⟩;rw[ag,kq,aJ];rfl
    ·rintro D' σ H6 vJ ⟨_,v,rfl,t3,gF⟩;refine k D' H6 (s3.trans t3) (s3.free vJ) ?_;rw[gF,jV,dB,Tv.symm,ae,aY];rfl
def tF {α β:Type}{F:α->β->Prop}: ∀{l₁:List α} {l₂:List β} (n:Nat),Paired F l₁ l₂->Paired F (l₁.drop n) (l₂.drop n)
 |_,_,0,h=>by rwa [List.drop_zero,List.drop_zero]
 |_,_,_ + 1,.nil=> .nil
 |_,_,n + 1,.cons _ t=>by rw[List.drop_succ_cons,List.drop_succ_cons]; exact tF n t
def Hr (xs:List V)(n:Nat)(h:n<=xs.length):qB xs (some (n:Int)) none=xs.drop n:=by
 unfold qB;rw[HT.IZ,HT.yV,Nat.min_eq_left h,List.take_of_length_le];rw[mC];exact aI _
structure Aa (H0:Hp)(sd:Addr)(S:Bk)(f:fC)(H2:Hp)(S2:Bk)(m:Nat):Prop where
 fr:Frame f.fp H0 H2
 bk:dh H2 sd S2 f
 bl:S2.aF.length=S.aF.length
 cl:S2.credits.length=S.credits.length
 ml:S2.made.length<=S.made.length + m
def Aa.put {H0:Hp}{sd:Addr}{S:Bk}{f:fC}{H2 H':Hp}{S2:Bk}{m c b:Nat}{x:Int}(I:Aa H0 sd S f H2 S2 m)(fr:Frame f.fp H2 H')(bk:dh H' sd (S2.put c b x) f):Aa H0 sd S f H' (S2.put c b x) (m + 1):=by
 refine⟨I.fr.tr fr,bk,?_,?_,?_⟩
 ·show(S2.aF.set _ _).length=_;rw[eU]; exact I.bl
 ·show(S2.credits.set _ _).length=_;rw[eU]; exact I.cl
 ·show(S2.made ++ [_]).length<=_;rw[aH];have:=I.ml;simp;lia
def Aa.up {H0:Hp}{sd:Addr}{S:Bk}{f:fC}{H2:Hp}{S2:Bk}{m n:Nat}(I:Aa H0 sd S f H2 S2 m)(h:m<=n):Aa H0 sd S f H2 S2 n:=⟨I.fr,I.bk,I.bl,I.cl,a0 I.ml (by lia)⟩
def Aa.from {H0 H1:Hp}{sd:Addr}{S:Bk}{f:fC}{H2:Hp}{S2:Bk}{m:Nat}(I:Aa H0 sd S f H2 S2 m)(s:aE H2 H1):Aa H1 sd S f H1 S2 m:=⟨Frame.refl,I.bk.same s,I.bl,I.cl,I.ml⟩
def Aa.back {H0 H1:Hp}{sd:Addr}{S:Bk}{f:fC}{H2 H3:Hp}{S2 S3:Bk}{m n:Nat}(I:Aa H0 sd S f H2 S2 m)(s:aE H2 H1)(J:Aa H1 sd S f H3 S3 n):Aa H0 sd S f H3 S3 n:=⟨(I.fr.c8 s).tr J.fr,J.bk,J.bl,J.cl,J.ml⟩
def _root_.L2.dh.uo {H:Hp}{sd D:Addr}{S:Bk}{f:fC}(h:dh H sd S f)(n:H D=none):D∉f.fp:=fun z=>by
 obtain⟨ms,m1,_⟩:=h.hm;have rows: ∀(rs:List Rw) (ps:List Addr),eP H rs ps->D∈ps->False:=fun rs ps hr hp=>by
  obtain⟨i,hi⟩:=yQ hp;have iX:i < rs.length:=by
   rw[hr.length];exact(ak.mp hi).1
  obtain⟨q,e1,e2⟩:=hr.at iX;rw[e1] at hi;cases hi;rw[n] at e2;cases e2
 unfold fC.fp at z;rcases aw.mp z with rfl|z
 ·have:=h.hb; rw[n] at this; cases this
 rcases aw.mp z with rfl|z
 ·have:=h.hc; rw[n] at this; cases this
 rcases aw.mp z with rfl|z
 ·rw[n] at m1; cases m1
 rcases bq.mp z with z|z
 ·exact rows _ _ h.rb z
 ·exact rows _ _ h.rc z
def jU (rows:List Rw)(aC:Str)(key:Rw->Int):(inTurn rows aC key).length<=rows.length:=by
 have e:inTurn rows aC key=(eB (Cm rows aC key rows.length)).map (·.2):=rfl;rw[e,ae,(cL _).length_eq];exact z7
def lK {α β:Type}(g:β->α->β)(l:List α)(s:β){i:Nat}{x:α}(h:l[i]? =some x):(l.take (i + 1)).foldl g s=g ((l.take i).foldl g s) x:=by
 rw[F9,h,rT];rfl
def _root_.L2.Frame.free {fp:List Addr}{H H':Hp}{p:Addr}(a:Frame fp H H')(h:p∉fp)(n:H' p=none):H p=none:=by
 cases e:H p with
 |none=>rfl
 |some o=>have:=a p o h e; rw[n] at this; cases this
inductive Ab (vs:List V)(H:Hp)(Q:VK)(E':XK):Prop
 |mk (sd:Addr)(S:Bk)(f:fC)(aC:Str)(h1:vs=[.ref sd,.str aC])(h2:dh H sd S f)(h3:S.credits.length < 64)(h4:S.aF.length < 64)(h5:S.made.length + 10000 < sizeLine)(h6: ∀D ms H',Frame f.fp H H'->dh H' sd (S.iR aC) f->H D=none->H' D=some (.lst ms)->il H' ((S.iR aC).made.drop S.made.length) ms->Q (.ref D) H'):Ab vs H Q E'
def oV:aW ["_law_state","_law_who","_law_many","_law_exact","_law_credit","_law_bill","_law_free","_law_left"] ["_law_state","_law_who"] (ax (top 58)):={}
def Ac (T:Txt K mg):eW P w K mg base "_law_swept" 2 ["_law_state","_law_who"] Ab:=by
 have nF:eW P w K mg base "_law_in_turn" 1 ["_law_rows","_law_who","_law_spot"] vH:=vI T;have nG:eW P w K mg base "_law_goes" 1 ["_law_state","_law_credit","_law_bill"] z6:=tu T;have pW:eW P w K mg base "_law_put" 1 ["_law_state","_law_credit","_law_bill","_law_amount"] Ck:=vG T;refine T.zC.fv (k:=1) oV (fun f cO A outer s H vs Q E hr h=>?_)
 ·obtain⟨sd,S,g,aC,rfl,hB,qP,MA,Fz,k⟩:=h;have hu:=jP hr;have nd:=oV.nd;obtain⟨ms,m1,m2⟩:=hB.hm;have X5:S.made.length=ms.length:=aL m2;refine⟨_,(ah (sv 2 nd (mH T.dP (cA hu (pv 0) aV (fun _ _=>rfl))))
(ah (dS bu rfl (ql (bQ (aa kB (aa kB av)))) (gn 3 nd)
(au (dS bu rfl (ql (fc nF hr (aa (cA hu (pv 0) aV (fun _ _=>rfl)) (aa (pv 1) (aa ai av))))) (gn 4 nd)
(au (dS bu rfl (ql (fc nF hr (aa (cA hu (pv 0) aV (fun _ _=>rfl)) (aa (pv 1) (aa ai av))))) (gn 5 nd)
(ah (sv 6 nd (xl (xl (cA hu (pv 0) aV (fun _ _=>rfl)) (pv 4)) ai))
(ah (sv 7 nd (xl (xl (cA hu (pv 0) aV (fun _ _=>rfl)) (pv 5)) ai))
(au (bP (PW.pt (pw_and (aX jh (pv 6) ai (a6 _)) (pw_and1 (gf (fc nG hr (aa (pv 0) (aa (pv 4) (aa (pv 5) av))))))))
(au (bP (PW.pt (pw_or (aX cG (pv 6) (pv 7) (a6 _)) (pw_or1 (jM (gf (pv 3))))))
(au (bK (fc pW hr (aa (pv 0) (aa (pv 4) (aa (pv 5) (aa (eN (rZ rfl) (by rfl) T.JL boot_min (aa (pv 6) (aa (pv 7) av))) av)))))))
bh))
bh)))))))))
(au (a9 (qA VC (cA hu (pv 0) aV (fun _ _=>rfl)) (qz (pv 2)) yW))))),?_⟩
  refine⟨_,rfl,sd,_,rfl,hB.gM,g.pm,_,rfl,.inl (bw.of m1),?_⟩;refine⟨(by show 2<=sizeLine; decide),fun pl nl=>⟨pl,rfl,⟨_,bw.of ag⟩,?_⟩⟩;have s1:aE H (upd H pl (.lst ([true,false].map V.bl))):=aE.new nl;have nlf:=hB.uo nl;have iN:upd H pl (.lst ([true,false].map V.bl)) pl=some (.lst ([true,false].map V.bl)):=ag;have NA:=hB.same s1;refine jE (H':=upd H pl (.lst ([true,false].map V.bl))) rfl ?_;generalize upd H pl (.lst ([true,false].map V.bl))=H1 at s1 iN NA;refine eM (K:=K) (a:=pl) (xs:=[true,false].map V.bl) (fun i σ H2=> ∃x3 x4 x5 x6 x7:Option V,σ=[some (.ref sd),some (.str aC),some (.int (ms.length:Int)),x3,x4,x5,x6,x7]/\Aa H1 sd S g H2 (([true,false].take i).foldl (bR aC) S) (i * 4096))
   ⟨none,none,none,none,none,rfl,Frame.refl,NA,rfl,rfl,Nat.le_add_right _ _⟩ (fun i σ H2 _ ⟨_,_,_,_,_,_,I⟩=>bw.of (I.fr _ _ nlf iN)) ?_ ?_
  ·rintro i x σ H2 hx ⟨x3,x4,x5,x6,x7,rfl,I⟩;rw[aB] at hx;obtain⟨ex,hex,rfl⟩:=br.mp hx;have hi:i < 2:=(ak.mp hex).1;rw[lK (bR aC) [true,false] S hex];generalize ([true,false].take i).foldl (bR aC) S=S1 at I ⊢;have c1:=I.cl;have b1:=I.bl;refine⟨_,rfl,sd,_,rfl,I.bk.gC,_,rfl,g.pc,g.cps,S1.credits,aC,1,(·.a),rfl,I.bk.hc,I.bk.rc,by lia,(fun _=>rfl),fun D1 H3 t3 n3 Hs=>?_⟩;have D1f:=I.bk.uo n3;have I3:=I.from t3;refine⟨D1,rfl,⟨_,bw.of Hs⟩,?_⟩;have hcs:(inTurn S1.credits aC (·.a)).length<=63:=by have:=jU S1.credits aC (·.a); lia
   have hcm: ∀c∈inTurn S1.credits aC (·.a),c < S.credits.length:=fun c hc=>by have:=(dk.mp hc).1; lia
   have ZO:bR aC S1 ex=(inTurn S1.credits aC (·.a)).foldl (cm aC ex) S1:=rfl;rw[ZO];generalize inTurn S1.credits aC (·.a)=cs at Hs hcs hcm;refine eM (K:=K) (a:=D1) (xs:=cs.map fun(k:Nat)=>V.int (k:Int)) (fun j σ H4=> ∃x4 x5 x6 x7:Option V,σ=[some (.ref sd),some (.str aC),some (.int (ms.length:Int)),some (.bl ex),x4,x5,x6,x7]/\Aa H3 sd S g H4 ((cs.take j).foldl (cm aC ex) S1) (i * 4096 + j * 64))
    ⟨_,_,_,_,rfl,I3.up (by lia)⟩ (fun j σ H4 _ ⟨_,_,_,_,_,J⟩=>bw.of (J.fr _ _ D1f Hs)) ?_ ?_
   ·rintro j x σ H4 hx ⟨x4,x5,x6,x7,rfl,J⟩;rw[aB] at hx;obtain⟨c,hc,rfl⟩:=br.mp hx;have acW:=hcm c (gA hc);have hj:j < cs.length:=(ak.mp hc).1;rw[lK (cm aC ex) cs S1 hc];generalize (cs.take j).foldl (cm aC ex) S1=S2 at J ⊢;have b2:=J.bl;refine⟨_,rfl,sd,_,rfl,J.bk.gB,_,rfl,g.pb,g.ix,S2.aF,aC,2,(·.b),rfl,J.bk.hb,J.bk.rb,by lia,(fun _=>rfl),fun D2 H5 t5 n5 Ht=>?_⟩;have D2f:=J.bk.uo n5;have J5:=J.from t5;refine⟨D2,rfl,⟨_,bw.of Ht⟩,?_⟩;have hbs:(inTurn S2.aF aC (·.b)).length<=63:=by have:=jU S2.aF aC (·.b); lia
    have LS: ∀b∈inTurn S2.aF aC (·.b),b < S.aF.length:=fun b hb=>by have:=(dk.mp hb).1; lia
    have rM:cm aC ex S2 c=(inTurn S2.aF aC (·.b)).foldl (bT ex c) S2:=rfl;rw[rM];generalize inTurn S2.aF aC (·.b)=bs at Ht hbs LS;refine eM (K:=K) (a:=D2) (xs:=bs.map fun(k:Nat)=>V.int (k:Int)) (fun l σ H6=> ∃x5 x6 x7:Option V,σ=[some (.ref sd),some (.str aC),some (.int (ms.length:Int)),some (.bl ex),some (.int (c:Int)),x5,x6,x7]/\Aa H5 sd S g H6 ((bs.take l).foldl (bT ex c) S2) (i * 4096 + j * 64 + l))
     ⟨_,_,_,rfl,J5.up (by lia)⟩ (fun l σ H6 _ ⟨_,_,_,_,L⟩=>bw.of (L.fr _ _ D2f Ht)) ?_ ?_
    ·rintro l x σ H6 hx ⟨x5,x6,x7,rfl,L⟩;rw[aB] at hx;obtain⟨b,hb,rfl⟩:=br.mp hx;have acZ:=LS b (gA hb);have hl:l < bs.length:=(ak.mp hb).1;rw[lK (bT ex c) bs S2 hb];generalize (bs.take l).foldl (bT ex c) S2=S3 at L ⊢;have b3:=L.bl;have c3:=L.cl;have m3:=L.ml;obtain⟨p,_,ap,hp⟩:=L.bk.lc (b:=c) (by lia);obtain⟨q,_,aq,hq⟩:=L.bk.lb (b:=b) (by lia);have no: ¬ (0 < (S3.cr c).d/\S3.dO c b=true/\((S3.cr c).d=(S3.bl b).d∨ex=false))-> ∀H7,aE H6 H7-> ∃x5 x6 x7:Option V,[some (V.ref sd),some (.str aC),some (.int (ms.length:Int)),some (.bl ex),some (.int (c:Int)),some (.int (b:Int)),some (.int (S3.cr c).d),some (.int (S3.bl b).d)]=[some (.ref sd),some (.str aC),some (.int (ms.length:Int)),some (.bl ex),some (.int (c:Int)),x5,x6,x7]/\Aa H5 sd S g H7 (bT ex c S3 b) (i * 4096 + j * 64 + (l + 1)):=fun n H7 t7=>by
      refine⟨_,_,_,rfl,?_⟩;unfold bT;rw[aO n];exact(L.back t7 (L.from t7)).up (by lia)
     refine⟨_,rfl,sd,_,rfl,L.bk.gC,_,rfl,g.pc,_,_,.ref p,rfl,rfl,bw.of L.bk.hc,ap,p,_,_,.int (S3.cr c).d,rfl,rfl,bw.of hp,rfl,?_⟩;refine⟨_,rfl,sd,_,rfl,L.bk.gB,_,rfl,g.pb,_,_,.ref q,rfl,rfl,bw.of L.bk.hb,aq,q,_,_,.int (S3.bl b).d,rfl,rfl,bw.of hq,rfl,?_⟩;refine⟨_,rfl,_,_,rfl,rfl,_,rfl,cu (fun d1=>?_) (fun d1=>bV (no (fun z=>d1 (aG z.1)) _ (aE.refl _)))⟩;have Tu:0 < (S3.cr c).d:=aM d1;refine⟨_,rfl,_,rfl,_,rfl,sd,S3,g,c,b,rfl,L.bk,by lia,by lia,fun H7 t7=>⟨_,rfl,cu (fun d2=>?_) (fun d2=>no (fun z=>d2 z.2.1) _ t7)⟩⟩;have L7:=L.bk.same t7;have Tw:((S3.cr c).d=(S3.bl b).d∨ex=false)-> ∀H',Frame g.fp H7 H'->dh H' sd (S3.put c b (gJ (S3.cr c).d (S3.bl b).d)) g-> ∃x5 x6 x7:Option V,[some (V.ref sd),some (.str aC),some (.int (ms.length:Int)),some (.bl ex),some (.int (c:Int)),some (.int (b:Int)),some (.int (S3.cr c).d),some (.int (S3.bl b).d)]=[some (.ref sd),some (.str aC),some (.int (ms.length:Int)),some (.bl ex),some (.int (c:Int)),x5,x6,x7]/\Aa H5 sd S g H' (bT ex c S3 b) (i * 4096 + j * 64 + (l + 1)):=fun z H' QY X6=>by
      refine⟨_,_,_,rfl,?_⟩;unfold bT;rw[aZ ⟨Tu,d2,z⟩];exact(L.put (t7.frame.tr QY) X6).up (by lia)
     have FA:((S3.cr c).d=(S3.bl b).d∨ex=false)->Ck [.ref sd,.int (c:Int),.int (b:Int),.int (if(S3.bl b).d < (S3.cr c).d then(S3.bl b).d else(S3.cr c).d)] H7 (fun _ H'=> ∃x5 x6 x7:Option V,[some (V.ref sd),some (.str aC),some (.int (ms.length:Int)),some (.bl ex),some (.int (c:Int)),some (.int (b:Int)),some (.int (S3.cr c).d),some (.int (S3.bl b).d)]=[some (.ref sd),some (.str aC),some (.int (ms.length:Int)),some (.bl ex),some (.int (c:Int)),x5,x6,x7]/\Aa H5 sd S g H' (bT ex c S3 b) (i * 4096 + j * 64 + (l + 1))) (fun _ _ _=>False):=fun z=>
      ⟨sd,S3,g,c,b,_,rfl,L7,by lia,by lia,by lia,fun H' QY X6=>Tw z H' QY X6⟩
     refine⟨_,rfl,_,rfl,rfl,_,rfl,cu (fun d3=>fF ?_) (fun d3=>?_)⟩
     ·have d3':(S3.cr c).d=(S3.bl b).d:=by have:=aM d3; injection this
      exact⟨_,rfl,_,rfl,_,rfl,_,rfl,_,rfl,_,_,rfl,FA (.inl d3')⟩
     ·refine⟨_,rfl,_,rfl,cu (fun d4=>?_) (fun d4=>no (fun z=>?_) _ t7)⟩
      ·have d4':ex=false:=by simpa using d4
       exact⟨_,rfl,_,rfl,_,rfl,_,rfl,_,rfl,_,_,rfl,FA (.inr d4')⟩
      ·rcases z.2.2 with z|z
       ·exact d3 (aG (by rw[z]))
       ·exact d4 (by rw[z]; rfl)
    ·rintro σ H6 ⟨x5,x6,x7,rfl,L⟩;rw[ae,aY] at L;exact⟨_,_,_,_,rfl,(J.back t5 L).up (by lia)⟩
   ·rintro σ H4 ⟨x4,x5,x6,x7,rfl,J⟩;rw[ae,aY] at J;exact⟨_,_,_,_,_,rfl,(I.back t3 J).up (by lia)⟩
  ·rintro σ H2 ⟨x3,x4,x5,x6,x7,rfl,I⟩;have W0:([true,false].take ([true,false].map V.bl).length).foldl (bR aC) S=S.iR aC:=rfl;rw[W0] at I;obtain⟨NB,k1,k2⟩:=I.bk.hm;refine⟨_,rfl,sd,_,rfl,I.bk.gM,_,rfl,_,rfl,g.pm,NB,rfl,bw.of k1,fun p np=>?_⟩;have tp:=aE.new (o:= .lst (qB NB (some (ms.length:Int)) none)) np;have hle:ms.length<=NB.length:=by
    have e0:=aL k2;obtain⟨_,l,e1,_⟩:=qM S aC;rw[e1,aH] at e0;lia
   refine k p (NB.drop ms.length) _ ((s1.frame.tr I.fr).c8 tp) (I.bk.same tp) ?_ ?_ ?_
   ·exact s1.free (Frame.free I.fr (I.bk.uo np) np)
   ·rw[ag,Hr _ _ hle]
   ·rw[X5];exact tF _ (k2.mono tp.tk)
inductive uq (A:d8)(vs:List V)(H:Hp)(Q:VK)(E':XK):Prop
 |mk (x dx:Addr)(h1:vs=[.ref x])(h2:H x=some (.ins A.work dx []))(h3: ∀f H',Frame [x] H H'->dH A H' x Bk.new f->(∀b∈f.fp,H b=none)->Q .eu H'):uq A vs H Q E'
def Kb (f:eK):eF "made" (.ref f.pm) (eF "frees" (.ref f.pf) (eF "lefts" (.ref f.pl) (eF "all_credits" (.ref f.pc) (eF "bills" (.ref f.pb) []))))=lE f:=by rfl
def Cn {H Hk:Hp}{x dx p C:Addr}{fs:List (Str×V)}{f:Str}(F:Frame [x] H Hk)(hx:Hk x=some (.ins C dx fs))(n:Hk p=none):p≠x/\H p=none/\Frame [x] H (upd (upd Hk p (.lst [])) x (.ins C dx (eF f (.ref p) fs)))/\
  upd (upd Hk p (.lst [])) x (.ins C dx (eF f (.ref p) fs)) x=some (.ins C dx (eF f (.ref p) fs))/\upd (upd Hk p (.lst [])) x (.ins C dx (eF f (.ref p) fs)) p=some (.lst [])/\
  (∀q o,q≠x->Hk q=some o->upd (upd Hk p (.lst [])) x (.ins C dx (eF f (.ref p) fs)) q=some o/\q≠p):=by
 have ne:p≠x:=(aK hx n).symm;refine⟨ne,F.free (by simpa using ne) n,(F.tr (aE.new n).frame).tr (Frame.upd (by simp)),ag,by rw[aA ne,ag],fun q o hq e=>⟨?_,aK e n⟩⟩;rw[aA hq];exact aE.new n _ _ e
def MB:aW ["self"] ["self"] (ax (mem 25 0)):={}
def Kc {A:d8}(G:jD K mg A):tY P w K mg base "Work" A.work 1 ["self"] (uq A):=by
 refine Mt (k:=0) G.Mp G.Mo MB (fun f cO A' outer s H vs Q E hr h=>?_)
 ·obtain⟨x,dx,rfl,hx,k⟩:=h;refine⟨_,(ah (l8 (pv 0) (bQ av))
(ah (l8 (pv 0) (bQ av))
(ah (l8 (pv 0) (bQ av))
(ah (l8 (pv 0) (bQ av))
(au (l8 (pv 0) (bQ av))))))),?_⟩
  have F0:Frame [x] H H:=Frame.refl;refine⟨bp _,fun p1 n1=>⟨_,rfl,x,_,dx,_,rfl,aE.new n1 _ _ hx,G.bJ,G.dY,lt1000 Cd (by decide),?_⟩⟩;obtain⟨ne1,f1,F1,x1,g1,t1⟩:=Cn (f:="bills") F0 hx n1;generalize hH1:upd (upd H p1 (.lst [])) x (.ins A.work dx (eF "bills" (.ref p1) _))=H1 at F1 x1 g1;clear hH1 t1;refine⟨bp _,fun p2 n2=>⟨_,rfl,x,_,dx,_,rfl,aE.new n2 _ _ x1,G.bJ,G.cD,lt1000 (pl Cd) (by decide),?_⟩⟩;obtain⟨ne2,f2,F2,x2,g2,t2⟩:=Cn (f:="all_credits") F1 x1 n2;obtain⟨g1,Tx⟩:=t2 p1 _ ne1 g1;generalize Vk:upd (upd H1 p2 (.lst [])) x (.ins A.work dx (eF "all_credits" (.ref p2) _))=H2 at F2 x2 g1 g2;clear Vk t2;refine⟨bp _,fun p3 n3=>⟨_,rfl,x,_,dx,_,rfl,aE.new n3 _ _ x2,G.bJ,G.fA,lt1000 (pl (pl Cd)) (by decide),?_⟩⟩;obtain⟨ne3,f3,F3,x3,g3,t3⟩:=Cn (f:="lefts") F2 x2 n3;obtain⟨g1,Tz⟩:=t3 p1 _ ne1 g1;obtain⟨g2,TB⟩:=t3 p2 _ ne2 g2;generalize Mz:upd (upd H2 p3 (.lst [])) x (.ins A.work dx (eF "lefts" (.ref p3) _))=H3 at F3 x3 g1 g2 g3;clear Mz t3;refine⟨bp _,fun p4 n4=>⟨_,rfl,x,_,dx,_,rfl,aE.new n4 _ _ x3,G.bJ,G.fB,lt1000 (pl (pl (pl Cd))) (by decide),?_⟩⟩;obtain⟨ne4,f4,F4,x4,g4,t4⟩:=Cn (f:="frees") F3 x3 n4;obtain⟨g1,TC⟩:=t4 p1 _ ne1 g1;obtain⟨g2,TF⟩:=t4 p2 _ ne2 g2;obtain⟨g3,TH⟩:=t4 p3 _ ne3 g3;generalize hH4:upd (upd H3 p4 (.lst [])) x (.ins A.work dx (eF "frees" (.ref p4) _))=H4 at F4 x4 g1 g2 g3 g4;clear hH4 t4;refine⟨bp _,fun p5 n5=>⟨_,rfl,x,_,dx,_,rfl,aE.new n5 _ _ x4,G.bJ,G.md,lt1000 (pl (pl (pl (pl Cd)))) (by decide),?_⟩⟩;obtain⟨ne5,f5,F5,x5,g5,t5⟩:=Cn (f:="made") F4 x4 n5;obtain⟨g1,TJ⟩:=t5 p1 _ ne1 g1;obtain⟨g2,TK⟩:=t5 p2 _ ne2 g2;obtain⟨g3,TL⟩:=t5 p3 _ ne3 g3;obtain⟨g4,TM⟩:=t5 p4 _ ne4 g4;refine k ⟨p1,p2,p3,p4,p5,[],[]⟩ _ F5 ⟨⟨dx,?_⟩,g1,g2,g3,g4,⟨[],g5,.nil⟩,⟨rfl,fun i p e=>by simp at e⟩,⟨rfl,fun i p e=>by simp at e⟩,?_⟩ ?_
  ·rw[x5];exact cY (fun z=>some (HO.ins A.work dx z)) (Kb ⟨p1,p2,p3,p4,p5,[],[]⟩)
  ·simp[eK.fp,Tx,Tz,TC,TJ,TB,TF,TK,TH,TL,TM]
  ·intro b hb;simp only[eK.fp,List.mem_cons,List.not_mem_nil,or_false] at hb;rcases hb with rfl|rfl|rfl|rfl|rfl
   ·exact f1
   ·exact f2
   ·exact f3
   ·exact f4
   ·exact f5
def iJ (A:d8)(H:Hp)(S:Bk)(bs:List Nat)(qs:List Addr):Prop:=Paired (fun(b:Nat) q=>eD H q A.dW (fz b (S.bl b))) bs qs
def gO (A:d8)(H:Hp)(S:Bk)(cs:List Nat)(qs:List Addr):Prop:=Paired (fun(c:Nat) q=>eD H q A.d9 (fe c (S.cr c))) cs qs
def iJ.same {A:d8}{H H':Hp}{S:Bk}{bs:List Nat}{qs:List Addr}(h:iJ A H S bs qs)(s:aE H H'):iJ A H' S bs qs:=Paired.iA h fun _ _ z=>z.same s
def gO.same {A:d8}{H H':Hp}{S:Bk}{bs:List Nat}{qs:List Addr}(h:gO A H S bs qs)(s:aE H H'):gO A H' S bs qs:=Paired.iA h fun _ _ z=>z.same s
inductive Kd (A:d8)(vs:List V)(H:Hp)(Q:VK)(E':XK):Prop
 |mk (p pt:Addr)(S:Bk)(c:Nat)(bs:List Nat)(qs:List Addr)(h1:vs=[.ref p,.ref pt])(h2:eD H p A.d9 (fe c (S.cr c)))(h3:H pt=some (.lst (qs.map V.ref)))(h4:iJ A H S bs qs)(h5:bs.length<=100)(h6: ∀D H',aE H H'->H D=none->H' D=some (.lst ((bs.map fun b=>oS (S.cr c) (S.bl b) b).map V.bl))->Q (.ref D) H'):Kd A vs H Q E'
def vK:aW ["credit","bills"] ["credit","bills"] (ax (top 27)):={}
def xq (T:Txt K mg){A:d8}(G:jD K mg A):eW P w K mg base "row_of_fits" 2 ["credit","bills"] (Kd A):=by
 have Ef:eW P w K mg base "fits" 1 ["credit","bill"] (zQ A):=JU T G;refine T.wX.fv (k:=1) vK (fun f cO A' outer s H vs Q E hr h=>?_)
 ·obtain⟨p,pt,S,c,bs,qs,rfl,hp,ur,hB,hl,k⟩:=h;have hlen:=aL hB;refine⟨_,(au (a9 (gq (tn:=["bill"]) (cn:=["credit"]) (cj:=[0]) rfl (jb (AX:=[(".0",.local),("bill",.local),("fits",.globalImplicit),("credit",.cell)])) (ql (pv 1)) (fun _ _ _ _=>(ez (i:=0) (show(["bill","credit"]:List Str).Nodup by decide +kernel) rfl (Or.inl rfl))) (fun _ _ _ _=>kW) (fun _ _ _ _=>(fc Ef hr (aa (pv 1) (aa (pv 0) av))))))),?_⟩;refine⟨_,rfl,pt,rfl,⟨_,bw.of ur⟩,?_⟩;refine dU (K:=K) (a:=pt) (xs:=qs.map V.ref) (fun D i σ H6=>H D=none/\ ∃v,σ=[v,some (.ref p)]/\aE H H6/\H6 D=some (.lst (((bs.take i).map fun b=>oS (S.cr c) (S.bl b) b).map V.bl))) (fun D hD=>⟨hD,none,rfl,aE.new hD,ag⟩) (fun D i σ H6 _ ⟨_,_,_,t3,_⟩=>bw.of (t3 _ _ ur)) ?_ ?_
  ·rintro D i x σ H6 hx ⟨hD,v,rfl,t3,gF⟩;rw[aB] at hx;obtain⟨q,hq,rfl⟩:=br.mp hx;have hi:i < bs.length:=by have:=(ak.mp hq).1; lia
   obtain⟨q',sP,lL⟩:=bB hB (af hi);rw[hq] at sP;obtain rfl:q=q':=aD sP;have kq:=gQ hi;generalize bs[i]=b at lL kq;refine⟨_,rfl,_,rfl,p,q,c,b,_,_,rfl,hp.same t3,lL.same t3,_,gF,bf (by rw[ae,ae,bb]; lia),hD,_,rfl,t3.cV hD,?_⟩;rw[ag,kq,aJ,aJ];rfl
  ·rintro D σ H6 hD ⟨_,v,rfl,t3,gF⟩;refine k D H6 t3 hD ?_;rw[gF,ae,← hlen,aY]
def bD.vs:bD->List V
 | .dW w d u a=>[.str "bill",.str w,.int d,.int u,.int a]
 | .qK w d a=>[.str "pay",.str w,.int d,.int a]
 | .note b d a=>[.str "note",.int b,.int d,.int a]
 | .set c b a=>[.str "set",.int c,.int b,.int a]
 | .fL w=>[.str "sweep",.str w]
 | .g6 n=>[.str "undo",.int n]
 | .ask o w d=>[.str (if o then "owed" else "free"),.str w,.int d]
 | .iD _ _ _=>[]
def jF {x y:Str}(h:x≠y):V.bl (decide (V.str x=V.str y))=V.bl false:=cY V.bl (ba fun z=>h (by injection z))
def AZ (x:Str):V.bl (decide (V.str x=V.str x))=V.bl true:=cY V.bl (aG rfl)
def TN {x y:Str}(h:x≠y):V.bl (!decide (V.str x=V.str y))=V.bl true:=by rw[show decide (V.str x=V.str y)=false from ba fun z=>h (by injection z)]; rfl
def btN (x:Str):V.bl (!decide (V.str x=V.str x))=V.bl false:=by rw[show decide (V.str x=V.str x)=true from aG rfl]; rfl
def vL {x:Int}{n:Nat}{ta tc:TE}{σ:L2.St}{H:Hp}{Q:Bool->Hp->Prop}(ha: ∀R:VK,R (.int x) H->ta σ H R)(hc: ∀R:VK,R (.int (n:Int)) H->tc σ H R)(q:Q (decide (qk x n)) H):
  IL (IM (K1 fun i j=> .bl (decide (i<=j))) (K1 fun i j=> .bl (decide (i < j))) (tC (.int 0)) ta tc) σ H Q:=by
 refine ha _ ⟨_,_,rfl,rfl,_,rfl,cu (fun d=>hc _ ⟨_,_,rfl,rfl,_,rfl,?_⟩) (fun d=>⟨_,rfl,?_⟩)⟩
 ·have d':(0:Int)<=x:=aM d;have e:decide (qk x n)=decide (x < (n:Int)):=jw.mpr ⟨fun z=>z.2,fun z=>⟨d',z⟩⟩;rw[e] at q;exact q
 ·have d': ¬ (0:Int)<=x:=fun z=>d (aG z);have e:decide (qk x n)=false:=ba fun z=>d' z.1;rw[e] at q;exact q
inductive vM (vs:List V)(H:Hp)(Q:VK)(E':XK):Prop
 |mk (sd pd:Addr)(S:Bk)(f:fC)(d:bD)(h1:vs=[.ref sd,.ref pd])(h2:dh H sd S f)(h3:H pd=some (.tup (bD.vs d)))(h4:d.tells=true)(h5: ∀H',aE H H'->Q (.str (S.bar d)) H'):vM vs H Q E'
def nH:aW ["_law_state","_law_deed","_law_word","_law_spot"] ["_law_state","_law_deed"] (ax (top 59)):={}
def xr (T:Txt K mg):eW P w K mg base "_law_barred" 2 ["_law_state","_law_deed"] vM:=by
 have nG:eW P w K mg base "_law_goes" 1 ["_law_state","_law_credit","_law_bill"] z6:=tu T;refine T.xc.fv (k:=1) nH (fun f cO A outer s H vs Q E hr h=>?_)
 ·obtain⟨sd,pd,S,g,d,rfl,hB,hd,ht,k⟩:=h;have hu:=jP hr;have nd:=nH.nd;refine⟨_,(ah (sv 2 nd (xt (pv 1) ai))
(ah (sv 3 nd (fX i6 (by rfl) T.sY N4 (aa (eA cG (pv 2) aV (a6 _)) av)))
(ah (bP (PW.pt (pw_and (aX cG (pv 3) ai (a6 _)) (pw_and1 (jM (Bg oQ jO ai (xt (pv 1) ai) (mH T.dP (cA hu (pv 0) aV (fun _ _=>rfl))))))))
(au (a9 aV))
bh)
(ah (bP (PW.pt (pw_and (aX nY (pv 2) (bQ (aa aV (aa aV av))) (by rfl)) (pw_and1 (jM (Bg oQ jO ai (xt (pv 1) (aQ cE ai (pv 3))) (mH T.dP (cA hu (pv 0) aV (fun _ _=>rfl))))))))
(au (a9 aV))
bh)
(ah (bP (PW.pt (pw_and (aX cG (pv 2) aV (a6 _)) (pw_and1 (jM (gf (fc nG hr (aa (pv 0) (aa (xt (pv 1) ai) (aa (xt (pv 1) ai) av)))))))))
(au (a9 aV))
bh)
(ah (bP (PW.pt (pw_and (aX oP (pv 2) aV (a6 _)) (pw_and1 (aX jO (xt (pv 1) (oO kP ai)) ai (a6 _)))))
(au (a9 aV))
bh)
(ah (bP (PW.pt (pw_and (aX cG (pv 2) aV (a6 _)) (pw_and1 (aX jO (xt (pv 1) ai) (xt (pv 1) ai) (a6 _)))))
(au (a9 aV))
bh)
(ah (bP (aX cG (pv 2) aV (a6 _))
(au (bP (aX jh (xt (pv 1) ai) (eN (rZ rfl) (by rfl) T.JL boot_min (aa (xl (xl (cA hu (pv 0) aV (fun _ _=>rfl)) (xt (pv 1) ai)) ai) (aa (xl (xl (cA hu (pv 0) aV (fun _ _=>rfl)) (xt (pv 1) ai)) ai) av))) (a6 _))
(au (a9 aV))
bh))
bh)
(au (a9 aV)))))))))),?_⟩
  have kk: ∀(t:Str) (H':Hp),S.bar d=t->aE H H'->Q (.str t) H':=fun t H' e z=>e▸k H' z;clear k;cases d with
  |g6 n=>cases ht
  |ask o w d=>cases ht
  |iD w d l=>cases ht
  |dW wh dy du am=>
   refine⟨_,rfl,pd,_,_,.str "bill",rfl,rfl,cz.of hd,rfl,_,rfl,rfl,.inr ⟨false,(by rw[jF (show("bill":Str)≠"set" by decide +kernel)]),?_⟩⟩;refine⟨_,rfl,rfl,false,cY V.bl (by decide +kernel),bV (bV ?_)⟩;refine⟨_,rfl,(by show 2<=sizeLine; decide),fun p9 n9=>⟨p9,_,rfl,.inl (bw.of ag),rfl,rfl,false,cY V.bl (by decide +kernel),bV (bV ?_)⟩⟩;have s9:=aE.new (o:= .lst [V.str "set",.str "note"]) n9;have Co:=s9 _ _ hd;refine jE (H':=upd H p9 (.lst [V.str "set",.str "note"])) rfl ?_;generalize upd H p9 (.lst [V.str "set",.str "note"])=H9 at s9 Co;refine⟨_,rfl,rfl,false,jF (show("bill":Str)≠"set" by decide +kernel),bV (bV ?_)⟩;refine⟨_,rfl,rfl,true,TN (show("bill":Str)≠"sweep" by decide +kernel),fF ⟨_,rfl,_,rfl,pd,_,_,.int am,rfl,rfl,cz.of Co,rfl,_,_,rfl,rfl,_,rfl,cu (fun z=>?_) (fun z=>?_)⟩⟩
   ·have z':am < 1:=aM z;exact kk _ _ (aZ z') s9
   have z1: ¬ am < 1:=fun q=>z (aG q);refine⟨_,rfl,rfl,true,AZ _,fF ⟨_,rfl,pd,_,_,.int du,rfl,rfl,cz.of Co,rfl,_,rfl,pd,_,_,.int dy,rfl,rfl,cz.of Co,rfl,_,_,rfl,rfl,_,rfl,cu (fun z=>?_) (fun z=>?_)⟩⟩
   ·have z':du < dy:=aM z;exact kk _ _ ((aO z1).trans (aZ z')) s9
   have z2: ¬ du < dy:=fun q=>z (aG q);refine⟨_,rfl,rfl,false,jF (show("bill":Str)≠"set" by decide +kernel),bV ?_⟩;exact kk _ _ ((aO z1).trans (aO z2)) s9
  |qK wh dy am=>
   refine⟨_,rfl,pd,_,_,.str "pay",rfl,rfl,cz.of hd,rfl,_,rfl,rfl,.inr ⟨false,(by rw[jF (show("pay":Str)≠"set" by decide +kernel)]),?_⟩⟩;refine⟨_,rfl,rfl,false,cY V.bl (by decide +kernel),bV (bV ?_)⟩;refine⟨_,rfl,(by show 2<=sizeLine; decide),fun p9 n9=>⟨p9,_,rfl,.inl (bw.of ag),rfl,rfl,false,cY V.bl (by decide +kernel),bV (bV ?_)⟩⟩;have s9:=aE.new (o:= .lst [V.str "set",.str "note"]) n9;have Co:=s9 _ _ hd;refine jE (H':=upd H p9 (.lst [V.str "set",.str "note"])) rfl ?_;generalize upd H p9 (.lst [V.str "set",.str "note"])=H9 at s9 Co;refine⟨_,rfl,rfl,false,jF (show("pay":Str)≠"set" by decide +kernel),bV (bV ?_)⟩;refine⟨_,rfl,rfl,true,TN (show("pay":Str)≠"sweep" by decide +kernel),fF ⟨_,rfl,_,rfl,pd,_,_,.int am,rfl,rfl,cz.of Co,rfl,_,_,rfl,rfl,_,rfl,cu (fun z=>?_) (fun z=>?_)⟩⟩
   ·have z':am < 1:=aM z;exact kk _ _ (aZ z') s9
   have z1: ¬ am < 1:=fun q=>z (aG q);refine⟨_,rfl,rfl,false,jF (show("pay":Str)≠"bill" by decide +kernel),bV (bV ?_)⟩;refine⟨_,rfl,rfl,false,jF (show("pay":Str)≠"set" by decide +kernel),bV ?_⟩;exact kk _ _ (aO z1) s9
  |fL wh=>
   refine⟨_,rfl,pd,_,_,.str "sweep",rfl,rfl,cz.of hd,rfl,_,rfl,rfl,.inr ⟨false,(by rw[jF (show("sweep":Str)≠"set" by decide +kernel)]),?_⟩⟩;refine⟨_,rfl,rfl,false,cY V.bl (by decide +kernel),bV (bV ?_)⟩;refine⟨_,rfl,(by show 2<=sizeLine; decide),fun p9 n9=>⟨p9,_,rfl,.inl (bw.of ag),rfl,rfl,false,cY V.bl (by decide +kernel),bV (bV ?_)⟩⟩;have s9:=aE.new (o:= .lst [V.str "set",.str "note"]) n9;refine jE (H':=upd H p9 (.lst [V.str "set",.str "note"])) rfl ?_;generalize upd H p9 (.lst [V.str "set",.str "note"])=H9 at s9;refine⟨_,rfl,rfl,false,jF (show("sweep":Str)≠"set" by decide +kernel),bV (bV ?_)⟩;refine⟨_,rfl,rfl,false,btN _,bV (bV ?_)⟩;refine⟨_,rfl,rfl,false,jF (show("sweep":Str)≠"bill" by decide +kernel),bV (bV ?_)⟩;refine⟨_,rfl,rfl,false,jF (show("sweep":Str)≠"set" by decide +kernel),bV ?_⟩;exact kk _ _ rfl s9
  |note bi dy am=>
   refine⟨_,rfl,pd,_,_,.str "note",rfl,rfl,cz.of hd,rfl,_,rfl,rfl,.inr ⟨false,(by rw[jF (show("note":Str)≠"set" by decide +kernel)]),?_⟩⟩;refine⟨_,rfl,rfl,false,cY V.bl (by decide +kernel),bV (bV ?_)⟩;refine⟨_,rfl,(by show 2<=sizeLine; decide),fun p9 n9=>⟨p9,_,rfl,.inl (bw.of ag),rfl,rfl,true,cY V.bl (by decide +kernel),fF ?_⟩⟩;have s9:=aE.new (o:= .lst [V.str "set",.str "note"]) n9;have Co:=s9 _ _ hd;have B9:=hB.same s9;generalize upd H p9 (.lst [V.str "set",.str "note"])=H9 at s9 Co B9;have hlen:g.ix.length=S.aF.length:=B9.rb.length.symm;refine vL (x:=bi) (n:=S.aF.length) (fun R q=>⟨_,rfl,_,rfl,_,_,rfl,rfl,pd,_,_,.int bi,rfl,rfl,cz.of Co,rfl,q⟩) (fun R q=>⟨_,rfl,sd,_,rfl,B9.gB,g.pb,_,rfl,.inl (bw.of B9.hb),by rw[ae,hlen]; exact q⟩) (cu (fun z=>?_) (fun z=>?_))
   ·have z': ¬ qk bi S.aF.length:=by simpa using z
    exact kk _ _ (aZ z') s9
   have z0: ¬ ¬ qk bi S.aF.length:=by simpa using z
   refine⟨_,rfl,rfl,false,jF (show("note":Str)≠"set" by decide +kernel),bV (bV ?_)⟩;refine⟨_,rfl,rfl,true,TN (show("note":Str)≠"sweep" by decide +kernel),fF ⟨_,rfl,_,rfl,pd,_,_,.int am,rfl,rfl,cz.of Co,rfl,_,_,rfl,rfl,_,rfl,cu (fun z=>?_) (fun z=>?_)⟩⟩
   ·have z':am < 1:=aM z;exact kk _ _ ((aO z0).trans (aZ z')) s9
   have z1: ¬ am < 1:=fun q=>z (aG q);refine⟨_,rfl,rfl,false,jF (show("note":Str)≠"bill" by decide +kernel),bV (bV ?_)⟩;refine⟨_,rfl,rfl,false,jF (show("note":Str)≠"set" by decide +kernel),bV ?_⟩;exact kk _ _ ((aO z0).trans (aO z1)) s9
  |set ci bi am=>
   have X7:g.cps.length=S.credits.length:=hB.rc.length.symm;refine⟨_,rfl,pd,_,_,.str "set",rfl,rfl,cz.of hd,rfl,_,rfl,rfl,.inr ⟨true,(by rw[AZ]),?_⟩⟩;refine⟨_,rfl,rfl,true,cY V.bl (by decide +kernel),fF ?_⟩;refine vL (x:=ci) (n:=S.credits.length) (fun R q=>⟨_,rfl,pd,_,_,.int ci,rfl,rfl,cz.of hd,rfl,q⟩) (fun R q=>⟨_,rfl,sd,_,rfl,hB.gC,g.pc,_,rfl,.inl (bw.of hB.hc),by rw[ae,X7]; exact q⟩) (cu (fun z=>?_) (fun z=>?_))
   ·have z': ¬ qk ci S.credits.length:=by simpa using z
    exact kk _ _ (aZ z') (aE.refl _)
   have zc: ¬ ¬ qk ci S.credits.length:=by simpa using z
   refine⟨_,rfl,(by show 2<=sizeLine; decide),fun p9 n9=>⟨p9,_,rfl,.inl (bw.of ag),rfl,rfl,true,cY V.bl (by decide +kernel),fF ?_⟩⟩;have s9:=aE.new (o:= .lst [V.str "set",.str "note"]) n9;have Co:=s9 _ _ hd;have B9:=hB.same s9;generalize upd H p9 (.lst [V.str "set",.str "note"])=H9 at s9 Co B9;have hlen:g.ix.length=S.aF.length:=B9.rb.length.symm;refine vL (x:=bi) (n:=S.aF.length) (fun R q=>⟨_,rfl,_,rfl,_,_,rfl,rfl,pd,_,_,.int bi,rfl,rfl,cz.of Co,rfl,q⟩) (fun R q=>⟨_,rfl,sd,_,rfl,B9.gB,g.pb,_,rfl,.inl (bw.of B9.hb),by rw[ae,hlen]; exact q⟩) (cu (fun z=>?_) (fun z=>?_))
   ·have z': ¬ qk bi S.aF.length:=by simpa using z
    exact kk _ _ ((aO zc).trans (aZ z')) s9
   have zb: ¬ ¬ qk bi S.aF.length:=by simpa using z
   have ic:=Ga.mp zc;have ib:=Ga.mp zb;obtain⟨c,rfl⟩:=cv ic.1;obtain⟨b,rfl⟩:=cv ib.1;have hc:c < S.credits.length:=by have:=ic.2; lia
   have hb:b < S.aF.length:=by have:=ib.2; lia
   refine⟨_,rfl,rfl,true,AZ _,fF ⟨_,rfl,_,rfl,pd,_,_,.int (c:Int),rfl,rfl,cz.of Co,rfl,_,rfl,pd,_,_,.int (b:Int),rfl,rfl,cz.of Co,rfl,sd,S,g,c,b,rfl,B9,hc,hb,fun Iv Ke=>⟨_,rfl,cu (fun z=>?_) (fun z=>?_)⟩⟩⟩
   ·have z':S.dO c b=false:=by simpa using z
    exact kk _ _ ((if_neg zc).trans ((if_neg zb).trans (if_pos (by simpa using z')))) (s9.trans Ke)
   have zg: ¬ S.dO (c:Int).toNat (b:Int).toNat=false:=by simpa using z
   have MC:=Ke _ _ Co;have Q8:=B9.same Ke;have Cp:=s9.trans Ke;refine⟨_,rfl,rfl,true,TN (show("set":Str)≠"sweep" by decide +kernel),fF ⟨_,rfl,_,rfl,pd,_,_,.int am,rfl,rfl,cz.of MC,rfl,_,_,rfl,rfl,_,rfl,cu (fun z=>?_) (fun z=>?_)⟩⟩
   ·have z':am < 1:=aM z;exact kk _ _ ((aO zc).trans ((aO zb).trans ((aO zg).trans (aZ z')))) Cp
   have z1: ¬ am < 1:=fun q=>z (aG q);refine⟨_,rfl,rfl,false,jF (show("set":Str)≠"bill" by decide +kernel),bV (bV ?_)⟩;obtain⟨p,_,ap,hp⟩:=Q8.lc hc;obtain⟨q,_,aq,hq⟩:=Q8.lb hb;refine⟨_,rfl,rfl,true,AZ _,fF ?_⟩;refine⟨_,rfl,pd,_,_,.int am,rfl,rfl,cz.of MC,rfl,_,rfl,sd,_,rfl,Q8.gC,_,rfl,pd,_,_,.int (c:Int),rfl,rfl,cz.of MC,rfl,g.pc,_,_,.ref p,rfl,rfl,bw.of Q8.hc,ap,p,_,_,.int (S.cr c).d,rfl,rfl,bw.of hp,rfl,?_⟩;refine⟨_,rfl,sd,_,rfl,Q8.gB,_,rfl,pd,_,_,.int (b:Int),rfl,rfl,cz.of MC,rfl,g.pb,_,_,.ref q,rfl,rfl,bw.of Q8.hb,aq,q,_,_,.int (S.bl b).d,rfl,rfl,bw.of hq,rfl,_,_,rfl,_,_,rfl,rfl,_,rfl,cu (fun z=>?_) (fun z=>?_)⟩
   ·have z':gJ (S.cr (c:Int).toNat).d (S.bl (b:Int).toNat).d < am:=aM z;exact kk _ _ ((aO zc).trans ((aO zb).trans ((aO zg).trans ((aO z1).trans (aZ z'))))) Cp
   ·have z': ¬ gJ (S.cr (c:Int).toNat).d (S.bl (b:Int).toNat).d < am:=fun q=>z (aG q);exact kk _ _ ((aO zc).trans ((aO zb).trans ((aO zg).trans ((aO z1).trans (aO z'))))) Cp
def PD (H:Hp)(f f':fC):Prop:= ∀x∈f'.fp,x∈f.fp∨H x=none
def X8 (Q:VK)(H:Hp)(sd:Addr)(S:Bk)(f:fC)(d:bD):Prop:=
 ∀v f' H',Frame f.fp H H'->dh H' sd (S.enter d) f'->PD H f f'->Rp H' (S.LY d).dt v->Q v H'
inductive uu (vs:List V)(H:Hp)(Q:VK)(E':XK):Prop
 |mk (sd pd:Addr)(S:Bk)(f:fC)(d:bD)(h1:vs=[.ref sd,.ref pd])(h2:dh H sd S f)(h3:H pd=some (.tup (bD.vs d)))(h4:d.tells=true)(h5:S.credits.length < 64)(h6:S.aF.length < 64)(h7:S.made.length + 10000 < sizeLine)(h8:(S.bar d≠""-> ∀H',aE H H'->Q (.str (S.bar d)) H'))(h9:(S.bar d=""->X8 Q H sd S f d)):uu vs H Q E'
def oW:aW ["_law_state","_law_deed","_law_text","_law_who"] ["_law_state","_law_deed"] (ax (top 60)):={}
def rj (T:Txt K mg):eW P w K mg base "_law_enter" 3 ["_law_state","_law_deed"] uu:=by
 have xu:eW P w K mg base "_law_barred" 2 ["_law_state","_law_deed"] vM:=xr T;have pW:eW P w K mg base "_law_put" 1 ["_law_state","_law_credit","_law_bill","_law_amount"] Ck:=vG T;have Ad:eW P w K mg base "_law_swept" 2 ["_law_state","_law_who"] Ab:=Ac T;refine T.zD.fv (k:=2) oW (fun f cO A outer s H vs Q E hr h=>?_)
 ·obtain⟨sd,pd,S,g,d,rfl,hB,hd,ht,qP,MA,Fz,kn,ky⟩:=h;have hu:=jP hr;have nd:=oW.nd;refine⟨_,(ah (sv 2 nd (fc xu hr (aa (pv 0) (aa (pv 1) av))))
(ah (bP (aX oP (pv 2) aV (a6 _))
(au (a9 (pv 2)))
bh)
(ah (bP (aX cG (xt (pv 1) ai) aV (a6 _))
(ah (bK (pS (cA hu (pv 0) aV (fun _ _=>rfl)) (bQ (aa (xt (pv 1) ai) (aa (xt (pv 1) ai) (aa (xt (pv 1) ai) (aa (xt (pv 1) ai) (aa (xt (pv 1) ai) av))))))))
(au (a9 (aQ eI (mH T.dP (cA hu (pv 0) aV (fun _ _=>rfl))) ai))))
bh)
(ah (bP (aX cG (xt (pv 1) ai) aV (a6 _))
(ah (bK (pS (cA hu (pv 0) aV (fun _ _=>rfl)) (bQ (aa (xt (pv 1) ai) (aa (xt (pv 1) ai) (aa (xt (pv 1) ai) (aa (oO kP ai) (aa (xt (pv 1) ai) av))))))))
(au (a9 (aQ eI (mH T.dP (cA hu (pv 0) aV (fun _ _=>rfl))) ai))))
bh)
(ah (bP (aX cG (xt (pv 1) ai) aV (a6 _))
(ah (sv 3 nd (xl (xl (cA hu (pv 0) aV (fun _ _=>rfl)) (xt (pv 1) ai)) ai))
(ah (bK (pS (cA hu (pv 0) aV (fun _ _=>rfl)) (bQ (aa (pv 3) (aa (xt (pv 1) ai) (aa (xt (pv 1) ai) (aa (xt (pv 1) ai) (aa (xt (pv 1) ai) av))))))))
(au (a9 (aQ eI (mH T.dP (cA hu (pv 0) aV (fun _ _=>rfl))) ai)))))
bh)
(ah (bP (aX cG (xt (pv 1) ai) aV (a6 _))
(ah (bK (fc pW hr (aa (pv 0) (aa (xt (pv 1) ai) (aa (xt (pv 1) ai) (aa (xt (pv 1) ai) av))))))
(au (a9 (xt (pv 1) ai))))
bh)
(au (a9 (fc Ad hr (aa (pv 0) (aa (xt (pv 1) ai) av))))))))))),?_⟩
  refine⟨_,rfl,_,rfl,sd,pd,S,g,d,rfl,hB,hd,ht,fun H1 s1=>?_⟩;by_cases oJ:S.bar d=""
  case neg=>exact⟨_,rfl,rfl,true,TN oJ,fF ⟨_,rfl,kn oJ H1 s1⟩⟩
  refine⟨_,rfl,rfl,false,(by rw[oJ]; exact btN _),bV ?_⟩;have B1:=hB.same s1;have lz:=s1 _ _ hd;have TQ: ∀v f' H',Frame g.fp H1 H'->dh H' sd (S.enter d) f'->PD H1 g f'->Rp H' (S.LY d).dt v->Q v H':=fun v f' H' fr b fi r=>ky oJ v f' H' (fr.l9 s1) b (fun x hx=>(fi x hx).elim .inl fun z=> .inr (s1.free z)) r;clear ky kn;have lb:=B1.rb.length;have lc:=B1.rc.length;cases d with
  |g6 n=>cases ht
  |ask o w d=>cases ht
  |iD w d l=>cases ht
  |dW wh dy du am=>
   refine⟨_,rfl,pd,_,_,.str "bill",rfl,rfl,cz.of lz,rfl,rfl,true,AZ _,fF ?_⟩;refine⟨_,rfl,sd,_,rfl,B1.gB,.inl ⟨rfl,_,bw.of B1.hb⟩,_,rfl,pd,_,_,.str wh,rfl,rfl,cz.of lz,rfl,_,rfl,pd,_,_,.int dy,rfl,rfl,cz.of lz,rfl,_,rfl,pd,_,_,.int du,rfl,rfl,cz.of lz,rfl,_,rfl,pd,_,_,.int am,rfl,rfl,cz.of lz,rfl,_,rfl,pd,_,_,.int am,rfl,rfl,cz.of lz,rfl,(by show 5<=sizeLine; decide),fun pr nr=>?_⟩;have t1:=aE.new (o:= .lst (Rw.vs ⟨wh,dy,du,am,am⟩)) nr;refine⟨g.pb,_,_,rfl,rfl,t1 _ _ B1.hb,bf (by rw[ae]; lia),?_⟩;have B2:=B1.iu (r:=⟨wh,dy,du,am,am⟩) nr;have F2:Frame g.fp H1 (upd (upd H1 pr (.lst (Rw.vs ⟨wh,dy,du,am,am⟩))) g.pb (.lst (g.ix.map V.ref ++ [.ref pr]))):=t1.frame.tr (Frame.upd (by simp[fC.fp]));refine jE (H':=upd (upd H1 pr (.lst (Rw.vs ⟨wh,dy,du,am,am⟩))) g.pb (.lst (g.ix.map V.ref ++ [.ref pr]))) rfl ?_;generalize upd (upd H1 pr (.lst (Rw.vs ⟨wh,dy,du,am,am⟩))) g.pb (.lst (g.ix.map V.ref ++ [.ref pr]))=H2 at B2 F2;refine⟨_,rfl,sd,_,rfl,B2.gB,_,_,rfl,.inl (bw.of B2.hb),_,_,rfl,rfl,?_⟩;refine TQ _ (g.iu pr) H2 F2 B2 (fun x hx=>?_) (dj.mpr ?_)
   ·rcases aw.mp ((g.JO pr).mem_iff.mp hx) with rfl|hx
    ·exact .inr nr
    ·exact .inl hx
   ·show V.int _ =V.int (S.aF.length:Int)
    congr 1
    rw[ae];show((g.ix ++ [pr]).length:Int) - 1=_;rw[aH,lb];simp
  |qK wh dy am=>
   refine⟨_,rfl,pd,_,_,.str "pay",rfl,rfl,cz.of lz,rfl,rfl,false,jF (show("pay":Str)≠"bill" by decide +kernel),bV ?_⟩;refine⟨_,rfl,pd,_,_,.str "pay",rfl,rfl,cz.of lz,rfl,rfl,true,AZ _,fF ?_⟩;refine⟨_,rfl,sd,_,rfl,B1.gC,.inl ⟨rfl,_,bw.of B1.hc⟩,_,rfl,pd,_,_,.str wh,rfl,rfl,cz.of lz,rfl,_,rfl,pd,_,_,.int dy,rfl,rfl,cz.of lz,rfl,_,rfl,pd,_,_,.int am,rfl,rfl,cz.of lz,rfl,_,rfl,_,rfl,pd,_,_,.int am,rfl,rfl,cz.of lz,rfl,(by show 5<=sizeLine; decide),fun pr nr=>?_⟩;have t1:=aE.new (o:= .lst (Rw.vs ⟨wh,dy,am,-1,am⟩)) nr;refine⟨g.pc,_,_,rfl,rfl,t1 _ _ B1.hc,bf (by rw[ae]; lia),?_⟩;have B2:=B1.fN (r:=⟨wh,dy,am,-1,am⟩) nr;have F2:Frame g.fp H1 (upd (upd H1 pr (.lst (Rw.vs ⟨wh,dy,am,-1,am⟩))) g.pc (.lst (g.cps.map V.ref ++ [.ref pr]))):=t1.frame.tr (Frame.upd (by simp[fC.fp]));refine jE (H':=upd (upd H1 pr (.lst (Rw.vs ⟨wh,dy,am,-1,am⟩))) g.pc (.lst (g.cps.map V.ref ++ [.ref pr]))) rfl ?_;generalize upd (upd H1 pr (.lst (Rw.vs ⟨wh,dy,am,-1,am⟩))) g.pc (.lst (g.cps.map V.ref ++ [.ref pr]))=H2 at B2 F2;refine⟨_,rfl,sd,_,rfl,B2.gC,_,_,rfl,.inl (bw.of B2.hc),_,_,rfl,rfl,?_⟩;refine TQ _ (g.fN pr) H2 F2 B2 (fun x hx=>?_) (dj.mpr ?_)
   ·rcases aw.mp ((g.Fs pr).mem_iff.mp hx) with rfl|hx
    ·exact .inr nr
    ·exact .inl hx
   ·show V.int _ =V.int (S.credits.length:Int)
    congr 1
    rw[ae];show((g.cps ++ [pr]).length:Int) - 1=_;rw[aH,lc];simp
  |note bi dy am=>
   obtain⟨ib,ia⟩:=nZ oJ;obtain⟨b,rfl⟩:=cv ib.1;have hb:b < S.aF.length:=by have:=ib.2; lia
   obtain⟨q,_,aq,hq⟩:=B1.lb hb;refine⟨_,rfl,pd,_,_,.str "note",rfl,rfl,cz.of lz,rfl,rfl,false,jF (show("note":Str)≠"bill" by decide +kernel),bV ?_⟩;refine⟨_,rfl,pd,_,_,.str "note",rfl,rfl,cz.of lz,rfl,rfl,false,jF (show("note":Str)≠"pay" by decide +kernel),bV ?_⟩;refine⟨_,rfl,pd,_,_,.str "note",rfl,rfl,cz.of lz,rfl,rfl,true,AZ _,fF ?_⟩;refine⟨_,rfl,sd,_,rfl,B1.gB,_,rfl,pd,_,_,.int (b:Int),rfl,rfl,cz.of lz,rfl,g.pb,_,_,.ref q,rfl,rfl,bw.of B1.hb,aq,q,_,_,.str (S.bl b).aC,rfl,rfl,bw.of hq,rfl,?_⟩;refine⟨_,rfl,sd,_,rfl,B1.gC,.inl ⟨rfl,_,bw.of B1.hc⟩,_,rfl,_,rfl,pd,_,_,.int dy,rfl,rfl,cz.of lz,rfl,_,rfl,pd,_,_,.int am,rfl,rfl,cz.of lz,rfl,_,rfl,pd,_,_,.int (b:Int),rfl,rfl,cz.of lz,rfl,_,rfl,pd,_,_,.int am,rfl,rfl,cz.of lz,rfl,(by show 5<=sizeLine; decide),fun pr nr=>?_⟩;have t1:=aE.new (o:= .lst (Rw.vs ⟨(S.bl b).aC,dy,am,b,am⟩)) nr;refine⟨g.pc,_,_,rfl,rfl,t1 _ _ B1.hc,bf (by rw[ae]; lia),?_⟩;have B2:=B1.fN (r:=⟨(S.bl b).aC,dy,am,b,am⟩) nr;have F2:Frame g.fp H1 (upd (upd H1 pr (.lst (Rw.vs ⟨(S.bl b).aC,dy,am,b,am⟩))) g.pc (.lst (g.cps.map V.ref ++ [.ref pr]))):=t1.frame.tr (Frame.upd (by simp[fC.fp]));refine jE (H':=upd (upd H1 pr (.lst (Rw.vs ⟨(S.bl b).aC,dy,am,b,am⟩))) g.pc (.lst (g.cps.map V.ref ++ [.ref pr]))) rfl ?_;generalize upd (upd H1 pr (.lst (Rw.vs ⟨(S.bl b).aC,dy,am,b,am⟩))) g.pc (.lst (g.cps.map V.ref ++ [.ref pr]))=H2 at B2 F2;refine⟨_,rfl,sd,_,rfl,B2.gC,_,_,rfl,.inl (bw.of B2.hc),_,_,rfl,rfl,?_⟩;refine TQ _ (g.fN pr) H2 F2 B2 (fun x hx=>?_) (dj.mpr ?_)
   ·rcases aw.mp ((g.Fs pr).mem_iff.mp hx) with rfl|hx
    ·exact .inr nr
    ·exact .inl hx
   ·show V.int _ =V.int (S.credits.length:Int)
    congr 1
    rw[ae];show((g.cps ++ [pr]).length:Int) - 1=_;rw[aH,lc];simp
  |set ci bi am=>
   obtain⟨ic,ib,_,_,_,_⟩:=mX oJ;obtain⟨c,rfl⟩:=cv ic.1;obtain⟨b,rfl⟩:=cv ib.1;have hc:c < S.credits.length:=by have:=ic.2; lia
   have hb:b < S.aF.length:=by have:=ib.2; lia
   refine⟨_,rfl,pd,_,_,.str "set",rfl,rfl,cz.of lz,rfl,rfl,false,jF (show("set":Str)≠"bill" by decide +kernel),bV ?_⟩;refine⟨_,rfl,pd,_,_,.str "set",rfl,rfl,cz.of lz,rfl,rfl,false,jF (show("set":Str)≠"pay" by decide +kernel),bV ?_⟩;refine⟨_,rfl,pd,_,_,.str "set",rfl,rfl,cz.of lz,rfl,rfl,false,jF (show("set":Str)≠"note" by decide +kernel),bV ?_⟩;refine⟨_,rfl,pd,_,_,.str "set",rfl,rfl,cz.of lz,rfl,rfl,true,AZ _,fF ?_⟩;refine⟨_,rfl,_,rfl,pd,_,_,.int (c:Int),rfl,rfl,cz.of lz,rfl,_,rfl,pd,_,_,.int (b:Int),rfl,rfl,cz.of lz,rfl,_,rfl,pd,_,_,.int am,rfl,rfl,cz.of lz,rfl,sd,S,g,c,b,am,rfl,B1,hc,hb,by lia,fun H2 F2 B2=>?_⟩;have hd2:=B1.tk F2 _ _ lz;refine⟨_,rfl,pd,_,_,.int am,rfl,rfl,cz.of hd2,rfl,?_⟩;exact TQ _ g H2 F2 B2 (fun x hx=> .inl hx) (dj.mpr rfl)
  |fL wh=>
   refine⟨_,rfl,pd,_,_,.str "sweep",rfl,rfl,cz.of lz,rfl,rfl,false,jF (show("sweep":Str)≠"bill" by decide +kernel),bV ?_⟩;refine⟨_,rfl,pd,_,_,.str "sweep",rfl,rfl,cz.of lz,rfl,rfl,false,jF (show("sweep":Str)≠"pay" by decide +kernel),bV ?_⟩;refine⟨_,rfl,pd,_,_,.str "sweep",rfl,rfl,cz.of lz,rfl,rfl,false,jF (show("sweep":Str)≠"note" by decide +kernel),bV ?_⟩;refine⟨_,rfl,pd,_,_,.str "sweep",rfl,rfl,cz.of lz,rfl,rfl,false,jF (show("sweep":Str)≠"set" by decide +kernel),bV ?_⟩;refine⟨_,rfl,_,rfl,pd,_,_,.str wh,rfl,rfl,cz.of lz,rfl,sd,S,g,wh,rfl,B1,qP,MA,Fz,fun D ms H2 F2 B2 nD hD hT=>?_⟩;exact TQ _ g H2 F2 B2 (fun x hx=> .inl hx) (jR.mpr ⟨D,ms,rfl,hD,hT.Lc⟩)
def bD.word:bD->Str
 | .dW _ _ _ _=>"bill"
 | .qK _ _ _=>"pay"
 | .note _ _ _=>"note"
 | .set _ _ _=>"set"
 | .fL _=>"sweep"
 | .g6 _=>"undo"
 | .ask o _ _=>if o then "owed" else "free"
 | .iD _ _ _=>"ages"
def uv {d:bD}(h:d.tells=true∨ ∃m,d= .g6 m): ∃r,bD.vs d= .str (bD.word d) :: r:=by
 cases d with
 |iD w d l=>rcases h with h|⟨m,h⟩ <;> cases h
 |_=>exact⟨_,rfl⟩
def FC {d:bD}(h:d.tells=true):wK (.str (bD.word d)) [.str "set",.str "sweep"]=d.isSet:=by
 cases d with
 |dW _ _ _ _=>show wK (.str "bill") _ =false; decide +kernel
 |qK _ _ _=>show wK (.str "pay") _ =false; decide +kernel
 |note _ _ _=>show wK (.str "note") _ =false; decide +kernel
 |set _ _ _=>show wK (.str "set") _ =true; decide +kernel
 |fL _=>show wK (.str "sweep") _ =true; decide +kernel
 |g6 _=>cases h
 |ask _ _ _=>cases h
 |iD _ _ _=>cases h
def gP (H:Hp)(ss:List (Int×bD))(vs:List V):Prop:=Paired (fun(st:Int×bD) v=> ∃p pd,v= .ref p/\H p=some (.tup [.int st.1,.ref pd])/\H pd=some (.tup (bD.vs st.2))/\st.2.tells=true) ss vs
def gP.mono {H H':Hp}{ss:List (Int×bD)}{vs:List V}(h:gP H ss vs)(k:cB H H'):gP H' ss vs:=
 Paired.iA h fun _ _ ⟨p,pd,e,q1,q2,t⟩=>⟨p,pd,e,k _ _ q1,k _ _ q2,t⟩
inductive vN (vs:List V)(H:Hp)(Q:VK)(E':XK):Prop
 |mk (ps:Addr)(ss:List (Int×bD))(us:List V)(h1:vs=[.ref ps])(h2:H ps=some (.lst us))(h3:gP H ss us)(h4:ss.length<=59)(h5:(cF ss Bk.new=none-> ∀H',aE H H'->Q .eu H'))(h6:(∀S,cF ss Bk.new=some S-> ∀sd f H',aE H H'->dh H' sd S f->(∀b∈f.fp,H b=none)->Q (.ref sd) H')):vN vs H Q E'
def nI:aW ["_law_steps","_law_state","_law_number","_law_deed"] ["_law_steps"] (ax (top 61)):={}
def xv (T:Txt K mg):eW P w K mg base "_law_worked" 4 ["_law_steps"] vN:=by
 have me:eW P w K mg base "_law_begun" 1 [] Fv:=ra T;have mf:eW P w K mg base "_law_enter" 3 ["_law_state","_law_deed"] uu:=rj T;refine T.xg.fv (k:=3) nI (fun f cO A outer s H vs Q E hr h=>?_)
 ·obtain⟨ps,ss,us,rfl,mF,MD,hl,kn,ky⟩:=h;have nd:=nI.nd;have hlen:=aL MD;refine⟨_,(ah (sv 1 nd (Jk me (hr.mono (by decide)) rfl))
(ah (dS bu rfl (ql (pv 0)) (gT (bX (gn 2 nd) (bX (gn 3 nd) gh)))
(au (bP (gf (vp T.di T.Fp boot_str (fc mf hr (aa (pv 1) (aa (pv 3) av)))))
(au (a9 Du))
bh)))
(au (a9 (pv 1))))),?_⟩
  refine⟨rfl,fun sd f0 H1 s1 B1 Mi nf=>?_⟩;refine⟨_,rfl,ps,rfl,⟨_,bw.of (s1 _ _ mF)⟩,?_⟩;refine eM (K:=K) (a:=ps) (xs:=us) (fun i σ H2=> ∃(S:Bk) (f:fC) (x2 x3:Option V),σ=[some (.ref ps),some (.ref sd),x2,x3]/\aE H H2/\dh H2 sd S f/\(∀b∈f.fp,H b=none)/\WF S i/\cF ss Bk.new=cF (ss.drop i) S)
   ⟨Bk.new,f0,none,none,rfl,s1,B1,nf,WF.new,rfl⟩ (fun i σ H2 _ ⟨_,_,_,_,_,s2,_⟩=>bw.of (s2 _ _ mF)) ?_ ?_
  ·rintro i x σ H2 hx ⟨S,f2,x2,x3,rfl,s2,B2,VI,wf,hw⟩;have hi:i < ss.length:=by have:=(ak.mp hx).1; lia
   obtain⟨v,hv,p,pd,rfl,hp,Cq,ht⟩:=bB MD (af hi);rw[hx] at hv;obtain rfl:x= .ref p:=aD hv;have hdr:=N3 hi;rw[hdr] at hw;generalize ss[i]=st at hp Cq ht hw;obtain⟨n,d⟩:=st;have tR:=s2 _ _ hp;have PF:=s2 _ _ Cq;refine⟨p,_,rfl,cz.of tR,rfl,_,_,rfl,_,_,rfl,rfl,?_⟩;refine⟨_,rfl,_,rfl,sd,pd,S,f2,d,rfl,B2,PF,ht,by have:=wf.lc; lia,by have:=wf.lb; lia,by have:=wf.lm; rw[eX]; lia,fun hb H3 s3=>?_,fun hb v f3 H3 F3 B3 fi r=>?_⟩
   ·refine⟨_,_,_,true,rfl,.str _,yi (.str (S.bar d)),_,rfl,fF ?_⟩;refine kn ?_ _ (s2.trans s3);rw[hw];show(if S.bar d="" then _ else none)=none;rw[aO hb]
   ·have hS:Vm (S.LY d).dt=false:=by cases d <;> first|rfl|cases ht
    refine⟨_,_,_,false,rfl,r.ty,(yi _).trans (cY some hS),_,rfl,bV ?_⟩;refine⟨S.enter d,f3,_,_,rfl,F3.same s2 VI,B3,fun b tT=>?_,wf.enter (by lia) hb,?_⟩
    ·rcases fi b tT with z|z
     ·exact VI b z
     ·exact s2.free z
    ·rw[hw];show(if S.bar d="" then _ else none)=_;rw[aZ hb]
  ·rintro σ H2 ⟨S,f2,x2,x3,rfl,s2,B2,VI,wf,hw⟩;rw[← hlen,List.drop_length] at hw;exact⟨_,rfl,ky S hw sd f2 H2 s2 B2 VI⟩
inductive FD (vs:List V)(H:Hp)(Q:VK)(E':XK):Prop
 |mk (pd:Addr)(wd:Str)(r:List V)(h1:vs=[.ref pd])(h2:H pd=some (.tup (.str wd :: r)))(h3: ∀H',aE H H'->Q (.bl (wK (.str wd) [.str "bill",.str "pay",.str "note",.str "set",.str "sweep"])) H'):FD vs H Q E'
def xx:aW ["_law_deed"] ["_law_deed"] (ax (top 62)):={}
def Ae (T:Txt K mg):eW P w K mg base "_law_tells" 1 ["_law_deed"] FD:=by
 refine T.zE.fv (k:=0) xx (fun f cO A outer s H vs Q E hr h=>?_)
 ·obtain⟨pd,wd,r,rfl,hd,k⟩:=h;refine⟨_,(au (a9 (eA nY (xt (pv 0) ai) (bQ (aa aV (aa aV (aa aV (aa aV (aa aV av)))))) (by rfl)))),?_⟩;refine⟨_,rfl,pd,_,_,.str wd,rfl,rfl,cz.of hd,cf (j:=0) rfl,(by show 5<=sizeLine; decide),fun p9 n9=>⟨p9,_,rfl,.inl (bw.of ag),rfl,rfl,?_⟩⟩;exact k _ (aE.new n9)
def NC (Q:VK)(H:Hp)(ps:Addr)(f:fC)(r:zl×gE):Prop:=
 ∀(t:Addr) (v:V) (vO Di:Addr) (f':fC) (Dj:List V) (H':Hp),H' t=some (.tup [v,.ref vO,.ref Di])->Rp H' r.1.dt v->H' vO=some (.lst Dj)->gP H' r.2.steps Dj->dh H' Di r.2.bk f'->Frame f.fp H H'->PD H f f'->vO∉f'.fp->(∀a o,a∉f.fp->H a=some o->vO=a->vO=ps)->Q (.ref t) H'
inductive Kf (vs:List V)(H:Hp)(Q:VK)(E':XK):Prop
 |mk (ps sd pd:Addr)(n:Nat)(T:gE)(us:List V)(f:fC)(d:bD)(h1:vs=[.ref ps,.ref sd,.int n,.ref pd])(h2:H ps=some (.lst us))(h3:gP H T.steps us)(h4:dh H sd T.bk f)(h5:ps∉f.fp)(h6:H pd=some (.tup (bD.vs d)))(h7:(d.tells=true∨ ∃m,d= .g6 m))(h8:Good T n)(h9:n<=59)(K5:NC Q H ps f (dG T n d)):Kf vs H Q E'
def vP {T:gE}{n:Int}{d:bD}(h:d.tells=true):dG T n d=if T.bk.bar d="" then(T.bk.LY d,(⟨T.steps ++ [(n,d)],T.bk.enter d⟩:gE)) else(.txt (T.bk.bar d),T):=by
 cases d <;> first|rfl|cases h
def rm:aW ["_law_steps","_law_state","_law_number","_law_deed","_law_rest","_law_step","_law_later","_law_answer"] ["_law_steps","_law_state","_law_number","_law_deed"] (ax (top 63)):={}
def fM {α:Type}(p:α->Bool){l:List α}{i:Nat}{x:α}(h:l[i]? =some x):(l.take (i + 1)).filter p=(l.take i).filter p ++ (if p x=true then[x] else[]):=by
 rw[F9,h,f9]
 congr 1
 show[x].filter p=_;by_cases c:p x=true
 ·rw[aZ c,bS c]; rfl
 ·rw[aO c,eo c]; rfl
def Cr (T:Txt K mg):eW P w K mg base "_law_done" 5 ["_law_steps","_law_state","_law_number","_law_deed"] Kf:=by
 have xy:eW P w K mg base "_law_worked" 4 ["_law_steps"] vN:=xv T;have mf:eW P w K mg base "_law_enter" 3 ["_law_state","_law_deed"] uu:=rj T;refine T.BJ.fv (k:=4) rm (fun f cO A outer s H vs Q E hr h=>?_)
 ·obtain⟨ps,sd,pd,n,T0,us,g,d,rfl,mF,MD,hB,ND,hd,hk,good,hn,k⟩:=h;have nd:=rm.nd;have hlen:=aL MD;have hT:=good.len;obtain⟨rr,hvs⟩:=uv hk;have VJ:H pd=some (.tup (.str (bD.word d) :: rr)):=hvs▸hd;refine⟨_,(ah (bP (aX cG (xt (pv 3) ai) aV (a6 _))
(ah (sv 4 nd (bQ av))
(ah (dS bu rfl (ql (pv 0)) (gn 5 nd)
(au (bP (PW.pt (pw_or (aX oP (xt (pv 5) ai) (xt (pv 3) ai) (a6 _)) (pw_or1 (aX y0 (xt (xt (pv 5) ai) ai) (bQ (aa aV (aa aV av))) (by rfl)))))
(au (bK (pS (pv 4) (pv 5))))
bh)))
(ah (bP (aX cG (mH T.dP (pv 4)) (mH T.dP (pv 0)) (a6 _))
(au (a9 (cK (aa aV (aa (pv 0) (aa (pv 1) av))))))
bh)
(ah (sv 6 nd (fc xy hr (aa (pv 4) av)))
(ah (bP (yS (IE (pv 6)))
(au (a9 (cK (aa aV (aa (pv 0) (aa (pv 1) av))))))
bh)
(au (a9 (cK (aa aV (aa (pv 4) (aa (pv 6) av)))))))))))
bh)
(ah (sv 7 nd (fc mf hr (aa (pv 1) (aa (pv 3) av))))
(ah (bP (gf (vp T.di T.Fp boot_str (pv 7)))
(au (a9 (cK (aa (pv 7) (aa (pv 0) (aa (pv 1) av))))))
bh)
(au (a9 (cK (aa (pv 7) (aa (aQ lY (pv 0) (bQ (aa (cK (aa (pv 2) (aa (pv 3) av))) av))) (aa (pv 1) av))))))))),?_⟩
  refine⟨_,rfl,pd,_,_,.str (bD.word d),rfl,rfl,cz.of VJ,cf (j:=0) rfl,rfl,?_⟩;clear VJ hvs rr;by_cases ht:d.tells=true
  ·
   have hw:bD.word d≠"undo":=by
    cases d with
    |g6 m=>cases ht
    |ask _ _ _=>cases ht
    |iD _ _ _=>cases ht
    |dW _ _ _ _=>show("bill":Str)≠"undo"; decide +kernel
    |qK _ _ _=>show("pay":Str)≠"undo"; decide +kernel
    |note _ _ _=>show("note":Str)≠"undo"; decide +kernel
    |set _ _ _=>show("set":Str)≠"undo"; decide +kernel
    |fL _=>show("sweep":Str)≠"undo"; decide +kernel
   refine⟨false,jF hw,bV ?_⟩;have wf:=good.wf (by lia);rw[vP ht] at k;refine⟨_,rfl,_,rfl,sd,pd,T0.bk,g,d,rfl,hB,hd,ht,by have:=wf.lc; lia,by have:=wf.lb; lia,by have:=wf.lm; rw[eX]; lia,fun hb H3 s3=>?_,fun hb v f3 H3 F3 B3 fi r=>?_⟩
   ·rw[aO hb] at k;refine⟨_,rfl,_,_,_,true,rfl,.str _,yi (.str (T0.bk.bar d)),_,rfl,fF ?_⟩;refine⟨_,rfl,_,rfl,_,rfl,(by show 3<=sizeLine; decide),fun t nt=>?_⟩;have s4:=s3.trans (aE.new (o:= .tup [V.str (T0.bk.bar d),.ref ps,.ref sd]) nt);exact k t _ ps sd g us _ ag (fG.mpr rfl) (s4 _ _ mF) (MD.mono s4.tk) (hB.same s4) s4.frame (fun x hx=> .inl hx) ND (fun _ _ _ _ _=>rfl)
   ·rw[aZ hb] at k;have hS:Vm (T0.bk.LY d).dt=false:=by cases d <;> first|rfl|cases ht
    refine⟨_,rfl,_,_,_,false,rfl,r.ty,(yi _).trans (cY some hS),_,rfl,bV ?_⟩;have tk3:=hB.tk F3;have Hu:=F3 _ _ ND mF;have X9:=MD.mono tk3;have NF:=tk3 _ _ hd;refine⟨_,rfl,_,rfl,_,rfl,_,rfl,(by show 2<=sizeLine; decide),fun p1 n1=>⟨(by show 1<=sizeLine; decide),fun p2 n2=>?_⟩⟩;have t1:=aE.new (o:= .tup [V.int (n:Int),.ref pd]) n1;have t2:=aE.new (o:= .lst [V.ref p1]) n2;have g1:upd (upd H3 p1 (.tup [V.int (n:Int),.ref pd])) p2 (.lst [V.ref p1]) p1=some (.tup [V.int (n:Int),.ref pd]):=t2 _ _ ag;have g2:upd (upd H3 p1 (.tup [V.int (n:Int),.ref pd])) p2 (.lst [V.ref p1]) p2=some (.lst [V.ref p1]):=ag;have pX:=t1.trans t2;refine⟨ps,p2,_,_,rfl,rfl,pX _ _ Hu,g2,?_,fun p4 n4=>?_⟩
    ·refine df (bf ?_);show us.length + 1<=1000;lia
    generalize upd (upd H3 p1 (.tup [V.int (n:Int),.ref pd])) p2 (.lst [V.ref p1])=H4 at pX g1 g2 n4;have t4:=aE.new (o:= .lst (us ++ [V.ref p1])) n4;refine⟨_,rfl,(by show 3<=sizeLine; decide),fun t nt=>?_⟩;have t5:=aE.new (o:= .tup [v,V.ref p4,.ref sd]) nt;have TR:=(pX.trans t4).trans t5;have B5:=B3.same TR;refine k t v p4 sd f3 (us ++ [.ref p1]) _ ag (Rp.mono TR _ r) (t5 _ _ ag) ?_ B5 (F3.c8 TR) fi (B3.off ?_) (fun a o ha e q=>absurd q.symm (aK (pX _ _ (F3 _ _ ha e)) n4))
    ·exact cw (X9.mono TR.tk) ⟨p1,pd,rfl,(t4.trans t5) _ _ g1,TR _ _ NF,ht⟩
    ·exact pX.free n4
  ·
   obtain⟨m,rfl⟩: ∃m,d= .g6 m:=hk.resolve_left ht;refine⟨true,AZ _,fF ?_⟩;refine⟨bp _,fun pr nr=>?_⟩;have s1:aE H (upd H pr (.lst [])):=aE.new nr;refine⟨_,rfl,ps,rfl,⟨_,bw.of (s1 _ _ mF)⟩,?_⟩;refine eM (K:=K) (a:=ps) (xs:=us) (fun i σ H2=> ∃(rs:List V) (x5:Option V),σ=[some (.ref ps),some (.ref sd),some (.int (n:Int)),some (.ref pd),some (.ref pr),x5,none,none]/\aE H H2/\H2 pr=some (.lst rs)/\gP H2 ((T0.steps.take i).filter (cM m)) rs)
    ⟨[],none,rfl,s1,ag,.nil⟩ (fun i σ H2 _ ⟨_,_,_,s2,_⟩=>bw.of (s2 _ _ mF)) ?_ ?_
   ·rintro i x σ H2 hx ⟨rs,x5,rfl,s2,Lf,Lg⟩;have hi:i < T0.steps.length:=by have:=(ak.mp hx).1; lia
    have qm:=af hi;obtain⟨v,hv,p,pe,rfl,hp,hpe,VL⟩:=bB MD qm;rw[hx] at hv;obtain rfl:x= .ref p:=aD hv;have mx:=fM (cM m) qm;generalize T0.steps[i]=st at hp hpe VL mx;obtain⟨n0,e⟩:=st;have tR:=s2 _ _ hp;have PH:=s2 _ _ hpe;have hd2:=s2 _ _ hd;have Bv:rs.length<=100:=by
     have:=aL Lg;have:=a7 (cM m) (T0.steps.take i);rw[bb] at this;lia
    have yes:cM m (n0,e)=true-> ∀H3,aE H2 H3->(WN (V.ref pr) [V.ref p] H3 fun l xs y=> ∃(rs:List V) (x5:Option V),[some (V.ref ps),some (.ref sd),some (.int (n:Int)),some (.ref pd),some (.ref pr),some (.ref p),none,none]=[some (.ref ps),some (.ref sd),some (.int (n:Int)),some (.ref pd),some (.ref pr),x5,none,none]/\aE H (upd H3 l (.lst (xs ++ [y])))/\upd H3 l (.lst (xs ++ [y])) pr=some (.lst rs)/\gP (upd H3 l (.lst (xs ++ [y]))) ((T0.steps.take (i + 1)).filter (cM m)) rs):=fun z H3 s3=>by
     refine⟨pr,rs,_,rfl,rfl,s3 _ _ Lf,bf (by lia),rs ++ [.ref p],_,rfl,(s2.trans s3).cV nr,ag,?_⟩;rw[mx,aZ z];have tk:=s3.tk.trans (fb (o:= .lst (rs ++ [.ref p])) (s3 _ _ Lf));exact cw (Lg.mono tk) ⟨p,pe,rfl,tk _ _ tR,tk _ _ PH,VL⟩
    refine⟨_,rfl,p,_,_,.int n0,rfl,rfl,cz.of tR,rfl,_,rfl,pd,_,_,.int m,rfl,rfl,cz.of hd2,rfl,rfl,_,rfl,cu (fun z=>fF ?_) (fun z=>?_)⟩
    ·have z':n0≠m:=fun q=>by rw[q] at z; simp at z
     refine⟨_,rfl,.inl ⟨rfl,_,bw.of Lf⟩,_,rfl,yes ?_ H2 (aE.refl _)⟩;show(!(decide (n0=m) && e.isSet))=true;rw[ba z']; rfl
    ·have z':n0=m:=by
      by_cases q:n0=m
      ·exact q
      ·exact absurd (by rw[ba (fun w=>q (by injection w))]; rfl) z
     obtain⟨re,hev⟩:=uv (d:=e) (.inl VL);rw[hev] at PH;refine⟨_,rfl,p,_,_,.ref pe,rfl,rfl,cz.of tR,rfl,pe,_,_,.str (bD.word e),rfl,rfl,cz.of PH,cf (j:=0) rfl,(by show 2<=sizeLine; decide),fun p9 n9=>⟨p9,_,rfl,.inl (bw.of ag),rfl,rfl,!e.isSet,cY V.bl (by rw[aZ rfl,FC VL]),cu (fun q=>?_) (fun q=>?_)⟩⟩
     ·have t9:=aE.new (o:= .lst [V.str "set",.str "sweep"]) n9;refine⟨_,rfl,.inl ⟨rfl,_,bw.of (t9 _ _ Lf)⟩,_,rfl,yes ?_ _ t9⟩;show(!(decide (n0=m) && e.isSet))=true;rw[aG z',Bool.true_and]; exact q
     ·have t9:=aE.new (o:= .lst [V.str "set",.str "sweep"]) n9;refine⟨rs,_,rfl,s2.trans t9,t9 _ _ Lf,?_⟩;have no: ¬ cM m (n0,e)=true:=by
       show ¬ (!(decide (n0=m) && e.isSet))=true;rw[aG z',Bool.true_and]; exact q
      rw[mx,aO no,bU];exact Lg.mono t9.tk
   ·rintro σ H2 ⟨rs,x5,rfl,s2,Lf,Lg⟩;rw[← hlen,aY] at Lg;have Bv:=aL Lg;have VM:=a7 (cM m) T0.steps;have oX:dG T0 n (.g6 m)=if(T0.steps.filter (cM m)).length=T0.steps.length then(.txt "no setting",T0) else
      match cF (T0.steps.filter (cM m)) Bk.new with
      |none=>(.txt "needed",T0)
      |some S=>(.txt "undone",⟨T0.steps.filter (cM m),S⟩):=rfl
    have Lh:=hB.same s2;refine⟨_,rfl,pr,_,rfl,.inl (bw.of Lf),_,rfl,ps,_,rfl,.inl (bw.of (s2 _ _ mF)),rfl,_,rfl,cu (fun z=>?_) (fun z=>?_)⟩
    ·have z':(T0.steps.filter (cM m)).length=T0.steps.length:=by
      have:=aM z;injection this with this;lia
     rw[oX,aZ z'] at k;refine⟨_,rfl,_,rfl,(by show 3<=sizeLine; decide),fun t nt=>?_⟩;have s4:=s2.trans (aE.new (o:= .tup [V.str "no setting",.ref ps,.ref sd]) nt);exact k t _ ps sd g us _ ag (fG.mpr rfl) (s4 _ _ mF) (MD.mono s4.tk) (hB.same s4) s4.frame (fun x hx=> .inl hx) ND (fun _ _ _ _ _=>rfl)
    have z': ¬ (T0.steps.filter (cM m)).length=T0.steps.length:=fun q=>z (aG (by congr 1; lia));rw[oX,aO z'] at k;refine⟨_,rfl,pr,T0.steps.filter (cM m),rs,rfl,Lf,Lg,by lia,fun hw H3 s3=>?_,fun S hw sd3 f3 H3 s3 B3 nf=>?_⟩
    ·rw[hw] at k;refine⟨_,rfl,true,rfl,fF ⟨_,rfl,_,rfl,(by show 3<=sizeLine; decide),fun t nt=>?_⟩⟩;have s4:=(s2.trans s3).trans (aE.new (o:= .tup [V.str "needed",.ref ps,.ref sd]) nt);exact k t _ ps sd g us _ ag (fG.mpr rfl) (s4 _ _ mF) (MD.mono s4.tk) (hB.same s4) s4.frame (fun x hx=> .inl hx) ND (fun _ _ _ _ _=>rfl)
    ·rw[hw] at k;refine⟨_,rfl,false,rfl,bV ⟨_,rfl,_,rfl,(by show 3<=sizeLine; decide),fun t nt=>?_⟩⟩;have t4:=aE.new (o:= .tup [V.str "undone",.ref pr,.ref sd3]) nt;have s4:=(s2.trans s3).trans t4;refine k t _ pr sd3 f3 rs _ ag (fG.mpr rfl) ((s3.trans t4) _ _ Lf) (Lg.mono (s3.trans t4).tk) (B3.same t4) s4.frame (fun x hx=> .inr (s2.free (nf x hx))) (fun q=>?_) (fun a o ha e q=>absurd q.symm (aK e nr));have:=nf pr q;rw[Lf] at this;cases this
end
end eJ
namespace L2
open PySem PySem.Spec PyProof.Rows
def Af {X:Cx}{scope:Scope}{x y:Str}{c d:Addr}{j k:Nat}(GD:closureFor scope X.env=pure [(x,c),(y,d)]:=by rfl)(mq: ∀z∈scope.names,z.2≠ .cell:=by decide +kernel)(mQ:scope.kind= .function:=by rfl)(uV: ∀x∈scope.names,x.2= .local->scope.names.lookup x.1=some .local:=by decide +kernel)
  (hx:X.env.cells.lookup x=some c:=by rfl) (hy:X.env.cells.lookup y=some d:=by rfl) (AX:List (Str×NameKind)) (Sr:(relabel scope X.env).names=AX:=by rfl) (Bv: ∀z∈AX,(z.2= .cell∨z.2= .free)->z.1=x∨z.1=y:=by decide +kernel)
  (hN:X.N[j]? =some x:=by rfl) (hN2:X.N[k]? =some y:=by rfl) (hk:X.env.kindOf x=some .cell∨X.env.kindOf x=some .free:=by exact Or.inl rfl) (K3:X.env.kindOf y=some .cell∨X.env.kindOf y=some .free:=by exact Or.inl rfl)
  (Nk:(relabel scope X.env).names.lookup x=some .cell∨(relabel scope X.env).names.lookup x=some .free:=by exact Or.inl rfl) (Ya:(relabel scope X.env).names.lookup y=some .cell∨(relabel scope X.env).names.lookup y=some .free:=by exact Or.inl rfl):sh X scope [(x,c),(y,d)] [x,y] [j,k]:=by
 refine⟨GD,mq,mQ,uV,fun z c' h=>?_,fun z h=>?_,.cons ⟨hN,hk,Nk⟩ (.cons ⟨hN2,K3,Ya⟩ .nil)⟩
 ·rcases aw.mp (cg h) with e|e
  ·cases e; exact hx
  ·rcases aw.mp e with e|e
   ·cases e; exact hy
   ·cases e
 ·have e:z=x∨z=y:=by
   rcases h with h|h
   ·rw[Sr] at h;exact Bv _ (cg h) (.inl rfl)
   ·rw[Sr] at h;exact Bv _ (cg h) (.inr rfl)
  by_cases q:z=x
  ·exact⟨c,by rw[q]; simp[List.lookup]⟩
  ·have q2:z=y:=e.resolve_left q;have q3:(z == x)=false:=by simpa using q
   exact⟨d,by rw[List.lookup,q3,q2]; simp[List.lookup]⟩
end L2
namespace eJ
open PySem L2 PyProof.Rows K6
seal L2.oN L2.PS L2.PE L2.PT L2.PW L2.PA L2.PC L2.PG L2.IF L2.PI L2.LK L2.K2 L2.PO L2.oA L2.Ng L2.hZ L2.I9 L2.Ni
section
variable {P:Program}{w:World}{K:Frag}{mg:Str->Option Value}{base:Heap}
inductive pY (A:d8)(vs:List V)(H:Hp)(Q:VK)(E':XK):Prop
 |mk (pw p:Addr)(S:Bk)(f:eK)(t:Nat×Nat×Int)(day:Int)(h1:vs=[.ref pw,.ref p,.int day])(h2:dH A H pw S f)(h3:H p=some (.tup [.int t.1,.int t.2.1,.int t.2.2]))(h4:t.1 < S.credits.length)(h5:t.2.1 < S.aF.length)(h6:Q (.bl (decide (S.eZ t<=day))) H):pY A vs H Q E'
def Ag:aW ["work","setting","day"] ["work","setting","day"] (ax (top 40)):={}
def Cs (T:Txt K mg){A:d8}(G:jD K mg A):eW P w K mg base "counts_at" 2 ["work","setting","day"] (pY A):=by
 have xA:eW P w K mg base "counts_from" 1 ["credit","bill"] (Ed A):=xj T G;refine T.BF.fv (k:=1) Ag (fun f cO A' outer s H vs Q E hr h=>?_)
 ·obtain⟨pw,p,S,g,t,day,rfl,hW,hp,hc,hb,k⟩:=h;obtain⟨dw,hw⟩:=hW.obj;obtain⟨pc,c1,c2⟩:=hW.rc.get hc;obtain⟨pb,b1,b2⟩:=hW.rb.get hb;refine⟨_,(au (a9 (eA oQ (fc xA hr (aa (xl (kz (pv 0)) (xt (pv 1) ai)) (aa (xl (kz (pv 0)) (xt (pv 1) ai)) av))) (pv 2) (a6 _)))),?_⟩;refine⟨_,rfl,pw,_,dw,_,_,rfl,hw,G.bJ,G.cD,g9 g,_,rfl,p,_,_,.int t.1,rfl,rfl,cz.of hp,rfl,g.pc,_,_,.ref pc,rfl,rfl,bw.of hW.hc,cf (by rw[aB,c1]; rfl),?_⟩;refine⟨_,rfl,pw,_,dw,_,_,rfl,hw,G.bJ,G.dY,jl g,_,rfl,p,_,_,.int t.2.1,rfl,rfl,cz.of hp,rfl,g.pb,_,_,.ref pb,rfl,rfl,bw.of hW.hb,cf (by rw[aB,b1]; rfl),?_⟩;exact⟨pc,pb,t.1,t.2.1,S.cr t.1,S.bl t.2.1,rfl,c2,b2,_,rfl,_,_,rfl,rfl,k⟩
inductive pZ (A:d8)(vs:List V)(H:Hp)(Q:VK)(E':XK):Prop
 |mk (pw:Addr)(S:Bk)(f:eK)(n:Nat)(day:Int)(h1:vs=[.ref pw,.int day])(h2:dH A H pw S f)(h3:WF S n)(h4:S.made.length<=1000000)(h5: ∀D ms H',aE H H'->H D=none->H' D=some (.lst ms)->il H' (S.made.filter fun t=>decide (S.eZ t<=day)) ms->Q (.ref D) H'):pZ A vs H Q E'
def vQ:aW ["work","day"] ["work","day"] (ax (top 39)):={}
def xB (T:Txt K mg){A:d8}(G:jD K mg A):eW P w K mg base "counting_at" 3 ["work","day"] (pZ A):=by
 have Ct:eW P w K mg base "counts_at" 2 ["work","setting","day"] (pY A):=Cs T G;refine T.wY.fv (k:=2) vQ (fun f cO A' outer s H vs Q E hr h=>?_)
 ·obtain⟨pw,S,g,n,day,rfl,hW,wf,hz,k⟩:=h;obtain⟨dw,hw⟩:=hW.obj;obtain⟨ms,m1,m2⟩:=hW.hm;have hlen:=aL m2;refine⟨_,(au (a9 (gq (tn:=["setting"]) (cn:=["work","day"]) (cj:=[0,1]) rfl (Af (AX:=[(".0",.local),("setting",.local),("counts_at",.globalImplicit),("day",.cell),("work",.cell)])) (ql (kz (pv 0))) (fun _ _ _ _=>(ez (i:=0) (show(["setting","work","day"]:List Str).Nodup by decide +kernel) rfl (Or.inl rfl))) (fun _ _ _ _=>(pG (gf (fc Ct hr (aa (pv 1) (aa (pv 0) (aa (pv 2) av))))))) (fun _ _ _ _=>(pv 0))))),?_⟩;refine⟨_,rfl,pw,_,dw,_,_,rfl,hw,G.bJ,G.md,Ft g,g.pm,rfl,⟨_,bw.of m1⟩,?_⟩;refine dU (K:=K) (a:=g.pm) (xs:=ms) (fun D i σ H6=>H D=none/\ ∃v rs,σ=[v,some (.ref pw),some (.int day)]/\aE H H6/\H6 D=some (.lst rs)/\il H6 ((S.made.take i).filter fun t=>decide (S.eZ t<=day)) rs) (fun D hD=>⟨hD,none,[],rfl,aE.new hD,ag,.nil⟩) (fun D i σ H6 _ ⟨_,_,_,_,t3,_⟩=>bw.of (t3 _ _ m1)) ?_ ?_
  ·rintro D i x σ H6 hx ⟨hD,v,rs,rfl,t3,gF,hT⟩;have hi:i < S.made.length:=by have:=(ak.mp hx).1; lia
   have qm:=af hi;obtain⟨v',hv,p,rfl,hp⟩:=bB m2 qm;rw[hx] at hv;obtain rfl:x= .ref p:=aD hv;have hm:=wf.m _ (bN hi);have mx:=fM (fun t=>decide (S.eZ t<=day)) qm;generalize S.made[i]=t at hp hm mx;have Lg:rs.length<=1000000:=by
    have:=aL hT;have:=a7 (fun t=>decide (S.eZ t<=day)) (S.made.take i);rw[bb] at this;lia
   refine⟨_,rfl,_,rfl,_,rfl,pw,p,S,g,t,day,rfl,hW.same t3,t3 _ _ hp,hm.1,hm.2,_,rfl,cu (fun z=>?_) (fun z=>?_)⟩
   ·rw[aZ z] at mx;refine⟨_,rfl,_,gF,jd Lg,hD,_,rs ++ [.ref p],rfl,t3.cV hD,ag,?_⟩;rw[mx];have tk:=fb (o:= .lst (rs ++ [.ref p])) gF;exact cw (hT.mono tk) ⟨p,rfl,tk _ _ (t3 _ _ hp)⟩
   ·rw[aO z,bU] at mx;refine⟨hD,_,rs,rfl,t3,gF,?_⟩;rw[mx];exact hT
  ·rintro D σ H6 hD ⟨_,v,rs,rfl,t3,gF,hT⟩;rw[← hlen,aY] at hT;exact k D rs H6 t3 hD gF hT
def fU (H:Hp)(l:List (Nat×Int))(vs:List V):Prop:=Paired (fun(t:Nat×Int) v=> ∃p,v= .ref p/\H p=some (.tup [.int t.1,.int t.2])) l vs
def fU.mono {H H':Hp}{l:List (Nat×Int)}{vs:List V}(h:fU H l vs)(k:cB H H'):fU H' l vs:=Paired.iA h fun _ _ ⟨p,e,q⟩=>⟨p,e,k _ _ q⟩
def fU.Lc {H:Hp}: ∀{l:List (Nat×Int)} {vs:List V},fU H l vs->ie H (l.map fun t=> .tup [.int t.1,.int t.2]) vs
 |_,_,.nil=>cI.mpr rfl
 |_,_,.cons ⟨p,e,q⟩ t=>by
  subst e;exact bI.mpr ⟨_,_,rfl,eO q (bI.mpr ⟨_,_,rfl,dj.mpr rfl,bI.mpr ⟨_,_,rfl,dj.mpr rfl,cI.mpr rfl⟩⟩),fU.Lc t⟩
section
variable (S:Bk)(aU:Bool)(aC:Str)(day:Int)
def pD (k:Nat):Bool:=decide (((S.rows aU).getD k default).aC=aC) && (decide (((S.rows aU).getD k default).a<=day) && decide (0 < S.rest aU k day))
def kD (i:Nat):List (Int×Nat):=((List.range i).filter (pD S aU aC day)).map fun k=>(keyOf aU ((S.rows aU).getD k default),k)
def gD (x:Int×Nat):List Int:=[x.1,(x.2:Int),S.rest aU x.2 day]
end
section
variable {S:Bk}{aU:Bool}{aC:Str}{day:Int}{i:Nat}
def FE:kD S aU aC day (i + 1)=kD S aU aC day i ++ (if pD S aU aC day i=true then[(keyOf aU ((S.rows aU).getD i default),i)] else[]):=by
 unfold kD;rw[oy,f9,aJ]
 congr 1
 by_cases c:pD S aU aC day i=true
 ·rw[aZ c,bS c]; rfl
 ·rw[aO c,eo c]; rfl
def TU: ∀x∈kD S aU aC day i,x.2 < i:=by
 intro x hx;obtain⟨k,hk,rfl⟩:=bG.mp hx;exact cS.mp (dJ.mp hk).1
def TV:((kD S aU aC day i).map (·.2)).Nodup:=by
 unfold kD;rw[dB];have e:((fun x:Int×Nat=>x.2) ∘ fun k=>(keyOf aU ((S.rows aU).getD k default),k))=id:=rfl;rw[e,tP];exact jv.filter _
def Eg:(kD S aU aC day i).length<=i:=by
 unfold kD;rw[ae];exact a0 (a7 _ _) (by rw[dr]; exact aI _)
def Cu:S.dF aU aC day=(eB (kD S aU aC day (S.rows aU).length)).map fun x=>(x.2,S.rest aU x.2 day):=by
 have e:kD S aU aC day (S.rows aU).length=(gg (S.rows aU) aC (keyOf aU)).filter fun x=>decide (((S.rows aU).getD x.2 default).a<=day) && decide (0 < S.rest aU x.2 day):=by
  unfold kD gg;rw[Ll,iw]
  congr 1
  apply iW;intro k _;show pD S aU aC day k=_;unfold pD;rw[Bool.and_comm];rfl
 rw[e,l0];unfold Bk.dF inOrder;rw[← sU (fun x:Int×Nat=>x.2) (fun k=>decide (((S.rows aU).getD k default).a<=day) && decide (0 < S.rest aU k day)),dB];rfl
end
inductive FF (vs:List V)(H:Hp)(Q:VK)(E':XK):Prop
 |mk (sd:Addr)(S:Bk)(f:fC)(n:Nat)(aU:Bool)(aC:Str)(day:Int)(h1:vs=[.ref sd,.str aC,.int day,.int (if aU=true then 1 else 0)])(h2:dh H sd S f)(h3:WF S n)(h4:n<=60)(h5: ∀D ms H',aE H H'->H D=none->H' D=some (.lst ms)->fU H' (S.dF aU aC day) ms->Q (.ref D) H'):FF vs H Q E'
def PJ (aU:Bool)(r:Rw):se r.vs (2 + (if aU=true then(1:Int) else 0))=some (.int (qL aU r)):=by cases aU <;> rfl
def PL (aU:Bool)(r:Rw):se r.vs (1 + (if aU=true then(1:Int) else 0))=some (.int (keyOf aU r)):=by cases aU <;> rfl
def FG (aU:Bool)(t:Nat×Nat×Int):se [V.int t.1,.int t.2.1,.int t.2.2] (if aU=true then(1:Int) else 0)=some (.int (spotOf aU t:Int)):=by cases aU <;> rfl
def nJ:aW ["_law_state","_law_who","_law_day","_law_spot","_law_rows","_law_keys","_law_k","_law_amount","_law_setting","_law_late"] ["_law_state","_law_who","_law_day","_law_spot"] (ax (top 64)):={}
def xC (T:Txt K mg):eW P w K mg base "_law_at_day" 1 ["_law_state","_law_who","_law_day","_law_spot"] FF:=by
 refine T.xh.fv (k:=0) nJ (fun f cO A outer s H vs Q E hr h=>?_)
 ·obtain⟨sd,S,g,n,aU,aC,day,rfl,hB,wf,hn,k⟩:=h;have hu:=jP hr;have nd:=nJ.nd;refine⟨_,(jc (sv 4 nd (cA hu (pv 0) (xl (bQ (aa aV (aa aV av))) (pv 3)) (fun _ _=>rfl)))
(ah (sv 5 nd (bQ av))
(ah (dS bu rfl (hX rfl T.kG (aa (mH T.dP (pv 4)) av)) (gn 6 nd)
(ah (sv 7 nd (xl (xl (pv 4) (pv 6)) (aQ cE ai (pv 3))))
(ah (dS bu rfl (ql (cA hu (pv 0) aV (fun _ _=>rfl))) (gn 8 nd)
(ah (sv 9 nd (eN (xU rfl) (by rfl) T.Nw boot_max (aa (xl (xl (cA hu (pv 0) aV (fun _ _=>rfl)) (xt (pv 8) ai)) ai) (aa (xl (xl (cA hu (pv 0) aV (fun _ _=>rfl)) (xt (pv 8) ai)) ai) av))))
(au (bP (PW.pt (pw_and (aX cG (xt (pv 8) (pv 3)) (pv 6) (a6 _)) (pw_and1 (aX oQ (pv 9) (pv 2) (a6 _)))))
(au (sv 7 nd (aQ eI (pv 7) (xt (pv 8) ai))))
bh))))
(au (bP (PW.pt (pw_and (aX cG (xl (xl (pv 4) (pv 6)) ai) (pv 1) (a6 _)) (pw_and (aX oQ (xl (xl (pv 4) (pv 6)) ai) (pv 2) (a6 _)) (pw_and1 (aX jh (pv 7) ai (a6 _))))))
(au (bK (pS (pv 5) (cK (aa (xl (xl (pv 4) (pv 6)) (aQ cE ai (pv 3))) (aa (pv 6) (aa (pv 7) av)))))))
bh)))))
(au (a9 (gq (tn:=["_law_key"]) (cn:=[]) (cj:=[]) rfl uh (ql (eN qJ (by rfl) T.qQ boot_sorted (aa (pv 5) av))) (fun _ _ _ _=>(ez (i:=0) (show(["_law_key"]:List Str).Nodup by decide +kernel) rfl (Or.inl rfl))) (fun _ _ _ _=>kW) (fun _ _ _ _=>(cK (aa (iQ (kE (K:=K) rfl) (pv 0) ai (fun _ _=>rfl)) (aa (iQ (kE (K:=K) rfl) (pv 0) ai (fun _ _=>rfl)) av)))))))))),?_⟩
  refine⟨fun σ' H'=> ∃(pR:Addr) (Hv:List Addr),σ'=[some (.ref sd),some (.str aC),some (.int day),some (.int (if aU=true then 1 else 0)),some (.ref pR),none,none,none,none,none]/\aE H H'/\H' pR=some (.lst (Hv.map V.ref))/\eP H' (S.rows aU) Hv,?_,?_⟩
  ·refine⟨_,rfl,(by show 2<=sizeLine; decide),fun p9 n9=>⟨_,rfl,?_⟩⟩;have t9:=aE.new (o:= .lst [V.str "credits",.str "bills"]) n9;have B9:=hB.same t9;cases aU with
   |true=>exact⟨p9,_,_,.str "bills",rfl,rfl,bw.of ag,rfl,sd,_,rfl,B9.gB,g.pb,g.ix,rfl,t9,B9.hb,B9.rb⟩
   |false=>exact⟨p9,_,_,.str "credits",rfl,rfl,bw.of ag,rfl,sd,_,rfl,B9.gC,g.pc,g.cps,rfl,t9,B9.hc,B9.rc⟩
  rintro σ H1 ⟨pR,Hv,rfl,s1,hpR,hrR⟩;refine⟨bp _,fun pk nk=>?_⟩;have Yb:=s1.free nk;have s1k:aE H (upd H1 pk (.lst [])):=(s1.trans (aE.new nk));have hlR:=hrR.length;have Bv:(S.rows aU).length<=60:=by
   cases aU with
   |true=>exact a0 wf.lb hn
   |false=>exact a0 wf.lc hn
  refine⟨_,rfl,pR,_,rfl,.inl (bw.of (aE.new nk _ _ hpR)),((Hv.map V.ref).length:Int),rfl,by lia,by rw[ae]; lia,?_⟩;rw[dm];refine iY (lo:=0) (n:=(Hv.map V.ref).length) (fun i σ H2=> ∃(xs:List V) (x6 x7 x8 x9:Option V),σ=[some (.ref sd),some (.str aC),some (.int day),some (.int (if aU=true then 1 else 0)),some (.ref pR),some (.ref pk),x6,x7,x8,x9]/\aE H1 H2/\H2 pk=some (.lst xs)/\gr H2 ((kD S aU aC day i).map (gD S aU day)) xs)
   ⟨[],none,none,none,none,rfl,aE.new nk,ag,.nil⟩ ?_ ?_
  ·rintro i σ H2 hi ⟨xs,x6,x7,x8,x9,rfl,s2,hx,hT⟩;rw[gS];have wN:i < (S.rows aU).length:=by rw[ae] at hi; lia
   obtain⟨r,ri,Ld⟩:=hrR.at wN;have ar:se (Hv.map V.ref) (i:Int)=some (.ref r):=cf (by rw[aB,ri]; rfl);have tR:=s2 _ _ hpR;have yx:=s2 _ _ Ld;have B2:=hB.same (s1.trans s2);obtain⟨ms,m1,m2⟩:=B2.hm;have PB:xs.length<=i:=by
    have:=aL hT;rw[ae] at this;have:=Eg (S:=S) (aU:=aU) (aC:=aC) (day:=day) (i:=i);lia
   refine⟨_,rfl,_,rfl,pR,_,_,.ref r,rfl,rfl,bw.of tR,ar,_,rfl,_,_,rfl,rfl,r,_,_,_,rfl,rfl,bw.of yx,PJ aU _,?_⟩;refine⟨_,rfl,sd,_,rfl,B2.gM,g.pm,rfl,⟨_,bw.of m1⟩,?_⟩;refine eM (K:=K) (a:=g.pm) (xs:=ms) (fun j σ H3=> ∃(x8 x9:Option V),σ=[some (.ref sd),some (.str aC),some (.int day),some (.int (if aU=true then 1 else 0)),some (.ref pR),some (.ref pk),some (.int (i:Int)),some (.int (qL aU ((S.rows aU).getD i default) - (((S.made.take j).filter (S.cnt aU i day)).map (·.2.2)).sum)),x8,x9]/\H3=H2)
    ⟨x8,x9,by simp[List.take_zero],rfl⟩ (fun j σ H3 _ ⟨_,_,_,e⟩=>by rw[e]; exact bw.of m1) ?_ ?_
   ·rintro j x σ H3 hx3 ⟨x8,x9,rfl,rfl⟩;have hj:j < S.made.length:=by have:=(ak.mp hx3).1; have:=aL m2; lia
    have TX:=af hj;obtain⟨v,hv,p8,rfl,TY⟩:=bB m2 TX;rw[hx3] at hv;obtain rfl:x= .ref p8:=aD hv;have Ah:=wf.m _ (bN hj);have mx:=fM (S.cnt aU i day) TX;generalize S.made[j]=t at TY Ah mx;obtain⟨qc,_,ac,hqc⟩:=B2.lc Ah.1;obtain⟨qb,_,ab,hqb⟩:=B2.lb Ah.2;refine⟨_,rfl,sd,_,rfl,B2.gC,_,rfl,p8,_,_,.int t.1,rfl,rfl,cz.of TY,rfl,g.pc,_,_,.ref qc,rfl,rfl,bw.of B2.hc,ac,qc,_,_,.int (S.cr t.1).a,rfl,rfl,bw.of hqc,rfl,?_⟩;refine⟨_,rfl,sd,_,rfl,B2.gB,_,rfl,p8,_,_,.int t.2.1,rfl,rfl,cz.of TY,rfl,g.pb,_,_,.ref qb,rfl,rfl,bw.of B2.hb,ab,qb,_,_,.int (S.bl t.2.1).a,rfl,rfl,bw.of hqb,rfl,_,_,rfl,?_⟩;have no:S.cnt aU i day t=false-> ∃(y8 y9:Option V),[some (V.ref sd),some (.str aC),some (.int day),some (.int (if aU=true then 1 else 0)),some (.ref pR),some (.ref pk),some (.int (i:Int)),some (.int (qL aU ((S.rows aU).getD i default) - (((S.made.take j).filter (S.cnt aU i day)).map (·.2.2)).sum)),some (.ref p8),some (.int (if(S.cr t.1).a < (S.bl t.2.1).a then(S.bl t.2.1).a else(S.cr t.1).a))]=[some (.ref sd),some (.str aC),some (.int day),some (.int (if aU=true then 1 else 0)),some (.ref pR),some (.ref pk),some (.int (i:Int)),some (.int (qL aU ((S.rows aU).getD i default) - (((S.made.take (j + 1)).filter (S.cnt aU i day)).map (·.2.2)).sum)),y8,y9]/\H3=H3:=fun z=>by
     refine⟨some (.ref p8),some (.int (if(S.cr t.1).a < (S.bl t.2.1).a then(S.bl t.2.1).a else(S.cr t.1).a)),?_,rfl⟩;rw[aO (by rw[z]; exact aR),bU] at mx;rw[mx]
    refine⟨_,rfl,_,rfl,p8,_,_,_,rfl,rfl,cz.of TY,FG aU t,_,rfl,rfl,_,rfl,cu (fun z1=>?_) (fun z1=>bV (no ?_))⟩
    ·refine⟨_,rfl,_,rfl,_,_,rfl,rfl,_,rfl,cu (fun z2=>?_) (fun z2=>no ?_)⟩
     ·refine⟨_,rfl,_,rfl,p8,_,_,.int t.2.2,rfl,rfl,cz.of TY,rfl,_,_,rfl,rfl,some (.ref p8),some (.int (if(S.cr t.1).a < (S.bl t.2.1).a then(S.bl t.2.1).a else(S.cr t.1).a)),?_,rfl⟩;have e1:spotOf aU t=i:=by
       have:=aM z1;injection this with this;lia
      have e2:S.eZ t<=day:=aM z2;have yes:S.cnt aU i day t=true:=by
       unfold Bk.cnt;rw[aG e1,aG e2]; rfl
      rw[aZ yes] at mx;rw[mx,aJ,ox];show[_,_,_,_,_,_,_,some (V.int (_ - _ - t.2.2)),_,_]=_;simp only[List.map_cons,List.map_nil,List.sum_cons,List.sum_nil,Int.add_zero,Int.sub_sub]
     ·unfold Bk.cnt;have e2: ¬ S.eZ t<=day:=fun q=>z2 (aG q);rw[ba e2,hV]
    ·unfold Bk.cnt;have e1: ¬ spotOf aU t=i:=fun q=>z1 (aG (by rw[q]));rw[ba e1,qq]
   ·rintro σ H3 ⟨x8,x9,rfl,rfl⟩;have Fz:ms.length=S.made.length:=(aL m2).symm;have Fo:qL aU ((S.rows aU).getD i default) - (((S.made.take ms.length).filter (S.cnt aU i day)).map (·.2.2)).sum=S.rest aU i day:=by
     rw[Fz,aY]; rfl
    rw[Fo];have no:pD S aU aC day i=false-> ∃(ys:List V) (y6 y7 y8 y9:Option V),[some (V.ref sd),some (.str aC),some (.int day),some (.int (if aU=true then 1 else 0)),some (.ref pR),some (.ref pk),some (.int (i:Int)),some (.int (S.rest aU i day)),x8,x9]=[some (.ref sd),some (.str aC),some (.int day),some (.int (if aU=true then 1 else 0)),some (.ref pR),some (.ref pk),y6,y7,y8,y9]/\aE H1 H3/\H3 pk=some (.lst ys)/\gr H3 ((kD S aU aC day (i + 1)).map (gD S aU day)) ys:=fun z=>
     ⟨xs,_,_,_,_,rfl,s2,hx,by rw[FE,aO (by rw[z]; exact aR),bU]; exact hT⟩
    generalize Hq:(S.rows aU).getD i default=row at yx;have PM:pD S aU aC day i=(decide (row.aC=aC) && (decide (row.a<=day) && decide (0 < S.rest aU i day))):=by unfold pD; rw[Hq]
    refine⟨_,rfl,_,rfl,pR,_,_,.ref r,rfl,rfl,bw.of tR,ar,r,_,_,.str row.aC,rfl,rfl,bw.of yx,rfl,_,rfl,rfl,_,rfl,cu (fun d1=>?_) (fun d1=>bV (no (by rw[PM,ba (rh d1)]; rfl)))⟩;refine⟨_,rfl,_,rfl,pR,_,_,.ref r,rfl,rfl,bw.of tR,ar,r,_,_,.int row.a,rfl,rfl,bw.of yx,rfl,_,rfl,_,_,rfl,rfl,_,rfl,cu (fun d2=>?_) (fun d2=>bV (no (by rw[PM,ba (fun q=>d2 (aG q)),qq,hV])))⟩;refine⟨_,rfl,_,_,rfl,rfl,_,rfl,cu (fun d3=>?_) (fun d3=>no (by rw[PM,ba (fun q=>d3 (aG q)),hV,hV]))⟩;have yes:pD S aU aC day i=true:=by
     rw[PM,aG (um d1),aG (aM d2),aG (aM d3)]; rfl
    refine⟨_,rfl,.inl ⟨rfl,_,bw.of hx⟩,_,rfl,_,rfl,pR,_,_,.ref r,rfl,rfl,bw.of tR,ar,_,rfl,_,_,rfl,rfl,r,_,_,_,rfl,rfl,bw.of yx,PL aU row,_,rfl,_,rfl,(by show 3<=sizeLine; decide),fun p8 n8=>?_⟩;have t8:=aE.new (o:= .tup [V.int (keyOf aU row),.int (i:Int),.int (S.rest aU i day)]) n8;refine⟨pk,xs,_,rfl,rfl,t8 _ _ hx,bf (by lia),xs ++ [.ref p8],_,_,_,_,rfl,(s2.trans t8).cV nk,ag,?_⟩;rw[FE,aZ yes,aJ,Hq];exact gr.snoc (hT.mono (t8.tk.trans (fb (t8 _ _ hx)))) (dE (t8 _ _ hx) _ _ ag)
  ·rintro σ H2 ⟨xs,x6,x7,x8,x9,rfl,s2,hx,hT⟩;have PB:=aL hT;have VH:=Eg (S:=S) (aU:=aU) (aC:=aC) (day:=day) (i:=(Hv.map V.ref).length);have Fx:=TU (S:=S) (aU:=aU) (aC:=aC) (day:=day) (i:=(Hv.map V.ref).length);have mF:(Hv.map V.ref).length=(S.rows aU).length:=by rw[ae]; lia
   have hle: ∀x∈kD S aU aC day (Hv.map V.ref).length,x.2 < 1000:=fun x hx=>by have:=Fx x hx; lia
   have jV:S.dF aU aC day=(eB (kD S aU aC day (Hv.map V.ref).length)).map fun x=>(x.2,S.rest aU x.2 day):=by rw[mF]; exact Cu
   have hnd:=TV (S:=S) (aU:=aU) (aC:=aC) (day:=day) (i:=(Hv.map V.ref).length);generalize kD S aU aC day (Hv.map V.ref).length=ks at hT PB VH hle jV hnd;rw[ae] at PB;refine⟨_,rfl,pk,xs,_,tW,rfl,bw.of hx,(by lia),hT,(fun t ht=>?_),(fun t ht u hu=>?_),fun D ys us nD La perm le=>?_⟩
   ·obtain⟨x,_,rfl⟩:=bG.mp ht;simp[gD]
   ·obtain⟨x,yl,rfl⟩:=bG.mp ht;obtain⟨y,z8,rfl⟩:=bG.mp hu;refine qR (u:=[S.rest aU x.2 day]) (v:=[S.rest aU y.2 day]) (hle x yl) (hle y z8) (fun e=>⟨by rw[e],lJ hnd yl z8 e⟩) ?_;rw[HT.lX,aZ rfl]; rfl
   ·have R3:=sZ hle hnd (fun x _=>rfl) perm le;subst R3;have tD:=aE.new (o:= .lst ys) nD;refine⟨D,rfl,⟨_,bw.of ag⟩,?_⟩;have Fy:=La.mono tD.tk;generalize Mz:upd H2 D (.lst ys)=H3 at tD Fy;have X4:H3 D=some (.lst ys):=by rw[← Mz]; exact ag
    have s3:=(s1.trans s2).trans tD;clear Mz La perm le hT;have Tv:=aL Fy;refine dU (K:=K) (a:=D) (xs:=ys) (fun D' i σ H6=>H3 D'=none/\ ∃v rs,σ=[v]/\aE H3 H6/\H6 D'=some (.lst rs)/\fU H6 (((eB ks).take i).map fun x=>(x.2,S.rest aU x.2 day)) rs) (fun D' vJ=>⟨vJ,none,[],rfl,aE.new vJ,ag,.nil⟩) (fun D' i σ H6 _ ⟨_,_,_,_,t3,_⟩=>bw.of (t3 _ _ X4)) ?_ ?_
    ·rintro D' i x σ H6 Ka ⟨vJ,v,rs,rfl,t3,gF,hP⟩;have hi:i < (eB ks).length:=by
      have:=(ak.mp Ka).1;rw[ae] at Tv;lia
     have g0:((eB ks).map (gD S aU day))[i]? =some (gD S aU day (eB ks)[i]):=by rw[aB,af hi]; rfl
     obtain⟨v',hv,pp,e1,zr⟩:=bB Fy g0;rw[Ka] at hv;obtain rfl:x=v':=aD hv;subst e1;have kq:=gQ hi;have xp:=t3 _ _ zr;generalize (eB ks)[i]=z at xp kq;have Iu:rs.length<=100:=by
      have:=aL hP;rw[ae,bb] at this;have:=(cL ks).length_eq;lia
     refine⟨_,rfl,pp,_,_,.int (z.2:Int),rfl,rfl,cz.of xp,rfl,_,rfl,pp,_,_,.int (S.rest aU z.2 day),rfl,rfl,cz.of xp,rfl,(by show 2<=sizeLine; decide),fun r6 m6=>?_⟩;have t6:=aE.new (o:= .tup [V.int (z.2:Int),.int (S.rest aU z.2 day)]) m6;refine⟨rs,t6 _ _ gF,bf (by lia),vJ,_,rs ++ [.ref r6],rfl,(t3.trans t6).cV vJ,ag,?_⟩;rw[kq,aJ];have tk:=t6.tk.trans (fb (o:= .lst (rs ++ [.ref r6])) (t6 _ _ gF));exact cw (hP.mono tk) ⟨r6,rfl,fb (o:= .lst (rs ++ [.ref r6])) (t6 _ _ gF) _ _ ag⟩
    ·rintro D' σ H6 vJ ⟨_,v,rs,rfl,t3,gF,hP⟩;refine k D' rs H6 (s3.trans t3) (s3.free vJ) gF ?_;rw[jV];rw[← Tv,ae,aY] at hP;exact hP
def Hw {S:Bk}{aU:Bool}{aC:Str}{day:Int}{t:Nat×Int}(h:t∈S.dF aU aC day):t.1 < (S.rows aU).length:=by
 unfold Bk.dF at h;obtain⟨k,hk,rfl⟩:=bG.mp h;exact(ji.mp (dJ.mp hk).1).1
def sD {S:Bk}{aU:Bool}{aC:Str}{day:Int}:(S.dF aU aC day).length<=(S.rows aU).length:=by
 rw[Cu,ae,(cL _).length_eq];exact Eg
def Eh (eZ:Int)(de:List Int):L2.placeOf eZ de < de.length + 2:=by
 unfold L2.placeOf;split
 ·lia
 ·have:=a7 (fun l=>decide (l < eZ)) de;lia
def Hx (l:List Int)(i:Nat)(x:Int):(sW l i x).length=l.length:=by unfold sW; rw[List.length_set]
def ME (n:Nat)(b:Int):(List.replicate n [V.int b]).flatten=(List.replicate n b).map V.int:=by
 induction n with
 |zero=>rfl
 |succ n ih=>rw[dg,iU,ih,dg]; rfl
def sE (H:Hp)(ok:Addr->Prop):zl->V->Prop
 | .int i,v=>v= .int i
 | .txt s,v=>v= .str s
 | .sets l,v=> ∃D ms,v= .ref D/\ok D/\H D=some (.lst ms)/\il H l ms
 | .pairs l,v=> ∃D ms,v= .ref D/\ok D/\H D=some (.lst ms)/\fU H l ms
 | .ints l,v=> ∃D,v= .ref D/\ok D/\H D=some (.lst (l.map V.int))
def sE.keep {H H':Hp}{ok ok':Addr->Prop}{a:zl}{v:V}(h:sE H ok a v)(kl: ∀D xs,ok D->H D=some (.lst xs)->ok' D/\H' D=some (.lst xs))(kt:cB H H'):sE H' ok' a v:=by
 cases a with
 |int i=>exact h
 |txt s=>exact h
 |sets l=>
  obtain⟨D,ms,e,o,z,t⟩:=h;obtain⟨o',z'⟩:=kl _ _ o z;exact⟨D,ms,e,o',z',t.mono kt⟩
 |pairs l=>
  obtain⟨D,ms,e,o,z,t⟩:=h;obtain⟨o',z'⟩:=kl _ _ o z;exact⟨D,ms,e,o',z',fU.mono t kt⟩
 |«ints» l=>
  obtain⟨D,e,o,z⟩:=h;obtain⟨o',z'⟩:=kl _ _ o z;exact⟨D,e,o',z'⟩
def Cv {H:Hp}: ∀l:List Int,ie H (l.map Dt.int) (l.map V.int)
 |[]=>cI.mpr rfl
 |x :: l=>bI.mpr ⟨_,_,rfl,dj.mpr rfl,Cv l⟩
def fu {X:Cx}{K:Frag}{e:Expr}{f:Str}{pos:Pos}{ta:TE}(h:X.K=K)(he:PE X e ta)(hb:attributeBase e f X.env (eval e X.env)=eval e X.env):PE X (.Attribute e f pos) (Oq K ta f):=by subst h; exact IT he hb
def Cw (A:d8)(aU:Bool):Addr:=if aU=true then A.dW else A.d9
def Ai (aU:Bool)(k:Nat)(r:Rw):List (Str×V):=if aU=true then fz k r else fe k r
def yy (aU:Bool)(k:Nat)(r:Rw):(Ai aU k r).lookup ("number":Str)=some (V.int k):=by cases aU <;> rfl
def PN (aU:Bool)(k:Nat)(r:Rw):(Ai aU k r).lookup ("day":Str)=some (V.int r.a):=by cases aU <;> rfl
def Hy (aU:Bool)(k:Nat)(r:Rw):(Ai aU k r).lookup ("amount":Str)=some (V.int (qL aU r)):=by cases aU <;> rfl
def Aj {A:d8}(G:jD K mg A)(aU:Bool):wI K (Cw A aU):=by cases aU; exact G.c9; exact G.ee
def yz {A:d8}(G:jD K mg A)(aU:Bool):b9 K (Cw A aU) "number":=by cases aU; exact G.eL; exact G.eQ
def PQ {A:d8}(G:jD K mg A)(aU:Bool):b9 K (Cw A aU) "day":=by cases aU; exact G.je; exact G.m9
def HA {A:d8}(G:jD K mg A)(aU:Bool):b9 K (Cw A aU) "amount":=by cases aU; exact G.lH; exact G.ni
def MF (A:d8)(H:Hp)(S:Bk)(aU:Bool)(ks:List Nat)(qs:List Addr):Prop:=Paired (fun(k:Nat) q=>eD H q (Cw A aU) (Ai aU k ((S.rows aU).getD k default))) ks qs
def pR (S:Bk)(aU:Bool)(day:Int)(k:Nat):Bool:=decide (((S.rows aU).getD k default).a<=day) && decide (0 < S.rest aU k day)
inductive rn (A:d8)(vs:List V)(H:Hp)(Q:VK)(E':XK):Prop
 |mk (pw pt:Addr)(S:Bk)(f:eK)(n:Nat)(aU:Bool)(day:Int)(ks:List Nat)(qs:List Addr)(h1:vs=[.ref pw,.ref pt,.int (if aU=true then 1 else 0),.int day])(h2:dH A H pw S f)(h3:WF S n)(h4:S.made.length<=1000000)(h5:H pt=some (.lst (qs.map V.ref)))(h6:MF A H S aU ks qs)(h7:ks.length<=100)(h8: ∀D ms H',aE H H'->H D=none->H' D=some (.lst ms)->fU H' ((ks.filter (pR S aU day)).map fun k=>(k,S.rest aU k day)) ms->Q (.ref D) H'):rn A vs H Q E'
def my:aW ["work","told","place","day","counting","remaining","item","rest"] ["work","told","place","day"] (ax (top 38)):={}
def nK (T:Txt K mg){A:d8}(G:jD K mg A):eW P w K mg base "remaining_at" 4 ["work","told","place","day"] (rn A):=by
 have xD:eW P w K mg base "counting_at" 3 ["work","day"] (pZ A):=xB T G;refine T.vt.fv (k:=3) my (fun f cO A' outer s H vs Q E hr h=>?_)
 ·obtain⟨pw,pt,S,g,n,aU,day,ks,qs,rfl,hW,wf,hz,ur,hI,Fx,k⟩:=h;have nd:=my.nd;have hlen:=aL hI;refine⟨_,(ah (sv 4 nd (fc xD hr (aa (pv 0) (aa (pv 3) av))))
(ah (sv 5 nd (bQ av))
(ah (dS bu rfl (ql (pv 1)) (gn 6 nd)
(ah (sv 7 nd (aQ eI (kz (pv 6)) (eN (lA rfl) (by rfl) T.BK boot_sum (aa (gq (tn:=["setting"]) (cn:=["place","item"]) (cj:=[2,6]) rfl (Af (AX:=[(".0",.local),("setting",.local),("item",.cell),("place",.cell)])) (ql (pv 4)) (fun _ _ _ _=>(ez (i:=0) (show(["setting","place","item"]:List Str).Nodup by decide +kernel) rfl (Or.inl rfl))) (fun _ _ _ _=>(pG (aX cG (iQ (kE (K:=K) rfl) (pv 0) (pv 1) (fun _ _=>rfl)) (fu (K:=K) rfl (pv 2) rfl) (a6 _)))) (fun _ _ _ _=>(iQ (kE (K:=K) rfl) (pv 0) ai (fun _ _=>rfl)))) av))))
(au (bP (PW.pt (pw_and (aX oQ (kz (pv 6)) (pv 3) (a6 _)) (pw_and1 (aX jh (pv 7) ai (a6 _)))))
(au (bK (pS (pv 5) (cK (aa (kz (pv 6)) (aa (pv 7) av))))))
bh))))
(au (a9 (pv 5)))))),?_⟩
  refine⟨_,rfl,_,rfl,pw,S,g,n,day,rfl,hW,wf,hz,fun pc cs H1 s1 nc hc hT=>?_⟩;refine⟨bp _,fun pr nr=>?_⟩;have nr0:=s1.free nr;have sr:=aE.new (o:= .lst []) nr;refine⟨_,rfl,pt,rfl,⟨_,bw.of ((s1.trans sr) _ _ ur)⟩,?_⟩;refine eM (K:=K) (a:=pt) (xs:=qs.map V.ref) (fun i σ H2=> ∃(rs:List V) (x6 x7:Option V),σ=[some (.ref pw),some (.ref pt),some (.int (if aU=true then 1 else 0)),some (.int day),some (.ref pc),some (.ref pr),x6,x7]/\aE H1 H2/\H2 pr=some (.lst rs)/\fU H2 (((ks.take i).filter (pR S aU day)).map fun k=>(k,S.rest aU k day)) rs)
   ⟨[],none,none,rfl,sr,ag,.nil⟩ (fun i σ H2 _ ⟨_,_,_,_,s2,_⟩=>bw.of ((s1.trans s2) _ _ ur)) ?_ ?_
  ·rintro i x σ H2 hx ⟨rs,x6,x7,rfl,s2,yx,hP⟩;rw[aB] at hx;obtain⟨q,hq,rfl⟩:=br.mp hx;have hi:i < ks.length:=by have:=(ak.mp hq).1; lia
   have qm:=af hi;obtain⟨q',sP,lL⟩:=bB hI qm;rw[hq] at sP;obtain rfl:q=q':=aD sP;have mx:=fM (pR S aU day) qm;generalize ks[i]=kk at lL mx;have s02:=s1.trans s2;obtain⟨dq,A0⟩:=lL.same s02;have LV:=s2 _ _ hc;have GH:=hT.mono s2.tk;have qP:=aL GH;have VM:=a7 (fun t=>decide (S.eZ t<=day)) S.made;have Bv:rs.length<=100:=by
    have e1:=aL hP;have e2:=a7 (pR S aU day) (ks.take i);rw[ae] at e1;rw[bb] at e2;lia
   refine⟨_,rfl,q,_,dq,_,_,rfl,A0,Aj G aU,HA G aU,Hy aU _ _,_,rfl,pc,rfl,⟨_,bw.of LV⟩,?_⟩;refine dU (K:=K) (a:=pc) (xs:=cs) (fun D j σ H6=>H2 D=none/\ ∃v,σ=[v,some (.int (if aU=true then 1 else 0)),some (.ref q)]/\aE H2 H6/\H6 D=some (.lst (((((S.made.filter fun t=>decide (S.eZ t<=day)).take j).filter fun t=>decide (spotOf aU t=kk)).map (·.2.2)).map V.int))) (fun D hD=>⟨hD,none,rfl,aE.new hD,ag⟩) (fun D j σ H6 _ ⟨_,_,_,t3,_⟩=>bw.of (t3 _ _ LV)) ?_ ?_
   ·rintro D j x σ H6 Ka ⟨hD,v,rfl,t3,gF⟩;have hj:j < (S.made.filter fun t=>decide (S.eZ t<=day)).length:=by have:=(ak.mp Ka).1; lia
    have TX:=af hj;obtain⟨v',hv,p,rfl,hp⟩:=bB GH TX;rw[Ka] at hv;obtain rfl:x= .ref p:=aD hv;have Kg:=fM (fun t=>decide (spotOf aU t=kk)) TX;generalize (S.made.filter fun t=>decide (S.eZ t<=day))[j]=t at hp Kg;have hsz:((((S.made.filter fun t=>decide (S.eZ t<=day)).take j).filter fun t=>decide (spotOf aU t=kk)).map (·.2.2)).length<=1000000:=by
     rw[ae];have e1:=a7 (fun t=>decide (spotOf aU t=kk)) ((S.made.filter fun t=>decide (S.eZ t<=day)).take j);rw[bb] at e1;lia
    have NG:=t3 _ _ hp;refine⟨_,rfl,_,rfl,p,_,_,_,rfl,rfl,cz.of NG,FG aU t,_,rfl,q,_,dq,_,_,rfl,t3 _ _ A0,Aj G aU,yz G aU,yy aU _ _,rfl,_,rfl,cu (fun z=>?_) (fun z=>?_)⟩
    ·have z':spotOf aU t=kk:=by
      have:=aM z;injection this with this;lia
     rw[aZ (aG z')] at Kg;refine⟨_,rfl,p,_,_,.int t.2.2,rfl,rfl,cz.of NG,rfl,_,gF,jd (by rw[ae]; exact hsz),hD,_,rfl,t3.cV hD,?_⟩;rw[ag,Kg,aJ,aJ];rfl
    ·have z': ¬ spotOf aU t=kk:=fun e=>z (aG (by rw[e]));rw[aO (by rw[ba z']; exact aR),bU] at Kg;refine⟨hD,_,rfl,t3,?_⟩;rw[Kg];exact gF
   ·rintro D σ H6 hD ⟨_,v,rfl,t3,gF⟩;rw[← qP,aY,iw] at gF;refine⟨D,_,rfl,bw.of gF,_,_,rfl,rfl,?_⟩;have Fo:qL aU ((S.rows aU).getD kk default) - ((S.made.filter fun t=>decide (spotOf aU t=kk) && decide (S.eZ t<=day)).map (·.2.2)).sum=S.rest aU kk day:=rfl;have NH:=t3 _ _ yx;have Q9:=hP.mono t3.tk;have s6:=s2.trans t3;have no:pR S aU day kk=false-> ∃(rs:List V) (x6 x7:Option V),[some (V.ref pw),some (.ref pt),some (.int (if aU=true then 1 else 0)),some (.int day),some (.ref pc),some (.ref pr),some (.ref q),some (.int (S.rest aU kk day))]=[some (.ref pw),some (.ref pt),some (.int (if aU=true then 1 else 0)),some (.int day),some (.ref pc),some (.ref pr),x6,x7]/\aE H1 H6/\H6 pr=some (.lst rs)/\fU H6 (((ks.take (i + 1)).filter (pR S aU day)).map fun k=>(k,S.rest aU k day)) rs:=fun z=>by
     rw[aO (by rw[z]; exact aR),bU] at mx;exact⟨rs,some (.ref q),some (.int (S.rest aU kk day)),rfl,s6,NH,by rw[mx]; exact Q9⟩
    refine⟨_,rfl,q,_,dq,_,_,rfl,t3 _ _ A0,Aj G aU,PQ G aU,PN aU _ _,_,rfl,_,_,rfl,rfl,_,rfl,cu (fun z1=>?_) (fun z1=>bV (no ?_))⟩
    ·refine⟨_,rfl,_,_,rfl,rfl,_,rfl,cu (fun z2=>?_) (fun z2=>no ?_)⟩
     ·have yes:pR S aU day kk=true:=by
       unfold pR;rw[aG (aM z1),aG (show 0 < S.rest aU kk day from aM z2)]; rfl
      rw[aZ yes] at mx;refine⟨_,rfl,.inl ⟨rfl,_,bw.of NH⟩,_,rfl,q,_,dq,_,_,rfl,t3 _ _ A0,Aj G aU,yz G aU,yy aU _ _,_,rfl,(by show 2<=sizeLine; decide),fun p8 n8=>?_⟩;have t8:=aE.new (o:= .tup [V.int (kk:Int),.int (S.rest aU kk day)]) n8;refine⟨pr,rs,_,rfl,rfl,t8 _ _ NH,bf (by lia),rs ++ [.ref p8],some (.ref q),some (.int (S.rest aU kk day)),rfl,(s6.trans t8).cV nr,ag,?_⟩;rw[mx,aJ];have tk:=t8.tk.trans (fb (o:= .lst (rs ++ [.ref p8])) (t8 _ _ NH));have fin:fU (upd (upd H6 p8 (.tup [V.int (kk:Int),.int (S.rest aU kk day)])) pr (.lst (rs ++ [.ref p8]))) ((((ks.take i).filter (pR S aU day)).map fun k=>(k,S.rest aU k day)) ++ [(kk,S.rest aU kk day)]) (rs ++ [.ref p8]):=cw (Q9.mono tk) ⟨p8,rfl,fb (o:= .lst (rs ++ [.ref p8])) (t8 _ _ NH) _ _ ag⟩;exact fin
     ·unfold pR;rw[ba (show ¬ 0 < S.rest aU kk day from fun e=>z2 (aG e)),hV]
    ·unfold pR;rw[ba (fun e=>z1 (aG e)),qq]
  ·rintro σ H2 ⟨rs,x6,x7,rfl,s2,yx,hP⟩;rw[ae,← hlen,aY] at hP;exact⟨_,rfl,k pr rs H2 (s1.trans s2) nr0 yx hP⟩
structure qo (K:Frag)(mg:Str->Option Value)(x:Str)(st:Stmt)(tb:Addr):Prop where
 ex: ∃(f c:Addr) (oc:Value) (od:Option Addr) (kV doc pm:Value) (an:Option Addr) (ct:Value) (Gs:Array (Option Value)),K.lookup f=some ⟨oc,od,.func (fnOf x x (gI st) (dD st) (ax st) .none kV doc pm an (.ref c) ct),Gs⟩/\codeIn K (.ref c) x=true/\
  keepIn K (.ref f)=true/\mg x=some (.ref f)/\codeHdIn K c tb=true
def qo.fv {x:Str}{st:Stmt}{tb:Addr}{N ps:List Str}{k:Nat}{sp:Sp}(D:qo K mg x st tb)(KB:K.In base)(S:aW N ps (ax st))
  (fS: ∀(f c:Addr) (A:Around) (outer:List Env) (s:Shared) (H:Hp) (vs:List V) (Q:VK) (E:XK),PySem.W.CodeHd base c tb->eY k (A.deeper (envOfC x (ax st) s.heap.objs.size f (.ref c)))->sp vs H Q E->
   ∃t,oN (kQ sf P w K mg base N x (ax st) f (.ref c) A outer s H E).Dv (dD st) t/\t {nx:=fun _ H'=>Q .eu H',rt:=Q} (L2.start N vs) H)
  (hb: ∀(kV doc pm:Value) (an:Option Addr) (cO ct:Value) (us:List Value),us.length=ps.length->bindArgs (fnOf x x (gI st) (dD st) (ax st) .none kV doc pm an cO ct) ⟨us,[]⟩=pure (ps.zip us):=by intro _ _ _ _ _ _ us hl; rcases us with _|⟨_,_|⟨_,_|⟨_,_⟩⟩⟩ <;> first|(cases hl; done)|rfl)
  (len: ∀vs H Q E,sp vs H Q E->vs.length=ps.length:=by intro _ _ _ _ h; first|(cases h; subst_vars; rfl)|(repeat (first|(obtain⟨rfl,_⟩:=h; rfl; done)|obtain⟨_,h⟩:=h))):eW P w K mg base x (k + 1) ps sp:=by
 obtain⟨f,c,oc,od,kV,doc,pm,an,ct,Gs,lk,rM,hk,hm,hh⟩:=D.ex;have F:gp K x x st f _:=pF lk rM hk;refine⟨f,_,IX lk rM S len fun A outer s H vs Q E hr ya=>?_,hm,hk,F.binds hb⟩;obtain⟨t,h,q⟩:=fS f c A outer s H vs Q E (PySem.W.codeHd_of_K KB hh) hr ya;exact⟨t,h.Dv,q⟩
def rq {th:List (Int×Nat)}{i:Nat}(h:i < th.length):(th.map Fw).getD i []=Fw (th.getD i (0,0)):=getD_map Fw th i (0,0) [] h
def vR {th:List (Int×Nat)}{p:List Nat}(h1: ∀x∈th,x.2 < 1000)(nd:(th.map (·.2)).Nodup)(hp:p.Perm (List.range th.length))(le:p.Pairwise (fun i j=>tW ((th.map Fw).getD i [])<=tW ((th.map Fw).getD j []))):p.map (fun i=>th.getD i (0,0))=eB th:=by
 have hr:(List.range th.length).map (fun i=>th.getD i (0,0))=th:=sm th (0,0);refine m8 tV _ _ ((hp.map _).trans ((List.Perm.of_eq hr).trans (cL th).symm)) ?_ (BO h1 nd);rw[rR];refine le.imp_of_mem fun{a b} ha hb z=>?_;have la:a < th.length:=cS.mp (hp.mem_iff.mp ha);have lb:b < th.length:=cS.mp (hp.mem_iff.mp hb);rw[rq la,rq lb] at z;exact z
def nL {α β:Type}{F:α->β->Prop}{l₁:List α}{l₂:List β}(h:Paired F l₁ l₂)(d:α)(e:β): ∀p:List Nat,(∀i∈p,i < l₁.length)->Paired F (p.map fun i=>l₁.getD i d) (p.map fun i=>l₂.getD i e)
 |[],_=> .nil
 |i :: p,hi=>by
  have hl:=hi i bc;obtain⟨b,e1,e2⟩:=bB h (af hl);refine .cons ?_ (nL h d e p fun j hj=>hi j (aS _ hj));show F (l₁.getD i d) (l₂.getD i e);rw[aj,aj,af hl,e1];exact e2
def bL {H H':Hp}{tb:Addr}{pos:Pos}{qual:Str}(t:Tb H tb pos qual)(s:aE H H'):Tb H' tb pos qual:=by
 obtain⟨ps,h1,h2,h3⟩:=t;refine⟨ps,s _ _ h1,h2,?_⟩;rcases h3 with h3|⟨c',h3,h4⟩
 ·exact .inl h3
 ·exact .inr ⟨c',h3,s _ _ h4⟩
def vS {H:Hp}{tb q C:Addr}{pos:Pos}{qual:Str}{fs:List (Str×V)}(t:Tb H tb pos qual)(h:eD H q C fs):q∉[tb]:=fun z=>by
 obtain⟨ps,h1,_⟩:=t;obtain⟨dx,e⟩:=h;rw[ao.mp z,h1] at e;cases e
def PR:Pos:=⟨69,30,69,66⟩
def ff (rows:List Rw)(aC:Str)(i:Nat):List Nat:=(List.range i).filter fun k=>decide ((rows.getD k default).aC=aC)
inductive uw (A:d8)(tb:Addr)(vs:List V)(H:Hp)(Q:VK)(E':XK):Prop
 |mk (pb:Addr)(ix:List Addr)(S:Bk)(aC:Str)(h1:vs=[.ref pb,.str aC])(h2:H pb=some (.lst (ix.map V.ref)))(h3:gv H A.dW fz S.aF ix)(h4:S.aF.length < 64)(h5:Tb H tb PR ((("bills_in_order":Str) ++ ".<locals>.") ++ "<lambda>"))(h6: ∀D qs H',Frame [tb] H H'->Tb H' tb PR ((("bills_in_order":Str) ++ ".<locals>.") ++ "<lambda>")->H D=none->H' D=some (.lst (qs.map V.ref))->iJ A H' S (inOrder S.aF aC (·.b)) qs->Q (.ref D) H'):uw A tb vs H Q E'
def kN:aW ["bills","who","theirs"] ["bills","who"] (ax (top 17)):={}
def lM (T:Txt K mg){A:d8}{tb:Addr}(G:jD K mg A)(DL:qo K mg "bills_in_order" (top 17) tb)(KB:K.In base)(BM:BMain mg base):eW P w K mg base "bills_in_order" 2 ["bills","who"] (uw A tb):=by
 refine DL.fv (k:=1) KB kN (fun f c A' outer s H vs Q E CH hr h=>?_)
 ·obtain⟨pb,ix,S,aC,rfl,TZ,hO,hl,Yc,k⟩:=h;have nd:=kN.nd;refine⟨_,(ah (lu (i:=2) nd rfl (Or.inl rfl) (tn:=["bill"]) (cn:=["who"]) (cj:=[1]) rfl (jb (AX:=[(".0",.local),("bill",.local),("who",.cell)])) (ql (pv 0)) (fun _ _ _ _=>(ez (i:=0) (show(["bill","who"]:List Str).Nodup by decide +kernel) rfl (Or.inl rfl))) (fun _ _ _ _=>(pG (aX cG (fu (K:=K) rfl (pv 0) rfl) (pv 1) (a6 _)))) (fun _ _ _ _=>(pv 0)))
(au (a9 (vo (N:=["bill"]) (y:="bill") rfl T.qQ BM rfl CH (hr.mono (by decide)) {} (fun _ _ _ _ _=>(cK (aa (fu (K:=K) rfl (pv 0) rfl) (aa (fu (K:=K) rfl (pv 0) rfl) av)))) (pv 2))))),?_⟩
  refine⟨_,rfl,pb,rfl,⟨_,bw.of TZ⟩,?_⟩;refine dU (K:=K) (a:=pb) (xs:=ix.map V.ref) (fun D i σ H6=>H D=none/\ ∃(v:Option V) (qs:List Addr),σ=[v,some (.str aC)]/\aE H H6/\H6 D=some (.lst (qs.map V.ref))/\iJ A H6 S (ff S.aF aC i) qs) (fun D hD=>⟨hD,none,[],rfl,aE.new hD,ag,.nil⟩) (fun D i σ H6 _ ⟨_,_,_,_,t3,_⟩=>bw.of (t3 _ _ TZ)) ?_ ?_
  ·rintro D i x σ H6 hx ⟨hD,v,qs,rfl,t3,gF,hB⟩;rw[aB] at hx;obtain⟨q,hq,rfl⟩:=br.mp hx;have hi:i < S.aF.length:=by have:=(ak.mp hq).1; have:=hO.1; lia
   obtain⟨dq,A0⟩:=(hO.2 i q hq).same t3;have hql:qs.length<=100:=by
    have e1:=aL hB;have e2:(ff S.aF aC i).length<=i:=a0 (a7 _ _) (by rw[dr]; exact aI _);lia
   have rz:ff S.aF aC (i + 1)=ff S.aF aC i ++ (if decide ((S.aF.getD i default).aC=aC)=true then[i] else[]):=by
    unfold ff;rw[oy,f9]
    congr 1
    by_cases z:decide ((S.aF.getD i default).aC=aC)=true
    ·rw[aZ z,bS (p:=fun k=>decide ((S.aF.getD k default).aC=aC)) z]; rfl
    ·rw[aO z,eo (p:=fun k=>decide ((S.aF.getD k default).aC=aC)) z]; rfl
   refine⟨_,rfl,q,_,dq,_,_,rfl,A0,G.ee,G.kI,D4 _ _,_,rfl,rfl,_,rfl,cu (fun z=>?_) (fun z=>?_)⟩
   ·rw[aZ (aG (um z))] at rz;refine⟨_,rfl,_,gF,bf (by rw[ae]; lia),hD,_,qs ++ [q],rfl,t3.cV hD,by rw[ag,aJ]; rfl,?_⟩;rw[rz];have kp: ∀{y C:Addr} {gs:List (Str×V)},eD H6 y C gs->eD (upd H6 D (.lst (qs.map V.ref ++ [V.ref q]))) y C gs:=fun{y C gs} ⟨dy,ey⟩=>⟨dy,by rw[aA (mm ey gF (by intro w; cases w))]; exact ey⟩;exact cw (Paired.iA hB fun _ _ w=>kp w) (kp ⟨dq,A0⟩)
   ·rw[aO (by rw[ba (rh z)]; exact aR),bU] at rz;refine⟨hD,_,qs,rfl,t3,gF,?_⟩;rw[rz];exact hB
  ·rintro D σ H6 hD ⟨_,v,qs,rfl,t3,gF,hB⟩;have MA:(ix.map V.ref).length=S.aF.length:=by rw[ae]; exact hO.1
   rw[MA] at hB;have HF:=bL Yc t3;have hth:gg S.aF aC (·.b)=(ff S.aF aC S.aF.length).map fun k=>((S.bl k).b,k):=rfl;have Fx: ∀x∈ff S.aF aC S.aF.length,x < S.aF.length:=fun x hx=>cS.mp (dJ.mp hx).1;have Md:(ff S.aF aC S.aF.length).Nodup:=jv.filter _;have Yd:(ff S.aF aC S.aF.length).length<=S.aF.length:=a0 (a7 _ _) (by rw[dr]; exact aI _);have jV:inOrder S.aF aC (·.b)=(eB ((ff S.aF aC S.aF.length).map fun k=>((S.bl k).b,k))).map (·.2):=rfl;generalize ff S.aF aC S.aF.length=ks at hB Fx Md Yd jV;have Ye:=aL hB;have Kh:((ks.map fun k=>((S.bl k).b,k)):List (Int×Nat)).length=ks.length:=ae _;have rA: ∀x∈(ks.map fun k=>((S.bl k).b,k)),x.2 < 1000:=fun x hx=>by
    obtain⟨k0,QX,rfl⟩:=bG.mp hx;have:=Fx k0 QX;show k0 < 1000;lia
   have hnd:((ks.map fun k=>((S.bl k).b,k)).map (·.2)).Nodup:=by
    rw[dB];have e:((fun x:Int×Nat=>x.2) ∘ fun k=>((S.bl k).b,k))=id:=rfl;rw[e,tP];exact Md
   have vT: ∀i,i < ks.length->(ks.map fun k=>((S.bl k).b,k)).getD i (0,0)=((S.bl (ks.getD i 0)).b,ks.getD i 0):=fun i hi=>getD_map (fun k=>((S.bl k).b,k)) ks i 0 (0,0) hi;generalize Yf:(ks.map fun k=>((S.bl k).b,k))=th at Kh rA hnd vT jV;refine⟨_,rfl,D,qs.map V.ref,th.map Fw,tW,rfl,bw.of gF,by rw[ae]; lia,by rw[ae,ae]; lia,HF,(fun t ht=>?_),(fun t ht u hu=>?_),fun i hi H2 fr R hR=>?_,fun D2 p H2 hp le fr GH Iw Ht=>?_⟩
   ·obtain⟨x,_,rfl⟩:=bG.mp ht;simp[Fw]
   ·obtain⟨x,yl,rfl⟩:=bG.mp ht;obtain⟨y,z8,rfl⟩:=bG.mp hu;exact qR (rA x yl) (rA y z8) (fun e=>⟨rfl,lJ hnd yl z8 e⟩) rfl
   ·rw[ae] at hi;have wN:i < ks.length:=by lia
    obtain⟨q,e1,e2⟩:=bB hB (af wN);have Yg:(qs.map V.ref).getD i .eu= .ref q:=by rw[aj,aB,e1]; rfl
    have Yh:ks.getD i 0=ks[i]:=by rw[aj,af wN]; rfl
    obtain⟨dq,A0⟩:=e2.frame fr (vS HF e2);rw[rq (by lia),vT i wN,Yh] at hR;rw[Yg];exact⟨_,rfl,q,_,dq,_,_,rfl,A0,G.ee,G.ng,JP _ _,_,rfl,q,_,dq,_,_,rfl,A0,G.ee,G.eQ,lD _ _,(by show 2<=sizeLine; decide),fun p np=>hR p np⟩
   ·rw[ae] at hp;have iN: ∀i∈p,i < ks.length:=fun i hi=>by have:=cS.mp (hp.mem_iff.mp hi); lia
    have PU:=vR rA hnd (by rw[Kh,Ye]; exact hp) le;have Lh:iJ A H2 S ks qs:=Paired.iA hB fun _ _ w=>w.frame fr (vS HF w);refine k D2 (p.map fun i=>qs.getD i tb) H2 ((t3.frame).tr fr) GH (t3.free Iw) ?_ ?_
    ·rw[Ht,dB]
     congr 2
     apply fJ;intro i hi;exact getD_map V.ref qs i tb .eu (by have:=iN i hi; lia)
    ·rw[jV,← PU,dB];have e:p.map ((fun x:Int×Nat=>x.2) ∘ fun i=>th.getD i (0,0))=p.map fun i=>ks.getD i 0:=fJ fun i hi=>by
      show(th.getD i (0,0)).2=_;rw[vT i (iN i hi)]
     rw[e];exact nL Lh 0 tb p iN
def PV:Pos:=⟨72,30,72,72⟩
inductive ux (A:d8)(tb:Addr)(vs:List V)(H:Hp)(Q:VK)(E':XK):Prop
 |mk (pb:Addr)(ix:List Addr)(S:Bk)(aC:Str)(h1:vs=[.ref pb,.str aC])(h2:H pb=some (.lst (ix.map V.ref)))(h3:gv H A.d9 fe S.credits ix)(h4:S.credits.length < 64)(h5:Tb H tb PV ((("credits_in_order":Str) ++ ".<locals>.") ++ "<lambda>"))(h6: ∀D qs H',Frame [tb] H H'->Tb H' tb PV ((("credits_in_order":Str) ++ ".<locals>.") ++ "<lambda>")->H D=none->H' D=some (.lst (qs.map V.ref))->gO A H' S (inOrder S.credits aC (·.a)) qs->Q (.ref D) H'):ux A tb vs H Q E'
def jz:aW ["all_credits","who","theirs"] ["all_credits","who"] (ax (top 18)):={}
def j9 (T:Txt K mg){A:d8}{tb:Addr}(G:jD K mg A)(DL:qo K mg "credits_in_order" (top 18) tb)(KB:K.In base)(BM:BMain mg base):eW P w K mg base "credits_in_order" 2 ["all_credits","who"] (ux A tb):=by
 refine DL.fv (k:=1) KB jz (fun f c A' outer s H vs Q E CH hr h=>?_)
 ·obtain⟨pb,ix,S,aC,rfl,TZ,hO,hl,Yc,k⟩:=h;have nd:=jz.nd;refine⟨_,(ah (lu (i:=2) nd rfl (Or.inl rfl) (tn:=["credit"]) (cn:=["who"]) (cj:=[1]) rfl (jb (AX:=[(".0",.local),("credit",.local),("who",.cell)])) (ql (pv 0)) (fun _ _ _ _=>(ez (i:=0) (show(["credit","who"]:List Str).Nodup by decide +kernel) rfl (Or.inl rfl))) (fun _ _ _ _=>(pG (aX cG (fu (K:=K) rfl (pv 0) rfl) (pv 1) (a6 _)))) (fun _ _ _ _=>(pv 0)))
(au (a9 (vo (N:=["credit"]) (y:="credit") rfl T.qQ BM rfl CH (hr.mono (by decide)) {} (fun _ _ _ _ _=>(cK (aa (fu (K:=K) rfl (pv 0) rfl) (aa (fu (K:=K) rfl (pv 0) rfl) av)))) (pv 2))))),?_⟩
  refine⟨_,rfl,pb,rfl,⟨_,bw.of TZ⟩,?_⟩;refine dU (K:=K) (a:=pb) (xs:=ix.map V.ref) (fun D i σ H6=>H D=none/\ ∃(v:Option V) (qs:List Addr),σ=[v,some (.str aC)]/\aE H H6/\H6 D=some (.lst (qs.map V.ref))/\gO A H6 S (ff S.credits aC i) qs) (fun D hD=>⟨hD,none,[],rfl,aE.new hD,ag,.nil⟩) (fun D i σ H6 _ ⟨_,_,_,_,t3,_⟩=>bw.of (t3 _ _ TZ)) ?_ ?_
  ·rintro D i x σ H6 hx ⟨hD,v,qs,rfl,t3,gF,hB⟩;rw[aB] at hx;obtain⟨q,hq,rfl⟩:=br.mp hx;have hi:i < S.credits.length:=by have:=(ak.mp hq).1; have:=hO.1; lia
   obtain⟨dq,A0⟩:=(hO.2 i q hq).same t3;have hql:qs.length<=100:=by
    have e1:=aL hB;have e2:(ff S.credits aC i).length<=i:=a0 (a7 _ _) (by rw[dr]; exact aI _);lia
   have rz:ff S.credits aC (i + 1)=ff S.credits aC i ++ (if decide ((S.credits.getD i default).aC=aC)=true then[i] else[]):=by
    unfold ff;rw[oy,f9]
    congr 1
    by_cases z:decide ((S.credits.getD i default).aC=aC)=true
    ·rw[aZ z,bS (p:=fun k=>decide ((S.credits.getD k default).aC=aC)) z]; rfl
    ·rw[aO z,eo (p:=fun k=>decide ((S.credits.getD k default).aC=aC)) z]; rfl
   refine⟨_,rfl,q,_,dq,_,_,rfl,A0,G.c9,G.kZ,JQ _ _,_,rfl,rfl,_,rfl,cu (fun z=>?_) (fun z=>?_)⟩
   ·rw[aZ (aG (um z))] at rz;refine⟨_,rfl,_,gF,bf (by rw[ae]; lia),hD,_,qs ++ [q],rfl,t3.cV hD,by rw[ag,aJ]; rfl,?_⟩;rw[rz];have kp: ∀{y C:Addr} {gs:List (Str×V)},eD H6 y C gs->eD (upd H6 D (.lst (qs.map V.ref ++ [V.ref q]))) y C gs:=fun{y C gs} ⟨dy,ey⟩=>⟨dy,by rw[aA (mm ey gF (by intro w; cases w))]; exact ey⟩;exact cw (Paired.iA hB fun _ _ w=>kp w) (kp ⟨dq,A0⟩)
   ·rw[aO (by rw[ba (rh z)]; exact aR),bU] at rz;refine⟨hD,_,qs,rfl,t3,gF,?_⟩;rw[rz];exact hB
  ·rintro D σ H6 hD ⟨_,v,qs,rfl,t3,gF,hB⟩;have MA:(ix.map V.ref).length=S.credits.length:=by rw[ae]; exact hO.1
   rw[MA] at hB;have HF:=bL Yc t3;have hth:gg S.credits aC (·.a)=(ff S.credits aC S.credits.length).map fun k=>((S.cr k).a,k):=rfl;have Fx: ∀x∈ff S.credits aC S.credits.length,x < S.credits.length:=fun x hx=>cS.mp (dJ.mp hx).1;have Md:(ff S.credits aC S.credits.length).Nodup:=jv.filter _;have Yd:(ff S.credits aC S.credits.length).length<=S.credits.length:=a0 (a7 _ _) (by rw[dr]; exact aI _);have jV:inOrder S.credits aC (·.a)=(eB ((ff S.credits aC S.credits.length).map fun k=>((S.cr k).a,k))).map (·.2):=rfl;generalize ff S.credits aC S.credits.length=ks at hB Fx Md Yd jV;have Ye:=aL hB;have Kh:((ks.map fun k=>((S.cr k).a,k)):List (Int×Nat)).length=ks.length:=ae _;have rA: ∀x∈(ks.map fun k=>((S.cr k).a,k)),x.2 < 1000:=fun x hx=>by
    obtain⟨k0,QX,rfl⟩:=bG.mp hx;have:=Fx k0 QX;show k0 < 1000;lia
   have hnd:((ks.map fun k=>((S.cr k).a,k)).map (·.2)).Nodup:=by
    rw[dB];have e:((fun x:Int×Nat=>x.2) ∘ fun k=>((S.cr k).a,k))=id:=rfl;rw[e,tP];exact Md
   have vT: ∀i,i < ks.length->(ks.map fun k=>((S.cr k).a,k)).getD i (0,0)=((S.cr (ks.getD i 0)).a,ks.getD i 0):=fun i hi=>getD_map (fun k=>((S.cr k).a,k)) ks i 0 (0,0) hi;generalize Yf:(ks.map fun k=>((S.cr k).a,k))=th at Kh rA hnd vT jV;refine⟨_,rfl,D,qs.map V.ref,th.map Fw,tW,rfl,bw.of gF,by rw[ae]; lia,by rw[ae,ae]; lia,HF,(fun t ht=>?_),(fun t ht u hu=>?_),fun i hi H2 fr R hR=>?_,fun D2 p H2 hp le fr GH Iw Ht=>?_⟩
   ·obtain⟨x,_,rfl⟩:=bG.mp ht;simp[Fw]
   ·obtain⟨x,yl,rfl⟩:=bG.mp ht;obtain⟨y,z8,rfl⟩:=bG.mp hu;exact qR (rA x yl) (rA y z8) (fun e=>⟨rfl,lJ hnd yl z8 e⟩) rfl
   ·rw[ae] at hi;have wN:i < ks.length:=by lia
    obtain⟨q,e1,e2⟩:=bB hB (af wN);have Yg:(qs.map V.ref).getD i .eu= .ref q:=by rw[aj,aB,e1]; rfl
    have Yh:ks.getD i 0=ks[i]:=by rw[aj,af wN]; rfl
    obtain⟨dq,A0⟩:=e2.frame fr (vS HF e2);rw[rq (by lia),vT i wN,Yh] at hR;rw[Yg];exact⟨_,rfl,q,_,dq,_,_,rfl,A0,G.c9,G.je,JR _ _,_,rfl,q,_,dq,_,_,rfl,A0,G.c9,G.eL,og _ _,(by show 2<=sizeLine; decide),fun p np=>hR p np⟩
   ·rw[ae] at hp;have iN: ∀i∈p,i < ks.length:=fun i hi=>by have:=cS.mp (hp.mem_iff.mp hi); lia
    have PU:=vR rA hnd (by rw[Kh,Ye]; exact hp) le;have Lh:gO A H2 S ks qs:=Paired.iA hB fun _ _ w=>w.frame fr (vS HF w);refine k D2 (p.map fun i=>qs.getD i tb) H2 ((t3.frame).tr fr) GH (t3.free Iw) ?_ ?_
    ·rw[Ht,dB]
     congr 2
     apply fJ;intro i hi;exact getD_map V.ref qs i tb .eu (by have:=iN i hi; lia)
    ·rw[jV,← PU,dB];have e:p.map ((fun x:Int×Nat=>x.2) ∘ fun i=>th.getD i (0,0))=p.map fun i=>ks.getD i 0:=fJ fun i hi=>by
      show(th.getD i (0,0)).2=_;rw[vT i (iN i hi)]
     rw[e];exact nL Lh 0 tb p iN
def vU {A:d8}{H H':Hp}{pw tb:Addr}{S:Bk}{f:eK}(h:dH A H pw S f)(ht: ∃ps,H tb=some (.mL ps))(fr:Frame [tb] H H'):dH A H' pw S f:=by
 obtain⟨ps,ht⟩:=ht;have kl: ∀{a:Addr} {xs:List V},H a=some (.lst xs)->H' a=some (.lst xs):=fun{a xs} e=>fr _ _ (fun z=>by rw[ao.mp z,ht] at e; cases e) e;have ki: ∀{a C dx:Addr} {gs:List (Str×V)},H a=some (.ins C dx gs)->H' a=some (.ins C dx gs):=fun{a C dx gs} e=>fr _ _ (fun z=>by rw[ao.mp z,ht] at e; cases e) e;have kt:cB H H':=fun a xs e=>fr _ _ (fun z=>by rw[ao.mp z,ht] at e; cases e) e;obtain⟨dw,hw⟩:=h.obj;obtain⟨ms,m1,m2⟩:=h.hm;exact⟨⟨dw,ki hw⟩,kl h.hb,kl h.hc,kl h.hl,kl h.hf,⟨ms,kl m1,m2.mono kt⟩,h.rb.keep fun _ _ _ e=>ki e,h.rc.keep fun _ _ _ e=>ki e,h.nd⟩
def lh (H:Hp)(tb:Addr):Prop:=Tb H tb PR ((("bills_in_order":Str) ++ ".<locals>.") ++ "<lambda>")
def lR (H:Hp)(tb:Addr):Prop:=Tb H tb PV ((("credits_in_order":Str) ++ ".<locals>.") ++ "<lambda>")
inductive Ak (A:d8)(tb:Addr)(vs:List V)(H:Hp)(Q:VK)(E':XK):Prop
 |mk (pw:Addr)(S:Bk)(f:eK)(n:Nat)(aC:Str)(day:Int)(h1:vs=[.ref pw,.str aC,.int day])(h2:dH A H pw S f)(h3:WF S n)(h4:n<=60)(h5:lh H tb)(h6: ∀D ms H',Frame [tb] H H'->lh H' tb->H D=none->H' D=some (.lst ms)->fU H' (S.dF true aC day) ms->Q (.ref D) H'):Ak A tb vs H Q E'
inductive Ei (A:d8)(tb:Addr)(vs:List V)(H:Hp)(Q:VK)(E':XK):Prop
 |mk (pw:Addr)(S:Bk)(f:eK)(n:Nat)(aC:Str)(day:Int)(h1:vs=[.ref pw,.str aC,.int day])(h2:dH A H pw S f)(h3:WF S n)(h4:n<=60)(h5:lR H tb)(h6: ∀D ms H',Frame [tb] H H'->lR H' tb->H D=none->H' D=some (.lst ms)->fU H' (S.dF false aC day) ms->Q (.ref D) H'):Ei A tb vs H Q E'
def Ej:aW ["work","who","day"] ["work","who","day"] (ax (top 36)):={}
def yA (T:Txt K mg){A:d8}{tb:Addr}(G:jD K mg A)(DL:qo K mg "bills_in_order" (top 17) tb)(KB:K.In base)(BM:BMain mg base):eW P w K mg base "owed_at" 5 ["work","who","day"] (Ak A tb):=by
 have ja:eW P w K mg base "bills_in_order" 2 ["bills","who"] (uw A tb):=lM T G DL KB BM;have ka:eW P w K mg base "remaining_at" 4 ["work","told","place","day"] (rn A):=nK T G;refine T.G4.fv (k:=4) Ej (fun f cO A' outer s H vs Q E hr h=>?_)
 ·obtain⟨pw,S,g,n,aC,day,rfl,hW,wf,hn,hT,k⟩:=h;obtain⟨dw,hw⟩:=hW.obj;refine⟨_,(au (a9 (fc ka hr (aa (pv 0) (aa (fc ja hr (aa (kz (pv 0)) (aa (pv 1) av))) (aa ai (aa (pv 2) av))))))),?_⟩;refine⟨_,rfl,_,rfl,pw,_,dw,_,_,rfl,hw,G.bJ,G.dY,jl g,_,rfl,g.pb,g.ix,S,aC,rfl,hW.hb,hW.rb,(by have:=wf.lb; lia),hT,fun D qs H1 fr Iy nD hD hB=>?_⟩;have Dk:=vU hW (let⟨ps,e,_⟩:=hT; ⟨ps,e⟩) fr;have MG:(inOrder S.aF aC (·.b)).length<=100:=by
   have e:(inOrder S.aF aC (·.b)).length=((List.range S.aF.length).filter fun k=>decide ((S.aF.getD k default).aC=aC)).length:=by
    unfold inOrder gg;rw[ae,(cL _).length_eq,ae]
   have:=a7 (fun k=>decide ((S.aF.getD k default).aC=aC)) (List.range S.aF.length);rw[dr] at this;have:=wf.lb;lia
  refine⟨_,rfl,pw,D,S,g,n,true,day,inOrder S.aF aC (·.b),qs,rfl,Dk,wf,(by have:=wf.lm; lia),hD,hB,MG,fun D2 ms H2 s2 Iw Ht hP=>?_⟩;exact k D2 ms H2 (fr.c8 s2) (bL Iy s2) (fr.free (fun z=>by
   obtain⟨ps,e,_⟩:=Iy;rw[ao.mp z,e] at Iw;cases Iw) Iw) Ht hP
def Ek:aW ["work","who","day"] ["work","who","day"] (ax (top 37)):={}
def HG (T:Txt K mg){A:d8}{tb:Addr}(G:jD K mg A)(DL:qo K mg "credits_in_order" (top 18) tb)(KB:K.In base)(BM:BMain mg base):eW P w K mg base "free_at" 5 ["work","who","day"] (Ei A tb):=by
 have hJ:eW P w K mg base "credits_in_order" 2 ["all_credits","who"] (ux A tb):=j9 T G DL KB BM;have ka:eW P w K mg base "remaining_at" 4 ["work","told","place","day"] (rn A):=nK T G;refine T.G5.fv (k:=4) Ek (fun f cO A' outer s H vs Q E hr h=>?_)
 ·obtain⟨pw,S,g,n,aC,day,rfl,hW,wf,hn,hT,k⟩:=h;obtain⟨dw,hw⟩:=hW.obj;refine⟨_,(au (a9 (fc ka hr (aa (pv 0) (aa (fc hJ hr (aa (kz (pv 0)) (aa (pv 1) av))) (aa ai (aa (pv 2) av))))))),?_⟩;refine⟨_,rfl,_,rfl,pw,_,dw,_,_,rfl,hw,G.bJ,G.cD,g9 g,_,rfl,g.pc,g.cps,S,aC,rfl,hW.hc,hW.rc,(by have:=wf.lc; lia),hT,fun D qs H1 fr Iy nD hD hB=>?_⟩;have Dk:=vU hW (let⟨ps,e,_⟩:=hT; ⟨ps,e⟩) fr;have MG:(inOrder S.credits aC (·.a)).length<=100:=by
   have e:(inOrder S.credits aC (·.a)).length=((List.range S.credits.length).filter fun k=>decide ((S.credits.getD k default).aC=aC)).length:=by
    unfold inOrder gg;rw[ae,(cL _).length_eq,ae]
   have:=a7 (fun k=>decide ((S.credits.getD k default).aC=aC)) (List.range S.credits.length);rw[dr] at this;have:=wf.lc;lia
  refine⟨_,rfl,pw,D,S,g,n,false,day,inOrder S.credits aC (·.a),qs,rfl,Dk,wf,(by have:=wf.lm; lia),hD,hB,MG,fun D2 ms H2 s2 Iw Ht hP=>?_⟩;exact k D2 ms H2 (fr.c8 s2) (bL Iy s2) (fr.free (fun z=>by
   obtain⟨ps,e,_⟩:=Iy;rw[ao.mp z,e] at Iw;cases Iw) Iw) Ht hP
inductive Al (vs:List V)(H:Hp)(Q:VK)(E':XK):Prop
 |mk (eZ:Int)(pl:Addr)(de:List Int)(h1:vs=[.int eZ,.ref pl])(h2:H pl=some (.tup (de.map V.int)))(h3:de.length<=11)(h4: ∀H',aE H H'->Q (.int (L2.placeOf eZ de:Int)) H'):Al vs H Q E'
def Cy:aW ["late","limits"] ["late","limits"] (ax (top 1)):={}
def El (T:Txt K mg):eW P w K mg base "place_of" 1 ["late","limits"] Al:=by
 refine T.DY.fv (k:=0) Cy (fun f cO A' outer s H vs Q E hr h=>?_)
 ·obtain⟨eZ,pl,de,rfl,iN,Iu,k⟩:=h;refine⟨_,(ah (bP (aX oQ (pv 0) ai (a6 _))
(au (a9 ai))
bh)
(au (a9 (aQ cE ai (mH T.dP (gq (tn:=["limit"]) (cn:=["late"]) (cj:=[0]) rfl (jb (AX:=[(".0",.local),("limit",.local),("late",.cell)])) (Oj (pv 1)) (fun _ _ _ _=>(ez (i:=0) (show(["limit","late"]:List Str).Nodup by decide +kernel) rfl (Or.inl rfl))) (fun _ _ _ _=>(pG (aX jO (pv 0) (pv 1) (a6 _)))) (fun _ _ _ _=>(pv 0)))))))),?_⟩
  refine⟨_,rfl,_,_,rfl,rfl,_,rfl,cu (fun z=>?_) (fun z=>?_)⟩
  ·have z':eZ<=0:=aM z;have e:L2.placeOf eZ de=0:=aZ z';have q:=k H (aE.refl _);rw[e] at q;exact q
  have z': ¬ eZ<=0:=fun q=>z (aG q);have e:L2.placeOf eZ de=1 + (de.filter fun l=>decide (l < eZ)).length:=aO z';refine⟨_,rfl,pl,rfl,⟨_,cz.of iN⟩,?_⟩;refine Jj (K:=K) (a:=pl) (xs:=de.map V.int) (fun D' j σ H6=>H D'=none/\ ∃v,σ=[v,some (.int eZ)]/\aE H H6/\H6 D'=some (.lst (((de.take j).filter fun l=>decide (l < eZ)).map V.int))) (fun D' vJ=>⟨vJ,none,rfl,aE.new vJ,ag⟩) (fun D' j σ H6 _ ⟨_,_,_,t3,_⟩=>cz.of (t3 _ _ iN)) ?_ ?_
  ·rintro D' j x σ H6 Ka ⟨vJ,v,rfl,t3,gF⟩;rw[aB] at Ka;obtain⟨y,hy,rfl⟩:=br.mp Ka;have mx:=fM (fun l=>decide (l < eZ)) hy;have hlen:((de.take j).filter fun l=>decide (l < eZ)).length<=100:=by
    have:=a7 (fun l=>decide (l < eZ)) (de.take j);rw[bb] at this;lia
   refine⟨_,rfl,_,rfl,_,_,rfl,rfl,_,rfl,cu (fun q=>?_) (fun q=>?_)⟩
   ·rw[aZ q] at mx;refine⟨_,rfl,_,gF,bf (by rw[ae]; lia),vJ,_,rfl,t3.cV vJ,?_⟩;rw[ag,mx,aJ];rfl
   ·rw[aO q,bU] at mx;refine⟨vJ,_,rfl,t3,?_⟩;rw[mx];exact gF
  ·rintro D' σ H6 vJ ⟨_,v,rfl,t3,gF⟩;refine⟨D',_,rfl,.inl (bw.of gF),_,_,rfl,rfl,?_⟩;have q:=k H6 t3;rw[e] at q;have e2:(1:Int) + ((((de.take (de.map V.int).length).filter fun l=>decide (l < eZ)).map V.int).length:Int)=((1 + (de.filter fun l=>decide (l < eZ)).length:Nat):Int):=by
    rw[ae,ae,aY];simp
   rw[← e2] at q;exact q
inductive Em (A:d8)(tb:Addr)(vs:List V)(H:Hp)(Q:VK)(E':XK):Prop
 |mk (pw pl:Addr)(S:Bk)(f:eK)(n:Nat)(aC:Str)(day:Int)(de:List Int)(h1:vs=[.ref pw,.str aC,.int day,.ref pl])(h2:dH A H pw S f)(h3:WF S n)(h4:n<=60)(h5:lh H tb)(h6:H pl=some (.tup (de.map V.int)))(h7:de.length<=11)(h8: ∀D H',Frame [tb] H H'->lh H' tb->H D=none->H' D=some (.lst ((S.OV aC day de).map V.int))->Q (.ref D) H'):Em A tb vs H Q E'
def vV:aW ["work","who","day","limits","sums","number","left","place"] ["work","who","day","limits"] (ax (top 41)):={}
def HI (T:Txt K mg){A:d8}{tb:Addr}(G:jD K mg A)(DL:qo K mg "bills_in_order" (top 17) tb)(KB:K.In base)(BM:BMain mg base):eW P w K mg base "ages_at" 6 ["work","who","day","limits"] (Em A tb):=by
 have sF:eW P w K mg base "owed_at" 5 ["work","who","day"] (Ak A tb):=yA T G DL KB BM;have En:eW P w K mg base "place_of" 1 ["late","limits"] Al:=El T;refine T.G6.fv (k:=5) vV (fun f cO A' outer s H vs Q E hr h=>?_)
 ·obtain⟨pw,pl,S,g,n,aC,day,de,rfl,hW,wf,hn,hT,iN,Iu,k⟩:=h;have nd:=vV.nd;refine⟨_,(ah (sv 4 nd (aQ DI (bQ (aa ai av)) (aQ cE (mH T.dP (pv 3)) ai)))
(ah (dS bu rfl (ql (fc sF hr (aa (pv 0) (aa (pv 1) (aa (pv 2) av))))) (gT (bX (gn 5 nd) (bX (gn 6 nd) gh)))
(ah (sv 7 nd (fc En hr (aa (aQ eI (pv 2) (kz (xl (kz (pv 0)) (pv 5)))) (aa (pv 3) av))))
(au (lV (aQ cE (xl (pv 4) (pv 7)) (pv 6)) (rX (pv 4) (pv 7) set_list)))))
(au (a9 (pv 4))))),?_⟩
  refine⟨(by show 1<=sizeLine; decide),fun p9 n9=>?_⟩;have t9:=aE.new (o:= .lst [V.int 0]) n9;have T1:(de.map V.int).length=de.length:=ae _;refine⟨_,rfl,pl,_,rfl,.inr (cz.of (t9 _ _ iN)),_,_,rfl,rfl,p9,_,_,rfl,rfl,ag,by lia,by lia,?_,fun ps FH=>?_⟩
  ·show 1 * _<=sizeLine;rw[T1,eX];lia
  have e2:(((de.map V.int).length:Int) + 2).toNat=de.length + 2:=by rw[T1]; lia
  rw[e2,ME];have Cp:=aE.new (o:= .lst ((List.replicate (de.length + 2) (0:Int)).map V.int)) FH;have Ke:=t9.trans Cp;have mF:upd (upd H p9 (.lst [V.int 0])) ps (.lst ((List.replicate (de.length + 2) (0:Int)).map V.int)) ps=some (.lst ((List.replicate (de.length + 2) (0:Int)).map V.int)):=ag;have PX:H ps=none:=t9.free FH;generalize upd (upd H p9 (.lst [V.int 0])) ps (.lst ((List.replicate (de.length + 2) (0:Int)).map V.int))=H1 at Ke mF;have Iy:=bL hT Ke;refine⟨_,rfl,_,rfl,_,rfl,pw,S,g,n,aC,day,rfl,hW.same Ke,wf,hn,Iy,fun D ms H2 fr GH nD hD hP=>?_⟩;refine⟨D,rfl,⟨_,bw.of hD⟩,?_⟩;have mL: ∃q,H1 tb=some (.mL q):=let⟨q,e,_⟩:=Iy; ⟨q,e⟩
  have off: ∀{a:Addr} {o:HO},H1 a=some o->(∀q,o≠ .mL q)->H2 a=some o:=fun{a o} e hq=>fr _ _ (fun z=>by
   obtain⟨q,eq⟩:=mL;rw[ao.mp z,eq] at e;exact hq q (aD e).symm) e
  have Am:=vU (hW.same Ke) mL fr;have PY:=off mF (fun _ z=>by cases z);have PZ:=off (Ke _ _ iN) (fun _ z=>by cases z);have fr0:Frame [tb] H H2:=fr.l9 Ke;have Ah: ∀t∈S.dF true aC day,t.1 < S.aF.length:=fun t ht=>Hw (aU:=true) ht;have hag:S.OV aC day de=(S.dF true aC day).foldl (fun l t=>sW l (L2.placeOf (day - (S.bl t.1).b) de) t.2) (List.replicate (de.length + 2) 0):=rfl;rw[hag] at k;generalize S.dF true aC day=ts at hP Ah k;have hDp:D≠ps:=fun e=>by rw[e,mF] at nD; cases nD
  refine eM (K:=K) (a:=D) (xs:=ms) (fun i σ H3=> ∃(l:List Int) (x5 x6 x7:Option V),σ=[some (.ref pw),some (.str aC),some (.int day),some (.ref pl),some (.ref ps),x5,x6,x7]/\Frame [ps] H2 H3/\H3 ps=some (.lst (l.map V.int))/\l.length=de.length + 2/\l=(ts.take i).foldl (fun l t=>sW l (L2.placeOf (day - (S.bl t.1).b) de) t.2) (List.replicate (de.length + 2) 0))
   ⟨_,none,none,none,rfl,Frame.refl,PY,List.length_replicate,rfl⟩ (fun i σ H3 _ ⟨_,_,_,_,_,f3,_⟩=>bw.of (f3 _ _ (by simpa using hDp) hD)) ?_ ?_
  ·rintro i x σ H3 hx ⟨l,x5,x6,x7,rfl,f3,QV,NI,he⟩;have VN: ∀{a:Addr} {o:HO},H2 a=some o->(∀q,o≠ .lst q)->H3 a=some o:=fun{a o} e hq=>f3 _ _ (fun z=>by
    rw[ao.mp z,PY] at e;exact hq _ (aD e).symm) e
   have hi:i < ts.length:=by have:=(ak.mp hx).1; have:=aL hP; lia
   have qm:=af hi;obtain⟨v,hv,p,rfl,hp⟩:=bB hP qm;rw[hx] at hv;obtain rfl:x= .ref p:=aD hv;have hm:=Ah _ (bN hi);rw[lK (fun l t=>sW l (L2.placeOf (day - (S.bl t.1).b) de) t.2) ts _ qm,← he];generalize ts[i]=t at hp hm;obtain⟨dw,hw⟩:=Am.obj;obtain⟨q,q1,dq,q2⟩:=Am.rb.get hm;have Yi:g.pb∉[ps]:=fun z=>by
    have e:=hW.hb;rw[ao.mp z,PX] at e;cases e
   have Ra:=VN hp (fun _ z=>by cases z);have hw3:=VN hw (fun _ z=>by cases z);have hq3:=VN q2 (fun _ z=>by cases z);have Yj:=VN PZ (fun _ z=>by cases z);refine⟨p,_,rfl,cz.of Ra,rfl,_,_,rfl,_,_,rfl,rfl,?_⟩;refine⟨_,rfl,_,rfl,pw,_,dw,_,_,rfl,hw3,G.bJ,G.dY,jl g,_,rfl,g.pb,_,_,.ref q,rfl,rfl,bw.of (f3 _ _ Yi Am.hb),cf (by rw[aB,q1]; rfl),q,_,dq,_,_,rfl,hq3,G.ee,G.ng,JP _ _,_,_,rfl,rfl,_,rfl,_,pl,de,rfl,Yj,Iu,fun H4 s4=>?_⟩;have hpo:=Eh (day - (S.bl t.1).b) de;have hs4:=s4 _ _ QV;refine⟨_,rfl,_,rfl,ps,_,_,.int (l.getD (L2.placeOf (day - (S.bl t.1).b) de) 0),rfl,rfl,bw.of hs4,pV (by show L2.placeOf (day - (S.bl t.1).b) de < _; lia),_,rfl,_,_,rfl,rfl,?_⟩;refine⟨_,rfl,_,rfl,ps,_,_,L2.placeOf (day - (S.bl t.1).b) de,rfl,rfl,hs4,uj (by rw[ae]; show L2.placeOf (day - (S.bl t.1).b) de < _; lia),?_⟩;refine⟨sW l (L2.placeOf (day - (S.bl t.1).b) de) t.2,_,_,_,rfl,(f3.c8 s4).tr (Frame.upd (by simp)),?_,?_,rfl⟩
   ·rw[ag];unfold sW;rw[List.map_set]
   ·rw[Hx]; exact NI
  ·rintro σ H3 ⟨l,x5,x6,x7,rfl,f3,QV,NI,he⟩;rw[← aL hP,aY] at he;rw[he] at QV;refine⟨_,rfl,k ps H3 (fun b o hb e=>f3 b o (fun z=>by rw[ao.mp z,PX] at e; cases e) (fr0 b o hb e)) ?_ PX QV⟩;obtain⟨q,e1,Sk,e3⟩:=GH;have kx: ∀{a:Addr} {o:HO},H2 a=some o->(∀q,o≠ .lst q)->H3 a=some o:=fun{a o} e hq=>f3 _ _ (fun z=>by
    rw[ao.mp z,PY] at e;exact hq _ (aD e).symm) e
   refine⟨q,kx e1 (fun _ z=>by cases z),Sk,?_⟩;rcases e3 with e3|⟨c',e3,e4⟩
   ·exact .inl e3
   ·exact .inr ⟨c',e3,kx e4 (fun _ z=>by cases z)⟩
def eT (pk pw:Addr):List (Str×V):=[("kept",.ref pk),("work",.ref pw)]
def uy (pk pw:Addr):(eT pk pw).lookup ("kept":Str)=some (V.ref pk):=by rfl
def uz (pk pw:Addr):(eT pk pw).lookup ("work":Str)=some (V.ref pw):=by rfl
def Ki (pk pw:Addr):eF "work" (.ref pw) (eF "kept" (.ref pk) [])=eT pk pw:=by rfl
inductive An (A:d8)(vs:List V)(H:Hp)(Q:VK)(E':XK):Prop
 |mk (x dx:Addr)(h1:vs=[.ref x])(h2:H x=some (.ins A.book dx []))(h3: ∀pk pw f H',Frame [x] H H'->H' x=some (.ins A.book dx (eT pk pw))->H' pk=some (.dK [])->dH A H' pw Bk.new f->H pk=none->H pw=none->(∀b∈f.fp,H b=none)->pk∉f.fp->Q .eu H'):An A vs H Q E'
def MH:aW ["self"] ["self"] (ax (mem 29 0)):={}
def P0 {A:d8}(G:jD K mg A):tY P w K mg base "Book" A.book 3 ["self"] (An A):=by
 have Eo:tY P w K mg base "Work" A.work 1 ["self"] (uq A):=Kc G;refine Mt (k:=2) G.Mr G.Mq MH (fun f cO A' outer s H vs Q E hr h=>?_)
 ·obtain⟨x,dx,rfl,hx,k⟩:=h;refine⟨_,(ah (l8 (pv 0) Br) (au (l8 (pv 0) (JS Eo (hr.mono (by decide)) rfl)))),?_⟩;intro pk nk;have ne1:pk≠x:=(aK hx nk).symm;refine⟨_,rfl,x,_,dx,_,rfl,aE.new nk _ _ hx,G.eR,G.gK,lt1000 Cd (by decide),?_⟩;have F1:Frame [x] H (upd (upd H pk (.dK [])) x (.ins A.book dx (eF "kept" (.ref pk) []))):=(aE.new nk).frame.tr (Frame.upd (by simp));have g1:upd (upd H pk (.dK [])) x (.ins A.book dx (eF "kept" (.ref pk) [])) x=some (.ins A.book dx (eF "kept" (.ref pk) [])):=ag;have k1:upd (upd H pk (.dK [])) x (.ins A.book dx (eF "kept" (.ref pk) [])) pk=some (.dK []):=by rw[aA ne1,ag]
  generalize upd (upd H pk (.dK [])) x (.ins A.book dx (eF "kept" (.ref pk) []))=H1 at F1 g1 k1 ⊢;intro xw Yk MI P1 ne;have s2:=lI (C:=A.work) (fs:=[]) MI P1 ne;refine⟨xw,Yk,rfl,ag,fun g H3 Lx W3 nf=>⟨rfl,?_⟩⟩;have Yl:x≠xw:=aK g1 MI;have nek:pk≠xw:=aK k1 MI;have g3:=Lx _ _ (by simpa using Yl) (s2 _ _ g1);have k3:=Lx _ _ (by simpa using nek) (s2 _ _ k1);refine⟨_,rfl,x,_,dx,_,rfl,g3,G.eR,G.gN,lt1000 (pl Cd) (by decide),?_⟩;rw[Ki];have fw: ∀b∈g.fp,H1 b=none:=fun b hb=>s2.free (nf b hb);have off: ∀b,H1 b=none->b≠x->H b=none:=fun b e n=>F1.free (by simpa using n) e;have xf:x∉g.fp:=fun z=>by have:=fw x z; rw[g1] at this; cases this
  have T2:dH A (upd H3 x (.ins A.book dx (eT pk xw))) xw Bk.new g:=by
   obtain⟨dw,hw⟩:=W3.obj;obtain⟨ms,m1,m2⟩:=W3.hm;have nx: ∀p∈g.fp,p≠x:=fun p hp z=>xf (z▸hp);refine⟨⟨dw,by rw[aA Yl.symm]; exact hw⟩,by rw[aA (nx _ (by simp[eK.fp]))]; exact W3.hb,by rw[aA (nx _ (by simp[eK.fp]))]; exact W3.hc,by rw[aA (nx _ (by simp[eK.fp]))]; exact W3.hl,by rw[aA (nx _ (by simp[eK.fp]))]; exact W3.hf,⟨ms,by rw[aA (nx _ (by simp[eK.fp]))]; exact m1,?_⟩,?_,?_,W3.nd⟩
   ·cases m2;exact .nil
   ·exact⟨W3.rb.1,fun i p e=>by have:=(ak.mp e).1; have h0:=W3.rb.1; rw[h0] at this; exact absurd this (gG _)⟩
   ·exact⟨W3.rc.1,fun i p e=>by have:=(ak.mp e).1; have h0:=W3.rc.1; rw[h0] at this; exact absurd this (gG _)⟩
  refine k pk xw g _ ?_ ag (by rw[aA ne1]; exact k3) T2 nk (off xw MI Yl.symm) (fun b hb=>off b (fw b hb) (fun z=>xf (z▸hb))) (fun z=>by have:=fw pk z; rw[k1] at this; cases this);intro b o hb e;have bx:b≠x:=by simpa using hb
  rw[aA bx];have e1:=F1 b o hb e;exact Lx b o (by simpa using aK e1 MI) (s2 b o e1)
def Ao (r:List Bool):Dt:= .lst (r.map Dt.bl)
def Kj (t:Nat×Nat×Int):Dt:= .tup [.int t.1,.int t.2.1,.int t.2.2]
def ij (fs ls:List Int)(al:List (List Bool)): ∀i,(bW fs ls al i).2.length<=i
 |0=>aI _
 |i + 1=>by
  have:=ij fs ls al i;unfold bW;split
  ·lia
  ·rw[aH]; show _ + 1<=_; lia
def Ym:Option Nat->V
 |none=> .eu
 |some j=> .int j
def qa (bg:List (Key×V))(j:Nat):Bool:=(gj bg (Sum.inl (j:Int):Key)).isSome
inductive Ap (K:Frag)(vs:List V)(H:Hp)(Q:VK)(E':XK):Prop
 |mk (f:Int)(pl:Addr)(ls:List Int)(pr:Addr)(row:List Bool)(pt:Addr)(bg:List (Key×V))(h1:vs=[.int f,.ref pl,.ref pr,.ref pt])(h2:bw K H pl (ls.map V.int))(h3:bw K H pr (row.map V.bl))(h4:row.length=ls.length)(h5:H pt=some (.dK bg))(h6: ∀H',aE H H'->Q (Ym (g8 f ls row (qa bg))) H'):Ap K vs H Q E'
def nM (H:Hp)(ms:List (Nat×Nat×Int))(vs:List V):Prop:=Paired (fun(t:Nat×Nat×Int) v=> ∃p,v= .ref p/\H p=some (.tup [.int t.1,.int t.2.1,.int t.2.2])) ms vs
def nM.mono {H H':Hp}{ms:List (Nat×Nat×Int)}{vs:List V}(h:nM H ms vs)(k: ∀b xs,H b=some (.tup xs)->H' b=some (.tup xs)):nM H' ms vs:=
 Paired.iA h fun _ _ ⟨p,e,q⟩=>⟨p,e,k _ _ q⟩
def nM.rp {H:Hp}: ∀{ms:List (Nat×Nat×Int)} {vs:List V},nM H ms vs->ie H (ms.map Kj) vs
 |_,_,.nil=>cI.mpr rfl
 |_,_,.cons ⟨p,e,q⟩ t=>bI.mpr ⟨_,_,rfl,e▸eO q (bI.mpr ⟨_,_,rfl,dj.mpr rfl,bI.mpr ⟨_,_,rfl,dj.mpr rfl,bI.mpr ⟨_,_,rfl,dj.mpr rfl,cI.mpr rfl⟩⟩⟩),nM.rp t⟩
def MJ {H:Hp}{p:Addr}{o:HO}{bg:List (Key×V)}(h:H p=some (.dK bg)): ∀b xs,H b=some (.tup xs)->upd H p o b=some (.tup xs):=fun b xs e=>by
 rw[aA (mm e h (by intro z; cases z))]; exact e
def nN:aW ["free","lefts","fitting","taken","bill","left"] ["free","lefts","fitting","taken"] (ax (top 21)):={}
def xE (T:Txt K mg):eW P w K mg base "first_alike" 1 ["free","lefts","fitting","taken"] (Ap K):=by
 refine T.wW.fv (k:=0) nN (fun f cO A outer s H vs Q E hr h=>?_)
 ·obtain⟨fr,pl,ls,pr,row,pt,bg,rfl,hL,hR,Bv,hT,k⟩:=h;have hu:=jP hr;have nd:=nN.nd;refine⟨_,(ah (dS bu rfl (qE rfl T.jk (aa (pv 1) av)) (gT (bX (gn 4 nd) (bX (gn 5 nd) gh)))
(au (bP (PW.pt (pw_and (gf (xl (pv 2) (pv 4))) (pw_and (aX cG (pv 5) (pv 0) (a6 _)) (pw_and1 (yS (Gz hu (pv 4) (pv 3)))))))
(au (a9 (pv 4)))
bh)))
(au (a9 Du))),?_⟩
  refine⟨_,rfl,pl,rfl,⟨_,hL⟩,?_⟩;refine mU (K:=K) (a:=pl) (xs:=ls.map V.int) (fun i σ H2=> ∃x4 x5,σ=[some (.int fr),some (.ref pl),some (.ref pr),some (.ref pt),x4,x5]/\aE H H2/\ ∀j,j < i->(row.getD j false && decide (ls.getD j 0=fr) && !qa bg j)=false)
   ⟨none,none,rfl,aE.refl _,fun j hj=>absurd hj (gG _)⟩ (fun i σ H2 _ ⟨_,_,_,s2,_⟩=>s2.seq hL) ?_ ?_
  ·rintro i x p σ H2 hx hp ⟨x4,x5,rfl,s2,T3⟩;have hi:i < ls.length:=by have:=(ak.mp hx).1; rwa [ae] at this
   rw[aB,af hi] at hx;obtain rfl:V.int ls[i]=x:=aD hx;have s3:aE H2 (upd H2 p (.tup [.int i,.int ls[i]])):=aE.new hp;refine⟨p,_,rfl,cz.of ag,rfl,_,_,rfl,_,_,rfl,rfl,?_⟩;have s4:=s2.trans s3;generalize upd H2 p (.tup [.int i,.int ls[i]])=H3 at s4 ⊢;have T4:i < row.length:=by lia
   have P2:ls.getD i 0=ls[i]:=by rw[aj,af hi]; rfl
   have T5:row.getD i false=row[i]:=by rw[aj,af T4]; rfl
   have next:(row.getD i false && decide (ls.getD i 0=fr) && !qa bg i)=false-> ∀j,j < i + 1->(row.getD j false && decide (ls.getD j 0=fr) && !qa bg j)=false:=fun e j hj=>by
    rcases Nat.lt_succ_iff_lt_or_eq.mp hj with h|h
    ·exact T3 j h
    ·rw[h]; exact e
   refine⟨_,rfl,_,rfl,pr,_,_,.bl row[i],rfl,rfl,s4.seq hR,cf (by rw[aB,af T4]; rfl),_,rfl,?_⟩;refine cu (fun c1=>?_) (fun c1=>bV ?_)
   ·refine⟨_,rfl,_,rfl,rfl,_,rfl,cu (fun c2=>?_) (fun c2=>bV ?_)⟩
    ·have T6:ls[i]=fr:=by have:=aM c2; injection this
     refine⟨_,rfl,_,rfl,pt,_,rfl,mE.k (k:=Sum.inl (i:Int)) (s4 _ _ hT),_,rfl,cu (fun c3=>?_) (fun c3=>?_)⟩
     ·
      refine⟨_,rfl,?_⟩;have e:g8 fr ls row (qa bg)=some i:=by
       unfold g8;refine List.find?_range_eq_some.mpr ⟨?_,cS.mpr hi,fun j hj=>?_⟩
       ·rw[T5,P2,c1,T6];simpa[qa] using c3
       ·rw[T3 j hj]; rfl
      have q:=k H3 s4;rw[e] at q;exact q
     ·refine⟨_,_,rfl,s4,next ?_⟩;have c3':qa bg i=true:=by
       unfold qa;cases h:(gj bg (Sum.inl (i:Int):Key)).isSome with
       |true=>rfl
       |false=>rw[h] at c3; exact absurd rfl c3
      rw[c3']; simp
    ·have T6: ¬ ls[i]=fr:=fun z=>c2 (aG (by rw[z]));refine⟨_,_,rfl,s4,next ?_⟩;rw[P2,decide_eq_false T6]; simp
   ·refine⟨_,_,rfl,s4,next ?_⟩;rw[T5,Bool.eq_false_iff.mpr c1]; rfl
  ·rintro σ H2 ⟨x4,x5,rfl,s2,T3⟩;rw[ae] at T3;have e:g8 fr ls row (qa bg)=none:=by
    unfold g8;refine List.find?_eq_none.mpr fun j hj=>?_;rw[T3 j (cS.mp hj)];exact aR
   have q:=k H2 s2;rw[e] at q;exact q
inductive vW (K:Frag)(vs:List V)(H:Hp)(Q:VK)(E':XK):Prop
 |mk (pf pl pa:Addr)(fs ls:List Int)(al:List (List Bool))(h1:vs=[.ref pf,.ref pl,.ref pa])(h2:bw K H pf (fs.map V.int))(h3:bw K H pl (ls.map V.int))(h4:Rp H (.lst (al.map Ao)) (.ref pa))(h5:fs.length<=1000)(h6:al.length=fs.length)(h7:(∀r∈al,r.length=ls.length))(h8: ∀v H',aE H H'->Rp H' (.lst ((bW fs ls al fs.length).2.map Kj)) v->Q v H'):vW K vs H Q E'
def Cz:aW ["frees","lefts","allowed","taken","made","credit","free","bill"] ["frees","lefts","allowed"] (ax (top 20)):={}
def MK (T:Txt K mg):eW P w K mg base "alike" 2 ["frees","lefts","allowed"] (vW K):=by
 have xF:eW P w K mg base "first_alike" 1 ["free","lefts","fitting","taken"] (Ap K):=xE T;refine T.Me.fv (k:=1) Cz (fun f cO A outer s H vs Q E hr h=>?_)
 ·obtain⟨pf,pl,pa,fs,ls,al,rfl,hF,hL,hA,hf1,Xe,Kk,k⟩:=h;have hu:=jP hr;have nd:=Cz.nd;obtain⟨pa',refs,e0,Yn,ML⟩:=jR.mp hA;cases e0;refine⟨_,(ah (sv 3 nd Br)
(ah (sv 4 nd (bQ av))
(ah (dS bu rfl (qE rfl T.jk (aa (pv 0) av)) (gT (bX (gn 5 nd) (bX (gn 6 nd) gh)))
(ah (sv 7 nd (fc xF hr (aa (pv 6) (aa (pv 1) (aa (xl (pv 2) (pv 5)) (aa (pv 3) av))))))
(au (bP (yS (Ls (pv 7)))
(ah (E2 hu (pv 3) (pv 7) kB rfl)
(au (bK (pS (pv 4) (cK (aa (pv 5) (aa (pv 7) (aa (pv 6) av))))))))
bh))))
(au (a9 (pv 4)))))),?_⟩
  intro pt nt;refine⟨bp _,fun pm nm=>?_⟩;have s1:aE H (upd H pt (.dK [])):=aE.new nt;have s2:aE H (upd (upd H pt (.dK [])) pm (.lst [])):=s1.trans (aE.new nm);have Yo:H pm=none:=s1.free nm;have NJ:pt≠pm:=aK ag nm;refine⟨_,rfl,pf,rfl,⟨_,s2.seq hF⟩,?_⟩;refine mU (K:=K) (a:=pf) (xs:=fs.map V.int) (fun i σ H2=> ∃x5 x6 x7 bg ms,σ=[some (.ref pf),some (.ref pl),some (.ref pa),some (.ref pt),some (.ref pm),x5,x6,x7]/\aE H H2/\H2 pt=some (.dK bg)/\(∀j:Nat,qa bg j=(bW fs ls al i).1 j)/\bg.length<=i/\H2 pm=some (.lst ms)/\nM H2 (bW fs ls al i).2 ms)
   ⟨none,none,none,[],[],rfl,s2,by rw[aA NJ]; exact ag,fun j=>rfl,aI _,ag,.nil⟩ (fun i σ H2 _ ⟨_,_,_,_,_,_,s3,_⟩=>s3.seq hF) ?_ ?_
  ·rintro i x p σ H2 hx hp ⟨x5,x6,x7,bg,ms,rfl,s3,hT,kq,Fx,hM,FI⟩;have hi:i < fs.length:=by have:=(ak.mp hx).1; rwa [ae] at this
   rw[aB,af hi] at hx;obtain rfl:V.int fs[i]=x:=aD hx;have s4:aE H2 (upd H2 p (.tup [.int i,.int fs[i]])):=aE.new hp;refine⟨p,_,rfl,cz.of ag,rfl,_,_,rfl,_,_,rfl,rfl,?_⟩;have s5:=s3.trans s4;have NK:=s4 _ _ hT;have rB:=s4 _ _ hM;have Ep:=FI.mono (fY s4);generalize upd H2 p (.tup [.int i,.int fs[i]])=H3 at s5 NK rB Ep ⊢;clear s4 hp;have T7:i < al.length:=by lia
   have g0:(al.map Ao)[i]? =some (Ao al[i]):=by rw[aB,af T7]; rfl
   obtain⟨rv,VO,VP⟩:=ML.get g0;obtain⟨pr,Yp,e1,Ld,yx⟩:=jR.mp VP;subst e1;have hrx:Yp=al[i].map V.bl:=by
    clear Ld VO VP;generalize al[i]=r at yx
    induction r generalizing Yp with
    |nil=>exact cI.mp yx
    |cons b r ih=>
     obtain⟨v,rest,e,h1,h2⟩:=bI.mp yx;rw[e,qG.mp h1,ih rest h2]; rfl
   subst hrx;have Yq:fs.getD i 0=fs[i]:=by rw[aj,af hi]; rfl
   have Yr:al.getD i []=al[i]:=by rw[aj,af T7]; rfl
   refine⟨_,rfl,_,rfl,_,rfl,_,rfl,pa,_,_,.ref pr,rfl,rfl,bw.of (s5 _ _ Yn),cf VO,_,rfl,fs[i],pl,ls,pr,al[i],pt,bg,rfl,s5.seq hL,bw.of (s5 _ _ Ld),Kk _ (bN _),NK,fun H4 s6=>?_⟩;have etk:qa bg=(bW fs ls al i).1:=funext kq;have nX:bW fs ls al (i + 1)=match g8 fs[i] ls al[i] (qa bg) with
     |none=>bW fs ls al i
     |some j=>(fun x=>x == j || (bW fs ls al i).1 x,(bW fs ls al i).2 ++ [(i,j,fs[i])]):=by
    rw[etk,← Yq,← Yr]; rfl
   cases hb:g8 fs[i] ls al[i] (qa bg) with
   |none=>
    rw[hb] at nX;refine⟨_,rfl,_,rfl,bV ?_⟩;refine⟨_,_,_,bg,ms,rfl,s5.trans s6,s6 _ _ NK,?_,by lia,s6 _ _ rB,?_⟩
    ·intro j; rw[nX]; exact kq j
    ·rw[nX]; exact Ep.mono (fY s6)
   |some j=>
    rw[hb] at nX;refine⟨_,rfl,_,rfl,fF ?_⟩;have Rb:=s6 _ _ NK;have vX:=s6 _ _ rB;refine⟨_,rfl,_,rfl,pt,_,rfl,Gw.k (k:=Sum.inl (j:Int)) Rb (bf (by lia)),?_⟩;have Kl:upd H4 pt (.dK (putK bg (Sum.inl (j:Int):Key) (.bl true))) pm=some (.lst ms):=by rw[aA NJ.symm]; exact vX
    have Fz:=(Ep.length);have Rc:=ij fs ls al i;have s7:aE H (upd H4 pt (.dK (putK bg (Sum.inl (j:Int):Key) (.bl true)))):=(s5.trans s6).cV nt;have Er:nM (upd H4 pt (.dK (putK bg (Sum.inl (j:Int):Key) (.bl true)))) (bW fs ls al i).2 ms:=(Ep.mono (fY s6)).mono (MJ Rb);have HF:upd H4 pt (.dK (putK bg (Sum.inl (j:Int):Key) (.bl true))) pt=some (.dK (putK bg (Sum.inl (j:Int):Key) (.bl true))):=ag;generalize upd H4 pt (.dK (putK bg (Sum.inl (j:Int):Key) (.bl true)))=H5 at Kl s7 Er HF ⊢;refine⟨_,rfl,.inl ⟨rfl,_,bw.of Kl⟩,_,rfl,_,rfl,_,rfl,(by show 3<=sizeLine; decide),fun p8 n8=>?_⟩;have s8:aE H5 (upd H5 p8 (.tup [.int i,.int j,.int fs[i]])):=aE.new n8;refine⟨pm,ms,_,rfl,rfl,s8 _ _ Kl,bf (by lia),?_⟩;refine⟨_,_,_,putK bg (Sum.inl (j:Int):Key) (.bl true),ms ++ [.ref p8],rfl,(s7.trans s8).cV Yo,?_,fun x=>?_,?_,ag,?_⟩
    ·rw[aA NJ]; exact s8 _ _ HF
    ·rw[nX];unfold qa;rw[Je];by_cases hx:x=j
     ·subst hx; simp
     ·have: ¬ (Sum.inl (x:Int):Key)=Sum.inl (j:Int):=fun z=>hx (by injection z with z; lia);rw[aO this];have h2:=kq x;unfold qa at h2;rw[h2];simp[hx]
    ·have:=kC bg (Sum.inl (j:Int):Key) (.bl true);lia
    ·rw[nX];exact cw ((Er.mono (fY s8)).mono (dE (s8 _ _ Kl))) ⟨p8,rfl,dE (s8 _ _ Kl) _ _ ag⟩
  ·rintro σ H2 ⟨x5,x6,x7,bg,ms,rfl,s3,hT,kq,Fx,hM,FI⟩;rw[ae] at FI;refine⟨_,rfl,?_⟩;exact k _ _ s3 (iC hM FI.rp)
def cJ (fs ls:List Int)(al:List (List Bool))(i:Nat):List (Nat×Int):=(bE (fs.getD i 0) (cq fs ls al i).1 (al.getD i []) (cq fs ls al i).1.length).2
def CA (fs ls:List Int)(al:List (List Bool))(i:Nat):(cq fs ls al (i + 1)).1=dM (cq fs ls al i).1 (cJ fs ls al i):=rfl
def tG (fs ls:List Int)(al:List (List Bool))(i:Nat):(cq fs ls al (i + 1)).2=(cq fs ls al i).2 ++ (cJ fs ls al i).map fun x=>(i,x.1,x.2):=rfl
def P4 (H:Hp)(ps:List (Nat×Int))(vs:List V):Prop:=Paired (fun(t:Nat×Int) v=> ∃p,v= .ref p/\H p=some (.tup [.int t.1,.int t.2])) ps vs
def P4.mono {H H':Hp}{ps:List (Nat×Int)}{vs:List V}(h:P4 H ps vs)(k: ∀b xs,H b=some (.tup xs)->H' b=some (.tup xs)):P4 H' ps vs:=
 Paired.iA h fun _ _ ⟨p,e,q⟩=>⟨p,e,k _ _ q⟩
def gu (f:Int)(l:List Int)(row:List Bool): ∀j,(bE f l row j).2.length<=j
 |0=>aI _
 |j + 1=>by
  have:=gu f l row j;rw[bE];split
  ·rw[aH]; show _ + 1<=_; lia
  ·lia
inductive Aq (K:Frag)(vs:List V)(H:Hp)(Q:VK)(E':XK):Prop
 |mk (f:Int)(pl:Addr)(ls:List Int)(pr:Addr)(row:List Bool)(h1:vs=[.int f,.ref pl,.ref pr])(h2:bw K H pl (ls.map V.int))(h3:bw K H pr (row.map V.bl))(h4:row.length=ls.length)(h5:ls.length<=100)(h6: ∀(q:Addr) (ms:List V) (H':Hp),aE H H'->H q=none->H' q=some (.lst ms)->P4 H' (bE f ls row ls.length).2 ms->Q (.ref q) H'):Aq K vs H Q E'
def tH:aW ["free","lefts","fitting","still_free","parts","bill","left","amount"] ["free","lefts","fitting"] (ax (top 23)):={}
def Es (T:Txt K mg):eW P w K mg base "parts_of" 1 ["free","lefts","fitting"] (Aq K):=by
 refine T.D0.fv (k:=0) tH (fun f cO A outer s H vs Q E hr h=>?_)
 ·obtain⟨fr,pl,ls,pr,row,rfl,hL,hR,Bv,Le,k⟩:=h;have hu:=jP hr;have nd:=tH.nd;refine⟨_,(ah (sv 3 nd (pv 0))
(ah (sv 4 nd (bQ av))
(ah (dS bu rfl (qE rfl T.jk (aa (pv 1) av)) (gT (bX (gn 5 nd) (bX (gn 6 nd) gh)))
(ah (sv 7 nd (eN (rZ rfl) (by rfl) T.JL boot_min (aa (pv 3) (aa (pv 6) av))))
(au (bP (PW.pt (pw_and (gf (xl (pv 2) (pv 5))) (pw_and1 (aX jh (pv 7) ai (a6 _)))))
(ah (bK (pS (pv 4) (cK (aa (pv 5) (aa (pv 7) av)))))
(au (sv 3 nd (aQ eI (pv 3) (pv 7)))))
bh))))
(au (a9 (pv 4)))))),?_⟩
  refine⟨_,rfl,?_⟩;refine⟨bp _,fun q nq=>?_⟩;have s1:aE H (upd H q (.lst [])):=aE.new nq;refine⟨_,rfl,pl,rfl,⟨_,s1.seq hL⟩,?_⟩;refine mU (K:=K) (a:=pl) (xs:=ls.map V.int) (fun i σ H2=> ∃(x5 x6 x7:Option V) (ms:List V),σ=[some (.int fr),some (.ref pl),some (.ref pr),some (.int (bE fr ls row i).1),some (.ref q),x5,x6,x7]/\aE H H2/\H2 q=some (.lst ms)/\P4 H2 (bE fr ls row i).2 ms)
   ⟨none,none,none,[],rfl,s1,ag,.nil⟩ (fun i σ H2 _ ⟨_,_,_,_,_,s2,_⟩=>s2.seq hL) ?_ ?_
  ·rintro i x p σ H2 hx hp ⟨x5,x6,x7,ms,rfl,s2,hM,hP⟩;have hi:i < ls.length:=by have:=(ak.mp hx).1; rwa [ae] at this
   rw[aB,af hi] at hx;obtain rfl:V.int ls[i]=x:=aD hx;have s3:aE H2 (upd H2 p (.tup [.int i,.int ls[i]])):=aE.new hp;refine⟨p,_,rfl,cz.of ag,rfl,_,_,rfl,_,_,rfl,rfl,?_⟩;have s4:=s2.trans s3;have Rf:=s3 _ _ hM;have Ys:=hP.mono (fY s3);generalize upd H2 p (.tup [.int i,.int ls[i]])=H3 at s4 Rf Ys ⊢;have T4:i < row.length:=by lia
   have P2:ls.getD i 0=ls[i]:=getD_at hi;have T5:row.getD i false=row[i]:=getD_at T4;have hlen:ms.length<=i:=by have:=hP.length; have:=gu fr ls row i; lia
   refine⟨_,rfl,_,rfl,_,_,rfl,?_⟩;have em:(if ls[i] < (bE fr ls row i).1 then ls[i] else(bE fr ls row i).1)=gJ (bE fr ls row i).1 (ls.getD i 0):=by rw[P2]; rfl
   rw[em];have nX:bE fr ls row (i + 1)=if row.getD i false=true/\0 < gJ (bE fr ls row i).1 (ls.getD i 0) then((bE fr ls row i).1 - gJ (bE fr ls row i).1 (ls.getD i 0),(bE fr ls row i).2 ++ [(i,gJ (bE fr ls row i).1 (ls.getD i 0))]) else bE fr ls row i:=by rw[bE]
   generalize gJ (bE fr ls row i).1 (ls.getD i 0)=am at nX ⊢;have no: ¬ (row.getD i false=true/\0 < am)-> ∃(x5 x6 x7:Option V) (ms:List V),[some (.int fr),some (.ref pl),some (.ref pr),some (.int (bE fr ls row i).1),some (.ref q),some (V.int i),some (V.int ls[i]),some (V.int am)]=[some (.int fr),some (.ref pl),some (.ref pr),some (.int (bE fr ls row (i + 1)).1),some (.ref q),x5,x6,x7]/\aE H H3/\H3 q=some (.lst ms)/\P4 H3 (bE fr ls row (i + 1)).2 ms:=fun c=>by
    rw[nX,aO c];exact⟨_,_,_,ms,rfl,s4,Rf,Ys⟩
   refine⟨_,rfl,_,rfl,pr,_,_,.bl row[i],rfl,rfl,s4.seq hR,cf (by rw[aB,af T4]; rfl),_,rfl,?_⟩;refine cu (fun c1=>?_) (fun c1=>bV ?_)
   ·refine⟨_,rfl,_,_,rfl,rfl,_,rfl,cu (fun c2=>?_) (fun c2=>?_)⟩
    ·have T6:0 < am:=aM c2;rw[aZ ⟨by rw[T5]; exact c1,T6⟩] at nX;refine⟨_,rfl,.inl ⟨rfl,_,bw.of Rf⟩,_,rfl,_,rfl,(by show 2<=sizeLine; decide),fun p8 n8=>?_⟩;have s8:aE H3 (upd H3 p8 (.tup [.int i,.int am])):=aE.new n8;refine⟨q,ms,_,rfl,rfl,s8 _ _ Rf,bf (by lia),?_⟩;refine⟨_,rfl,_,rfl,_,_,rfl,rfl,?_⟩;refine⟨_,_,_,ms ++ [.ref p8],by rw[nX]; rfl,(s4.trans s8).cV nq,ag,?_⟩;rw[nX];exact cw ((Ys.mono (fY s8)).mono (dE (s8 _ _ Rf))) ⟨p8,rfl,dE (s8 _ _ Rf) _ _ ag⟩
    ·exact no fun z=>c2 (aG z.2)
   ·exact no fun z=>c1 (by rw[← T5]; exact z.1)
  ·rintro σ H2 ⟨x5,x6,x7,ms,rfl,s2,hM,hP⟩;rw[ae] at hP;refine⟨_,rfl,?_⟩;exact k _ _ _ s2 nq hM hP
def qd (f:Int)(l:List Int)(row:List Bool): ∀j,∀x∈(bE f l row j).2,x.1 < j
 |0,x,hx=>by cases hx
 |j + 1,x,hx=>by
  rw[bE] at hx;split at hx
  ·rcases bq.mp hx with hx|hx
   ·have:=qd f l row j x hx; lia
   ·rw[ao] at hx; subst hx; exact fW _
  ·have:=qd f l row j x hx; lia
def CB (fs ls:List Int)(al:List (List Bool)): ∀i,(cq fs ls al i).2.length<=i * ls.length
 |0=>by show 0<=_; lia
 |i + 1=>by
  have:=CB fs ls al i;have h2:=gu (fs.getD i 0) (cq fs ls al i).1 (al.getD i []) (cq fs ls al i).1.length;rw[tG,aH,ae,wB];unfold cJ;rw[jI] at h2 ⊢;lia
inductive vY (K:Frag)(vs:List V)(H:Hp)(Q:VK)(E':XK):Prop
 |mk (pf pl pa:Addr)(fs ls:List Int)(al:List (List Bool))(h1:vs=[.ref pf,.ref pl,.ref pa])(h2:bw K H pf (fs.map V.int))(h3:bw K H pl (ls.map V.int))(h4:Rp H (.lst (al.map Ao)) (.ref pa))(h5:fs.length<=63)(h6:ls.length<=63)(h7:al.length=fs.length)(h8:(∀r∈al,r.length=ls.length))(h9: ∀(pm:Addr) (ms:List V) (H':Hp),aE H H'->H' pm=some (.lst ms)->nM H' (cq fs ls al fs.length).2 ms->Q (.ref pm) H'):vY K vs H Q E'
def FJ {H:Hp}: ∀(r:List Bool) {xs:List V},ie H (r.map Dt.bl) xs->xs=r.map V.bl
 |[],_,h=>cI.mp h
 |b :: r,_,h=>by
  obtain⟨v,rest,e,h1,h2⟩:=bI.mp h;rw[e,qG.mp h1,FJ r h2]; rfl
def P5 {H:Hp}{al:List (List Bool)}{refs:List V}(h:ie H (al.map Ao) refs){i:Nat}(hi:i < al.length): ∃pr,refs[i]? =some (.ref pr)/\H pr=some (.lst (al[i].map V.bl)):=by
 have g0:(al.map Ao)[i]? =some (Ao al[i]):=by rw[aB,af hi]; rfl
 obtain⟨rv,VO,VP⟩:=h.get g0;obtain⟨pr,Yp,e1,Ld,yx⟩:=jR.mp VP;rw[FJ _ yx] at Ld;exact⟨pr,by rw[VO,e1],Ld⟩
def oY:aW ["frees","lefts","allowed","still_left","made","credit","free","parts","bill","amount"] ["frees","lefts","allowed"] (ax (top 22)):={}
def Ar (T:Txt K mg):eW P w K mg base "shared_out" 2 ["frees","lefts","allowed"] (vY K):=by
 have Et:eW P w K mg base "parts_of" 1 ["free","lefts","fitting"] (Aq K):=Es T;refine T.zu.fv (k:=1) oY (fun f cO A outer s H vs Q E hr h=>?_)
 ·obtain⟨pf,pl,pa,fs,ls,al,rfl,hF,hL,hA,hf1,Le,Xe,Kk,k⟩:=h;have hu:=jP hr;have nd:=oY.nd;obtain⟨pa',refs,e0,Yn,ML⟩:=jR.mp hA;cases e0;refine⟨_,(ah (sv 3 nd (fX y2 (by rfl) T.vw boot_list (aa (pv 1) av)))
(ah (sv 4 nd (bQ av))
(ah (dS bu rfl (qE rfl T.jk (aa (pv 0) av)) (gT (bX (gn 5 nd) (bX (gn 6 nd) gh)))
(ah (sv 7 nd (fc Et hr (aa (pv 6) (aa (pv 3) (aa (xl (pv 2) (pv 5)) av)))))
(au (dS bu rfl (ql (pv 7)) (gT (bX (gn 8 nd) (bX (gn 9 nd) gh)))
(ah (lV (aQ eI (xl (pv 3) (pv 8)) (pv 9)) (rX (pv 3) (pv 8) set_list))
(au (bK (pS (pv 4) (cK (aa (pv 5) (aa (pv 8) (aa (pv 9) av))))))))))))
(au (a9 (pv 4)))))),?_⟩
  refine⟨_,rfl,pl,_,rfl,.inl hL,fun q nq=>?_⟩;refine⟨bp _,fun pm nm=>?_⟩;have s1:aE H (upd H q (.lst (ls.map V.int))):=aE.new nq;have s2:aE H (upd (upd H q (.lst (ls.map V.int))) pm (.lst [])):=s1.trans (aE.new nm);have Yo:H pm=none:=s1.free nm;have Yt:q≠pm:=aK ag nm;refine⟨_,rfl,pf,rfl,⟨_,s2.seq hF⟩,?_⟩;refine mU (K:=K) (a:=pf) (xs:=fs.map V.int) (fun i σ H2=> ∃(x5 x6 x7 x8 x9:Option V) (ms:List V),σ=[some (.ref pf),some (.ref pl),some (.ref pa),some (.ref q),some (.ref pm),x5,x6,x7,x8,x9]/\aE H H2/\H2 q=some (.lst ((cq fs ls al i).1.map V.int))/\H2 pm=some (.lst ms)/\nM H2 (cq fs ls al i).2 ms)
   ⟨none,none,none,none,none,[],rfl,s2,by rw[aA Yt]; exact ag,ag,.nil⟩ (fun i σ H2 _ ⟨_,_,_,_,_,_,_,s3,_⟩=>s3.seq hF) ?_ ?_
  ·rintro i x p σ H2 hx hp ⟨x5,x6,x7,x8,x9,ms,rfl,s3,hQ,hM,FI⟩;have hi:i < fs.length:=by have:=(ak.mp hx).1; rwa [ae] at this
   rw[aB,af hi] at hx;obtain rfl:V.int fs[i]=x:=aD hx;have s4:aE H2 (upd H2 p (.tup [.int i,.int fs[i]])):=aE.new hp;refine⟨p,_,rfl,cz.of ag,rfl,_,_,rfl,_,_,rfl,rfl,?_⟩;have s5:=s3.trans s4;have VQ:=s4 _ _ hQ;have rB:=s4 _ _ hM;have Ep:=FI.mono (fY s4);generalize upd H2 p (.tup [.int i,.int fs[i]])=H3 at s5 VQ rB Ep ⊢;clear s4 hp;have T7:i < al.length:=by lia
   obtain⟨pr,Yu,Yv⟩:=P5 ML T7;have Yq:fs.getD i 0=fs[i]:=getD_at hi;have Yr:al.getD i []=al[i]:=getD_at T7;have Iu:=jI fs ls al i;have P6:cJ fs ls al i=(bE fs[i] (cq fs ls al i).1 al[i] (cq fs ls al i).1.length).2:=by unfold cJ; rw[Yq,Yr]
   have aaC:(cJ fs ls al i).length<=ls.length:=by rw[P6,Iu]; exact gu _ _ _ _
   have Yw: ∀x∈cJ fs ls al i,x.1 < ls.length:=by rw[P6,Iu]; exact qd _ _ _ _
   have Rc:=CB fs ls al i;have adp:(cq fs ls al i).2.length<=3969:=a0 Rc (qr (show i<=63 by lia) Le);refine⟨_,rfl,_,rfl,_,rfl,_,rfl,pa,_,_,.ref pr,rfl,rfl,bw.of (s5 _ _ Yn),cf Yu,fs[i],q,(cq fs ls al i).1,pr,al[i],rfl,bw.of VQ,bw.of (s5 _ _ Yv),by rw[Iu]; exact Kk _ (bN _),by rw[Iu]; lia,fun r T8 H4 s6 T9 XX hP=>?_⟩;rw[← P6] at hP;have hQ5:=s6 _ _ VQ;have vX:=s6 _ _ rB;have Yx:=Ep.mono (fY s6);have hrq:r≠q:=(aK VQ T9).symm;have Sv:r≠pm:=(aK rB T9).symm;have s7:=s5.trans s6;have PZ:T8.length=(cJ fs ls al i).length:=hP.length.symm;refine⟨_,rfl,r,rfl,⟨_,bw.of XX⟩,?_⟩;refine eM (K:=K) (a:=r) (xs:=T8) (fun m σ H5=> ∃(x8 x9:Option V) (ms:List V),σ=[some (.ref pf),some (.ref pl),some (.ref pa),some (.ref q),some (.ref pm),some (.int i),some (.int fs[i]),some (.ref r),x8,x9]/\aE H H5/\H5 q=some (.lst ((dM (cq fs ls al i).1 ((cJ fs ls al i).take m)).map V.int))/\H5 pm=some (.lst ms)/\nM H5 ((cq fs ls al i).2 ++ ((cJ fs ls al i).take m).map fun x=>(i,x.1,x.2)) ms/\H5 r=some (.lst T8)/\P4 H5 (cJ fs ls al i) T8)
    ⟨_,_,ms,rfl,s7,hQ5,vX,by simpa using Yx,XX,hP⟩ (fun m σ H5 _ ⟨_,_,_,_,_,_,_,_,h,_⟩=>bw.of h) ?_ ?_
   ·rintro m x σ H5 hx ⟨y8,y9,Ua,rfl,t5,P7,Kl,Er,NH,Q9⟩;have hm:m < (cJ fs ls al i).length:=by have:=(ak.mp hx).1; lia
    have g0:(cJ fs ls al i)[m]? =some (cJ fs ls al i)[m]:=af hm;obtain⟨v,hv,pp,e1,zr⟩:=bB Q9 g0;rw[hx] at hv;obtain rfl:x=v:=aD hv;subst e1;have hb:(cJ fs ls al i)[m].1 < ls.length:=Yw _ (bN _);have kq:=gQ hm;have Vq:(dM (cq fs ls al i).1 ((cJ fs ls al i).take m)).length=ls.length:=by rw[pN,Iu]
    generalize (cJ fs ls al i)[m]=pt at zr hb kq g0;obtain⟨b,am⟩:=pt;dsimp only at zr hb;refine⟨pp,_,rfl,cz.of zr,rfl,_,_,rfl,_,_,rfl,rfl,?_⟩;refine⟨_,rfl,_,rfl,q,_,_,_,rfl,rfl,bw.of P7,pV (by rw[Vq]; exact hb),_,rfl,_,_,rfl,rfl,_,rfl,_,rfl,q,_,_,b,rfl,rfl,P7,uj (by rw[ae,Vq]; exact hb),?_⟩;rw[← List.map_set];have hap:dM (cq fs ls al i).1 ((cJ fs ls al i).take (m + 1))=(dM (cq fs ls al i).1 ((cJ fs ls al i).take m)).set b ((dM (cq fs ls al i).1 ((cJ fs ls al i).take m)).getD b 0 - am):=by rw[kq,sV]
    rw[← hap];have t6:aE H (upd H5 q (.lst ((dM (cq fs ls al i).1 ((cJ fs ls al i).take (m + 1))).map V.int))):=t5.cV nq;have HJ:upd H5 q (.lst ((dM (cq fs ls al i).1 ((cJ fs ls al i).take (m + 1))).map V.int)) pm=some (.lst Ua):=by rw[aA Yt.symm]; exact Kl
    have hQ7:upd H5 q (.lst ((dM (cq fs ls al i).1 ((cJ fs ls al i).take (m + 1))).map V.int)) q=some (.lst ((dM (cq fs ls al i).1 ((cJ fs ls al i).take (m + 1))).map V.int)):=ag;have hr7:upd H5 q (.lst ((dM (cq fs ls al i).1 ((cJ fs ls al i).take (m + 1))).map V.int)) r=some (.lst T8):=by rw[aA hrq]; exact NH
    have P8:=Er.mono (dE (o:= .lst ((dM (cq fs ls al i).1 ((cJ fs ls al i).take (m + 1))).map V.int)) P7);have hP7:=Q9.mono (dE (o:= .lst ((dM (cq fs ls al i).1 ((cJ fs ls al i).take (m + 1))).map V.int)) P7);generalize upd H5 q (.lst ((dM (cq fs ls al i).1 ((cJ fs ls al i).take (m + 1))).map V.int))=H6 at t6 HJ hQ7 hr7 P8 hP7 ⊢;have Fz:=P8.length;rw[aH,ae,bb] at Fz;refine⟨_,rfl,.inl ⟨rfl,_,bw.of HJ⟩,_,rfl,_,rfl,_,rfl,(by show 3<=sizeLine; decide),fun p8 n8=>?_⟩;have s8:aE H6 (upd H6 p8 (.tup [.int i,.int b,.int am])):=aE.new n8;refine⟨pm,Ua,_,rfl,rfl,s8 _ _ HJ,jd (by lia),?_⟩;refine⟨_,_,Ua ++ [.ref p8],rfl,(t6.trans s8).cV Yo,?_,ag,?_,?_,?_⟩
    ·rw[aA Yt]; exact s8 _ _ hQ7
    ·rw[kq,aJ,← dR];exact cw ((P8.mono (fY s8)).mono (dE (s8 _ _ HJ))) ⟨p8,rfl,dE (s8 _ _ HJ) _ _ ag⟩
    ·rw[aA Sv]; exact s8 _ _ hr7
    ·exact(hP7.mono (fY s8)).mono (dE (s8 _ _ HJ))
   ·rintro σ H5 ⟨y8,y9,Ua,rfl,t5,P7,Kl,Er,NH,Q9⟩;rw[PZ,aY] at P7 Er;exact⟨_,_,_,_,_,Ua,rfl,t5,by rw[CA]; exact P7,Kl,by rw[tG]; exact Er⟩
  ·rintro σ H2 ⟨x5,x6,x7,x8,x9,ms,rfl,s3,hQ,hM,FI⟩;rw[ae] at FI;refine⟨_,rfl,?_⟩;exact k _ _ _ s3 hM FI
def MM {X:Cx}{K:Frag}{es:List Expr}{k:Nat}{pos:Pos}{t:Lu}{n:Nat}(hK:X.K=K)(hc:X.calm=true)(h:IF X es t)(hn:(assignEach es X.env).length=n)(nX:(assignEach es X.env).findIdx? (·.1)=none):PG X (.Tuple es k pos) (Og K n t):=by
 subst hK;exact IG hc h hn nX
def fV {H H':Hp}{tb:Addr}{fp:List Addr}{pos:Pos}{qual:Str}(t:Tb H tb pos qual)(fr:Frame fp H H')(ht:tb∉fp)(hf: ∀a∈fp,∀φ,H a≠some (.ext φ)):Tb H' tb pos qual:=by
 obtain⟨ps,h1,h2,h3⟩:=t;refine⟨ps,fr _ _ ht h1,h2,?_⟩;rcases h3 with h3|⟨c',h3,h4⟩
 ·exact .inl h3
 ·exact .inr ⟨c',h3,fr _ _ (fun z=>hf _ z _ h4) h4⟩
def cX {H:Hp}{tb:Addr}{pos:Pos}{qual:Str}(t:Tb H tb pos qual): ∃ps,H tb=some (.mL ps):=let⟨ps,e,_⟩:=t; ⟨ps,e⟩
def dI {fp SE:List Addr}{H H':Hp}(f:Frame fp H H')(h: ∀x∈fp,x∈SE):Frame SE H H':=fun b o hb e=>f b o (fun z=>hb (h b z)) e
def uA {H:Hp}{p C D:Addr}{fs:List (Str×V)}{ys:List V}{o:HO}(h:eD H p C fs)(e:H D=some (.lst ys)):eD (upd H D o) p C fs:=let⟨dx,z⟩:=h; ⟨dx,by rw[aA (mm z e (by intro q; cases q))]; exact z⟩
def gO.upd {A:d8}{H:Hp}{S:Bk}{cs:List Nat}{qs:List Addr}{D:Addr}{ys:List V}{o:HO}(h:gO A H S cs qs)(e:H D=some (.lst ys)):gO A (L2.upd H D o) S cs qs:=Paired.iA h fun _ _ z=>uA z e
def iJ.upd {A:d8}{H:Hp}{S:Bk}{cs:List Nat}{qs:List Addr}{D:Addr}{ys:List V}{o:HO}(h:iJ A H S cs qs)(e:H D=some (.lst ys)):iJ A (L2.upd H D o) S cs qs:=Paired.iA h fun _ _ z=>uA z e
def gO.tb {A:d8}{H H':Hp}{S:Bk}{cs:List Nat}{qs:List Addr}{tb:Addr}{pos:Pos}{qual:Str}(h:gO A H S cs qs)(t:Tb H tb pos qual)(fr:Frame [tb] H H'):gO A H' S cs qs:=Paired.iA h fun _ _ z=>z.frame fr (vS t z)
def oh {rows:List Rw}{c:Nat}(h:c < rows.length):(rows.map fun r=>V.int r.d)[c]? =some (.int (rows.getD c default).d):=by
 rw[aB,af h,aj,af h]; rfl
def oj (rows:List Rw)(aC:Str)(key:Rw->Int):(inOrder rows aC key).length<=rows.length:=by
 have e:(inOrder rows aC key).length=((List.range rows.length).filter fun k=>decide ((rows.getD k default).aC=aC)).length:=by
  unfold inOrder gg;rw[ae,(cL _).length_eq,ae]
 have:=a7 (fun k=>decide ((rows.getD k default).aC=aC)) (List.range rows.length);rw[dr] at this;lia
def mz (rows:List Rw)(k:Nat):Bool:=decide (0 < (rows.getD k default).d)
abbrev Km:=List Int->List Int->List (List Bool)->List (Nat×Nat×Int)
def qe:Km:=fun fs ls al=>(bW fs ls al fs.length).2
def CC:Km:=fun fs ls al=>(cq fs ls al fs.length).2
structure Kn (way:Km):Prop where
 lt: ∀fs ls al,∀t∈way fs ls al,t.1 < fs.length/\t.2.1 < ls.length
 len: ∀fs ls al,fs.length<=63->ls.length<=63->(way fs ls al).length<=4000
def P9 (way:Km)(sp:Sp):Prop:= ∀(pf pl pa:Addr) (fs ls:List Int) (al:List (List Bool)) (H:Hp) (Q:VK),H pf=some (.lst (fs.map V.int))->H pl=some (.lst (ls.map V.int))->Rp H (.lst (al.map Ao)) (.ref pa)->fs.length<=63->ls.length<=63->al.length=fs.length->(∀r∈al,r.length=ls.length)->
 (∀(pm:Addr) (ms:List V) (H':Hp),aE H H'->H' pm=some (.lst ms)->il H' (way fs ls al) ms->Q (.ref pm) H')->sp [.ref pf,.ref pl,.ref pa] H Q E0
def jf (H:Hp)(D:Addr)(al:List (List Bool))(rs:List V):Prop:=Paired (fun(r:List Bool) v=> ∃p,v= .ref p/\p≠D/\H p=some (.lst (r.map V.bl))) al rs
def jf.upd {H:Hp}{D:Addr}{al:List (List Bool)}{rs:List V}{o:HO}(h:jf H D al rs):jf (L2.upd H D o) D al rs:=Paired.iA h fun _ _ ⟨p,e,n,z⟩=>⟨p,e,n,by rw[aA n]; exact z⟩
def jf.same {H H':Hp}{D:Addr}{al:List (List Bool)}{rs:List V}(h:jf H D al rs)(s:aE H H'):jf H' D al rs:=Paired.iA h fun _ _ ⟨p,e,n,z⟩=>⟨p,e,n,s _ _ z⟩
def yB {H:Hp}: ∀r:List Bool,ie H (r.map Dt.bl) (r.map V.bl)
 |[]=>cI.mpr rfl
 |b :: r=>bI.mpr ⟨_,_,rfl,qG.mpr rfl,yB r⟩
def jf.rp {H:Hp}{D:Addr}: ∀{al:List (List Bool)} {rs:List V},jf H D al rs->ie H (al.map Ao) rs
 |_,_,.nil=>cI.mpr rfl
 |_,_,.cons ⟨p,e,_,z⟩ t=>bI.mpr ⟨_,_,rfl,e▸iC z (yB _),jf.rp t⟩
def HL {S:Bk}{l:List (Nat×Nat×Int)}{i:Nat}{t:Nat×Nat×Int}(h:l[i]? =some t):kr S (l.take (i + 1))=(kr S (l.take i)).put t.1 t.2.1 t.2.2:=lK (fun(S:Bk) (t:Nat×Nat×Int)=>S.put t.1 t.2.1 t.2.2) l S h
def FK (S:Bk): ∀l,(kr S l).aF.length=S.aF.length/\(kr S l).credits.length=S.credits.length
 |[]=>⟨rfl,rfl⟩
 |t :: l=>by
  obtain⟨a,b⟩:=FK (S.put t.1 t.2.1 t.2.2) l;exact⟨a.trans eU,b.trans eU⟩
inductive As (P:Program)(w:World)(K:Frag)(mg:Str->Option Value)(base:Heap)(A:d8)(tB tC:Addr)(vs:List V)(H:Hp)(Q:VK)(E':XK):Prop
 |mk (pw fa:Addr)(S:Bk)(f:eK)(n:Nat)(aC:Str)(way:Km)(sp:Sp)(h1:vs=[.ref pw,.str aC,.ref fa])(h2:dH A H pw S f)(h3:WF S n)(h4:n<=62)(h5:lh H tB)(h6:lR H tC)(h7:Kn way)(h8:XN P w K mg base 2 fa sp)(h9:P9 way sp)(K5: ∀gs ts fs ls al,va S aC gs ts fs ls al-> ∀D ms H',Frame (tB :: tC :: f.fp) H H'->lh H' tB->lR H' tC->dH A H' pw (kr S ((way fs ls al).map (l4 gs ts))) f->H D=none->H' D=some (.lst ms)->il H' ((way fs ls al).map (l4 gs ts)) ms->Q (.ref D) H'):As P w K mg base A tB tC vs H Q E'
def kO:aW ["self","who","way","givers","takers","frees","lefts","found","numbered","credit_number","bill_number","amount"] ["self","who","way"] (ax (mem 25 7)):={}
def CD (T:Txt K mg){A:d8}{tB tC:Addr}(G:jD K mg A)(DB:qo K mg "bills_in_order" (top 17) tB)(DC:qo K mg "credits_in_order" (top 18) tC)(js:tB≠tC)(KB:K.In base)(BM:BMain mg base):gX sf P w K mg base A.work "one_round" 3 ["self","who","way"] (As P w K mg base A tB tC):=by
 have ja:eW P w K mg base "bills_in_order" 2 ["bills","who"] (uw A tB):=lM T G DB KB BM;have hJ:eW P w K mg base "credits_in_order" 2 ["all_credits","who"] (ux A tC):=j9 T G DC KB BM;have xG:eW P w K mg base "row_of_fits" 2 ["credit","bills"] (Kd A):=xq T G;have J2:gX sf P w K mg base A.work "put" 1 ["self","credit_number","bill_number","amount"] (zV A):=Nz G;refine Ms (k:=2) G.qW G.bJ kO (fun f cO A' outer s H vs Q E hr h=>?_)
 ·obtain⟨pw,fa,S,g,n,aC,way,sp,rfl,hW,wf,hn,kj,jL,Ub,hFv,hWC,k⟩:=h;have nd:=kO.nd;have X7:S.credits.length<=62:=by have:=wf.lc; lia
  have hlb:S.aF.length<=62:=by have:=wf.lb; lia
  refine⟨_,(ah (sv 3 nd (gq (tn:=["credit"]) (cn:=["self"]) (cj:=[0]) rfl (jb (AX:=[(".0",.local),("credit",.local),("self",.cell)])) (ql (fc hJ hr (aa (kz (pv 0)) (aa (pv 1) av)))) (fun _ _ _ _=>(ez (i:=0) (show(["credit","self"]:List Str).Nodup by decide +kernel) rfl (Or.inl rfl))) (fun _ _ _ _=>(pG (aX jh (iQ (lx (K:=K) rfl) (fu (K:=K) rfl (pv 1) rfl) (fu (K:=K) rfl (pv 0) rfl) (fun _ _=>rfl)) ai (a6 _)))) (fun _ _ _ _=>(pv 0))))
(ah (sv 4 nd (gq (tn:=["bill"]) (cn:=["self"]) (cj:=[0]) rfl (jb (AX:=[(".0",.local),("bill",.local),("self",.cell)])) (ql (fc ja hr (aa (kz (pv 0)) (aa (pv 1) av)))) (fun _ _ _ _=>(ez (i:=0) (show(["bill","self"]:List Str).Nodup by decide +kernel) rfl (Or.inl rfl))) (fun _ _ _ _=>(pG (aX jh (iQ (lx (K:=K) rfl) (fu (K:=K) rfl (pv 1) rfl) (fu (K:=K) rfl (pv 0) rfl) (fun _ _=>rfl)) ai (a6 _)))) (fun _ _ _ _=>(pv 0))))
(ah (lu (i:=5) nd rfl (Or.inl rfl) (tn:=["credit"]) (cn:=["self"]) (cj:=[0]) rfl (jb (AX:=[(".0",.local),("credit",.local),("self",.cell)])) (ql (pv 3)) (fun _ _ _ _=>(ez (i:=0) (show(["credit","self"]:List Str).Nodup by decide +kernel) rfl (Or.inl rfl))) (fun _ _ _ _=>kW) (fun _ _ _ _=>(iQ (lx (K:=K) rfl) (fu (K:=K) rfl (pv 1) rfl) (fu (K:=K) rfl (pv 0) rfl) (fun _ _=>rfl))))
(ah (lu (i:=6) nd rfl (Or.inl rfl) (tn:=["bill"]) (cn:=["self"]) (cj:=[0]) rfl (jb (AX:=[(".0",.local),("bill",.local),("self",.cell)])) (ql (pv 4)) (fun _ _ _ _=>(ez (i:=0) (show(["bill","self"]:List Str).Nodup by decide +kernel) rfl (Or.inl rfl))) (fun _ _ _ _=>kW) (fun _ _ _ _=>(iQ (lx (K:=K) rfl) (fu (K:=K) rfl (pv 1) rfl) (fu (K:=K) rfl (pv 0) rfl) (fun _ _=>rfl))))
(ah (sv 7 nd (Pl (i:=2) (k:=2) (hr.mono (by decide)) rfl (Or.inl rfl) (aa (pv 5) (aa (pv 6) (aa (gq (tn:=["credit"]) (cn:=["takers"]) (cj:=[4]) rfl (jb (AX:=[(".0",.local),("credit",.local),("row_of_fits",.globalImplicit),("takers",.cell)])) (ql (pv 3)) (fun _ _ _ _=>(ez (i:=0) (show(["credit","takers"]:List Str).Nodup by decide +kernel) rfl (Or.inl rfl))) (fun _ _ _ _=>kW) (fun _ _ _ _=>(fc xG hr (aa (pv 0) (aa (pv 1) av))))) av)))))
(ah (lu (i:=8) nd rfl (Or.inl rfl) (tn:=["giver","taker","amount"]) (cn:=["takers","givers"]) (cj:=[4,3]) rfl (Af (AX:=[(".0",.local),("giver",.local),("taker",.local),("amount",.local),("givers",.cell),("takers",.cell)])) (ql (pv 7)) (fun _ _ _ _=>(MM (K:=K) (n:=3) rfl rfl (bX (ez (i:=0) (show(["giver","taker","amount","takers","givers"]:List Str).Nodup by decide +kernel) rfl (Or.inl rfl) (Or.inr rfl)) (bX (ez (i:=1) (show(["giver","taker","amount","takers","givers"]:List Str).Nodup by decide +kernel) rfl (Or.inl rfl) (Or.inr rfl)) (bX (ez (i:=2) (show(["giver","taker","amount","takers","givers"]:List Str).Nodup by decide +kernel) rfl (Or.inl rfl) (Or.inr rfl)) gh))) rfl rfl)) (fun _ _ _ _=>kW) (fun _ _ _ _=>(cK (aa (fu (K:=K) rfl (iQ (lx (K:=K) rfl) (pv 4) (pv 0) (fun _ _=>rfl)) rfl) (aa (fu (K:=K) rfl (iQ (lx (K:=K) rfl) (pv 3) (pv 1) (fun _ _=>rfl)) rfl) (aa (pv 2) av))))))
(ah (dS bu rfl (ql (pv 8)) (gT (bX (gn 9 nd) (bX (gn 10 nd) (bX (gn 11 nd) gh))))
(au (bK (nu J2 (hr.mono (by decide)) mT (pv 0) (aa (pv 9) (aa (pv 10) (aa (pv 11) av)))))))
(au (a9 (pv 8)))))))))),?_⟩
  obtain⟨dw,hw⟩:=hW.obj;refine⟨_,rfl,pw,_,dw,_,_,rfl,hw,G.bJ,G.cD,g9 g,_,rfl,g.pc,g.cps,S,aC,rfl,hW.hc,hW.rc,(by lia),jL,fun D1 Yy H1 Ko kb Uc Hs Jx=>?_⟩;have Dk:=vU hW (cX jL) Ko;have Kp: ∀a∈[tC],∀φ,H a≠some (.ext φ):=fun a ha φ e=>by
   obtain⟨ps,z⟩:=cX jL;rw[ao.mp ha,z] at e;cases e
  have ju:lh H1 tB:=fV kj Ko (by simpa using js) Kp;have F1:Frame (tB :: tC :: g.fp) H H1:=dI Ko (by intro x hx; rw[List.mem_singleton.mp hx]; simp);clear Kp;refine⟨D1,rfl,⟨_,bw.of Hs⟩,?_⟩;have MG:=oj S.credits aC (·.a);have Qa: ∀c∈inOrder S.credits aC (·.a),c < S.credits.length:=fun c hc=>(ji.mp hc).1;have LW:=ig S.credits aC (·.a);generalize inOrder S.credits aC (·.a)=ord at Jx MG Qa LW;have Qb:=aL Jx;refine dU (K:=K) (a:=D1) (xs:=Yy.map V.ref) (fun D i σ H6=>H1 D=none/\ ∃(v:Option V) (rs:List Addr),σ=[v,some (.ref pw)]/\aE H1 H6/\H6 D=some (.lst (rs.map V.ref))/\gO A H6 S ((ord.take i).filter (mz S.credits)) rs) (fun D hD=>⟨hD,none,[],rfl,aE.new hD,ag,.nil⟩) (fun D i σ H6 _ ⟨_,_,_,_,t3,_⟩=>bw.of (t3 _ _ Hs)) ?_ ?_
  ·rintro D i x σ H6 hx ⟨hD,v,rs,rfl,t3,gF,Qc⟩;rw[aB] at hx;obtain⟨q,hq,rfl⟩:=br.mp hx;have hi:i < ord.length:=by have:=(ak.mp hq).1; lia
   have qm:=af hi;obtain⟨q',sP,lL⟩:=bB Jx qm;rw[hq] at sP;obtain rfl:q=q':=aD sP;have mx:=fM (mz S.credits) qm;have qP:=Qa _ (bN hi);generalize ord[i]=c at lL mx qP;obtain⟨dq,MN⟩:=lL.same t3;have Kq:=Dk.same t3;obtain⟨Qd,Qe⟩:=Kq.obj;have Bv:rs.length<=1000:=by
    have e1:=aL Qc;have e2:=a7 (mz S.credits) (ord.take i);rw[bb] at e2;lia
   refine⟨_,rfl,pw,_,Qd,_,_,rfl,Qe,G.bJ,G.fB,lG g,_,rfl,q,_,dq,_,_,rfl,MN,G.c9,G.eL,og _ _,g.pf,_,_,.int (S.cr c).d,rfl,rfl,bw.of Kq.hf,cf (oh qP),_,_,rfl,rfl,_,rfl,cu (fun z=>?_) (fun z=>?_)⟩
   ·have z':mz S.credits c=true:=z;rw[aZ z'] at mx;refine⟨_,rfl,_,gF,bf (by rw[ae]; exact Bv),hD,_,rs ++ [q],rfl,t3.cV hD,(by rw[ag,aJ]; rfl),?_⟩;rw[mx];exact cw (Qc.upd gF) (uA ⟨dq,MN⟩ gF)
   ·have z': ¬ mz S.credits c=true:=z;rw[aO z',bU] at mx;refine⟨hD,_,rs,rfl,t3,gF,?_⟩;rw[mx];exact Qc
  rintro pg σ H2 npg ⟨_,v,rs,rfl,s2,VR,MO⟩;rw[ae,← Qb,aY] at MO;have egs:ord.filter (mz S.credits)=inTurn S.credits aC (·.a):=LW.symm;rw[egs] at MO;clear LW egs Qa MG Jx Qb Hs;have P2:(inTurn S.credits aC (·.a)).length<=62:=by
   rw[ig];have e1:=a7 (fun k=>decide (0 < (S.credits.getD k default).d)) (inOrder S.credits aC (·.a));have e2:=oj S.credits aC (·.a);lia
  have VS: ∀c∈inTurn S.credits aC (·.a),c < S.credits.length:=fun c hc=>(dk.mp hc).1;have Am:=Dk.same s2;have kA:lh H2 tB:=bL ju s2;have mI:lR H2 tC:=bL kb s2;have F2:=F1.c8 s2;clear Ko Dk ju kb s2 F1;obtain⟨Yz,Q7⟩:=Am.obj;refine⟨_,rfl,pw,_,Yz,_,_,rfl,Q7,G.bJ,G.dY,jl g,_,rfl,g.pb,g.ix,S,aC,rfl,Am.hb,Am.rb,(by lia),kA,fun D1 Yy H1 Ko ju Uc Hs Jx=>?_⟩;have Dk:=vU Am (cX kA) Ko;have Kp: ∀a∈[tB],∀φ,H2 a≠some (.ext φ):=fun a ha φ e=>by
   obtain⟨ps,z⟩:=cX kA;rw[ao.mp ha,z] at e;cases e
  have kb:lR H1 tC:=fV mI Ko (by simpa using js.symm) Kp;have F1:Frame (tB :: tC :: g.fp) H H1:=F2.tr (dI Ko (by intro x hx; rw[List.mem_singleton.mp hx]; simp));have hG1:=MO.tb kA Ko;have Ud:H1 pg=some (.lst (rs.map V.ref)):=Ko _ _ (fun z=>by
   obtain⟨ps,e⟩:=cX kA;rw[ao.mp z,e] at VR;cases VR) VR
  clear Kp;refine⟨D1,rfl,⟨_,bw.of Hs⟩,?_⟩;have MG:=oj S.aF aC (·.b);have Qa: ∀c∈inOrder S.aF aC (·.b),c < S.aF.length:=fun c hc=>(ji.mp hc).1;have LW:=ig S.aF aC (·.b);generalize inOrder S.aF aC (·.b)=ord at Jx MG Qa LW;have Qb:=aL Jx;refine dU (K:=K) (a:=D1) (xs:=Yy.map V.ref) (fun D i σ H6=>H1 D=none/\ ∃(v:Option V) (us:List Addr),σ=[v,some (.ref pw)]/\aE H1 H6/\H6 D=some (.lst (us.map V.ref))/\iJ A H6 S ((ord.take i).filter (mz S.aF)) us) (fun D hD=>⟨hD,none,[],rfl,aE.new hD,ag,.nil⟩) (fun D i σ H6 _ ⟨_,_,_,_,t3,_⟩=>bw.of (t3 _ _ Hs)) ?_ ?_
  ·rintro D i x σ H6 hx ⟨hD,v,us,rfl,t3,gF,Qc⟩;rw[aB] at hx;obtain⟨q,hq,rfl⟩:=br.mp hx;have hi:i < ord.length:=by have:=(ak.mp hq).1; lia
   have qm:=af hi;obtain⟨q',sP,lL⟩:=bB Jx qm;rw[hq] at sP;obtain rfl:q=q':=aD sP;have mx:=fM (mz S.aF) qm;have qP:=Qa _ (bN hi);generalize ord[i]=c at lL mx qP;obtain⟨dq,MN⟩:=lL.same t3;have Kq:=Dk.same t3;obtain⟨Qd,Qe⟩:=Kq.obj;have Bv:us.length<=1000:=by
    have e1:=aL Qc;have e2:=a7 (mz S.aF) (ord.take i);rw[bb] at e2;lia
   refine⟨_,rfl,pw,_,Qd,_,_,rfl,Qe,G.bJ,G.fA,lF g,_,rfl,q,_,dq,_,_,rfl,MN,G.ee,G.eQ,lD _ _,g.pl,_,_,.int (S.bl c).d,rfl,rfl,bw.of Kq.hl,cf (oh qP),_,_,rfl,rfl,_,rfl,cu (fun z=>?_) (fun z=>?_)⟩
   ·have z':mz S.aF c=true:=z;rw[aZ z'] at mx;refine⟨_,rfl,_,gF,bf (by rw[ae]; exact Bv),hD,_,us ++ [q],rfl,t3.cV hD,(by rw[ag,aJ]; rfl),?_⟩;rw[mx];exact cw (Qc.upd gF) (uA ⟨dq,MN⟩ gF)
   ·have z': ¬ mz S.aF c=true:=z;rw[aO z',bU] at mx;refine⟨hD,_,us,rfl,t3,gF,?_⟩;rw[mx];exact Qc
  rintro pt σ H3 npt ⟨_,v',us,rfl,s3,ur,Fy⟩;rw[ae,← Qb,aY] at Fy;have ets:ord.filter (mz S.aF)=inTurn S.aF aC (·.b):=LW.symm;rw[ets] at Fy;clear LW ets Qa MG Jx Qb Hs;have htl:(inTurn S.aF aC (·.b)).length<=62:=by
   rw[ig];have e1:=a7 (fun k=>decide (0 < (S.aF.getD k default).d)) (inOrder S.aF aC (·.b));have e2:=oj S.aF aC (·.b);lia
  have NJ: ∀c∈inTurn S.aF aC (·.b),c < S.aF.length:=fun c hc=>(dk.mp hc).1;have zW:=Dk.same s3;have rC:lh H3 tB:=bL ju s3;have rD:lR H3 tC:=bL kb s3;have F3:=F1.c8 s3;have Ue:=hG1.same s3;have MP:=s3 _ _ Ud;clear Ko Dk ju kb s3 F1 hG1 Ud F2 Am kA mI MO VR Q7;generalize hgs:inTurn S.credits aC (·.a)=gs at Ue P2 VS;generalize hts:inTurn S.aF aC (·.b)=ts at Fy htl NJ;have hgq:=aL Ue;have htq:=aL Fy;have hR:va S aC gs ts (gs.map fun g=>(S.cr g).d) (ts.map fun t=>(S.bl t).d) (gs.map fun g=>ts.map fun t=>S.dO g t):=⟨hgs.symm,hts.symm,rfl,rfl,rfl⟩;refine⟨_,rfl,pg,rfl,⟨_,bw.of MP⟩,?_⟩;refine dU (K:=K) (a:=pg) (xs:=rs.map V.ref) (fun D i σ H6=>H3 D=none/\ ∃(v:Option V),σ=[v,some (.ref pw)]/\aE H3 H6/\H6 D=some (.lst (((gs.take i).map fun g=>(S.cr g).d).map V.int))) (fun D hD=>⟨hD,none,rfl,aE.new hD,ag⟩) (fun D i σ H6 _ ⟨_,_,_,t3,_⟩=>bw.of (t3 _ _ MP)) ?_ ?_
  ·rintro D i x σ H6 hx ⟨hD,v,rfl,t3,gF⟩;rw[aB] at hx;obtain⟨q,hq,rfl⟩:=br.mp hx;have hi:i < gs.length:=by have:=(ak.mp hq).1; lia
   obtain⟨q',sP,lL⟩:=bB Ue (af hi);rw[hq] at sP;obtain rfl:q=q':=aD sP;have kq:=gQ hi;have qP:=VS _ (bN hi);generalize gs[i]=c at lL kq qP;obtain⟨dq,MN⟩:=lL.same t3;have Kq:=zW.same t3;obtain⟨Qd,Qe⟩:=Kq.obj;refine⟨_,rfl,pw,_,Qd,_,_,rfl,Qe,G.bJ,G.fB,lG g,_,rfl,q,_,dq,_,_,rfl,MN,G.c9,G.eL,og _ _,g.pf,_,_,.int (S.cr c).d,rfl,rfl,bw.of Kq.hf,cf (oh qP),_,gF,bf (by rw[ae,ae,bb]; lia),hD,_,rfl,t3.cV hD,?_⟩;rw[ag,kq,aJ,aJ];rfl
  rintro pf σ H4 Rg ⟨_,v4,rfl,s4,ND⟩;rw[ae,← hgq,aY] at ND;have hG4:=Ue.same s4;have NK:=Fy.same s4;have T2:=zW.same s4;have rE:lh H4 tB:=bL rC s4;have rF:lR H4 tC:=bL rD s4;have F4:=F3.c8 s4;have Ug:=s4 _ _ MP;have vZ:=s4 _ _ ur;clear s4 F3 rC rD zW Fy Ue MP ur;refine⟨_,rfl,pt,rfl,⟨_,bw.of vZ⟩,?_⟩;refine dU (K:=K) (a:=pt) (xs:=us.map V.ref) (fun D i σ H6=>H4 D=none/\ ∃(v:Option V),σ=[v,some (.ref pw)]/\aE H4 H6/\H6 D=some (.lst (((ts.take i).map fun g=>(S.bl g).d).map V.int))) (fun D hD=>⟨hD,none,rfl,aE.new hD,ag⟩) (fun D i σ H6 _ ⟨_,_,_,t3,_⟩=>bw.of (t3 _ _ vZ)) ?_ ?_
  ·rintro D i x σ H6 hx ⟨hD,v,rfl,t3,gF⟩;rw[aB] at hx;obtain⟨q,hq,rfl⟩:=br.mp hx;have hi:i < ts.length:=by have:=(ak.mp hq).1; lia
   obtain⟨q',sP,lL⟩:=bB NK (af hi);rw[hq] at sP;obtain rfl:q=q':=aD sP;have kq:=gQ hi;have qP:=NJ _ (bN hi);generalize ts[i]=c at lL kq qP;obtain⟨dq,MN⟩:=lL.same t3;have Kq:=T2.same t3;obtain⟨Qd,Qe⟩:=Kq.obj;refine⟨_,rfl,pw,_,Qd,_,_,rfl,Qe,G.bJ,G.fA,lF g,_,rfl,q,_,dq,_,_,rfl,MN,G.ee,G.eQ,lD _ _,g.pl,_,_,.int (S.bl c).d,rfl,rfl,bw.of Kq.hl,cf (oh qP),_,gF,bf (by rw[ae,ae,bb]; lia),hD,_,rfl,t3.cV hD,?_⟩;rw[ag,kq,aJ,aJ];rfl
  rintro pl σ H5 npl ⟨_,v5,rfl,s5,iN⟩;rw[ae,← htq,aY] at iN;have YA:=hG4.same s5;have Rb:=NK.same s5;have hW5:=T2.same s5;have Kr:lh H5 tB:=bL rE s5;have Ks:lR H5 tC:=bL rF s5;have F5:=F4.c8 s5;have MQ:=s5 _ _ Ug;have Qf:=s5 _ _ vZ;have Uh:=s5 _ _ ND;clear s5 F4 rE rF T2 NK hG4 Ug vZ ND;refine⟨fa,sp,rfl,hFv,_,rfl,_,rfl,_,rfl,pg,rfl,⟨_,bw.of MQ⟩,?_⟩;refine dU (K:=K) (a:=pg) (xs:=rs.map V.ref) (fun D i σ H6=>H5 D=none/\ ∃(v:Option V) (ws:List V),σ=[v,some (.ref pt)]/\aE H5 H6/\H6 D=some (.lst ws)/\jf H6 D ((gs.take i).map fun g=>ts.map fun t=>S.dO g t) ws) (fun D hD=>⟨hD,none,[],rfl,aE.new hD,ag,.nil⟩) (fun D i σ H6 _ ⟨_,_,_,_,t3,_⟩=>bw.of (t3 _ _ MQ)) ?_ ?_
  ·rintro D i x σ H6 hx ⟨hD,v,ws,rfl,t3,gF,Rh⟩;rw[aB] at hx;obtain⟨q,hq,rfl⟩:=br.mp hx;have hi:i < gs.length:=by have:=(ak.mp hq).1; lia
   obtain⟨q',sP,lL⟩:=bB YA (af hi);rw[hq] at sP;obtain rfl:q=q':=aD sP;have kq:=gQ hi;have qP:=VS _ (bN hi);generalize gs[i]=c at lL kq qP;have DK:=aL Rh;rw[ae,bb] at DK;refine⟨_,rfl,_,rfl,q,pt,S,c,ts,us,rfl,lL.same t3,t3 _ _ Qf,Rb.same t3,(by lia),fun p H7 t7 np hp=>?_⟩;have YB:(ts.map fun b=>oS (S.cr c) (S.bl b) b)=ts.map fun t=>S.dO c t:=fJ fun b hb=>yw wf qP (NJ b hb);rw[YB] at hp;have Ri:=t7 _ _ gF;have PM:p≠D:=(aK gF np).symm;refine⟨_,Ri,bf (by lia),hD,_,ws ++ [.ref p],rfl,(t3.trans t7).cV hD,ag,?_⟩;rw[kq,aJ];exact cw ((Rh.same t7).upd) ⟨p,rfl,PM,by rw[aA PM]; exact hp⟩
  rintro pa σ H6 npa ⟨_,v6,ws,rfl,s6,MR,Rh⟩;rw[ae,← hgq,aY] at Rh;refine hWC pf pl pa _ _ _ H6 _ (s6 _ _ Uh) (s6 _ _ iN) (iC MR Rh.rp) (by rw[ae]; lia) (by rw[ae]; lia) (by rw[ae,ae]) (fun r hr=>by
   obtain⟨x,_,rfl⟩:=bG.mp hr;rw[ae,ae]) fun pm ms H7 s7 MS FI=>?_
  have iX:=Ub.lt (gs.map fun g=>(S.cr g).d) (ts.map fun t=>(S.bl t).d) (gs.map fun g=>ts.map fun t=>S.dO g t);have hlen:=Ub.len (gs.map fun g=>(S.cr g).d) (ts.map fun t=>(S.bl t).d) (gs.map fun g=>ts.map fun t=>S.dO g t) (by rw[ae]; lia) (by rw[ae]; lia);rw[ae,ae] at iX;have kk:=k _ _ _ _ _ hR;generalize way (gs.map fun g=>(S.cr g).d) (ts.map fun t=>(S.bl t).d) (gs.map fun g=>ts.map fun t=>S.dO g t)=fd at iX hlen FI kk;have xH:=s6.trans s7;have hG7:=YA.same xH;have hT7:=Rb.same xH;have VT:=hW5.same xH;have HM:lh H7 tB:=bL Kr xH;have HN:lR H7 tC:=bL Ks xH;have F7:=F5.c8 xH;have Ui:=xH _ _ MQ;have Uj:=xH _ _ Qf;clear xH s6 s7 F5 Kr Ks hW5 Rb YA MQ Qf Uh iN Rh MR k hWC hFv;have VM:=aL FI;refine⟨_,rfl,pm,rfl,⟨_,bw.of MS⟩,?_⟩;refine dU (K:=K) (a:=pm) (xs:=ms) (fun D i σ H6=>H7 D=none/\ ∃(v1 v2 v3:Option V) (ws:List V),σ=[v1,v2,v3,some (.ref pt),some (.ref pg)]/\aE H7 H6/\H6 D=some (.lst ws)/\il H6 ((fd.take i).map (l4 gs ts)) ws) (fun D hD=>⟨hD,none,none,none,[],rfl,aE.new hD,ag,.nil⟩) (fun D i σ H6 _ ⟨_,_,_,_,_,_,t3,_⟩=>bw.of (t3 _ _ MS)) ?_ ?_
  ·rintro D i x σ H6 hx ⟨hD,v1,v2,v3,ws,rfl,t3,gF,HF⟩;have hi:i < fd.length:=by have:=(ak.mp hx).1; lia
   obtain⟨v',hv,p,rfl,hp⟩:=bB FI (af hi);rw[hx] at hv;obtain rfl:x= .ref p:=aD hv;have kq:=gQ hi;obtain⟨l1,l2⟩:=iX _ (bN hi);generalize fd[i]=t at hp kq l1 l2;have DK:=aL HF;rw[ae,bb] at DK;have g1:gs[t.1]? =some (gs.getD t.1 0):=by rw[aj,af l1]; rfl
   have g2:ts[t.2.1]? =some (ts.getD t.2.1 0):=by rw[aj,af l2]; rfl
   obtain⟨q1,Qb,i1⟩:=bB hG7 g1;obtain⟨q2,A0,i2⟩:=bB hT7 g2;obtain⟨d1,e1⟩:=i1.same t3;obtain⟨d2,e2⟩:=i2.same t3;refine⟨p,_,rfl,cz.of (t3 _ _ hp),rfl,_,_,rfl,_,_,rfl,_,_,rfl,rfl,?_⟩;refine⟨_,rfl,_,rfl,pg,_,_,.ref q1,rfl,rfl,bw.of (t3 _ _ Ui),cf (by rw[aB,Qb]; rfl),q1,_,d1,_,_,rfl,e1,G.c9,G.eL,og _ _,?_⟩;refine⟨_,rfl,_,rfl,pt,_,_,.ref q2,rfl,rfl,bw.of (t3 _ _ Uj),cf (by rw[aB,A0]; rfl),q2,_,d2,_,_,rfl,e2,G.ee,G.eQ,lD _ _,_,rfl,(by show 3<=sizeLine; decide),fun p8 n8=>?_⟩;have s8:=aE.new (o:= .tup [.int (gs.getD t.1 0:Nat),.int (ts.getD t.2.1 0:Nat),.int t.2.2]) n8;have hl8:=s8 _ _ gF;refine⟨_,hl8,jd (by lia),hD,_,_,_,ws ++ [.ref p8],rfl,(t3.trans s8).cV hD,ag,?_⟩;rw[kq,aJ];have tk:=fb (o:= .lst (ws ++ [.ref p8])) hl8;exact cw ((HF.mono s8.tk).mono tk) ⟨p8,rfl,tk _ _ ag⟩
  rintro pn σ H8 Qg ⟨_,w1,w2,w3,ws,rfl,s8,Hn,Uk⟩;rw[← VM,aY] at Uk;have Rj:=VT.same s8;have Ul:lh H8 tB:=bL HM s8;have Um:lR H8 tC:=bL HN s8;have F8:=F7.c8 s8;have YC:H pn=none:=by
   cases e:H pn with
   |none=>rfl
   |some o=>
    exfalso;by_cases jV:pn∈tB :: tC :: g.fp
    ·rcases aw.mp jV with z|jV
     ·obtain⟨ps,q⟩:=cX HM;rw[← z,Qg] at q;cases q
     ·rcases aw.mp jV with z|jV
      ·obtain⟨ps,q⟩:=cX HN;rw[← z,Qg] at q;cases q
      ·exact VT.new Qg jV
    ·have q:=F7 _ _ jV e;rw[Qg] at q;cases q
  have Uo:pn∉g.fp:=VT.new Qg;have Ah: ∀t∈fd.map (l4 gs ts),t.1 < S.credits.length/\t.2.1 < S.aF.length:=fun t ht=>by
   obtain⟨u,hu,rfl⟩:=bG.mp ht;obtain⟨l1,l2⟩:=iX u hu;exact⟨VS _ (jT l1),NJ _ (jT l2)⟩
  have Iu:(fd.map (l4 gs ts)).length<=4000:=by rw[ae]; exact hlen
  generalize fd.map (l4 gs ts)=L at Uk kk Ah Iu;have DK:=aL Uk;clear iX hlen FI MS Ui Uj hG7 hT7 VT HM HN F7 s8;refine⟨_,rfl,pn,rfl,⟨_,bw.of Hn⟩,?_⟩;refine eM (K:=K) (a:=pn) (xs:=ws) (fun i σ H2=> ∃(x9 HP CF:Option V),σ=[some (.ref pw),some (.str aC),some (.ref fa),some (.ref pg),some (.ref pt),some (.ref pf),some (.ref pl),some (.ref pm),some (.ref pn),x9,HP,CF]/\Frame g.fp H8 H2/\dH A H2 pw (kr S (L.take i)) g)
   ⟨none,none,none,rfl,Frame.refl,Rj⟩ (fun i σ H2 _ ⟨_,_,_,_,f2,_⟩=>bw.of (f2 _ _ Uo Hn)) ?_ ?_
  ·rintro i x σ H2 hx ⟨x9,HP,CF,rfl,f2,Am⟩;have hi:i < L.length:=by have:=(ak.mp hx).1; lia
   have qm:=af hi;obtain⟨v',hv,p,rfl,hp⟩:=bB Uk qm;rw[hx] at hv;obtain rfl:x= .ref p:=aD hv;have ur:=HL (S:=S) qm;obtain⟨m1,m2⟩:=Ah _ (bN hi);generalize L[i]=t at hp ur m1 m2;obtain⟨b1,b2⟩:=FK S (L.take i);have Fz:(kr S (L.take i)).made.length < sizeLine:=by
    rw[jH,aH,bb];have:=wf.lm;exact jd (by lia)
   obtain⟨Yz,Q7⟩:=Am.obj;refine⟨p,_,rfl,cz.of (Rj.tk f2 _ _ hp),rfl,_,_,rfl,_,_,rfl,_,_,rfl,rfl,?_⟩;refine⟨_,rfl,pw,Yz,_,rfl,Q7,J0 g,_,rfl,_,rfl,_,rfl,pw,_,g,t.1,t.2.1,t.2.2,rfl,Am,(by rw[b2]; exact m1),(by rw[b1]; exact m2),Fz,fun H3 f3 W3=>?_⟩;refine⟨_,_,_,rfl,f2.tr f3,?_⟩;rw[ur];exact W3
  ·rintro σ H2 ⟨x9,HP,CF,rfl,f2,Am⟩;rw[← DK,aY] at Am;have ext2: ∀a∈g.fp,∀φ,H8 a≠some (.ext φ):=fun a ha φ e=>by
    obtain⟨xs,z⟩:=Rj.lists a ha;rw[z] at e;cases e
   have HQ:tB∉g.fp:=Rj.off fun xs e=>by
    obtain⟨ps,z⟩:=cX Ul;rw[z] at e;cases e
   have HR:tC∉g.fp:=Rj.off fun xs e=>by
    obtain⟨ps,z⟩:=cX Um;rw[z] at e;cases e
   exact⟨_,rfl,kk pn ws H2 (F8.tr (dI f2 fun x hx=>by simp[hx])) (fV Ul f2 HQ ext2) (fV Um f2 HR ext2) Am YC (f2 _ _ Uo Hn) (Uk.mono (Rj.tk f2))⟩
def rG (g:eK):(lE g).lookup ("one_round":Str)=none:=by rfl
def oZ {α β:Type}{F:α->β->Prop}: ∀{l₁:List α} {r₁:List β} {l₂:List α} {r₂:List β},Paired F l₁ r₁->Paired F l₂ r₂->Paired F (l₁ ++ l₂) (r₁ ++ r₂)
 |_,_,_,_,.nil,h=>h
 |_,_,_,_,.cons a t,h=> .cons a (oZ t h)
def Eu:Kn qe:=⟨fun fs ls al t h=>l5 fs ls al _ t h,fun fs ls al h1 _=>by
 have:=L2.ij fs ls al fs.length;show(bW fs ls al fs.length).2.length<=4000;lia⟩
def Kt:Kn CC:=⟨fun fs ls al t h=>vf fs ls al _ t h,fun fs ls al h1 h2=>by
 have:=pO fs ls al fs.length;have h3:fs.length * ls.length<=63 * 63:=qr h1 h2;show(cq fs ls al fs.length).2.length<=4000;lia⟩
def tI {H:Hp}: ∀{ms:List (Nat×Nat×Int)} {xs:List V},ie H (ms.map Kj) xs->il H ms xs
 |[],_,h=>by
  rw[cI.mp h];exact .nil
 |t :: ms,_,h=>by
  obtain⟨v,r,rfl,h1,h2⟩:=bI.mp h;obtain⟨a,ys,rfl,h3,h4⟩:=jQ.mp h1;obtain⟨u1,r1,rfl,e1,h5⟩:=bI.mp h4;obtain⟨u2,r2,rfl,e2,h6⟩:=bI.mp h5;obtain⟨u3,r3,rfl,e3,h7⟩:=bI.mp h6;obtain rfl:=cI.mp h7;obtain rfl:=dj.mp e1;obtain rfl:=dj.mp e2;obtain rfl:=dj.mp e3;exact .cons ⟨a,rfl,h3⟩ (tI h2)
def Ku:P9 qe (vW K):=fun pf pl pa fs ls al H Q h1 h2 h3 h4 h5 h6 h7 k=>
 ⟨pf,pl,pa,fs,ls,al,rfl,bw.of h1,bw.of h2,h3,by lia,h6,h7,fun v H' s r=>by
  obtain⟨a,xs,rfl,e,r'⟩:=jR.mp r;exact k a xs H' s e (tI r')⟩
def Qh:P9 CC (vY K):=fun pf pl pa fs ls al H Q h1 h2 h3 h4 h5 h6 h7 k=>
 ⟨pf,pl,pa,fs,ls,al,rfl,bw.of h1,bw.of h2,h3,h4,h5,h6,h7,fun pm ms H' s e r=>k pm ms H' s e r⟩
inductive Au (A:d8)(tB tC:Addr)(vs:List V)(H:Hp)(Q:VK)(E':XK):Prop
 |mk (pw:Addr)(S:Bk)(f:eK)(n:Nat)(aC:Str)(h1:vs=[.ref pw,.str aC])(h2:dH A H pw S f)(h3:WF S n)(h4:n<=60)(h5:lh H tB)(h6:lR H tC)(h7: ∀D ms H',Frame (tB :: tC :: f.fp) H H'->lh H' tB->lR H' tC->dH A H' pw (S.iR aC) f->H D=none->H' D=some (.lst ms)->il H' ((S.iR aC).made.drop S.made.length) ms->Q (.ref D) H'):Au A tB tC vs H Q E'
def o4:aW ["self","who","first","second"] ["self","who"] (ax (mem 25 6)):={}
def MT (T:Txt K mg){A:d8}{tB tC:Addr}(G:jD K mg A)(DB:qo K mg "bills_in_order" (top 17) tB)(DC:qo K mg "credits_in_order" (top 18) tC)(js:tB≠tC)(KB:K.In base)(BM:BMain mg base):gX sf P w K mg base A.work "sweep" 4 ["self","who"] (Au A tB tC):=by
 have tJ:gX sf P w K mg base A.work "one_round" 3 ["self","who","way"] (As P w K mg base A tB tC):=CD T G DB DC js KB BM;obtain⟨f1,m1,V1⟩:=eW.fnv (MK (P:=P) (w:=w) (base:=base) T);obtain⟨f2,m2,V2⟩:=eW.fnv (Ar (P:=P) (w:=w) (base:=base) T);refine Ms (k:=3) G.xi G.bJ o4 (fun f cO A' outer s H vs Q E hr h=>?_)
 ·obtain⟨pw,S,g,n,aC,rfl,hW,wf,hn,kj,jL,k⟩:=h;have nd:=o4.nd;refine⟨_,(ah (sv 2 nd (nu tJ (hr.mono (by decide)) mT (pv 0) (aa (pv 1) (aa (EJ (v:= .ref f1) rfl m1 rfl) av))))
(ah (sv 3 nd (nu tJ (hr.mono (by decide)) mT (pv 0) (aa (pv 1) (aa (EJ (v:= .ref f2) rfl m2 rfl) av))))
(au (a9 (aQ lY (pv 2) (pv 3)))))),?_⟩
  obtain⟨dw,hw⟩:=hW.obj;refine⟨_,rfl,pw,dw,_,rfl,hw,rG g,_,rfl,pw,f1,S,g,n,aC,qe,_,rfl,hW,wf,(by lia),kj,jL,Eu,V1,Ku,fun gs ts fs ls al R D1 YD H1 F1 ju kb Dk Uc Hs Iy=>?_⟩;obtain⟨er,lr⟩:=Jt R;have YB:fs.length=gs.length:=by rw[R.ef,ae]
  have eS:kr S ((qe fs ls al).map (l4 gs ts))=bR aC S true:=by rw[er]; unfold qe; rw[YB]
  have em:(bR aC S true).made=S.made ++ (qe fs ls al).map (l4 gs ts):=by rw[← eS]; exact jH _ _
  obtain⟨_,l1,e1,b1,n1⟩:=vg S aC true;have el1:l1=(qe fs ls al).map (l4 gs ts):=List.append_cancel_left (e1.symm.trans em);rw[eS] at Dk;rw[← el1] at Iy;have hcb:S.credits.length * S.aF.length<=60 * 60:=qr (by have:=wf.lc; lia) (by have:=wf.lb; lia);have wf1:WF (bR aC S true) (n + 1):=by
   refine wf.later lr (fun t ht=>?_) (dA _) ?_
   ·rw[e1] at ht;rcases bq.mp ht with ht|ht
    ·exact wf.m t ht
    ·exact b1 t ht
   ·rw[e1,aH];have:=wf.lm;have:=wf.lc;lia
  obtain⟨dw1,Tp⟩:=Dk.obj;refine⟨_,rfl,pw,dw1,_,rfl,Tp,rG g,_,rfl,pw,f2,_,g,n + 1,aC,CC,_,rfl,Dk,wf1,(by lia),ju,kb,Kt,V2,Qh,fun Up VU Uq VW VX R2 D2 NB H2 F2 kA mI Am Iw Ht GH=>?_⟩;obtain⟨er2,lr2⟩:=Jv R2;have YE:Uq.length=Up.length:=by rw[R2.ef,ae]
  have eS2:kr (bR aC S true) ((CC Uq VW VX).map (l4 Up VU))=S.iR aC:=by
   show _ =bR aC (bR aC S true) false;rw[er2]; unfold CC; rw[YE]
  have em2:(S.iR aC).made=(bR aC S true).made ++ (CC Uq VW VX).map (l4 Up VU):=by rw[← eS2]; exact jH _ _
  rw[eS2] at Am;have Fz:(S.iR aC).made.length<=8000 * 60 + 8000:=by
   obtain⟨_,l3,e3,_,n3⟩:=qM S aC;rw[e3,aH];have:=wf.lm;have:=wf.lc;lia
  have YF:D1∉tB :: tC :: g.fp:=fun z=>by
   rcases aw.mp z with z|z
   ·obtain⟨ps,e⟩:=cX kj;rw[← z,Uc] at e;cases e
   ·rcases aw.mp z with z|z
    ·obtain⟨ps,e⟩:=cX jL;rw[← z,Uc] at e;cases e
    ·exact hW.new Uc z
  have YG:=F2 _ _ YF Hs;have kt:cB H1 H2:=fun b xs e=>F2 b _ (fun z=>by
   rcases aw.mp z with z|z
   ·obtain⟨ps,e'⟩:=cX ju;rw[z,e'] at e;cases e
   ·rcases aw.mp z with z|z
    ·obtain⟨ps,e'⟩:=cX kb;rw[z,e'] at e;cases e
    ·obtain⟨ys,e'⟩:=Dk.lists b z;rw[e'] at e;cases e) e
  have t1:=aL Iy;have t2:=aL GH;have hlen:(S.iR aC).made.length=S.made.length + l1.length + ((CC Uq VW VX).map (l4 Up VU)).length:=by
   rw[em2,e1,aH,aH]
  refine⟨_,rfl,_,rfl,D1,D2,YD,NB,rfl,rfl,YG,Ht,?_,fun p np=>?_⟩
  ·have:YD.length + NB.length<=1000000:=by lia
   exact df (jd this)
  ·have s3:=aE.new (o:= .lst (YD ++ NB)) np;have F:=F1.tr F2;have np0:H p=none:=by
    cases e:H p with
    |none=>rfl
    |some o=>
     exfalso;by_cases jV:p∈tB :: tC :: g.fp
     ·rcases aw.mp jV with z|jV
      ·obtain⟨ps,q⟩:=cX kA;rw[← z,np] at q;cases q
      ·rcases aw.mp jV with z|jV
       ·obtain⟨ps,q⟩:=cX mI;rw[← z,np] at q;cases q
       ·exact Am.new np jV
     ·have q:=F _ _ jV e;rw[np] at q;cases q
   refine k p _ _ (F.c8 s3) (bL kA s3) (bL mI s3) (Am.same s3) np0 ag ?_;have ed:(S.iR aC).made.drop S.made.length=l1 ++ (CC Uq VW VX).map (l4 Up VU):=by
    rw[em2,e1,dR,List.drop_left]
   rw[ed];exact oZ ((Iy.mono kt).mono s3.tk) (GH.mono s3.tk)
def Av (g:eK):(lE g).lookup ("tell_bill":Str)=none:=by rfl
def ub (g:eK):(lE g).lookup ("tell_payment":Str)=none:=by rfl
def Aw (g:eK):(lE g).lookup ("tell_note":Str)=none:=by rfl
def v7 (g:eK):(lE g).lookup ("set_by_hand":Str)=none:=by rfl
def Kv (g:eK):(lE g).lookup ("sweep":Str)=none:=by rfl
inductive uB (A:d8)(K:Frag)(tB tC:Addr)(vs:List V)(H:Hp)(Q:VK)(E:XK):Prop
 |mk (pw pd:Addr)(S:Bk)(f:eK)(n:Nat)(d:bD)(h1:vs=[.ref pw,.ref pd])(h2:dH A H pw S f)(h3:WF S n)(h4:n<=60)(h5:lh H tB)(h6:lR H tC)(h7:H pd=some (.tup (bD.vs d)))(h8:d.tells=true)(h9:(S.bar d=""-> ∀v f' H',f'.fp=f.fp->Frame (tB :: tC :: f.fp) H H'->lh H' tB->lR H' tC->dH A H' pw (S.enter d) f'->sE H' (fun D=>H D=none) (S.LY d) v->Q v H'))(K5:(S.bar d≠""->Mx A K E (S.bar d) H)):uB A K tB tC vs H Q E
def FL:aW ["work","deed","kind"] ["work","deed"] (ax (top 30)):={}
def Kw (T:Txt K mg){A:d8}{tB tC:Addr}(G:jD K mg A)(DB:qo K mg "bills_in_order" (top 17) tB)(DC:qo K mg "credits_in_order" (top 18) tC)(js:tB≠tC)(KB:K.In base)(BM:BMain mg base):vy P w K mg base "done" 7 ["work","deed"] (uB A K tB tC):=by
 have CG:gX (mG P w mg) P w K mg base A.work "tell_bill" 5 ["self","who","day","due","amount"] (zX A K):=Cg T G;have v8:gX (mG P w mg) P w K mg base A.work "tell_payment" 6 ["self","who","day","amount"] (zZ A K):=vF T G;have CI:gX (mG P w mg) P w K mg base A.work "tell_note" 6 ["self","bill_number","day","amount"] (z5 A K):=Ci T G;have xI:gX (mG P w mg) P w K mg base A.work "set_by_hand" 5 ["self","credit_number","bill_number","amount"] (J1 A K):=xm T G;have MU:gX sf P w K mg base A.work "sweep" 4 ["self","who"] (Au A tB tC):=MT T G DB DC js KB BM;refine Pr (k:=6) T.Pg FL (fun f cO A' outer s H vs Q E hr mr h=>?_)
 ·obtain⟨pw,pd,S,g,n,d,rfl,hW,wf,hn,kj,jL,hd,ht,k1,k2⟩:=h;have nd:=FL.nd;obtain⟨dw,hw⟩:=hW.obj;refine⟨_,(ah (sv 2 nd (xt (pv 1) ai))
(ah (bP (aX cG (pv 2) aV (a6 _))
(au (a9 (nu CG (hr.mono (by decide)) mr.pass (pv 0) (aa (xt (pv 1) ai) (aa (xt (pv 1) ai) (aa (xt (pv 1) ai) (aa (xt (pv 1) ai) av)))))))
bh)
(ah (bP (aX cG (pv 2) aV (a6 _))
(au (a9 (nu v8 (hr.mono (by decide)) mr.pass (pv 0) (aa (xt (pv 1) ai) (aa (xt (pv 1) ai) (aa (xt (pv 1) ai) av))))))
bh)
(ah (bP (aX cG (pv 2) aV (a6 _))
(au (a9 (nu CI (hr.mono (by decide)) mr.pass (pv 0) (aa (xt (pv 1) ai) (aa (xt (pv 1) ai) (aa (xt (pv 1) ai) av))))))
bh)
(ah (bP (aX cG (pv 2) aV (a6 _))
(au (a9 (nu xI (hr.mono (by decide)) mr.pass (pv 0) (aa (xt (pv 1) ai) (aa (xt (pv 1) ai) (aa (xt (pv 1) ai) av))))))
bh)
(au (a9 (nu MU (hr.mono (by decide)) mT (pv 0) (aa (xt (pv 1) ai) av))))))))),?_⟩
  have ext: ∀a∈g.fp,∀φ,H a≠some (.ext φ):=fun a ha φ e=>by
   obtain⟨xs,z⟩:=hW.lists a ha;rw[z] at e;cases e
  have HQ:tB∉g.fp:=hW.off fun xs e=>by
   obtain⟨ps,z⟩:=cX kj;rw[z] at e;cases e
  have HR:tC∉g.fp:=hW.off fun xs e=>by
   obtain⟨ps,z⟩:=cX jL;rw[z] at e;cases e
  cases d with
  |g6 n=>cases ht
  |ask o w d=>cases ht
  |iD w d l=>cases ht
  |dW wh dy du am=>
   refine⟨_,rfl,pd,_,_,.str "bill",rfl,rfl,cz.of hd,rfl,?_⟩;refine⟨_,rfl,rfl,true,AZ _,fF ⟨_,rfl,pw,dw,_,rfl,hw,Av g,_,rfl,pd,_,_,.str wh,rfl,rfl,cz.of hd,rfl,_,rfl,pd,_,_,.int dy,rfl,rfl,cz.of hd,rfl,_,rfl,pd,_,_,.int du,rfl,rfl,cz.of hd,rfl,_,rfl,pd,_,_,.int am,rfl,rfl,cz.of hd,rfl,pw,S,g,wh,dy,du,am,rfl,hW,(by have:=wf.lb; lia),fun hb f1 H1 e1 F1 W1=>?_,k2⟩⟩;exact k1 hb _ f1 H1 e1 (dI F1 fun x hx=>by simp[hx]) (fV kj F1 HQ ext) (fV jL F1 HR ext) W1 rfl
  |qK wh dy am=>
   refine⟨_,rfl,pd,_,_,.str "pay",rfl,rfl,cz.of hd,rfl,?_⟩;refine⟨_,rfl,rfl,false,jF (show("pay":Str)≠"bill" by decide +kernel),bV ?_⟩;refine⟨_,rfl,rfl,true,AZ _,fF ⟨_,rfl,pw,dw,_,rfl,hw,ub g,_,rfl,pd,_,_,.str wh,rfl,rfl,cz.of hd,rfl,_,rfl,pd,_,_,.int dy,rfl,rfl,cz.of hd,rfl,_,rfl,pd,_,_,.int am,rfl,rfl,cz.of hd,rfl,pw,S,g,wh,dy,am,rfl,hW,(by have:=wf.lc; lia),fun hb f1 H1 e1 F1 W1=>?_,k2⟩⟩;exact k1 hb _ f1 H1 e1 (dI F1 fun x hx=>by simp[hx]) (fV kj F1 HQ ext) (fV jL F1 HR ext) W1 rfl
  |note b dy am=>
   refine⟨_,rfl,pd,_,_,.str "note",rfl,rfl,cz.of hd,rfl,?_⟩;refine⟨_,rfl,rfl,false,jF (show("note":Str)≠"bill" by decide +kernel),bV ?_⟩;refine⟨_,rfl,rfl,false,jF (show("note":Str)≠"pay" by decide +kernel),bV ?_⟩;refine⟨_,rfl,rfl,true,AZ _,fF ⟨_,rfl,pw,dw,_,rfl,hw,Aw g,_,rfl,pd,_,_,.int b,rfl,rfl,cz.of hd,rfl,_,rfl,pd,_,_,.int dy,rfl,rfl,cz.of hd,rfl,_,rfl,pd,_,_,.int am,rfl,rfl,cz.of hd,rfl,pw,S,g,b,dy,am,rfl,hW,(by have:=wf.lc; lia),fun hb f1 H1 e1 F1 W1=>?_,k2⟩⟩;exact k1 hb _ f1 H1 e1 (dI F1 fun x hx=>by simp[hx]) (fV kj F1 HQ ext) (fV jL F1 HR ext) W1 rfl
  |set c b am=>
   refine⟨_,rfl,pd,_,_,.str "set",rfl,rfl,cz.of hd,rfl,?_⟩;refine⟨_,rfl,rfl,false,jF (show("set":Str)≠"bill" by decide +kernel),bV ?_⟩;refine⟨_,rfl,rfl,false,jF (show("set":Str)≠"pay" by decide +kernel),bV ?_⟩;refine⟨_,rfl,rfl,false,jF (show("set":Str)≠"note" by decide +kernel),bV ?_⟩;refine⟨_,rfl,rfl,true,AZ _,fF ⟨_,rfl,pw,dw,_,rfl,hw,v7 g,_,rfl,pd,_,_,.int c,rfl,rfl,cz.of hd,rfl,_,rfl,pd,_,_,.int b,rfl,rfl,cz.of hd,rfl,_,rfl,pd,_,_,.int am,rfl,rfl,cz.of hd,rfl,pw,S,g,n,c,b,am,rfl,hW,wf,(jd (by have:=wf.lm; lia)),fun hb f1 H1 e1 F1 W1=>?_,k2⟩⟩;exact k1 hb _ f1 H1 e1 (dI F1 fun x hx=>by simp[hx]) (fV kj F1 HQ ext) (fV jL F1 HR ext) W1 rfl
  |fL wh=>
   refine⟨_,rfl,pd,_,_,.str "sweep",rfl,rfl,cz.of hd,rfl,?_⟩;refine⟨_,rfl,rfl,false,jF (show("sweep":Str)≠"bill" by decide +kernel),bV ?_⟩;refine⟨_,rfl,rfl,false,jF (show("sweep":Str)≠"pay" by decide +kernel),bV ?_⟩;refine⟨_,rfl,rfl,false,jF (show("sweep":Str)≠"note" by decide +kernel),bV ?_⟩;refine⟨_,rfl,rfl,false,jF (show("sweep":Str)≠"set" by decide +kernel),bV ?_⟩;refine⟨_,rfl,pw,dw,_,rfl,hw,Kv g,_,rfl,pd,_,_,.str wh,rfl,rfl,cz.of hd,rfl,pw,S,g,n,wh,rfl,hW,wf,(by lia),kj,jL,fun D ms H1 F1 ju kb W1 nD hD hT=>?_⟩;exact k1 rfl _ g H1 rfl F1 ju kb W1 ⟨D,ms,rfl,nD,hD,hT⟩
def Kx {α:Type}(x:α)(xs:List α):se (x :: xs) 0=some x:=cf (xs:=x :: xs) (j:=0) rfl
def k7 (H:Hp)(ss:List (Int×bD))(bg:List (Key×V)):Prop:=Paired (fun(st:Int×bD) (kv:Key×V)=>kv.1=Sum.inl st.1/\ ∃pd,kv.2= .ref pd/\H pd=some (.tup (bD.vs st.2))/\st.2.tells=true) ss bg
def k7.mono {H H':Hp}{ss:List (Int×bD)}{bg:List (Key×V)}(h:k7 H ss bg)(k:cB H H'):k7 H' ss bg:=Paired.iA h fun _ _ ⟨e,p,e2,z,t⟩=>⟨e,p,e2,k _ _ z,t⟩
structure fI (A:d8)(H:Hp)(pb pk pw:Addr)(T:gE)(f:eK):Prop where
 obj:eD H pb A.book (eT pk pw)
 kept: ∃bg,H pk=some (.dK bg)/\k7 H T.steps bg
 wk:dH A H pw T.bk f
def fI.same {A:d8}{H H':Hp}{pb pk pw:Addr}{T:gE}{f:eK}(h:fI A H pb pk pw T f)(s:aE H H'):fI A H' pb pk pw T f:=by
 obtain⟨bg,k1,k2⟩:=h.kept;exact⟨h.obj.same s,⟨bg,s _ _ k1,k2.mono s.tk⟩,h.wk.same s⟩
def FN {A:d8}{H H':Hp}{pw:Addr}{S:Bk}{f:eK}(h:dH A H pw S f)(kl: ∀a xs,H a=some (.lst xs)->H' a=some (.lst xs))(ki: ∀a C dx fs,fs.length=5->H a=some (.ins C dx fs)->H' a=some (.ins C dx fs))(kt:cB H H'):dH A H' pw S f:=by
 obtain⟨dw,hw⟩:=h.obj;obtain⟨ms,m1,m2⟩:=h.hm;exact⟨⟨dw,ki _ _ _ _ rfl hw⟩,kl _ _ h.hb,kl _ _ h.hc,kl _ _ h.hl,kl _ _ h.hf,⟨ms,kl _ _ m1,m2.mono kt⟩,⟨h.rb.1,fun i p e=>let⟨dx,z⟩:=h.rb.2 i p e; ⟨dx,ki _ _ _ _ rfl z⟩⟩,⟨h.rc.1,fun i p e=>let⟨dx,z⟩:=h.rc.2 i p e; ⟨dx,ki _ _ _ _ rfl z⟩⟩,h.nd⟩
def Ky (o:HO):Prop:=(∀xs,o≠ .lst xs)/\(∀xs,o≠ .tup xs)/\ ∀C dx fs,fs.length=5->o≠ .ins C dx fs
def v9 {A:d8}{H:Hp}{pw p:Addr}{S:Bk}{f:eK}{o u:HO}(h:dH A H pw S f)(e:H p=some o)(n:Ky o):dH A (upd H p u) pw S f:=
 FN h (fun a xs z=>by rw[aA (fun q=>by rw[q,e] at z; exact n.1 xs (aD z))]; exact z) (fun a C dx fs hl z=>by rw[aA (fun q=>by rw[q,e] at z; exact n.2.2 C dx fs hl (aD z))]; exact z)
  (fun a xs z=>by rw[aA (fun q=>by rw[q,e] at z; exact n.2.1 xs (aD z))]; exact z)
def uC (bg:List (Key×V)):Ky (.dK bg):=⟨fun _ z=>(by cases z),fun _ z=>(by cases z),fun _ _ _ _ z=>(by cases z)⟩
def Kz (φ:Heap->Prop):Ky (.ext φ):=⟨fun _ z=>(by cases z),fun _ z=>(by cases z),fun _ _ _ _ z=>(by cases z)⟩
def yC (C dx pk pw:Addr):Ky (.ins C dx (eT pk pw)):=⟨fun _ z=>(by cases z),fun _ z=>(by cases z),fun _ _ fs hl z=>(by injection z with _ _ z; rw[← z] at hl; cases hl)⟩
def Ax {H:Hp}{p:Addr}{o u:HO}(e:H p=some o)(n:Ky o):cB H (upd H p u):=fun a xs z=>by rw[aA (fun q=>by rw[q,e] at z; exact n.2.1 xs (aD z))]; exact z
def sG {H:Hp}{m:Int}: ∀{ss:List (Int×bD)} {bg:List (Key×V)},k7 H ss bg->gj bg (Sum.inl m:Key)=none-> ∀st∈ss,st.1≠m
 |_,_,.nil,_,_,h=>by cases h
 |_,_,.cons (a:=a) (b:=kv) ⟨e,_⟩ t,hv,st,h=>by
  by_cases q:kv.1=(Sum.inl m:Key)
  ·rw[fE q] at hv;cases hv
  ·rw[fq q] at hv;rcases aw.mp h with rfl|h
   ·intro z;rw[e,z] at q;exact q rfl
   ·exact sG t hv st h
def yD {H:Hp}{m:Int}{v:V}: ∀{ss:List (Int×bD)} {bg:List (Key×V)},k7 H ss bg->gj bg (Sum.inl m:Key)=some v-> ∃st∈ss,st.1=m/\ ∃pd,v= .ref pd/\H pd=some (.tup (bD.vs st.2))/\st.2.tells=true
 |_,_,.nil,hv=>by cases hv
 |_,_,.cons (a:=a) (b:=kv) ⟨e,pd,e2,z,tl⟩ t,hv=>by
  by_cases q:kv.1=(Sum.inl m:Key)
  ·rw[fE q] at hv;rw[e] at q;refine⟨a,bc,by injection q,pd,?_,z,tl⟩;rw[← aD hv,e2]
  ·rw[fq q] at hv;obtain⟨st,h1,h2⟩:=yD t hv;exact⟨st,aS _ h1,h2⟩
def CJ {H:Hp}{m:Int}: ∀{ss:List (Int×bD)} {bg:List (Key×V)},k7 H ss bg->(∀st∈ss,st.1≠m)->gj bg (Sum.inl m:Key)=none
 |_,_,.nil,_=>rfl
 |_,_,.cons (a:=a) (b:=kv) ⟨e,_⟩ t,h=>by
  rw[fq (fun q=>by
   rw[e] at q;exact h a bc (by injection q))]
  exact CJ t fun st hs=>h st (aS _ hs)
def yE {H:Hp}{m:Int}: ∀{ss:List (Int×bD)} {bg:List (Key×V)},k7 H ss bg->k7 H (ss.filter fun st=>decide (st.1≠m)) (lp bg (Sum.inl m:Key))
 |_,_,.nil=> .nil
 |_,_,.cons (a:=a) (b:=kv) ⟨e,r⟩ t=>by
  have ih:=yE (m:=m) t;unfold lp at ih ⊢;by_cases q:a.1=m
  ·have q':kv.1=(Sum.inl m:Key):=by rw[e,q]
   rw[List.filter_cons_of_neg (by simp[q]),List.filter_cons_of_neg (by simp[q'])];exact ih
  ·have q': ¬ kv.1=(Sum.inl m:Key):=by rw[e]; intro z; exact q (by injection z)
   rw[List.filter_cons_of_pos (by simp[q]),List.filter_cons_of_pos (by simp[q'])];exact .cons ⟨e,r⟩ ih
def wa: ∀{ss:List (Int×bD)},ss.Pairwise (fun a b=>a.1 < b.1)-> ∀{x y:Int×bD},x∈ss->y∈ss->x.1=y.1->x=y
 |[],_,_,_,h,_,_=>by cases h
 |a :: ss,hp,x,y,hx,hy,e=>by
  rw[fh] at hp;rcases aw.mp hx with hx|hx
  ·rcases aw.mp hy with hy|hy
   ·rw[hx,hy]
   ·have:=hp.1 y hy;rw[hx] at e;lia
  ·rcases aw.mp hy with hy|hy
   ·have:=hp.1 x hx;rw[hy] at e;lia
   ·exact wa hp.2 hx hy e
def HS (ss:List (Int×bD))(m:Int):Bool:=ss.any fun st=>decide (st.1=m) && st.2.isSet
def qf (ss:List (Int×bD))(m:Int):(ss.filter (cM m)).length=ss.length↔HS ss m=false:=by
 rw[List.length_filter_eq_length_iff];unfold HS;rw[rO];constructor
 ·intro h st hs;have:=h st hs;unfold cM at this;cases h2:decide (st.1=m) && st.2.isSet
  ·simp
  ·rw[h2] at this;cases this
 ·intro h st hs;have:=h st hs;unfold cM;cases h2:decide (st.1=m) && st.2.isSet
  ·rfl
  ·exact absurd h2 this
def KA {ss:List (Int×bD)}{m:Int}{st:Int×bD}(hp:ss.Pairwise (fun a b=>a.1 < b.1))(hs:st∈ss)(e:st.1=m):HS ss m=st.2.isSet:=by
 unfold HS;cases h:st.2.isSet with
 |true=>exact List.any_eq_true.mpr ⟨st,hs,by simp[e,h]⟩
 |false=>
  rw[rO];intro x hx z;have z':x.1=m/\x.2.isSet=true:=by simpa using z
  have q:=wa hp hx hs (z'.1.trans e.symm);rw[q,h] at z';cases z'.2
def CK {ss:List (Int×bD)}{m:Int}(h: ∀st∈ss,st.1≠m):HS ss m=false:=by
 unfold HS;rw[rO];intro x hx z;have z':x.1=m/\x.2.isSet=true:=by simpa using z
 exact h x hx z'.1
def KC {ss:List (Int×bD)}{m:Int}(hp:ss.Pairwise (fun a b=>a.1 < b.1))(h:HS ss m=true):ss.filter (cM m)=ss.filter fun st=>decide (st.1≠m):=by
 apply iW;intro st hs;unfold cM;by_cases e:st.1=m
 ·rw[← KA hp hs e,h];simp[e]
 ·simp[e]
def CL (pk pw:Addr):(eT pk pw).lookup ("in_force":Str)=none:=by rfl
def MV (pk pw:Addr):(eT pk pw).lookup ("undo":Str)=none:=by rfl
def Ur (pk pw:Addr):(eT pk pw).lookup ("do":Str)=none:=by rfl
inductive sH (A:d8)(vs:List V)(H:Hp)(Q:VK)(E':XK):Prop
 |mk (pb pk pw:Addr)(T:gE)(f:eK)(n:Nat)(m:Int)(h1:vs=[.ref pb,.int m])(h2:fI A H pb pk pw T f)(h3:Good T n)(h4: ∀H',aE H H'->Q (.bl (HS T.steps m)) H'):sH A vs H Q E'
def sI:aW ["self","number"] ["self","number"] (ax (mem 29 3)):={}
def Ew {A:d8}(G:jD K mg A):gX sf P w K mg base A.book "in_force" 1 ["self","number"] (sH A):=by
 refine Ms (k:=0) G.sx G.eR sI (fun f cO A' outer s H vs Q E hr h=>?_)
 ·obtain⟨pb,pk,pw,T,g,n,m,rfl,hB,hG,k⟩:=h;have hu:=jP hr;obtain⟨db,hb⟩:=hB.obj;obtain⟨bg,hk,hK⟩:=hB.kept;refine⟨_,(au (a9 (mN (Od (OF hu (pv 1) (kz (pv 0)))) (lU (eA nY (xt (cA hu (kz (pv 0)) (pv 1) (fun _ _=>rfl)) ai) (cK (aa aV (aa aV av))) (by rfl)))))),?_⟩;refine⟨_,rfl,_,rfl,pb,_,db,_,_,rfl,hb,G.eR,G.gK,uy _ _,pk,_,rfl,mE.k (k:=(Sum.inl m:Key)) hk,_,rfl,?_⟩;cases hv:gj bg (Sum.inl m:Key) with
  |none=>
   refine bV ?_;have q:=k H (aE.refl _);rw[CK (sG hK hv)] at q;exact q
  |some v=>
   refine fF ?_;obtain⟨st,hs,e,pd,rfl,Cq,ht⟩:=yD hK hv;obtain⟨r,er⟩:=uv (.inl ht);rw[er] at Cq;refine⟨_,rfl,pb,_,db,_,_,rfl,hb,G.eR,G.gK,uy _ _,_,rfl,pk,.ref pd,rfl,(by have z:=mE.k (k:=(Sum.inl m:Key)) hk; rw[hv] at z; exact z),pd,_,_,.str (bD.word st.2),rfl,rfl,cz.of Cq,Kx _ _,(by show 2<=sizeLine; decide),fun p np=>?_⟩;have s1:=aE.new (o:= .tup [.str "set",.str "sweep"]) np;refine⟨p,_,rfl,.inr (cz.of ag),rfl,rfl,?_⟩;have q:=k _ s1;rw[KA hG.inc hs e,← FC ht] at q;exact q
inductive Qi (A:d8)(K:Frag)(tB tC:Addr)(vs:List V)(H:Hp)(Q:VK)(E:XK):Prop
 |mk (pb pd pk pw:Addr)(T:gE)(f:eK)(n:Nat)(d:bD)(h1:vs=[.ref pb,.int n,.ref pd])(h2:fI A H pb pk pw T f)(h3:Good T n)(h4:n<=59)(h5:lh H tB)(h6:lR H tC)(h7:H pd=some (.tup (bD.vs d)))(h8:d.tells=true)(h9:(T.bk.bar d=""-> ∀v f' H',f'.fp=f.fp->Frame (tB :: tC :: pk :: f.fp) H H'->lh H' tB->lR H' tC->fI A H' pb pk pw ⟨T.steps ++ [((n:Int),d)],T.bk.enter d⟩ f'->sE H' (fun D=>H D=none) (T.bk.LY d) v->Q v H'))(K5:(T.bk.bar d≠""->Mx A K E (T.bk.bar d) H)):Qi A K tB tC vs H Q E
def wb:aW ["self","number","deed","answer"] ["self","number","deed"] (ax (mem 29 1)):={}
def YH (T:Txt K mg){A:d8}{tB tC:Addr}(G:jD K mg A)(DB:qo K mg "bills_in_order" (top 17) tB)(DC:qo K mg "credits_in_order" (top 18) tC)(js:tB≠tC)(KB:K.In base)(BM:BMain mg base):gX (mG P w mg) P w K mg base A.book "do" 8 ["self","number","deed"] (Qi A K tB tC):=by
 have Ex:vy P w K mg base "done" 7 ["work","deed"] (uB A K tB tC):=Kw T G DB DC js KB BM;refine qY (k:=7) G.D9 G.eR wb (fun f cO A' outer s H vs Q E hr mr h=>?_)
 ·obtain⟨pb,pd,pk,pw,T,g,n,d,rfl,hB,hG,hn,kj,jL,hd,ht,k1,k2⟩:=h;have hu:=jP hr;have nd:=wb.nd;obtain⟨db,hb⟩:=hB.obj;obtain⟨bg,hk,hK⟩:=hB.kept;have hW:=hB.wk;refine⟨_,(ah (sv 3 nd (sy Ex (hr.mono (by decide)) rfl mr.pass (aa (kz (pv 0)) (aa (pv 2) av))))
(ah (E2 hu (kz (pv 0)) (pv 1) (pv 2) rfl)
(au (a9 (pv 3))))),?_⟩
  refine⟨_,rfl,pb,_,db,_,_,rfl,hb,G.eR,G.gN,uz _ _,_,rfl,pw,pd,T.bk,g,n,d,rfl,hW,hG.wf (by lia),(by lia),kj,jL,hd,ht,fun oJ v f1 H1 e1 F1 ju kb W1 hA=>?_,k2⟩;have Qj: ∀a o,H a=some o->(∀xs,o≠ .lst xs)->(∀ps,o≠ .mL ps)->a∉tB :: tC :: g.fp:=fun a o e n1 n2 z=>by
   rcases aw.mp z with z|z
   ·obtain⟨ps,q⟩:=cX kj;rw[z,q] at e;exact n2 ps (aD e).symm
   ·rcases aw.mp z with z|z
    ·obtain⟨ps,q⟩:=cX jL;rw[z,q] at e;exact n2 ps (aD e).symm
    ·obtain⟨xs,q⟩:=hW.lists a z;rw[q] at e;exact n1 xs (aD e).symm
  have kt:cB H H1:=fun a xs e=>F1 _ _ (Qj _ _ e (fun _ z=>by cases z) (fun _ z=>by cases z)) e;have Rk:=F1 _ _ (Qj _ _ hb (fun _ z=>by cases z) (fun _ z=>by cases z)) hb;have HU:=F1 _ _ (Qj _ _ hk (fun _ z=>by cases z) (fun _ z=>by cases z)) hk;have hK1:=hK.mono kt;have lz:=kt _ _ hd;have Fx:=aL hK;have hlen:=hG.len;refine⟨_,rfl,_,rfl,pb,_,db,_,_,rfl,Rk,G.eR,G.gK,uy _ _,_,rfl,pk,_,rfl,Gw.k (k:=(Sum.inl (n:Int):Key)) HU (bf (by lia)),?_⟩;rw[Jf _ (CJ hK1 fun st hs=>by have:=(hG.lt st hs).2; lia)];have s2: ∀a o,a≠pk->H1 a=some o->upd H1 pk (.dK (bg ++ [(Sum.inl (n:Int),V.ref pd)])) a=some o:=fun a o hn e=>by rw[aA hn]; exact e
  have nbk:pb≠pk:=mm Rk HU (by intro z; cases z);have YI:=Ax (u:= .dK (bg ++ [(Sum.inl (n:Int),V.ref pd)])) HU (uC bg);refine⟨_,rfl,k1 oJ v f1 _ e1 ((dI F1 fun x hx=>?_).tr (Frame.upd (by simp))) (fV ju (Frame.upd (fp:=[pk]) (by simp)) (fun z=>?_) (fun a ha φ e=>?_)) (fV kb (Frame.upd (fp:=[pk]) (by simp)) (fun z=>?_) (fun a ha φ e=>?_)) ⟨⟨db,s2 _ _ nbk Rk⟩,⟨_,ag,?_⟩,v9 W1 HU (uC bg)⟩ ?_⟩
  ·rcases aw.mp hx with hx|hx
   ·simp[hx]
   ·rcases aw.mp hx with hx|hx
    ·simp[hx]
    ·simp[hx]
  ·obtain⟨ps,q⟩:=cX ju;rw[ao.mp z,HU] at q;cases q
  ·rw[ao.mp ha,HU] at e;cases e
  ·obtain⟨ps,q⟩:=cX kb;rw[ao.mp z,HU] at q;cases q
  ·rw[ao.mp ha,HU] at e;cases e
  ·exact cw (hK1.mono YI) ⟨rfl,pd,rfl,YI _ _ lz,ht⟩
  ·exact hA.keep (fun D xs o e=>⟨o,s2 _ _ (mm e HU (by intro z; cases z)) e⟩) YI
def CM: ∀{ss:List (Int×bD)} {B S:Bk} {i:Nat} {k:Int} {d:bD},cF (ss.take i) B=some S->ss[i]? =some (k,d)->S.bar d≠""->iF ss B=S.bar d/\cF ss B=none
 |[],_,_,_,_,_,_,h,_=>by simp at h
 |(k0,d0) :: ss,B,S,0,k,d,hw,h,hb=>by
  cases hw;have e:(k0,d0)=(k,d):=by simpa using h
  cases e;unfold iF cF;rw[aO hb,aO hb];exact⟨rfl,rfl⟩
 |(k0,d0) :: ss,B,S,i + 1,k,d,hw,h,hb=>by
  rw[List.take_succ_cons] at hw;unfold cF at hw;split at hw
  ·rename_i q;have ih:=CM hw (by simpa using h) hb;unfold iF cF;rw[aZ q,aZ q];exact ih
  ·cases hw
def CO {ss:List (Int×bD)}{B S:Bk}{i:Nat}{k:Int}{d:bD}(hw:cF (ss.take i) B=some S)(h:ss[i]? =some (k,d))(hb:S.bar d=""):cF (ss.take (i + 1)) B=some (S.enter d):=by
 obtain⟨hi,e⟩:=ak.mp h;rw[gQ hi,kX,hw,e];show(if S.bar d="" then some (S.enter d) else none)=_;rw[aZ hb]
def YJ (A:d8)(K:Frag)(tB tC:Addr)(fp:List Addr)(E:XK)(t:Str)(H:Hp):Prop:= ∀C dx H',gW K C A.refusal->Frame fp H H'->lh H' tB->lR H' tC->H dx=none->H' dx=some (.xd [("text",.str t)])->E (.ref C) (some dx) H'
inductive Ay (A:d8)(K:Frag)(tB tC:Addr)(vs:List V)(H:Hp)(Q:VK)(E:XK):Prop
 |mk (pk:Addr)(ss:List (Int×bD))(bg:List (Key×V))(h1:vs=[.ref pk])(h2:H pk=some (.dK bg))(h3:k7 H ss bg)(h4:ss.length<=59)(h5:(iF ss Bk.new=""∨iF ss Bk.new="too much"))(h6:lh H tB)(h7:lR H tC)(h8:(∀S,cF ss Bk.new=some S-> ∀pw f H',Frame [tB,tC] H H'->lh H' tB->lR H' tC->dH A H' pw S f->H pw=none->(∀b∈f.fp,H b=none)->Q (.ref pw) H'))(h9:(cF ss Bk.new=none->YJ A K tB tC [tB,tC,pk] E "needed" H)):Ay A K tB tC vs H Q E
def o5:aW ["kept","work","deed"] ["kept"] (ax (top 31)):={}
def NL {H:Hp}{tb d:Addr}{pos:Pos}{qual:Str}{φ:Heap->Prop}{u:HO}(t:Tb H tb pos qual)(e:H d=some (.ext φ))(n: ∀q:Str,φ≠fun h=>h.CodeRec (.ref d) q):Tb (upd H d u) tb pos qual:=by
 obtain⟨ps,h1,h2,h3⟩:=t;refine⟨ps,by rw[aA (mm h1 e (by intro z; cases z))]; exact h1,h2,?_⟩;rcases h3 with h3|⟨c',h3,h4⟩
 ·exact .inl h3
 ·refine .inr ⟨c',h3,?_⟩;by_cases z:c'=d
  ·subst z;rw[e] at h4;have h5:=aD h4;injection h5 with h5;exact absurd h5 (n qual)
  ·rw[aA z];exact h4
def Az (T:Txt K mg){A:d8}{tB tC:Addr}(G:jD K mg A)(DB:qo K mg "bills_in_order" (top 17) tB)(DC:qo K mg "credits_in_order" (top 18) tC)(js:tB≠tC)(hnd:A.i9≠A.tooMuch)(KB:K.In base)(BM:BMain mg base):vy P w K mg base "done_again" 8 ["kept"] (Ay A K tB tC):=by
 have Ex:vy P w K mg base "done" 7 ["work","deed"] (uB A K tB tC):=Kw T G DB DC js KB BM;have Eo:tY P w K mg base "Work" A.work 1 ["self"] (uq A):=Kc G;refine Pr (k:=7) T.zv o5 (fun f cO A' outer s H vs Q E hr mr h=>?_)
 ·obtain⟨pk,ss,bg,rfl,hk,hK,hl,hfb,kj,jL,k1,k2⟩:=h;have nd:=o5.nd;refine⟨_,(ah (sv 1 nd (JS Eo (hr.mono (by decide)) rfl))
(ah (Mf mr.own rfl (pv 0) (gn 2 nd)
(au (BD mr rfl rfl G.vx G.pU (show mg "Needed"≠some (.ref A.tooMuch) from fun z=>hnd (by rw[G.yr] at z; injection z with z; injection z)) (Hm T G) (hr.h.mono (by decide)) rfl (fun xe pn E hx=>au (bK (sy Ex (hr.mono (by decide)) rfl hx (aa (pv 1) (aa (pv 2) av))))))))
(au (a9 (pv 1))))),?_⟩
  intro xw Yk MI P1 ne;have s1:=lI (C:=A.work) (fs:=[]) MI P1 ne;refine⟨xw,Yk,rfl,ag,fun g H1 F1 W1 nf=>⟨rfl,?_⟩⟩;have fg: ∀b∈g.fp,H b=none:=fun b hb=>s1.free (nf b hb);have S1:aE H H1:=fun b o e=>F1 b o (by simpa using aK e MI) (s1 b o e);clear F1 nf s1;refine⟨_,rfl,?_⟩;have HU:=S1 _ _ hk;have hlen:=aL hK;refine JM (td:=fun _ _ _=>True) HU fun φ hφ=>⟨fun i σ H2=> ∃(S:Bk) (f:eK) (x2:Option V),σ=[some (.ref pk),some (.ref xw),x2]/\cF (ss.take i) Bk.new=some S/\dH A H2 xw S f/\(∀b∈f.fp,H b=none)/\Frame [tB,tC,pk] H H2/\H2 pk=some (.ext φ)/\lh H2 tB/\lR H2 tC,?_,?_,?_,?_⟩
  ·have ext: ∀a∈[pk],∀φ,H1 a≠some (.ext φ):=fun a ha φ e=>by
    rw[ao.mp ha,HU] at e;cases e
   have nB:tB∉[pk]:=fun z=>by
    obtain⟨ps,q⟩:=cX kj;rw[ao.mp z,hk] at q;cases q
   have nC:tC∉[pk]:=fun z=>by
    obtain⟨ps,q⟩:=cX jL;rw[ao.mp z,hk] at q;cases q
   exact⟨Bk.new,g,none,rfl,rfl,v9 W1 HU (uC bg),fg,(S1.frame (fp:=[tB,tC,pk])).tr (Frame.upd (by simp)),ag,fV (bL kj S1) (Frame.upd (fp:=[pk]) (by simp)) nB ext,fV (bL jL S1) (Frame.upd (fp:=[pk]) (by simp)) nC ext⟩
  ·rintro i σ H2 ⟨S,f,x2,_,_,_,_,_,e,_⟩;exact e
  ·rintro i x σ H2 hx ⟨S,f,x2,rfl,hw,hW,hf,F2,e2,kA,mI⟩;rw[aB] at hx;obtain⟨kv,VD,rfl⟩:=br.mp hx;have hi:i < ss.length:=by have:=(ak.mp VD).1; lia
   have qm:=af hi;obtain⟨kv',Us,ek,pd,epd,Cq,ht⟩:=bB hK qm;rw[VD] at Us;obtain rfl:kv=kv':=aD Us;generalize ss[i]=st at qm ek Cq ht;obtain⟨sn,d⟩:=st;rw[epd];have PF:H2 pd=some (.tup (bD.vs d)):=F2 _ _ (fun z=>by
    simp only[List.mem_cons,List.not_mem_nil,or_false] at z;rcases z with z|z|z
    ·obtain⟨ps,q⟩:=cX kj;rw[← z,Cq] at q;cases q
    ·obtain⟨ps,q⟩:=cX jL;rw[← z,Cq] at q;cases q
    ·rw[z,hk] at Cq;cases Cq) Cq
   have wf:WF S (0 + (ss.take i).length):=su _ WF.new hw (by rw[bb]; lia);refine⟨_,rfl,_,rfl,xw,pd,S,f,_,d,rfl,hW,wf,(by rw[bb]; lia),kA,mI,PF,ht,fun hb v f' H3 e3 F3 rC rD W3 _=>?_,fun hb=>?_⟩
   ·refine⟨S.enter d,f',_,rfl,CO hw qm hb,W3,(by rw[e3]; exact hf),F2.trans F3 (fun x hx=>?_),F3 _ _ (fun z=>?_) e2,rC,rD⟩
    ·rcases aw.mp hx with hx|hx
     ·exact .inl (by simp[hx])
     ·rcases aw.mp hx with hx|hx
      ·exact .inl (by simp[hx])
      ·exact .inr (hf x hx)
    ·rcases aw.mp z with z|z
     ·obtain⟨ps,q⟩:=cX kA;rw[← z,e2] at q;cases q
     ·rcases aw.mp z with z|z
      ·obtain⟨ps,q⟩:=cX mI;rw[← z,e2] at q;cases q
      ·have:=hf _ z;rw[hk] at this;cases this
   ·obtain⟨ef,ew⟩:=CM hw qm hb;have et:S.bar d="too much":=(hfb.resolve_left (by rw[ef]; exact hb)).symm.trans ef |>.symm;intro C hC hCt dx H3 s3 nd3 NF;have Ve:C=A.tooMuch:=hCt et;refine⟨by rw[Ve],fun YK n2=>?_⟩;have s4:=aE.new (o:= .xd [("text",.str "needed")]) n2;have KD:=s3.trans s4;refine k2 ew A.i9 YK _ G.yt (F2.c8 KD) (bL kA KD) (bL mI KD) ?_ ag;have Ut:=s3.free n2;cases e:H YK with
    |none=>rfl
    |some o=>
     exfalso;by_cases jV:YK∈[tB,tC,pk]
     ·simp only[List.mem_cons,List.not_mem_nil,or_false] at jV;rcases jV with z|z|z
      ·obtain⟨ps,q⟩:=cX kA;rw[← z,Ut] at q;cases q
      ·obtain⟨ps,q⟩:=cX mI;rw[← z,Ut] at q;cases q
      ·rw[z,e2] at Ut;cases Ut
     ·have q:=F2 _ _ jV e;rw[Ut] at q;cases q
  ·rintro σ H2 ⟨S,f,x2,rfl,hw,hW,hf,F2,e2,kA,mI⟩;rw[← hlen,aY] at hw;refine⟨_,rfl,k1 S hw xw f _ (fun b o hb e=>?_) (NL kA e2 hφ.2) (NL mI e2 hφ.2) (v9 hW e2 (Kz φ)) MI hf⟩;by_cases z:b=pk
   ·subst z;rw[hk] at e;rw[ag];exact e
   ·rw[aA z];exact F2 _ _ (by simp only[List.mem_cons,List.not_mem_nil,or_false,not_or] at hb ⊢; exact⟨hb.1,hb.2,z⟩) e
def Qk (pk pw rN:Addr):eF "work" (.ref rN) (eT pk pw)=eT pk rN:=by rfl
def Ql (pk wc pw:Addr):eF "kept" (.ref wc) (eT pk pw)=eT wc pw:=by rfl
inductive Ey (A:d8)(K:Frag)(tB tC:Addr)(vs:List V)(H:Hp)(Q:VK)(E:XK):Prop
 |mk (pb pk pw:Addr)(T:gE)(f:eK)(n:Nat)(m:Int)(h1:vs=[.ref pb,.int m])(h2:fI A H pb pk pw T f)(h3:Good T n)(h4:n<=59)(h5:lh H tB)(h6:lR H tC)(h7:(HS T.steps m=true-> ∀S,cF (T.steps.filter (cM m)) Bk.new=some S-> ∀wc rN f' H',Frame [tB,tC,pb] H H'->lh H' tB->lR H' tC->fI A H' pb wc rN ⟨T.steps.filter (cM m),S⟩ f'->H wc=none->(∀b∈f'.fp,H b=none)->Q (.str "undone") H'))(h8:(HS T.steps m=true->cF (T.steps.filter (cM m)) Bk.new=none->YJ A K tB tC [tB,tC] E "needed" H))(h9:(HS T.steps m=false->YJ A K tB tC [tB,tC] E "no setting" H)):Ey A K tB tC vs H Q E
def rH:aW ["self","number","kept"] ["self","number"] (ax (mem 29 2)):={}
def Qm (T:Txt K mg){A:d8}{tB tC:Addr}(G:jD K mg A)(DB:qo K mg "bills_in_order" (top 17) tB)(DC:qo K mg "credits_in_order" (top 18) tC)(js:tB≠tC)(hnd:A.i9≠A.tooMuch)(KB:K.In base)(BM:BMain mg base):gX (mG P w mg) P w K mg base A.book "undo" 9 ["self","number"] (Ey A K tB tC):=by
 have AA:vy P w K mg base "done_again" 8 ["kept"] (Ay A K tB tC):=Az T G DB DC js hnd KB BM;have Ez:gX sf P w K mg base A.book "in_force" 1 ["self","number"] (sH A):=Ew G;refine qY (k:=8) G.zL G.eR rH (fun f cO A' outer s H vs Q E hr mr h=>?_)
 ·obtain⟨pb,pk,pw,TT,g,n,m,rfl,hB,hG,hn,kj,jL,k1,k2,k3⟩:=h;have hu:=jP hr;have nd:=rH.nd;obtain⟨db,hb⟩:=hB.obj;refine⟨_,(ah (bP (jM (gf (nu Ez (hr.mono (by decide)) mT (pv 0) (aa (pv 1) av))))
(au (jX mr (zP T G) (hr.h.mono (by decide)) rfl rfl))
bh)
(ah (sv 2 nd (fX BN (by rfl) T.Pj (by rfl) (aa (kz (pv 0)) av)))
(ah (bK (Jh (pv 2) (pv 1) ⟨rfl,rfl,rfl,rfl⟩))
(ah (l8 (pv 0) (sy AA (hr.mono (by decide)) rfl mr.pass (aa (pv 2) av)))
(ah (l8 (pv 0) (pv 2))
(au (a9 aV))))))),?_⟩
  refine⟨_,rfl,pb,db,_,rfl,hb,CL _ _,_,rfl,pb,pk,pw,TT,g,n,m,rfl,hB,hG,fun H1 s1=>⟨_,rfl,?_⟩⟩;refine cu (fun z=>?_) (fun z=>?_)
  ·have z':HS TT.steps m=false:=by simpa using z
   intro dx nn;have s2:=s1.trans (aE.new (o:= .xd [("text",.str "no setting")]) nn);exact k3 z' A.jK dx _ G.qT s2.frame (bL kj s2) (bL jL s2) (s1.free nn) ag
  have z':HS TT.steps m=true:=by simpa using z
  have NA:=hB.same s1;obtain⟨bg,hk,hK⟩:=NA.kept;have Rk:=s1 _ _ hb;refine⟨_,rfl,pb,_,db,_,_,rfl,Rk,G.eR,G.gK,uy _ _,pk,bg,rfl,hk,fun p2 np2=>?_⟩;have s2:=aE.new (o:= .dK bg) np2;have tR:upd H1 p2 (.dK bg) p2=some (.dK bg):=ag;have n2:H p2=none:=s1.free np2;have S2:=s1.trans s2;have hK2:=hK.mono s2.tk;generalize upd H1 p2 (.dK bg)=H2 at tR S2 hK2;clear s2;cases hv:gj bg (Sum.inl m:Key) with
  |none=>
   have:=CK (sG hK hv);rw[z'] at this;cases this
  |some v=>
  refine⟨_,rfl,p2,rfl,.inl ⟨bg,.inl tR⟩,_,rfl,bg,(Sum.inl m:Key),v,tR,rfl,hv,?_⟩;have VY:=(yE (m:=m) hK2).mono (Ax (u:= .dK (lp bg (Sum.inl m:Key))) tR (uC bg));rw[← KC hG.inc z'] at VY;have S3:aE H (upd H2 p2 (.dK (lp bg (Sum.inl m:Key)))):=S2.cV n2;have Ra:upd H2 p2 (.dK (lp bg (Sum.inl m:Key))) p2=some (.dK (lp bg (Sum.inl m:Key))):=ag;generalize upd H2 p2 (.dK (lp bg (Sum.inl m:Key)))=H3 at VY S3 Ra;have VM:=a7 (cM m) TT.steps;have P2:=hG.len;have Uu:(cF TT.steps Bk.new).isSome=true:=by rw[hG.w]; rfl
  refine⟨_,rfl,p2,_,_,rfl,Ra,VY,(by lia),OW m TT.steps (mY.refl Bk.new) Uu,bL kj S3,bL jL S3,fun S hS rN f' H4 F4 rE rF W4 npw nf4=>?_,fun hS=>?_⟩
  case refine_2=>
   intro C dx H4 hC F4 rE rF nd4 hd4;refine k2 z' hS C dx H4 hC ((S3.frame (fp:=[tB,tC])).trans F4 (fun x hx=>?_)) rE rF (S3.free nd4) hd4;simp only[List.mem_cons,List.not_mem_nil,or_false] at hx;rcases hx with hx|hx|hx
   ·exact .inl (by simp[hx])
   ·exact .inl (by simp[hx])
   ·exact .inr (by rw[hx]; exact n2)
  have off: ∀a o,H3 a=some o->(∀ps,o≠ .mL ps)->a∉[tB,tC]:=fun a o e n1 z=>by
   simp only[List.mem_cons,List.not_mem_nil,or_false] at z;rcases z with z|z
   ·obtain⟨ps,q⟩:=cX (bL kj S3);rw[z,q] at e;exact n1 ps (aD e).symm
   ·obtain⟨ps,q⟩:=cX (bL jL S3);rw[z,q] at e;exact n1 ps (aD e).symm
  have AB:=F4 _ _ (off _ _ (S3 _ _ hb) (fun _ z=>by cases z)) (S3 _ _ hb);have VZ:=F4 _ _ (off _ _ Ra (fun _ z=>by cases z)) Ra;have hK4:=VY.mono (fun a xs e=>F4 _ _ (off _ _ e (fun _ z=>by cases z)) e);have F4':Frame [tB,tC,pb] H H4:=dI ((S3.frame (fp:=[tB,tC])).tr F4) (by simp);refine⟨_,rfl,pb,_,db,_,rfl,AB,G.eR,G.gN,(by show 2 < 1000; decide),?_⟩;rw[Qk];have e5:upd H4 pb (.ins A.book db (eT pk rN)) pb=some (.ins A.book db (eT pk rN)):=ag;have Uv:=yC A.book db pk pw;have W5:=v9 (u:= .ins A.book db (eT pk rN)) W4 AB Uv;have nb2:p2≠pb:=(aK hb n2).symm;have Rl:upd H4 pb (.ins A.book db (eT pk rN)) p2=some (.dK (lp bg (Sum.inl m:Key))):=by rw[aA nb2]; exact VZ
  have hK5:=hK4.mono (Ax (u:= .ins A.book db (eT pk rN)) AB Uv);have Uw: ∀a∈[pb],∀φ,H4 a≠some (.ext φ):=fun a ha φ e=>by
   rw[ao.mp ha,AB] at e;cases e
  have nB:tB∉[pb]:=fun z=>by
   obtain⟨ps,q⟩:=cX rE;rw[ao.mp z,AB] at q;cases q
  have nC:tC∉[pb]:=fun z=>by
   obtain⟨ps,q⟩:=cX rF;rw[ao.mp z,AB] at q;cases q
  have Kr:lh (upd H4 pb (.ins A.book db (eT pk rN))) tB:=fV rE (Frame.upd (fp:=[pb]) (by simp)) nB Uw;have Ks:lR (upd H4 pb (.ins A.book db (eT pk rN))) tC:=fV rF (Frame.upd (fp:=[pb]) (by simp)) nC Uw;have F5:Frame [tB,tC,pb] H (upd H4 pb (.ins A.book db (eT pk rN))):=F4'.tr (Frame.upd (by simp));generalize upd H4 pb (.ins A.book db (eT pk rN))=H5 at e5 W5 Rl hK5 Kr Ks F5;refine⟨_,rfl,_,rfl,pb,_,db,_,rfl,e5,G.eR,G.gK,(by show 2 < 1000; decide),?_⟩;rw[Ql];have NM:=yC A.book db pk rN;have Ux: ∀a∈[pb],∀φ,H5 a≠some (.ext φ):=fun a ha φ e=>by
   rw[ao.mp ha,e5] at e;cases e
  refine k1 z' S hS p2 rN f' _ (F5.tr (Frame.upd (by simp))) (fV Kr (Frame.upd (fp:=[pb]) (by simp)) nB Ux) (fV Ks (Frame.upd (fp:=[pb]) (by simp)) nC Ux) ⟨⟨db,ag⟩,⟨_,by rw[aA nb2]; exact Rl,hK5.mono (Ax e5 NM)⟩,v9 W5 e5 NM⟩ n2 (fun b hb=>S3.free (nf4 b hb))
def Dt.v:Dt->V
 | .int i=> .int i
 | .str s=> .str s
 | .bl b=> .bl b
 |_=> .eu
def Dt.flat:Dt->Bool
 | .int _=>true
 | .str _=>true
 | .bl _=>true
 |_=>false
def we {H:Hp}: ∀{ds:List Dt} {xs:List V},ds.all Dt.flat=true->ie H ds xs->xs=ds.map Dt.v
 |[],_,_,h=>cI.mp h
 |d :: ds,_,hf,h=>by
  obtain⟨v,r,rfl,h1,h2⟩:=bI.mp h;rw[List.all_cons,ud] at hf;rw[we hf.2 h2];cases d with
  |int i=>rw[dj.mp h1]; rfl
  |str s=>rw[fG.mp h1]; rfl
  |bl b=>rw[qG.mp h1]; rfl
  |eu=>cases hf.1
  |lst _=>cases hf.1
  |tup _=>cases hf.1
def sJ (H:Hp)(pd:Addr):bD->Prop
 | .iD w dy l=> ∃pl,H pd=some (.tup [.str "ages",.str w,.int dy,.ref pl])/\H pl=some (.tup (l.map V.int))
 |d=>H pd=some (.tup (bD.vs d))
def FO {H:Hp}{d:bD}{v:V}(h:Rp H d.dt v): ∃pd,v= .ref pd/\sJ H pd d:=by
 cases d with
 |iD w dy l=>
  obtain⟨a,xs,rfl,h1,h2⟩:=jQ.mp h;obtain⟨v1,r1,rfl,e1,h2⟩:=bI.mp h2;obtain⟨v2,r2,rfl,e2,h2⟩:=bI.mp h2;obtain⟨v3,r3,rfl,e3,h2⟩:=bI.mp h2;obtain⟨v4,r4,rfl,e4,h2⟩:=bI.mp h2;obtain rfl:=cI.mp h2;obtain rfl:=fG.mp e1;obtain rfl:=fG.mp e2;obtain rfl:=dj.mp e3;obtain⟨pl,ys,rfl,h4,h5⟩:=jQ.mp e4;have e5:=we (by rw[List.all_map]; exact List.all_eq_true.mpr fun _ _=>rfl) h5;rw[e5,dB] at h4;exact⟨a,rfl,pl,h1,h4⟩
 |_=>
  obtain⟨a,xs,rfl,h1,h2⟩:=jQ.mp h;have e5:=we (by rfl) h2;rw[e5] at h1;exact⟨a,rfl,h1⟩
def sJ.mono {H H':Hp}{pd:Addr}{d:bD}(h:sJ H pd d)(k:cB H H'):sJ H' pd d:=by
 cases d with
 |iD w dy l=>
  obtain⟨pl,h1,h2⟩:=h;exact⟨pl,k _ _ h1,k _ _ h2⟩
 |_=>exact k _ _ h
def lN {A:d8}{H H':Hp}{pb pk pw:Addr}{T:gE}{f:eK}(h:fI A H pb pk pw T f)(k: ∀a o,H a=some o->(∀ps,o≠ .mL ps)->H' a=some o):fI A H' pb pk pw T f:=by
 obtain⟨db,hb⟩:=h.obj;obtain⟨bg,k1,k2⟩:=h.kept;have kt:cB H H':=fun a xs e=>k _ _ e (fun _ z=>by cases z);exact⟨⟨db,k _ _ hb (fun _ z=>by cases z)⟩,⟨bg,k _ _ k1 (fun _ z=>by cases z),k2.mono kt⟩,FN h.wk (fun a xs e=>k _ _ e (fun _ z=>by cases z)) (fun a C dx fs _ e=>k _ _ e (fun _ z=>by cases z)) kt⟩
def yF {H H':Hp}{fp:List Addr}{a:Addr}{o:HO}(F:Frame fp H H')(ht: ∀t∈fp,∃ps,H t=some (.mL ps))(e:H a=some o)(n: ∀ps,o≠ .mL ps):H' a=some o:=F _ _ (fun z=>by
 obtain⟨ps,q⟩:=ht a z;rw[q] at e;exact n ps (aD e).symm) e
def MW {d:bD}(h:d.tells=true):bD.word d≠"owed"/\bD.word d≠"free"/\bD.word d≠"ages"/\bD.word d≠"undo":=by
 cases d with
 |dW _ _ _ _=>show("bill":Str)≠"owed"/\("bill":Str)≠"free"/\("bill":Str)≠"ages"/\("bill":Str)≠"undo"; decide +kernel
 |qK _ _ _=>show("pay":Str)≠"owed"/\("pay":Str)≠"free"/\("pay":Str)≠"ages"/\("pay":Str)≠"undo"; decide +kernel
 |note _ _ _=>show("note":Str)≠"owed"/\("note":Str)≠"free"/\("note":Str)≠"ages"/\("note":Str)≠"undo"; decide +kernel
 |set _ _ _=>show("set":Str)≠"owed"/\("set":Str)≠"free"/\("set":Str)≠"ages"/\("set":Str)≠"undo"; decide +kernel
 |fL _=>show("sweep":Str)≠"owed"/\("sweep":Str)≠"free"/\("sweep":Str)≠"ages"/\("sweep":Str)≠"undo"; decide +kernel
 |g6 _=>cases h
 |ask _ _ _=>cases h
 |iD _ _ _=>cases h
inductive wg (A:d8)(tB tC:Addr)(vs:List V)(H:Hp)(Q:VK)(E':XK):Prop
 |mk (pb pd pk pw:Addr)(T:gE)(f:eK)(n:Nat)(d:bD)(h1:vs=[.ref pb,.int n,.ref pd])(h2:fI A H pb pk pw T f)(h3:Good T n)(h4:n<=59)(h5:lh H tB)(h6:lR H tC)(h7:sJ H pd d)(h8:d.ok)(h9: ∀v wc rN f' H',Frame (tB :: tC :: pb :: pk :: f.fp) H H'->lh H' tB->lR H' tC->fI A H' pb wc rN (dG T n d).2 f'->(∀x∈wc :: f'.fp,x∈pk :: f.fp∨H x=none)->sE H' (fun D=>H D=none/\D∉wc :: f'.fp) (dG T n d).1 v->Q v H'):wg A tB tC vs H Q E'
def rJ:aW ["book","number","deed","kind","refusal"] ["book","number","deed"] (ax (top 35)):={}
def CP (T:Txt K mg){A:d8}{tB tC:Addr}(G:jD K mg A)(DB:qo K mg "bills_in_order" (top 17) tB)(DC:qo K mg "credits_in_order" (top 18) tC)(js:tB≠tC)(hnd:A.i9≠A.tooMuch)(KB:K.In base)(BM:BMain mg base):eW P w K mg base "answer_of" 10 ["book","number","deed"] (wg A tB tC):=by
 have Qn:gX (mG P w mg) P w K mg base A.book "undo" 9 ["self","number"] (Ey A K tB tC):=Qm T G DB DC js hnd KB BM;have YL:gX (mG P w mg) P w K mg base A.book "do" 8 ["self","number","deed"] (Qi A K tB tC):=YH T G DB DC js KB BM;have sF:eW P w K mg base "owed_at" 5 ["work","who","day"] (Ak A tB):=yA T G DB KB BM;have HV:eW P w K mg base "free_at" 5 ["work","who","day"] (Ei A tC):=HG T G DC KB BM;have HW:eW P w K mg base "ages_at" 6 ["work","who","day","limits"] (Em A tB):=HI T G DB KB BM;refine T.BE.fv (k:=9) rJ (fun f cO A' outer s H vs Q E hr h=>?_)
 ·obtain⟨pb,pd,pk,pw,TT,g,n,d,rfl,hB,hG,hn,kj,jL,hd,cy,k⟩:=h;have nd:=rJ.nd;refine⟨_,(ah (sv 3 nd (xt (pv 2) ai))
(ah (bP (aX cG (pv 3) aV (a6 _))
(au (a9 (fc sF hr (aa (kz (pv 0)) (aa (xt (pv 2) ai) (aa (xt (pv 2) ai) av))))))
bh)
(ah (bP (aX cG (pv 3) aV (a6 _))
(au (a9 (fc HV hr (aa (kz (pv 0)) (aa (xt (pv 2) ai) (aa (xt (pv 2) ai) av))))))
bh)
(ah (bP (aX cG (pv 3) aV (a6 _))
(au (a9 (fc HW hr (aa (kz (pv 0)) (aa (xt (pv 2) ai) (aa (xt (pv 2) ai) (aa (xt (pv 2) ai) av)))))))
bh)
(au (GX (i:=4) rfl rfl rfl nd rfl rfl rfl G.fO G.D5 (fun xe pn E hx=>(ah (bP (aX cG (pv 3) aV (a6 _))
(au (a9 (nu Qn (hr.mono (by decide)) hx (pv 0) (aa (iQ (kE (K:=K) rfl) (pv 2) ai (fun _ _=>rfl)) av))))
bh)
(au (a9 (nu YL (hr.mono (by decide)) hx (pv 0) (aa (pv 1) (aa (pv 2) av))))))))))))),?_⟩
  obtain⟨db,hb⟩:=hB.obj;have hW:=hB.wk;have NN: ∀t∈[tB,tC],∃ps,H t=some (.mL ps):=fun t z=>by
   simp only[List.mem_cons,List.not_mem_nil,or_false] at z;rcases z with rfl|rfl
   ·exact cX kj
   ·exact cX jL
  have big: ∀x∈[tB,tC],x∈tB :: tC :: pb :: pk :: g.fp:=fun x z=>by
   simp only[List.mem_cons,List.not_mem_nil,or_false] at z;rcases z with rfl|rfl <;> simp
  have Uy: ∀a∈[tB],∀φ,H a≠some (.ext φ):=fun a ha φ e=>by
   obtain⟨ps,q⟩:=cX kj;rw[ao.mp ha,q] at e;cases e
  have YM: ∀a∈[tC],∀φ,H a≠some (.ext φ):=fun a ha φ e=>by
   obtain⟨ps,q⟩:=cX jL;rw[ao.mp ha,q] at e;cases e
  obtain⟨bg,hk,hK⟩:=hB.kept;have Nv: ∀D,H D=none->D∉pk :: g.fp:=fun D e z=>by
   rcases aw.mp z with z|z
   ·rw[z,hk] at e;cases e
   ·exact hW.new e z
  have wf:=hG.wf (by lia:n<=60);by_cases ht:d.tells=true
  ·have Iq:H pd=some (.tup (bD.vs d)):=by cases d <;> first|exact hd|cases ht
   obtain⟨r,er⟩:=uv (.inl ht);have VJ:H pd=some (.tup (.str (bD.word d) :: r)):=by rw[← er]; exact Iq
   obtain⟨w1,w2,w3,w4⟩:=MW ht;rw[vP ht] at k;refine⟨_,rfl,pd,_,_,.str (bD.word d),rfl,rfl,cz.of VJ,Kx _ _,?_⟩;refine⟨_,rfl,rfl,false,jF w1,bV ?_⟩;refine⟨_,rfl,rfl,false,jF w2,bV ?_⟩;refine⟨_,rfl,rfl,false,jF w3,bV ?_⟩;refine⟨_,rfl,rfl,false,jF w4,bV ⟨_,rfl,pb,db,_,rfl,hb,Ur _ _,_,rfl,_,rfl,pb,pd,pk,pw,TT,g,n,d,rfl,hB,hG,hn,kj,jL,Iq,ht,fun oJ v f1 H1 e1 F1 ju kb NA hA=>?_,fun oJ=>?_⟩⟩
   ·rw[aZ oJ] at k;refine k v pk pw f1 H1 (dI F1 fun x z=>?_) ju kb NA (by rw[e1]; exact fun x hx=> .inl hx) (hA.keep (fun D xs o e=>⟨⟨o,by rw[e1]; exact Nv D o⟩,e⟩) fun _ _ e=>e);rcases aw.mp z with z|z
    ·simp[z]
    ·rcases aw.mp z with z|z
     ·simp[z]
     ·rcases aw.mp z with z|z
      ·simp[z]
      ·simp[z]
   ·rw[aO oJ] at k;intro C hC _ dx H1 s1 JT Dh;exact⟨C,dx,_,rfl,rfl,hC,Dh,k _ pk pw g H1 s1.frame (bL kj s1) (bL jL s1) (hB.same s1) (fun x hx=> .inl hx) rfl⟩
  cases d with
  |dW _ _ _ _=>exact absurd rfl ht
  |qK _ _ _=>exact absurd rfl ht
  |note _ _ _=>exact absurd rfl ht
  |set _ _ _=>exact absurd rfl ht
  |fL _=>exact absurd rfl ht
  |ask o wh dy=>
   have hd:H pd=some (.tup (bD.vs (.ask o wh dy))):=hd;cases o with
   |true=>
    refine⟨_,rfl,pd,_,_,.str "owed",rfl,rfl,cz.of hd,rfl,?_⟩;refine⟨_,rfl,rfl,true,AZ _,fF ⟨_,rfl,pb,_,db,_,_,rfl,hb,G.eR,G.gN,uz _ _,_,rfl,pd,_,_,.str wh,rfl,rfl,cz.of hd,rfl,_,rfl,pd,_,_,.int dy,rfl,rfl,cz.of hd,rfl,pw,TT.bk,g,n,wh,dy,rfl,hW,wf,(by lia),kj,fun D ms H1 F1 ju nD hD hP=>?_⟩⟩;have F2:Frame [tB,tC] H H1:=dI F1 (by simp);exact k _ pk pw g H1 (dI F2 big) ju (fV jL F1 (by simpa using js.symm) Uy) (lN hB fun a o e z=>yF F2 NN e z) (fun x hx=> .inl hx) ⟨D,ms,rfl,⟨nD,Nv D nD⟩,hD,hP⟩
   |false=>
    refine⟨_,rfl,pd,_,_,.str "free",rfl,rfl,cz.of hd,rfl,?_⟩;refine⟨_,rfl,rfl,false,jF (show("free":Str)≠"owed" by decide +kernel),bV ?_⟩;refine⟨_,rfl,rfl,true,AZ _,fF ⟨_,rfl,pb,_,db,_,_,rfl,hb,G.eR,G.gN,uz _ _,_,rfl,pd,_,_,.str wh,rfl,rfl,cz.of hd,rfl,_,rfl,pd,_,_,.int dy,rfl,rfl,cz.of hd,rfl,pw,TT.bk,g,n,wh,dy,rfl,hW,wf,(by lia),jL,fun D ms H1 F1 kb nD hD hP=>?_⟩⟩;have F2:Frame [tB,tC] H H1:=dI F1 (by simp);exact k _ pk pw g H1 (dI F2 big) (fV kj F1 (by simpa using js) YM) kb (lN hB fun a o e z=>yF F2 NN e z) (fun x hx=> .inl hx) ⟨D,ms,rfl,⟨nD,Nv D nD⟩,hD,hP⟩
  |iD wh dy de=>
   obtain⟨pl,hd,iN⟩:=hd;refine⟨_,rfl,pd,_,_,.str "ages",rfl,rfl,cz.of hd,rfl,?_⟩;refine⟨_,rfl,rfl,false,jF (show("ages":Str)≠"owed" by decide +kernel),bV ?_⟩;refine⟨_,rfl,rfl,false,jF (show("ages":Str)≠"free" by decide +kernel),bV ?_⟩;refine⟨_,rfl,rfl,true,AZ _,fF ⟨_,rfl,pb,_,db,_,_,rfl,hb,G.eR,G.gN,uz _ _,_,rfl,pd,_,_,.str wh,rfl,rfl,cz.of hd,rfl,_,rfl,pd,_,_,.int dy,rfl,rfl,cz.of hd,rfl,_,rfl,pd,_,_,.ref pl,rfl,rfl,cz.of hd,rfl,pw,pl,TT.bk,g,n,wh,dy,de,rfl,hW,wf,(by lia),kj,iN,cy.1,fun D H1 F1 ju nD hD=>?_⟩⟩;have F2:Frame [tB,tC] H H1:=dI F1 (by simp);exact k _ pk pw g H1 (dI F2 big) ju (fV jL F1 (by simpa using js.symm) Uy) (lN hB fun a o e z=>yF F2 NN e z) (fun x hx=> .inl hx) ⟨D,rfl,⟨nD,Nv D nD⟩,hD⟩
  |g6 m=>
   have hd:H pd=some (.tup (bD.vs (.g6 m))):=hd;refine⟨_,rfl,pd,_,_,.str "undo",rfl,rfl,cz.of hd,rfl,?_⟩;refine⟨_,rfl,rfl,false,jF (show("undo":Str)≠"owed" by decide +kernel),bV ?_⟩;refine⟨_,rfl,rfl,false,jF (show("undo":Str)≠"free" by decide +kernel),bV ?_⟩;refine⟨_,rfl,rfl,false,jF (show("undo":Str)≠"ages" by decide +kernel),bV ?_⟩;have YN:dG TT n (.g6 m)=if(TT.steps.filter (cM m)).length=TT.steps.length then(zl.txt "no setting",TT) else
     match cF (TT.steps.filter (cM m)) Bk.new with
     |none=>(.txt "needed",TT)
     |some S=>(.txt "undone",⟨TT.steps.filter (cM m),S⟩):=rfl
   refine⟨_,rfl,rfl,true,AZ _,fF ⟨_,rfl,pb,db,_,rfl,hb,MV _ _,_,rfl,pd,_,_,.int m,rfl,rfl,cz.of hd,rfl,pb,pk,pw,TT,g,n,m,rfl,hB,hG,hn,kj,jL,fun hF S hS wc rN f' H1 F1 ju kb NA nk nf=>?_,fun hF hS=>?_,fun hF=>?_⟩⟩
   ·have Tn: ¬ (TT.steps.filter (cM m)).length=TT.steps.length:=fun z=>by
     rw[(qf _ _).mp z] at hF;cases hF
    rw[YN,aO Tn,hS] at k;refine k _ wc rN f' H1 (dI F1 (fun x z=>?_)) ju kb NA (fun x hx=> .inr ?_) rfl
    ·simp only[List.mem_cons,List.not_mem_nil,or_false] at z;rcases z with rfl|rfl|rfl <;> simp
    ·rcases aw.mp hx with hx|hx
     ·rw[hx]; exact nk
     ·exact nf x hx
   ·have Tn: ¬ (TT.steps.filter (cM m)).length=TT.steps.length:=fun z=>by
     rw[(qf _ _).mp z] at hF;cases hF
    rw[YN,aO Tn,hS] at k;intro C dx H1 hC F1 ju kb JT Dh;exact⟨C,dx,_,rfl,rfl,hC,Dh,k _ pk pw g H1 (dI F1 big) ju kb (lN hB fun a o e z=>yF F1 NN e z) (fun x hx=> .inl hx) rfl⟩
   ·rw[YN,aZ ((qf _ _).mpr hF)] at k;intro C dx H1 hC F1 ju kb JT Dh;exact⟨C,dx,_,rfl,rfl,hC,Dh,k _ pk pw g H1 (dI F1 big) ju kb (lN hB fun a o e z=>yF F1 NN e z) (fun x hx=> .inl hx) rfl⟩
def yG (d:bD): ∀(l:List bD) (T:gE) (n:Nat),dv (l ++ [d]) T n=((dv l T n).1 ++ [(dG (dv l T n).2 ((n + l.length:Nat):Int) d).1],(dG (dv l T n).2 ((n + l.length:Nat):Int) d).2)
 |[],T,n=>rfl
 |e :: l,T,n=>by
  show((dG T n e).1 :: (dv (l ++ [d]) (dG T n e).2 (n + 1)).1,(dv (l ++ [d]) (dG T n e).2 (n + 1)).2)=_;rw[yG d l,show n + 1 + l.length=n + (e :: l).length by rw[bH]; lia];rfl
def yH {ds:List bD}{i:Nat}(hi:i < ds.length):dv (ds.take (i + 1)) gE.new 0=((dv (ds.take i) gE.new 0).1 ++ [(dG (dv (ds.take i) gE.new 0).2 (i:Int) ds[i]).1],(dG (dv (ds.take i) gE.new 0).2 (i:Int) ds[i]).2):=by
 rw[gQ hi,yG,bb,Nat.zero_add,Nat.min_eq_left (df hi)]
def HX {A:d8}{H:Hp}{pb pk pw pt:Addr}{T:gE}{f:eK}{ws:List V}{o:HO}(h:fI A H pb pk pw T f)(e:H pt=some (.lst ws))(n:pt∉f.fp):fI A (upd H pt o) pb pk pw T f:=by
 obtain⟨db,hb⟩:=h.obj;obtain⟨bg,k1,k2⟩:=h.kept;have kt:cB H (upd H pt o):=fb e;have ki: ∀{a C dx:Addr} {gs:List (Str×V)},H a=some (.ins C dx gs)->upd H pt o a=some (.ins C dx gs):=fun{a C dx gs} z=>by rw[aA (mm z e (by intro q; cases q))]; exact z
 have kl: ∀p∈f.fp,∀xs,H p=some (.lst xs)->upd H pt o p=some (.lst xs):=fun p hp xs z=>by rw[aA (fun(q:p=pt)=>n (q▸hp))]; exact z
 obtain⟨dw,hw⟩:=h.wk.obj;obtain⟨ms,m1,m2⟩:=h.wk.hm;have hW:=h.wk;exact⟨⟨db,ki hb⟩,⟨bg,by rw[aA (mm k1 e (by intro q; cases q))]; exact k1,k2.mono kt⟩,
  ⟨⟨dw,ki hw⟩,kl _ (by simp[eK.fp]) _ hW.hb,kl _ (by simp[eK.fp]) _ hW.hc,kl _ (by simp[eK.fp]) _ hW.hl,kl _ (by simp[eK.fp]) _ hW.hf,⟨ms,kl _ (by simp[eK.fp]) _ m1,m2.mono kt⟩,hW.rb.keep fun _ _ _ z=>ki z,hW.rc.keep fun _ _ _ z=>ki z,hW.nd⟩⟩
def FP {A:d8}{H:Hp}{pb pk pw tB tC a:Addr}{T:gE}{f:eK}(h:fI A H pb pk pw T f)(kj:lh H tB)(jL:lR H tC)(z:a∈tB :: tC :: pb :: pk :: f.fp):(∃ps,H a=some (.mL ps))∨(∃C dx fs,H a=some (.ins C dx fs))∨(∃bg,H a=some (.dK bg))∨(∃xs,H a=some (.lst xs))/\a∈f.fp:=by
 rcases aw.mp z with rfl|z
 ·exact .inl (cX kj)
 rcases aw.mp z with rfl|z
 ·exact .inl (cX jL)
 rcases aw.mp z with rfl|z
 ·obtain⟨db,hb⟩:=h.obj;exact .inr (.inl ⟨_,_,_,hb⟩)
 rcases aw.mp z with rfl|z
 ·obtain⟨bg,k1,_⟩:=h.kept;exact .inr (.inr (.inl ⟨_,k1⟩))
 ·exact .inr (.inr (.inr ⟨h.wk.lists a z,z⟩))
def KG {A:d8}{H H':Hp}{pb pk pw tB tC:Addr}{T:gE}{f:eK}(h:fI A H pb pk pw T f)(kj:lh H tB)(jL:lR H tC)(F:Frame (tB :: tC :: pb :: pk :: f.fp) H H'):cB H H':=fun a xs e=>F _ _ (fun z=>by
 rcases FP h kj jL z with⟨_,q⟩|⟨_,_,_,q⟩|⟨_,q⟩|⟨⟨_,q⟩,_⟩ <;> (rw[e] at q; cases q)) e
def EA {A:d8}{H H':Hp}{pb pk pw tB tC a:Addr}{T:gE}{f:eK}{xs:List V}(h:fI A H pb pk pw T f)(kj:lh H tB)(jL:lR H tC)(F:Frame (tB :: tC :: pb :: pk :: f.fp) H H')(e:H a=some (.lst xs))(n:a∉pk :: f.fp):H' a=some (.lst xs):=F _ _ (fun z=>by
 rcases FP h kj jL z with⟨_,q⟩|⟨_,_,_,q⟩|⟨_,q⟩|⟨_,q⟩
 ·rw[e] at q; cases q
 ·rw[e] at q; cases q
 ·rw[e] at q; cases q
 ·exact n (aS _ q)) e
inductive AD (A:d8)(tB tC:Addr)(vs:List V)(H:Hp)(Q:VK)(E':XK):Prop
 |mk (pb pk pw ps:Addr)(f:eK)(ds:List bD)(ms:List V)(h1:vs=[.ref pb,.ref ps])(h2:fI A H pb pk pw gE.new f)(h3:H ps=some (.lst ms))(h4:ps∉f.fp)(h5:fH H ds ms)(h6:ds.length<=60)(h7:(∀d∈ds,d.ok))(h8:lh H tB)(h9:lR H tC)(K5: ∀pt ws wc rN f' H',Frame (tB :: tC :: pb :: pk :: f.fp) H H'->lh H' tB->lR H' tC->H pt=none->H' pt=some (.lst ws)->Paired (sE H' (fun D=>D≠pt/\(D∈pk :: f.fp∨H D=none))) (dv ds gE.new 0).1 ws->fI A H' pb wc rN (dv ds gE.new 0).2 f'->Q (.ref pt) H'):AD A tB tC vs H Q E'
def o6:aW ["book","deeds","told","number","deed"] ["book","deeds"] (ax (top 34)):={}
def fH.get {H:Hp}{i:Nat}: ∀{ds:List bD} {ms:List V},fH H ds ms-> ∀{d:bD},ds[i]? =some d-> ∃v,ms[i]? =some v/\Rp H d.dt v:=fun{ds ms} h {d} e=>ie.get h (by rw[aB,e]; rfl)
def AE (T:Txt K mg){A:d8}{tB tC:Addr}(G:jD K mg A)(DB:qo K mg "bills_in_order" (top 17) tB)(DC:qo K mg "credits_in_order" (top 18) tC)(js:tB≠tC)(hnd:A.i9≠A.tooMuch)(KB:K.In base)(BM:BMain mg base):eW P w K mg base "answers_in" 11 ["book","deeds"] (AD A tB tC):=by
 have CQ:eW P w K mg base "answer_of" 10 ["book","number","deed"] (wg A tB tC):=CP T G DB DC js hnd KB BM;refine T.zw.fv (k:=10) o6 (fun f cO A' outer s H vs Q E hr h=>?_)
 ·obtain⟨pb,pk,pw,ps,g,ds,ms,rfl,hB,mF,FH,KH,hl,cy,kj,jL,k⟩:=h;have nd:=o6.nd;refine⟨_,(ah (sv 2 nd (bQ av))
(ah (dS bu rfl (qE rfl T.jk (aa (pv 1) av)) (gT (bX (gn 3 nd) (bX (gn 4 nd) gh)))
(au (bK (pS (pv 2) (fc CQ hr (aa (pv 0) (aa (pv 3) (aa (pv 4) av))))))))
(au (a9 (pv 2))))),?_⟩
  refine⟨bp _,fun pt nt=>?_⟩;have s1:=aE.new (o:= .lst []) nt;have hlen:=fH.length KH;obtain⟨bg,hk,_⟩:=hB.kept;have npk:ps∉pk :: g.fp:=fun z=>by
   rcases aw.mp z with z|z
   ·rw[z,hk] at mF;cases mF
   ·exact FH z
  have ntk:pt∉pk :: g.fp:=fun z=>by
   rcases aw.mp z with z|z
   ·rw[z,hk] at nt;cases nt
   ·exact hB.wk.new nt z
  refine⟨_,rfl,ps,rfl,⟨_,bw.of (s1 _ _ mF)⟩,?_⟩;refine mU (K:=K) (a:=ps) (xs:=ms) (fun i σ H2=> ∃(x3 x4:Option V) (wc rN:Addr) (f':eK) (ws:List V),σ=[some (.ref pb),some (.ref ps),some (.ref pt),x3,x4]/\Frame (tB :: tC :: pb :: pk :: g.fp) H H2/\H2 pt=some (.lst ws)/\fI A H2 pb wc rN (dv (ds.take i) gE.new 0).2 f'/\Good (dv (ds.take i) gE.new 0).2 i/\(∀x∈wc :: f'.fp,(x∈pk :: g.fp∨H x=none)/\x≠pt)/\lh H2 tB/\lR H2 tC/\Paired (sE H2 (fun D=>D≠pt/\D∉wc :: f'.fp/\(D∈pk :: g.fp∨H D=none))) (dv (ds.take i) gE.new 0).1 ws)
   ⟨none,none,pk,pw,g,[],rfl,s1.frame,ag,hB.same s1,Good.new,fun x hx=>⟨.inl hx,fun z=>ntk (z▸hx)⟩,bL kj s1,bL jL s1,.nil⟩ (fun i σ H2 _ ⟨_,_,_,_,_,_,_,f2,_⟩=>bw.of (EA hB kj jL f2 mF npk)) ?_ ?_
  ·rintro i x p σ H2 hx hp ⟨x3,x4,wc,rN,f',ws,rfl,F2,ur,Lh,MO,V0,kA,mI,ML⟩;have hi:i < ds.length:=by have:=(ak.mp hx).1; lia
   have qm:=af hi;obtain⟨v',hv,XI⟩:=fH.get KH qm;rw[hx] at hv;obtain rfl:x=v':=aD hv;obtain⟨pd,rfl,hd⟩:=FO XI;have hd2:=hd.mono (KG hB kj jL F2);have MX:=cy _ (bN hi);have V3:=yH hi;have oX:Good (dG (dv (ds.take i) gE.new 0).2 (i:Int) ds[i]).2 (i + 1):=MO.step ds[i];rw[V3];generalize ds[i]=d at hd2 MX oX;have Bv:(dv (ds.take i) gE.new 0).1.length<=100:=by rw[kF,bb]; lia
   generalize dv (ds.take i) gE.new 0=R at Lh MO ML oX Bv;have s3:=aE.new (o:= .tup [.int i,.ref pd]) hp;refine⟨p,_,rfl,cz.of ag,rfl,_,_,rfl,_,_,rfl,rfl,?_⟩;have F3:=F2.c8 s3;have KI:=s3 _ _ ur;have KJ:=Lh.same s3;have rC:lh _ tB:=bL kA s3;have rD:lR _ tC:=bL mI s3;have NF:=hd2.mono s3.tk;have YO:Paired (sE (upd H2 p (.tup [.int i,.ref pd])) (fun D=>D≠pt/\D∉wc :: f'.fp/\(D∈pk :: g.fp∨H D=none))) R.1 ws:=Paired.iA ML fun _ _ z=>z.keep (fun D xs o e=>⟨o,s3 _ _ e⟩) s3.tk;generalize upd H2 p (.tup [.int i,.ref pd])=H3 at F3 KI KJ rC rD NF YO;have DK:=aL YO;refine⟨_,rfl,.inl ⟨rfl,_,bw.of KI⟩,_,rfl,_,rfl,_,rfl,pb,pd,wc,rN,R.2,f',i,d,rfl,KJ,MO,(by lia),rC,rD,NF,MX,fun v pk2 pw2 f2 H4 F4 rE rF hB4 jV hA4=>?_⟩;have YQ:pt∉wc :: f'.fp:=fun z=>(V0 pt z).2 rfl;have vZ:=EA KJ rC rD F4 KI YQ;have kt4:=KG KJ rC rD F4;refine⟨pt,ws,v,rfl,rfl,vZ,bf (by lia),?_⟩;have frees: ∀x,H3 x=none->x∈pk :: g.fp∨H x=none:=fun x h1=>by
    by_cases q:x∈pk :: g.fp
    ·exact .inl q
    ·right;cases e:H x with
     |none=>rfl
     |some o=>
      exfalso;by_cases q2:x∈tB :: tC :: pb :: pk :: g.fp
      ·rcases aw.mp q2 with q2|q2
       ·obtain⟨_,z⟩:=cX rC;rw[← q2,h1] at z;cases z
       rcases aw.mp q2 with q2|q2
       ·obtain⟨_,z⟩:=cX rD;rw[← q2,h1] at z;cases z
       rcases aw.mp q2 with q2|q2
       ·obtain⟨_,z⟩:=KJ.obj;rw[← q2,h1] at z;cases z
       exact q q2
      ·have z:=F3 _ _ q2 e;rw[h1] at z;cases z
   have Uz: ∀x∈pk2 :: f2.fp,(x∈pk :: g.fp∨H x=none)/\x≠pt:=fun x hx=>by
    rcases jV x hx with h1|h1
    ·exact V0 x h1
    ·exact⟨frees x h1,fun z=>by rw[z,KI] at h1; cases h1⟩
   have YR:pt∉f2.fp:=fun z=>(Uz pt (aS _ z)).2 rfl;have UA: ∀a∈[pt],∀φ,H4 a≠some (.ext φ):=fun a ha φ e=>by
    rw[ao.mp ha,vZ] at e;cases e
   have nB:tB∉[pt]:=fun z=>by
    obtain⟨_,q⟩:=cX rE;rw[ao.mp z,vZ] at q;cases q
   have nC:tC∉[pt]:=fun z=>by
    obtain⟨_,q⟩:=cX rF;rw[ao.mp z,vZ] at q;cases q
   have F34:Frame (tB :: tC :: pb :: pk :: g.fp) H (upd H4 pt (.lst (ws ++ [v]))):=(F3.trans F4 fun x hx=>by
    rcases aw.mp hx with hx|hx
    ·exact .inl (by simp[hx])
    rcases aw.mp hx with hx|hx
    ·exact .inl (by simp[hx])
    rcases aw.mp hx with hx|hx
    ·exact .inl (by simp[hx])
    rcases(V0 x hx).1 with h1|h1
    ·exact .inl (by simp[List.mem_cons.mp h1])
    ·exact .inr h1).trans (Frame.upd (fp:=[pt]) (by simp)) (fun x hx=> .inr (by rw[List.mem_singleton.mp hx]; exact nt))
   refine⟨_,_,pk2,pw2,f2,ws ++ [v],rfl,F34,ag,HX hB4 vZ YR,oX,Uz,fV rE (Frame.upd (fp:=[pt]) (by simp)) nB UA,fV rF (Frame.upd (fp:=[pt]) (by simp)) nC UA,?_⟩;have ktl:=fb (o:= .lst (ws ++ [v])) vZ;refine cw (Paired.iA YO fun _ _ z=>z.keep (fun D xs o e=>?_) (kt4.trans ktl)) (hA4.keep (fun D xs o e=>?_) ktl)
   ·have e4:=EA KJ rC rD F4 e o.2.1;refine⟨⟨o.1,fun q=>?_,o.2.2⟩,by rw[aA o.1]; exact e4⟩;rcases jV D q with h1|h1
    ·exact o.2.1 h1
    ·rw[e] at h1;cases h1
   ·have nD:D≠pt:=fun z=>by
     have:=o.1;rw[z,KI] at this;cases this
    exact⟨⟨nD,o.2,frees D o.1⟩,by rw[aA nD]; exact e⟩
  ·rintro σ H2 ⟨x3,x4,wc,rN,f',ws,rfl,F2,ur,Lh,MO,V0,kA,mI,ML⟩;rw[← hlen,aY] at ML Lh;refine⟨_,rfl,k pt ws wc rN f' H2 F2 kA mI nt ur (Paired.iA ML fun _ _ z=>z.keep (fun D xs o e=>⟨⟨o.1,o.2.2⟩,e⟩) fun _ _ e=>e) Lh⟩
inductive sM (A:d8)(tB tC:Addr)(vs:List V)(H:Hp)(Q:VK)(E':XK):Prop
 |mk (ps:Addr)(ds:List bD)(ms:List V)(h1:vs=[.ref ps])(h2:H ps=some (.lst ms))(h3:fH H ds ms)(h4:ds.length<=60)(h5:(∀d∈ds,d.ok))(h6:lh H tB)(h7:lR H tC)(h8: ∀pt ws H',Frame [tB,tC] H H'->lh H' tB->lR H' tC->H pt=none->H' pt=some (.lst ws)->Paired (sE H' (fun D=>D≠pt/\H D=none)) (dv ds gE.new 0).1 ws->Q (.ref pt) H'):sM A tB tC vs H Q E'
def wj:aW ["deeds","book"] ["deeds"] (ax (top 33)):={}
def HY (T:Txt K mg){A:d8}{tB tC:Addr}(G:jD K mg A)(DB:qo K mg "bills_in_order" (top 17) tB)(DC:qo K mg "credits_in_order" (top 18) tC)(js:tB≠tC)(hnd:A.i9≠A.tooMuch)(KB:K.In base)(BM:BMain mg base):eW P w K mg base "answers" 12 ["deeds"] (sM A tB tC):=by
 have AF:eW P w K mg base "answers_in" 11 ["book","deeds"] (AD A tB tC):=AE T G DB DC js hnd KB BM;have Qo:tY P w K mg base "Book" A.book 3 ["self"] (An A):=P0 G;refine T.G3.fv (k:=11) wj (fun f cO A' outer s H vs Q E hr h=>?_)
 ·obtain⟨ps,ds,ms,rfl,mF,KH,hl,cy,kj,jL,k⟩:=h;have nd:=wj.nd;refine⟨_,(ah (sv 1 nd (JS Qo (hr.mono (by decide)) rfl))
(au (a9 (fc AF hr (aa (pv 1) (aa (pv 0) av)))))),?_⟩
  intro xb dxb YS YT ne;have s1:=lI (C:=A.book) (fs:=[]) YS YT ne;refine⟨xb,dxb,rfl,ag,fun pk pw g H1 F1 hx hk hW nk npw nf npk=>⟨rfl,?_⟩⟩;have S1:aE H H1:=fun b o e=>F1 b o (by simpa using aK e YS) (s1 b o e);have fr: ∀b∈g.fp,H b=none:=fun b hb=>s1.free (nf b hb);have Yb:H pk=none:=s1.free nk;refine⟨_,rfl,_,rfl,xb,pk,pw,ps,g,ds,ms,rfl,⟨⟨dxb,hx⟩,⟨[],hk,.nil⟩,hW⟩,S1 _ _ mF,(fun z=>by
   have:=fr _ z;rw[mF] at this;cases this),KH.mono S1.tk,hl,cy,bL kj S1,bL jL S1,fun pt ws _ _ _ H2 F2 kA mI nt ur hA _=>?_⟩
  refine k pt ws H2 ((S1.frame (fp:=[tB,tC])).trans F2 fun x hx=>?_) kA mI (S1.free nt) ur (Paired.iA hA fun _ _ z=>z.keep (fun D xs o e=>⟨⟨o.1,o.2.elim (fun q=>(aw.mp q).elim (fun q=>by rw[q]; exact Yb) (fr D)) S1.free⟩,e⟩) fun _ _ e=>e);rcases aw.mp hx with hx|hx
  ·exact .inl (by simp[hx])
  rcases aw.mp hx with hx|hx
  ·exact .inl (by simp[hx])
  rcases aw.mp hx with hx|hx
  ·exact .inr (by rw[hx]; exact YS)
  rcases aw.mp hx with hx|hx
  ·exact .inr (by rw[hx]; exact Yb)
  ·exact .inr (fr x hx)
inductive KL (K:Frag)(vs:List V)(H:Hp)(Q:VK)(E':XK):Prop
 |mk (a:Addr)(xs:List V)(m b:Int)(h1:vs=[.ref a,.int m,.int b])(h2:bw K H a xs)(h3:xs.length<=63)(h4:Q (.int m) H):KL K vs H Q E'
inductive AG (vs:List V)(H:Hp)(Q:VK)(E':XK):Prop
 |mk (d v:_)(h1:vs=[v])(h2:Rp H d v)(h3:Q (.bl (isW d)) H):AG vs H Q E'
def AH:aW ["_law_script","_law_most","_law_bound"] ["_law_script","_law_most","_law_bound"] (ax (top 43)):={}
def CS (T:Txt K mg):eW P w K mg base "_law_room" 1 ["_law_script","_law_most","_law_bound"] (KL K):=by
 refine T.BG.fv (k:=0) AH (fun f cO A outer s H vs Q E hr h=>?_)
 ·obtain⟨a,xs,m,b,rfl,hS,hz,k⟩:=h;refine⟨_,(ah (bP (aX jh (mH T.dP (pv 0)) ai (a6 _))
   (au (a9 (pv 2)))
   bh)
   (au (a9 (pv 1)))),?_⟩
  refine⟨_,rfl,a,xs,rfl,.inl hS,_,_,rfl,rfl,_,rfl,?_⟩;refine cu (fun c=>?_) (fun c=>?_)
  ·have c':(63:Int) < (xs.length:Int):=aM c;lia
  ·exact⟨_,rfl,k⟩
def xJ:aW ["_law_found"] ["_law_found"] (ax (top 45)):={}
def AI (T:Txt K mg):eW P w K mg base "_law_whole" 1 ["_law_found"] AG:=by
 refine T.zx.fv (k:=0) xJ (fun f cO A outer s H vs Q E hr h=>?_)
 ·obtain⟨d,v,rfl,r,k⟩:=h;refine⟨_,(au (a9 (mN (vp T.di T.sY N4 (pv 0)) (lU (Oe (vp T.di T.Ph boot_bool (pv 0))))))),?_⟩;refine⟨_,rfl,v,_,_,ZT d,rfl,r.ty,Su d,_,rfl,?_⟩;cases d with
  |int i=>exact fF ⟨_,rfl,v,_,_,false,rfl,r.ty,Nn (.int i),_,rfl,k⟩
  |bl i=>exact fF ⟨_,rfl,v,_,_,true,rfl,r.ty,Nn (.bl i),_,rfl,k⟩
  |eu=>exact bV k
  |str x=>exact bV k
  |tup ds=>exact bV k
  |lst ds=>exact bV k
inductive FQ (vs:List V)(H:Hp)(Q:VK)(E':XK):Prop
 |mk (d v1 v2:_)(h1:vs=[v1,v2])(h2:Rp H d v1)(h3:Rp H d v2)(h4:d.size<=100000)(h5:d.plain=true)(h6: ∀H',aE H H'->Q (.bl true) H'):FQ vs H Q E'
def o7:aW ["_law_found","_law_due","_law_todo","_law_pair","_law_k"] ["_law_found","_law_due"] (ax (top 47)):={}
def AJ (T:Txt K mg):eW P w K mg base "_law_alike" 2 ["_law_found","_law_due"] FQ:=by
 have AK:eW P w K mg base "_law_whole" 1 ["_law_found"] AG:=AI T;refine T.zy.fv (k:=1) o7 (fun f cO A outer s H vs Q E hr h=>?_)
 ·obtain⟨d,v1,v2,rfl,r1,r2,hsz,iN,k⟩:=h;have hu:=jP hr;have nd:=o7.nd;refine⟨_,(ah (sv 2 nd (bQ (aa (cK (aa (pv 0) (aa (pv 1) av))) av)))
(ah (IH bu (aX (Jl hu) (pv 2) (bQ av) (a6 _))
(ah (sv 3 nd (OA PySem.F.plainAttrs_list PySem.F.slot_list_pop PySem.F.type_list_pop OD (pv 2)))
(au (bP (gf (eN DQ (by rfl) T.di boot_isinstance (aa (xt (pv 3) ai) (aa (cK (aa (yR (v:= .ty "list") (by rfl) T.vw boot_list rfl) (aa (yR (v:= .ty "tuple") (by rfl) T.ui boot_tuple rfl) av))) av))))
(ah (bP (aX oP (vp T.di T.vw boot_list (xt (pv 3) ai)) (vp T.di T.vw boot_list (xt (pv 3) ai)) (a6 _))
(au (a9 kB))
bh)
(ah (bP (aX oP (vp T.di T.ui boot_tuple (xt (pv 3) ai)) (vp T.di T.ui boot_tuple (xt (pv 3) ai)) (a6 _))
(au (a9 kB))
bh)
(ah (bP (aX oP (mH T.dP (xt (pv 3) ai)) (mH T.dP (xt (pv 3) ai)) (a6 _))
(au (a9 kB))
bh)
(au (dS bu rfl (hX rfl T.kG (aa (mH T.dP (xt (pv 3) ai)) av)) (gn 4 nd)
(au (bK (pS (pv 2) (cK (aa (iQ Nm (xt (pv 3) ai) (pv 4) (fun _ _=>rfl)) (aa (iQ Nm (xt (pv 3) ai) (pv 4) (fun _ _=>rfl)) av)))))))))))
(au (bP (gf (vp T.di T.Fp boot_str (xt (pv 3) ai)))
(au (bP (PW.pt (pw_or (jM (gf (vp T.di T.Fp boot_str (xt (pv 3) ai)))) (pw_or1 (aX oP (xt (pv 3) ai) (xt (pv 3) ai) (a6 _)))))
(au (a9 kB))
bh))
(au (bP (PW.pt (pw_or (jM (gf (fc AK hr (aa (xt (pv 3) ai) av)))) (pw_or1 (aX oP (xt (pv 3) ai) (xt (pv 3) ai) (a6 _)))))
(au (a9 kB))
bh))))))))
(au (a9 kB)))),?_⟩
  refine⟨_,rfl,_,rfl,(by show 2<=sizeLine; decide),fun t0 nt0=>⟨(by show 1<=sizeLine; decide),fun l nl=>?_⟩⟩;have sA:aE H (upd H t0 (.tup [v1,v2])):=aE.new nt0;have hl0:H l=none:=sA.free nl;refine⟨fun m σ H2=> ∃td ds x3 x4,σ=[some v1,some v2,some (.ref l),x3,x4]/\aE H H2/\H2 l=some (.lst td)/\Paired (lZ H H2) ds td/\Dt.fT ds=m/\m<=100000/\ ∀d∈ds,d.plain=true,
   ⟨d.size,[.ref t0],[d],none,none,rfl,sA.trans (aE.new nl),ag,.cons ⟨t0,v1,v2,rfl,Jn nl _ _ ag,r1,r2⟩ .nil,by simp[Dt.fT],hsz,by simpa using iN⟩,?_⟩
  rintro m σ H2 ⟨td,ds,x3,x4,rfl,s1,hl,hp,hm,Tq,UB⟩;refine⟨_,rfl,bp _,fun p3 n3=>?_⟩;have s2:aE H2 (upd H2 p3 (.lst [])):=aE.new n3;refine⟨l,p3,td,rfl,rfl,bw.of (s2 _ _ hl),bw.of ag,_,rfl,?_⟩;generalize Mz:upd H2 p3 (.lst [])=H3 at s2 ⊢;have NI:=s2 _ _ hl;cases htd:td with
  |nil=>exact bV (k _ (s1.trans s2))
  |cons z zs=>
  refine fF ⟨fun σ' H'=> ∃m',m' < m/\ ∃td ds x3 x4,σ'=[some v1,some v2,some (.ref l),x3,x4]/\aE H H'/\H' l=some (.lst td)/\Paired (lZ H H') ds td/\Dt.fT ds=m'/\m'<=100000/\ ∀d∈ds,d.plain=true,fun _ _ h=>h,?_⟩;have js:td.length - 1 < td.length:=by rw[htd]; simp
  obtain⟨y,hy⟩: ∃y,td[td.length - 1]? =some y:=⟨_,af js⟩;obtain⟨MY,c,YU,⟨t,u1,u2,ey,ht,q1,q2⟩,Ts⟩:=sR hp hy;subst ey;have Ta:c.plain=true:=UB c (by rw[YU]; simp);have Vx: ∀d∈MY,d.plain=true:=fun d hd=>UB d (by rw[YU]; simp[hd]);have hmm:Dt.fT MY + c.size=m:=by
   have:=hm;rw[YU,Dt.iB] at this;simpa[Dt.fT] using this
  refine⟨_,rfl,.inl ⟨rfl,_,bw.of NI⟩,l,td,.ref t,rfl,rfl,NI,hy,?_⟩;have ht3:=s2 _ _ ht;have s4:aE H (upd H3 l (.lst td.dropLast)):=(s1.trans s2).cV hl0;have YV:upd H3 l (.lst td.dropLast) t=some (.tup [u1,u2]):=dE NI _ _ ht3;have VZ:Paired (lZ H (upd H3 l (.lst td.dropLast))) MY td.dropLast:=Paired.iA Ts fun d v h=>h.mono fun b xs e=>dE NI _ _ (s2 _ _ e);have hl4:upd H3 l (.lst td.dropLast) l=some (.lst td.dropLast):=ag;generalize upd H3 l (.lst td.dropLast)=H4 at s4 YV VZ hl4 ⊢;clear Mz NI ht3 s2 n3 hp hl ht;refine⟨_,rfl,t,_,_,u2,rfl,rfl,cz.of YV,rfl,(by show 2<=sizeLine; decide),fun p5 n5=>?_⟩;have s5:aE H4 (upd H4 p5 (.tup [.ty "list",.ty "tuple"])):=aE.new n5;have q25:=Rp.mono (s4.trans s5) c q2;have q15:=Rp.mono (s4.trans s5) c q1;refine⟨u2,p5,["list","tuple"],_,isLT c,rfl,ag,q25.ty,OQ c,_,rfl,?_⟩;have Dl:=s5 _ _ YV;have YW:=s5 _ _ hl4;have Rl:Paired (lZ H (upd H4 p5 (.tup [.ty "list",.ty "tuple"]))) MY td.dropLast:=Paired.iA VZ fun d v h=>h.mono fun b xs e=>s5 _ _ e;have s6:=s4.trans s5;generalize upd H4 p5 (.tup [.ty "list",.ty "tuple"])=H5 at s5 q25 q15 Dl YW Rl s6 ⊢;clear s5 n5;refine cu (fun UC=>?_) (fun UC=>?_)
  ·
   obtain⟨a1,YX,e1,S1,R1⟩:=E5 q1 UC;obtain⟨a2,Qp,e2,S2,R2⟩:=E5 q2 UC;refine⟨_,rfl,t,_,_,u1,rfl,rfl,cz.of Dl,rfl,u1,_,_,Xa c,rfl,q15.ty,E4 c,_,rfl,t,_,_,u2,rfl,rfl,cz.of Dl,rfl,u2,_,_,Xa c,rfl,q25.ty,E4 c,rfl,_,rfl,Bt rfl ?_⟩;refine⟨_,rfl,t,_,_,u1,rfl,rfl,cz.of Dl,rfl,u1,_,_,Xb c,rfl,q15.ty,Jm c,_,rfl,t,_,_,u2,rfl,rfl,cz.of Dl,rfl,u2,_,_,Xb c,rfl,q25.ty,Jm c,rfl,_,rfl,Bt rfl ?_⟩;have hlen:YX.length=Qp.length:=by rw[← R1.length,← R2.length]
   refine⟨_,rfl,t,_,_,u1,rfl,rfl,cz.of Dl,rfl,a1,YX,by rw[e1],S1 K H5 s6,_,rfl,t,_,_,u2,rfl,rfl,cz.of Dl,rfl,a2,Qp,by rw[e2],S2 K H5 s6,rfl,_,rfl,Bt (by rw[hlen]) ?_⟩;have Nk:Qp.length=(kids c).length:=R2.length.symm;have VH:=GI UC;have Fx:=Dt.qF (kids c);refine⟨_,rfl,t,_,_,u2,rfl,rfl,cz.of Dl,rfl,a2,Qp,by rw[e2],S2 K H5 s6,(Qp.length:Int),rfl,by lia,by lia,?_⟩;rw[dm];refine iY (lo:=0) (n:=Qp.length) (fun i σ H6=> ∃NO x4,σ=[some v1,some v2,some (.ref l),some (.ref t),x4]/\aE H H6/\H6 l=some (.lst NO)/\H6 t=some (.tup [u1,u2])/\Paired (lZ H H6) (MY ++ (kids c).take i) NO)
    ⟨td.dropLast,x4,rfl,s6,YW,Dl,by simpa using Rl⟩ ?_ ?_
   ·rintro i σ H6 hi ⟨NO,x4',rfl,s7,gF,V4,NG⟩;have Xd:i < (kids c).length:=by lia
    have g0:(kids c)[i]? =some (kids c)[i]:=af Xd;obtain⟨w1,g1,z1⟩:=R1.get g0;obtain⟨w2,g2,z2⟩:=R2.get g0;have Rc:NO.length < sizeLine:=by
     have h1:=NG.length;have h2:=Dt.qF (MY ++ (kids c).take i);have h3:=wM (kids c) i;rw[Dt.iB] at h2;exact jd (by lia)
    refine⟨_,rfl,.inl ⟨rfl,_,bw.of gF⟩,?_⟩;refine⟨_,rfl,t,_,_,u1,rfl,rfl,cz.of V4,rfl,_,rfl,a1,YX,_,w1,e1,rfl,S1 K H6 s7,by rw[gS]; exact cf g1,_,rfl,t,_,_,u2,rfl,rfl,cz.of V4,rfl,_,rfl,a2,Qp,_,w2,e2,rfl,S2 K H6 s7,by rw[gS]; exact cf g2,(by show 2<=sizeLine; decide),fun p7 n7=>?_⟩;have s8:aE H6 (upd H6 p7 (.tup [w1,w2])):=aE.new n7;have Ri:=s8 _ _ gF;refine⟨l,NO,.ref p7,rfl,rfl,Ri,Rc,?_⟩;refine⟨NO ++ [.ref p7],_,rfl,(s7.trans s8).cV hl0,ag,dE Ri _ _ (s8 _ _ V4),?_⟩;rw[tU g0,← dR];exact cw (Paired.iA NG fun d v h=>h.mono fun b xs e=>dE Ri _ _ (s8 _ _ e)) ⟨p7,w1,w2,rfl,dE Ri _ _ ag,z1,z2⟩
   ·rintro σ H6 ⟨NO,x4',rfl,s7,gF,V4,NG⟩;rw[Nk,aY] at NG;refine⟨Dt.fT (MY ++ kids c),?_,NO,_,_,_,rfl,s7,gF,NG,rfl,?_,?_⟩
    ·rw[Dt.iB]; lia
    ·rw[Dt.iB]; lia
    ·intro d hd;rcases bq.mp hd with hd|hd
     ·exact Vx d hd
     ·exact DR Ta d hd
  ·
   have fin:(fun σ' H'=> ∃m',m' < m/\ ∃td ds x3 x4,σ'=[some v1,some v2,some (.ref l),x3,x4]/\aE H H'/\H' l=some (.lst td)/\Paired (lZ H H') ds td/\Dt.fT ds=m'/\m'<=100000/\ ∀d∈ds,d.plain=true) [some v1,some v2,some (.ref l),some (.ref t),x4] H5:=by
    have:=c.size_pos;exact⟨Dt.fT MY,by lia,_,MY,_,_,rfl,s6,YW,Rl,rfl,by lia,Vx⟩
   refine⟨_,rfl,t,_,_,u2,rfl,rfl,cz.of Dl,rfl,u2,_,_,Vm c,rfl,q25.ty,yi c,_,rfl,?_⟩;refine cu (fun hS=>?_) (fun hS=>?_)
   ·have ec: ∃x,c= .str x:=by cases c <;> first|exact⟨_,rfl⟩|cases hS
    obtain⟨x,rfl⟩:=ec;obtain rfl:=fG.mp q1;obtain rfl:=fG.mp q2;refine⟨_,rfl,t,_,_,_,rfl,rfl,cz.of Dl,rfl,_,_,_,true,rfl,mD.str x,yi (.str x),_,rfl,bV ?_⟩;refine⟨_,rfl,t,_,_,_,rfl,rfl,cz.of Dl,rfl,_,rfl,t,_,_,_,rfl,rfl,cz.of Dl,rfl,rfl,_,rfl,Bt rfl ?_⟩;exact fin
   ·have ec: ∃x,c= .int x:=by cases c <;> first|exact⟨_,rfl⟩|exact absurd rfl hS|exact absurd rfl UC|cases Ta
    obtain⟨x,rfl⟩:=ec;obtain rfl:=dj.mp q1;obtain rfl:=dj.mp q2;refine⟨_,rfl,t,_,_,_,rfl,rfl,cz.of Dl,rfl,.int x,_,rfl,dj.mpr rfl,_,rfl,bV ?_⟩;refine⟨_,rfl,t,_,_,_,rfl,rfl,cz.of Dl,rfl,_,rfl,t,_,_,_,rfl,rfl,cz.of Dl,rfl,rfl,_,rfl,Bt rfl ?_⟩;exact fin
inductive wm (K:Frag)(vs:List V)(H:Hp)(Q:VK)(E':XK):Prop
 |mk (po:Addr)(os:List Str)(aC:Str)(cell i:Int)(h1:vs=[.ref po,.str aC,.int cell,.int i])(h2:bw K H po (os.map V.str))(h3:os.length<=1000)(h4: ∀(n:Int) (H':Hp),aE H H'->Q (.int n) H'):wm K vs H Q E'
def nO:aW ["_law_owners","_law_who","_law_cell","_law_k","_law_rest","_law_number","_law_spot","_law_one"] ["_law_owners","_law_who","_law_cell","_law_k"] (ax (top 50)):={}
def xK (T:Txt K mg):eW P w K mg base "_law_chosen" 1 ["_law_owners","_law_who","_law_cell","_law_k"] (wm K):=by
 refine T.w9.fv (k:=0) nO (fun f cO A outer s H vs Q E hr h=>?_)
 ·obtain⟨po,os,aC,cell,i,rfl,hS,ho,k⟩:=h;have nd:=nO.nd;refine⟨_,(ah (sv 4 nd (aQ jB (pv 2) ai))
(ah (sv 5 nd (aQ b0 (aQ cE (aQ jB (pv 4) ai) (pv 3)) (aQ cE (mH T.dP (pv 0)) ai)))
(ah (dS bu rfl (hX rfl T.kG (aa (mH T.dP (pv 0)) av)) (gn 6 nd)
(ah (sv 7 nd (aQ b0 (aQ cE (pv 5) (pv 6)) (mH T.dP (pv 0))))
(au (bP (PW.pt (pw_and (aX cG (xl (pv 0) (pv 7)) (pv 1) (a6 _)) (pw_and1 (aX jh (aQ b0 (pv 2) ai) ai (a6 _)))))
(au (a9 (pv 7)))
bh))))
(ah (bP (aX cG (aQ b0 (pv 2) ai) ai (a6 _))
(au (sv 5 nd (xl (bQ (aa (oO kP ai) (aa (aQ iZ ai ai) (aa (aQ eI (oO kP ai) (aQ b0 (pv 4) (aQ iZ ai ai))) av)))) (aQ b0 (pv 4) ai))))
bh)
(au (a9 (pv 5))))))),?_⟩
  refine⟨_,rfl,_,_,rfl,rfl,⟨by decide,by decide⟩,?_⟩;refine⟨_,rfl,_,_,rfl,rfl,⟨by decide,by decide⟩,_,rfl,_,_,rfl,rfl,_,rfl,po,_,rfl,.inl hS,_,_,rfl,rfl,_,_,rfl,rfl,(by show(0:Int) < ((os.map V.str).length:Int) + 1; lia),?_⟩;generalize YY:(cell / 16 / 2 + i) % (((os.map V.str).length:Int) + 1)=num;show _;refine⟨_,rfl,po,_,rfl,.inl hS,((os.map V.str).length:Int),rfl,by lia,by rw[ae]; lia,?_⟩;rw[dm];refine iY (lo:=0) (n:=(os.map V.str).length) (fun j σ H2=> ∃x6 x7,σ=[some (.ref po),some (.str aC),some (.int cell),some (.int i),some (.int (cell / 16)),some (.int num),x6,x7]/\H2=H)
   ⟨none,none,by rw[← YY]; rfl,rfl⟩ ?_ ?_
  ·rintro j σ H2 hj ⟨x6,x7,rfl,rfl⟩;have hm:0 < ((os.map V.str).length:Int):=by lia
   obtain⟨y,_,hy⟩:=kJ (g:=V.str) (xs:=os) (m:=((os.map V.str).length:Int)) (x:=num + (0 + (j:Int))) (by rw[ae]) hm;refine⟨_,rfl,_,rfl,_,_,rfl,rfl,_,rfl,po,_,rfl,.inl hS,_,_,rfl,rfl,hm,?_⟩;refine⟨_,rfl,_,rfl,po,_,_,.str y,rfl,rfl,hS,hy,_,rfl,rfl,_,rfl,cu (fun c=>?_) (fun c=>bV ⟨_,_,rfl,rfl⟩)⟩;refine⟨_,rfl,_,_,rfl,rfl,(by show(0:Int) < 5; decide),_,_,rfl,rfl,_,rfl,cu (fun c=>?_) (fun c=>⟨_,_,rfl,rfl⟩)⟩;exact⟨_,rfl,k _ _ (aE.refl _)⟩
  ·rintro σ H2 ⟨x6,x7,rfl,rfl⟩;refine⟨_,rfl,_,_,rfl,rfl,(by show(0:Int) < 47; decide),rfl,_,rfl,cu (fun c=>?_) (fun c=>⟨_,rfl,k _ _ (aE.refl _)⟩)⟩;refine⟨_,rfl,_,_,rfl,rfl,⟨by decide,by decide,by decide⟩,_,rfl,_,rfl,_,_,rfl,rfl,⟨by decide,by decide,by decide⟩,_,_,rfl,rfl,(by show(0:Int) < _; decide +kernel),_,_,rfl,rfl,(by show 3<=sizeLine; decide),fun p4 n4=>?_⟩;obtain⟨y,_,hy⟩:=at3 (-1) (10 ^ (9:Int).toNat) (-2 - cell / 16 % 10 ^ (60:Int).toNat) (cell / 16);refine⟨_,rfl,_,_,rfl,rfl,(by show(0:Int) < 3; decide),p4,_,_,.int y,rfl,rfl,bw.of ag,hy,?_⟩;exact⟨_,rfl,k _ _ (aE.new n4)⟩
inductive AL (vs:List V)(H:Hp)(Q:VK)(E':XK):Prop
 |mk (c:Int)(h1:vs=[.int c])(h2: ∀r:Int,(r=0∨r=1)->Q (.int r) H):AL vs H Q E'
def xM:aW ["_law_cell"] ["_law_cell"] (ax (top 51)):={}
def AM (T:Txt K mg):eW P w K mg base "_law_hasty" 1 ["_law_cell"] AL:=by
 refine T.zz.fv (k:=0) xM (fun f cO A outer s H vs Q E hr h=>?_)
 ·obtain⟨c,rfl,k⟩:=h;refine⟨_,(au (a9 (fX i6 (by rfl) T.sY N4 (aa (RI (eA cG (aQ b0 (pv 0) ai) ai (a6 _)) (lU (mN (eA cG (aQ b0 (pv 0) ai) ai (a6 _)) (lU (eA cG (aQ b0 (aQ jB (pv 0) ai) ai) ai (a6 _)))))) av)))),?_⟩;have fin: ∀b:Bool,Q (.int (if b then 1 else 0)) H:=fun b=>k _ (by cases b <;> simp);refine⟨_,rfl,_,_,rfl,rfl,(by show(0:Int) < 29; decide),rfl,_,rfl,cu (fun c=> .inr ⟨_,rfl,fin _⟩) (fun c=>?_)⟩;refine⟨_,rfl,_,_,rfl,rfl,(by show(0:Int) < 41; decide),rfl,_,rfl,cu (fun c=>?_) (fun c=> .inr ⟨_,rfl,fin _⟩)⟩;exact⟨_,rfl,_,_,rfl,rfl,⟨by decide,by decide⟩,_,_,rfl,rfl,(by show(0:Int) < 2; decide),rfl,.inr ⟨_,rfl,fin _⟩⟩
inductive AN (K:Frag)(vs:List V)(H:Hp)(Q:VK)(E':XK):Prop
 |mk (a:Addr)(cs:List Int)(i:Nat)(h1:vs=[.ref a,.int i])(h2:bw K H a (cs.map V.int))(h3:i < cs.length)(h4: ∀n:Int,Q (.int n) H):AN K vs H Q E'
def nP:aW ["_law_cells","_law_k","_law_days"] ["_law_cells","_law_k"] (ax (top 52)):={}
def xN (T:Txt K mg):eW P w K mg base "_law_due_in" 2 ["_law_cells","_law_k"] (AN K):=by
 have AO:eW P w K mg base "_law_hasty" 1 ["_law_cell"] AL:=AM T;refine T.xa.fv (k:=1) nP (fun f cO A outer s H vs Q E hr h=>?_)
 ·obtain⟨a,cs,i,rfl,hS,hi,k⟩:=h;have nd:=nP.nd;refine⟨_,(ah (sv 2 nd (aQ b0 (aQ cE (xl (pv 0) (aQ b0 (aQ cE (pv 1) ai) (mH T.dP (pv 0)))) (pv 1)) ai))
(jc (bP (aX cG (aQ b0 (xl (pv 0) (pv 1)) ai) ai (a6 _))
(au (sv 2 nd (aQ b0 (xl (pv 0) (aQ b0 (aQ cE (pv 1) ai) (mH T.dP (pv 0)))) (aQ iZ ai ai))))
bh)
(au (a9 (aQ eI (pv 2) (aQ jr (aQ cE (pv 2) ai) (fc AO hr (aa (xl (pv 0) (pv 1)) av)))))))),?_⟩
  have hm:0 < ((cs.map V.int).length:Int):=by rw[ae]; lia
  obtain⟨y,_,hy⟩:=kJ (g:=V.int) (xs:=cs) (m:=((cs.map V.int).length:Int)) (x:=(i:Int) + 1) (by rw[ae]) hm;refine⟨_,rfl,_,rfl,_,_,rfl,rfl,_,rfl,a,_,rfl,.inl hS,_,_,rfl,rfl,hm,a,_,_,.int y,rfl,rfl,hS,hy,_,rfl,_,_,rfl,rfl,_,_,rfl,rfl,(by show(0:Int) < 9; decide),?_⟩;refine⟨fun σ' H'=>H'=H/\ ∃d:Int,σ'=[some (.ref a),some (.int i),some (.int d)],?_,?_⟩
  ·refine⟨_,rfl,_,rfl,a,_,_,_,rfl,rfl,hS,pV hi,_,_,rfl,rfl,(by show(0:Int) < 13; decide),rfl,_,rfl,cu (fun c=>?_) (fun c=>⟨rfl,_,rfl⟩)⟩;refine⟨_,rfl,_,rfl,_,_,rfl,rfl,_,rfl,a,_,rfl,.inl hS,_,_,rfl,rfl,hm,a,_,_,.int y,rfl,rfl,hS,hy,_,_,rfl,rfl,⟨by decide,by decide,by decide⟩,_,_,rfl,rfl,(by show(0:Int) < _; decide +kernel),?_⟩;exact⟨rfl,_,rfl⟩
  rintro σ' H' ⟨rfl,d,rfl⟩;refine⟨_,rfl,_,rfl,_,_,rfl,rfl,_,rfl,_,rfl,a,_,_,_,rfl,rfl,hS,pV hi,_,rfl,fun r YZ=>?_⟩;exact⟨_,_,rfl,rfl,.inr (by rcases YZ with rfl|rfl <;> exact⟨by decide,by decide⟩),_,_,rfl,rfl,k _⟩
def uc (H:Hp)(a pm lO:Addr)(i:Nat)(σ:L2.St)(H2:Hp):Prop:=
 ∃(pb ph:Addr) (bs hs:List Str) (sp:List Int) (ds:List bD) (ms:List V) (x5 x6 x7 x8 x9 HP CF EB HZ A1 CU KN:Option V),σ=[some (.ref a),some (.ref pm),some (.ref pb),some (.ref ph),some (.ref lO),x5,x6,x7,x8,x9,HP,CF,EB,HZ,A1,CU,KN]/\aE H H2/\
  H2 pm=some (.lst ms)/\fH H2 ds ms/\ds.length=i/\(∀d∈ds,d.ok)/\H2 pb=some (.lst (bs.map V.str))/\bs.length<=i/\H2 ph=some (.lst (hs.map V.str))/\hs.length<=i/\H2 lO=some (.lst (sp.map V.int))/\sp.length<=i/\pb≠pm/\pb≠lO/\ph≠pm/\ph≠lO
def uc.mk' {H:Hp}{a pm lO pb ph:Addr}{i:Nat}{H4 H6:Hp}{bs hs:List Str}{sp:List Int}{ds:List bD}{d:bD}{ms:List V}{p8:Addr}{x5 x6 x7 x8 x9 HP CF EB HZ A1 CU KN:Option V}
  (hR:fH H4 ds ms) (hl:ds.length=i) (cy: ∀d∈ds,d.ok) (kp:cB H4 H6) (s6:aE H H6) (hM:H6 pm=some (.lst (ms ++ [.ref p8]))) (hd:Rp H6 d.dt (.ref p8)) (hdo:d.ok)
  (hb:H6 pb=some (.lst (bs.map V.str))) (MA:bs.length<=i + 1) (hh:H6 ph=some (.lst (hs.map V.str))) (hhl:hs.length<=i + 1) (LQ:H6 lO=some (.lst (sp.map V.int))) (Rc:sp.length<=i + 1)
  (n1:pb≠pm) (n2:pb≠lO) (n3:ph≠pm) (n4:ph≠lO):
  uc H a pm lO (i + 1) [some (.ref a),some (.ref pm),some (.ref pb),some (.ref ph),some (.ref lO),x5,x6,x7,x8,x9,HP,CF,EB,HZ,A1,CU,KN] H6:=by
 refine⟨pb,ph,bs,hs,sp,ds ++ [d],ms ++ [.ref p8],x5,x6,x7,x8,x9,HP,CF,EB,HZ,A1,CU,KN,rfl,s6,hM,(hR.mono kp).snoc hd,by rw[aH,hl]; rfl,fun d' Iq=>?_,hb,MA,hh,hhl,LQ,Rc,n1,n2,n3,n4⟩;rcases bq.mp Iq with h|h
 ·exact cy d' h
 ·rw[ao.mp h]; exact hdo
def de (r:Int)(j:Nat):List Int:=(List.range j).map fun(t:Nat)=>1 + r % 9 + (0 + (t:Int)) * (2 + r % 30)
def CV (r:Int)(j:Nat):(de r j).length=j:=by unfold de; rw[List.length_map,List.length_range]
def MZ {w:Str}{d:Int}(r:Int)(j:Nat)(hj:j<=11):(bD.iD w d (de r j)).ok:=by
 have h9:=ko r (show(9:Int)≠0 by decide);have h30:=ko r (show(30:Int)≠0 by decide);refine⟨by rw[CV]; exact hj,?_,fun x hx=>?_⟩
 ·unfold de;rw[rR];refine List.pairwise_lt_range.imp fun{a b} Ir=>?_;have:(0 + (a:Int)) * (2 + r % 30) < (0 + (b:Int)) * (2 + r % 30):=Int.mul_lt_mul_of_pos_right (by lia) (by lia);lia
 ·unfold de at hx;obtain⟨t,_,rfl⟩:=bG.mp hx;have:0<=(0 + (t:Int)) * (2 + r % 30):=Int.mul_nonneg (by lia) (by lia);lia
def UD (x y:Int)(b:Bool):True/\se [V.int x,V.int y] (if b=true then 1 else 0)=some (V.int (if b=true then y else x)):=⟨trivial,by cases b <;> rfl⟩
def NP {H H4:Hp}{pm p8 lO pb ph:Addr}{ms xs b' h' s':List V}(nm:H pm=none)(s4:aE H H4)(rB:H4 pm=some (.lst ms))(n8:H4 p8=none)(n1:pb≠pm)(n3:ph≠pm)(FR:lO≠pm)
  (AB:H4 pb=some (.lst b')) (Iz:H4 ph=some (.lst h')) (nQ:H4 lO=some (.lst s')):
  cB H4 (upd (upd H4 p8 (.tup xs)) pm (.lst (ms ++ [.ref p8])))/\aE H (upd (upd H4 p8 (.tup xs)) pm (.lst (ms ++ [.ref p8])))/\upd (upd H4 p8 (.tup xs)) pm (.lst (ms ++ [.ref p8])) pm=some (.lst (ms ++ [.ref p8]))/\
  upd (upd H4 p8 (.tup xs)) pm (.lst (ms ++ [.ref p8])) p8=some (.tup xs)/\upd (upd H4 p8 (.tup xs)) pm (.lst (ms ++ [.ref p8])) pb=some (.lst b')/\upd (upd H4 p8 (.tup xs)) pm (.lst (ms ++ [.ref p8])) ph=some (.lst h')/\
  upd (upd H4 p8 (.tup xs)) pm (.lst (ms ++ [.ref p8])) lO=some (.lst s'):=by
 have s8:=aE.new (o:= .tup xs) n8;refine⟨s8.tk.trans (fb (s8 _ _ rB)),(s4.trans s8).cV nm,ag,dE (s8 _ _ rB) _ _ ag,?_,?_,?_⟩
 ·rw[aA n1]; exact s8 _ _ AB
 ·rw[aA n3]; exact s8 _ _ Iz
 ·rw[aA FR]; exact s8 _ _ nQ
def UE {H H4:Hp}{pm lO pb ph:Addr}{ms b' h':List V}{sp:List Int}{x:Int}(V5:H lO=none)(s4:aE H H4)(rB:H4 pm=some (.lst ms))(n2:pb≠lO)(n4:ph≠lO)(FR:lO≠pm)
  (AB:H4 pb=some (.lst b')) (Iz:H4 ph=some (.lst h')) (nQ:H4 lO=some (.lst (sp.map V.int))):
  cB H4 (upd H4 lO (.lst (sp.map V.int ++ [.int x])))/\aE H (upd H4 lO (.lst (sp.map V.int ++ [.int x])))/\upd H4 lO (.lst (sp.map V.int ++ [.int x])) pm=some (.lst ms)/\upd H4 lO (.lst (sp.map V.int ++ [.int x])) pb=some (.lst b')/\
  upd H4 lO (.lst (sp.map V.int ++ [.int x])) ph=some (.lst h')/\upd H4 lO (.lst (sp.map V.int ++ [.int x])) lO=some (.lst ((sp ++ [x]).map V.int)):=by
 refine⟨fb nQ,s4.cV V5,?_,?_,?_,?_⟩
 ·rw[aA FR.symm]; exact rB
 ·rw[aA n2]; exact AB
 ·rw[aA n4]; exact Iz
 ·rw[ag,aJ]; rfl
def gY {H:Hp}{d:Dt}{v:V}{ds:List Dt}{vs:List V}(h:Rp H d v)(r:ie H ds vs):ie H (d :: ds) (v :: vs):=bI.mpr ⟨_,_,rfl,h,r⟩
def rI {H:Hp}(i:Int):Rp H (.int i) (.int i):=dj.mpr rfl
def rS {H:Hp}(x:Str):Rp H (.str x) (.str x):=fG.mpr rfl
def r0 {H:Hp}:ie H [] []:=cI.mpr rfl
def FT {H9:Hp}{p9 pb:Addr}{bs:List Str}{aC:Str}{b:Bool}{Q:VK}(h9:H9 p9=some (.lst [V.str aC]))(hb:H9 pb=some (.lst (bs.map V.str)))(hl:bs.length<=100)
  (q: ∀(KO:Addr) (UG:Hp) (n:Nat),n<=1->aE H9 UG->H9 KO=none->UG KO=some (.lst ((bs ++ List.replicate n aC).map V.str))->Q (.ref KO) UG):
  R5 (.ref p9) (.int (if b=true then 1 else 0)) H9 (fun v H=>R4 (.ref pb) v H Q):=by
 have hk:(if b=true then(1:Int) else 0).toNat<=1:=by split <;> decide
 refine⟨p9,_,_,rfl,rfl,h9,(by split <;> decide),(by split <;> decide),(by show 1 * _<=sizeLine; split <;> decide),fun Rm Y0=>?_⟩;generalize (if b=true then(1:Int) else 0).toNat=n at hk ⊢;rw[LZ];have Cp:=aE.new (o:= .lst ((List.replicate n aC).map V.str)) Y0;refine⟨pb,Rm,_,_,rfl,rfl,Cp _ _ hb,ag,?_,fun KO IA=>?_⟩
 ·refine df (bf ?_);rw[ae,ae,iM];lia
 ·rw[← aJ];exact q KO _ n hk (Cp.trans (aE.new IA)) (Cp.free IA) ag
inductive FU (K:Frag)(vs:List V)(H:Hp)(Q:VK)(E':XK):Prop
 |mk (a:Addr)(cs:List Int)(h1:vs=[.ref a])(h2:bw K H a (cs.map V.int))(h3:cs.length<=100)(h4: ∀(pd:Addr) (ds:List bD) (ms:List V) (H':Hp),aE H H'->H' pd=some (.lst ms)->fH H' ds ms->ds.length=cs.length->(∀d∈ds,d.ok)->Q (.ref pd) H'):FU K vs H Q E'
def o8:aW ["_law_cells","_law_made","_law_bills","_law_held","_law_spots","_law_k","_law_rest","_law_pick","_law_who","_law_day","_law_amount","_law_bill","_law_due","_law_part","_law_credit","_law_menu","_law_limits"] ["_law_cells"] (ax (top 53)):={}
def AQ (T:Txt K mg):eW P w K mg base "_law_deeds" 3 ["_law_cells"] (FU K):=by
 have xO:eW P w K mg base "_law_penned" 2 ["_law_cells","_law_k"] (vB K):=xk T;have o9:eW P w K mg base "_law_chosen" 1 ["_law_owners","_law_who","_law_cell","_law_k"] (wm K):=xK T;have xP:eW P w K mg base "_law_due_in" 2 ["_law_cells","_law_k"] (AN K):=xN T;refine T.zA.fv (k:=2) o8 (fun f cO A outer s H vs Q E hr h=>?_)
 ·obtain⟨a,cs,rfl,hS,hc,k⟩:=h;have nd:=o8.nd;refine⟨_,(ah (sv 1 nd (bQ av))
(ah (sv 2 nd (bQ av))
(ah (sv 3 nd (bQ av))
(ah (sv 4 nd (bQ av))
(ah (dS bu rfl (hX rfl T.kG (aa (mH T.dP (pv 0)) av)) (gn 5 nd)
(ah (sv 6 nd (aQ b0 (aQ jB (xl (pv 0) (pv 5)) ai) (aQ iZ ai ai)))
(ah (sv 7 nd (aQ b0 (aQ cE (xl (pv 0) (pv 5)) (aQ jr ai (pv 5))) ai))
(ah (lV (fc xO hr (aa (pv 0) (aa (pv 5) av))) (gT (bX (gn 8 nd) (bX (gn 9 nd) (bX (gn 10 nd) gh)))))
(ah (sv 11 nd (fc o9 hr (aa (pv 2) (aa (pv 8) (aa (xl (pv 0) (pv 5)) (aa (pv 5) av))))))
(au (bP (aX jO (pv 7) ai (a6 _))
(ah (sv 12 nd (aQ cE (pv 9) (fc xP hr (aa (pv 0) (aa (pv 5) av)))))
(ah (bK (pS (pv 1) (cK (aa aV (aa (pv 8) (aa (pv 9) (aa (pv 12) (aa (pv 10) av))))))))
(au (sv 2 nd (aQ lY (pv 2) (aQ DI (bQ (aa (pv 8) av)) (fX i6 (by rfl) T.sY N4 (aa (mN (eA jh (pv 10) ai (a6 _)) (lU (eA IK (pv 12) (pv 9) (a6 _)))) av))))))))
(au (bP (aX jO (pv 7) ai (a6 _))
(ah (bK (pS (pv 1) (cK (aa aV (aa (pv 8) (aa (pv 9) (aa (pv 10) av)))))))
(au (sv 3 nd (aQ lY (pv 3) (aQ DI (bQ (aa (pv 8) av)) (fX i6 (by rfl) T.sY N4 (aa (eA jh (pv 10) ai (a6 _)) av)))))))
(au (bP (aX cG (pv 7) ai (a6 _))
(ah (bK (pS (pv 1) (cK (aa aV (aa (pv 11) (aa (pv 9) (aa (pv 10) av)))))))
(au (bP (PW.pt (pw_and (aX oQ ai (pv 11) (a6 _)) (pw_and (aX jO (pv 11) (mH T.dP (pv 2)) (a6 _)) (pw_and1 (aX jh (pv 10) ai (a6 _))))))
(au (sv 3 nd (aQ lY (pv 3) (bQ (aa (xl (pv 2) (pv 11)) av)))))
bh)))
(au (bP (aX jO (pv 7) ai (a6 _))
(ah (bK (pS (pv 4) (pv 5)))
(jc (sv 13 nd (xl (bQ (aa (pv 10) (aa (aQ cE ai (aQ b0 (pv 6) ai)) av))) (fX i6 (by rfl) T.sY N4 (aa (mN (eA jh (pv 10) ai (a6 _)) (lU (eA jh (aQ b0 (pv 6) ai) ai (a6 _)))) av))))
(ah (sv 14 nd (fc o9 hr (aa (pv 3) (aa (pv 8) (aa (xl (pv 0) (pv 5)) (aa (aQ cE (pv 5) ai) av))))))
(jc (bP (aX cG (aQ b0 (xl (pv 0) (pv 5)) ai) ai (a6 _))
(au (sv 14 nd (aQ b0 (aQ jB (pv 6) ai) (aQ cE (mH T.dP (pv 3)) ai))))
bh)
(au (bK (pS (pv 1) (cK (aa aV (aa (pv 14) (aa (pv 11) (aa (pv 13) av))))))))))))
(au (bP (aX jO (pv 7) ai (a6 _))
(ah (bK (pS (pv 4) (pv 5)))
(au (bK (pS (pv 1) (cK (aa aV (aa (pv 8) av)))))))
(au (bP (aX cG (pv 7) ai (a6 _))
(ah (sv 15 nd (aQ lY (pv 4) (bQ (aa (pv 5) (aa (oO kP ai) (aa (aQ iZ ai ai) (aa ai (aa (aQ eI (pv 5) ai) (aa (aQ b0 (aQ jB (pv 6) ai) (aQ cE (pv 5) ai)) (aa (aQ eI (oO kP ai) (pv 6)) av))))))))))
(au (bK (pS (pv 1) (cK (aa aV (aa (xl (pv 15) (aQ b0 (pv 6) (mH T.dP (pv 15)))) av)))))))
(au (bP (aX cG (pv 7) ai (a6 _))
(au (bK (pS (pv 1) (cK (aa (xl (bQ (aa aV (aa aV av))) (aQ b0 (pv 6) ai)) (aa (pv 8) (aa (pv 9) av)))))))
(ah (lu (i:=16) nd rfl (Or.inl rfl) (tn:=["_law_j"]) (cn:=["_law_rest"]) (cj:=[6]) rfl (jb (AX:=[(".0",.local),("_law_j",.local),("_law_rest",.cell)])) (hX rfl T.kG (aa (aQ b0 (pv 6) ai) av)) (fun _ _ _ _=>(ez (i:=0) (show(["_law_j","_law_rest"]:List Str).Nodup by decide +kernel) rfl (Or.inl rfl))) (fun _ _ _ _=>kW) (fun _ _ _ _=>(aQ cE (aQ cE ai (aQ b0 (pv 1) ai)) (aQ jr (pv 0) (aQ cE ai (aQ b0 (pv 1) ai))))))
(au (bK (pS (pv 1) (cK (aa aV (aa (pv 8) (aa (pv 9) (aa (fX wL (by rfl) T.ui boot_tuple (aa (pv 16) av)) av))))))))))))))))))))))))))))
(au (a9 (pv 1)))))))),?_⟩
  refine⟨bp _,fun pm nm=>⟨bp _,fun pb nb=>⟨bp _,fun ph nh=>⟨bp _,fun lO Rn=>?_⟩⟩⟩⟩;have s1:aE H (upd H pm (.lst [])):=aE.new nm;have t2:=aE.new (o:= .lst []) nb;have t3:=aE.new (o:= .lst []) nh;have t4:=aE.new (o:= .lst []) Rn;have s4:=((s1.trans t2).trans t3).trans t4;have V5:H lO=none:=((s1.trans t2).trans t3).free Rn;have g1:=((t2.trans t3).trans t4) _ _ (ag (H:=H) (a:=pm) (o:= .lst []));have g2:=(t3.trans t4) _ _ (ag (H:=upd H pm (.lst [])) (a:=pb) (o:= .lst []));have g3:=t4 _ _ (ag (H:=upd (upd H pm (.lst [])) pb (.lst [])) (a:=ph) (o:= .lst []));have g4:=ag (H:=upd (upd (upd H pm (.lst [])) pb (.lst [])) ph (.lst [])) (a:=lO) (o:= .lst []);have e12:pb≠pm:=(aK ag nb).symm;have e13:ph≠pm:=(aK (t2 _ _ ag) nh).symm;have FR:lO≠pm:=(aK ((t2.trans t3) _ _ ag) Rn).symm;have e24:pb≠lO:=aK (t3 _ _ ag) Rn;have e34:ph≠lO:=aK ag Rn;generalize upd (upd (upd (upd H pm (.lst [])) pb (.lst [])) ph (.lst [])) lO (.lst [])=H4 at s4 g1 g2 g3 g4 ⊢;refine⟨_,rfl,a,_,rfl,.inl (s4.seq hS),((cs.map V.int).length:Int),rfl,by lia,by rw[ae]; lia,?_⟩;rw[dm];refine iY (lo:=0) (n:=(cs.map V.int).length) (uc H a pm lO)
   ⟨pb,ph,[],[],[],[],[],none,none,none,none,none,none,none,none,none,none,none,none,rfl,s4,g1,r0,rfl,(fun _ h=>by cases h),g2,aI _,g3,aI _,g4,aI _,e12,e24,e13,e34⟩ ?_ ?_
  ·clear t2 t3 t4 s1 g1 g2 g3 g4 s4 H4 e12 e24 e13 e34 nb nh Rn pb ph;rintro i σ H2 hi ⟨pb,ph,bs,hs,sp,ds,ms,x5,x6,x7,x8,x9,HP,CF,EB,HZ,A1,CU,KN,rfl,s2,hM,hR,FV,cy,hb,MA,hh,hhl,ya,adZ,n1,n2,n3,n4⟩;have Y1:i < cs.length:=by rwa [ae] at hi
   have Ro:se (cs.map V.int) (0 + (i:Int))=some (.int (cs.getD i 0)):=by rw[gS]; exact pV Y1
   have Pd:=s2.seq hS;generalize mq:cs.getD i 0=cell at Ro;refine⟨_,rfl,_,rfl,a,_,_,.int cell,rfl,rfl,Pd,Ro,_,_,rfl,rfl,⟨by decide,by decide⟩,_,_,rfl,rfl,⟨by decide,by decide,by decide⟩,_,_,rfl,rfl,(by show(0:Int) < _; decide +kernel),?_⟩;refine⟨_,rfl,_,rfl,a,_,_,.int cell,rfl,rfl,Pd,Ro,_,rfl,_,_,rfl,rfl,.inl ⟨by decide,by decide⟩,_,_,rfl,rfl,_,_,rfl,rfl,(by show(0:Int) < 16; decide),?_⟩;refine⟨_,rfl,_,rfl,a,cs,i,(by rw[gS]; rfl),Pd,Y1,fun p aC day dN H3 s3 hp oH=>?_⟩;refine⟨p,_,rfl,cz.of hp,rfl,_,_,rfl,_,_,rfl,_,_,rfl,rfl,?_⟩;refine⟨_,rfl,_,rfl,_,rfl,_,rfl,a,_,_,.int cell,rfl,rfl,s3.seq Pd,Ro,_,rfl,pb,bs,aC,cell,_,rfl,bw.of (s3 _ _ hb),by lia,fun bl H4 s4'=>?_⟩;have KD:=s3.trans s4';have s4:=s2.trans KD;have rB:=KD _ _ hM;have M0:=hR.mono KD.tk;have AB:=KD _ _ hb;have Iz:=KD _ _ hh;have nQ:=KD _ _ ya;have hS4:=s4.seq hS;have Y2:=hS;have Fz:ms.length<=100:=by have:=hR.length; lia
   clear KD s3 s4' hp hM hR hb hh ya s2 Pd H2 H3;refine⟨_,rfl,_,_,rfl,rfl,_,rfl,cu (fun c1=>?_) (fun c1=>?_)⟩
   ·
    refine⟨_,rfl,_,rfl,_,rfl,a,cs,i,(by rw[gS]; rfl),hS4,Y1,fun n=>⟨_,_,rfl,rfl,?_⟩⟩;refine⟨_,rfl,.inl ⟨rfl,_,bw.of rB⟩,_,rfl,_,rfl,_,rfl,_,rfl,(by show 5<=sizeLine; decide),fun p8 n8=>?_⟩;refine⟨pm,ms,_,rfl,rfl,aE.new n8 _ _ rB,bf (by lia),?_⟩;obtain⟨k5,s5,vX,h8,A2,Dm,mh⟩:=NP (xs:=[V.str "bill",.str aC,.int day,.int (day + n),.int dN]) nm s4 rB n8 n1 n3 FR AB Iz nQ;refine⟨_,rfl,_,rfl,(by show 1<=sizeLine; decide),fun p9 n9=>?_⟩;have t9:=aE.new (o:= .lst [V.str aC]) n9;refine⟨_,rfl,_,_,rfl,rfl,_,rfl,cu (fun c=>⟨_,rfl,_,rfl,_,_,rfl,rfl,.inr ⟨_,rfl,?_⟩⟩) (fun c=> .inr ⟨_,rfl,?_⟩)⟩
    all_goals
     refine FT ag (t9 _ _ A2) (by lia) fun KO UG n hn Y3 IA Y4=>?_;have pX:=t9.trans Y3;exact uc.mk' (d:= .dW aC day _ dN) (pb:=KO) M0 FV cy (k5.trans pX.tk) (s5.trans pX) (pX _ _ vX) (eO (pX _ _ h8) (gY (rS _) (gY (rS _) (gY (rI _) (gY (rI _) (gY (rI _) r0)))))) oH Y4 (by rw[aH,iM]; lia) (pX _ _ Dm) (by lia) (pX _ _ mh) (by lia) (aK (t9 _ _ vX) IA).symm (aK (t9 _ _ mh) IA).symm n3 n4
   refine⟨_,rfl,_,_,rfl,rfl,_,rfl,cu (fun c2=>?_) (fun c2=>?_)⟩
   ·
    refine⟨_,rfl,.inl ⟨rfl,_,bw.of rB⟩,_,rfl,_,rfl,_,rfl,(by show 4<=sizeLine; decide),fun p8 n8=>?_⟩;refine⟨pm,ms,_,rfl,rfl,aE.new n8 _ _ rB,bf (by lia),?_⟩;obtain⟨k5,s5,vX,h8,A2,Dm,mh⟩:=NP (xs:=[V.str "pay",.str aC,.int day,.int dN]) nm s4 rB n8 n1 n3 FR AB Iz nQ;refine⟨_,rfl,_,rfl,(by show 1<=sizeLine; decide),fun p9 n9=>?_⟩;have t9:=aE.new (o:= .lst [V.str aC]) n9;refine⟨_,rfl,_,_,rfl,rfl,.inr ⟨_,rfl,?_⟩⟩;refine FT ag (t9 _ _ Dm) (by lia) fun KO UG n hn Y3 IA Y4=>?_;have pX:=t9.trans Y3;exact uc.mk' (d:= .qK aC day dN) (ph:=KO) M0 FV cy (k5.trans pX.tk) (s5.trans pX) (pX _ _ vX) (eO (pX _ _ h8) (gY (rS _) (gY (rS _) (gY (rI _) (gY (rI _) r0))))) oH (pX _ _ A2) (by lia) Y4 (by rw[aH,iM]; lia) (pX _ _ mh) (by lia) n1 n2 (aK (t9 _ _ vX) IA).symm (aK (t9 _ _ mh) IA).symm
   refine⟨_,rfl,rfl,_,rfl,cu (fun c3=>?_) (fun c3=>?_)⟩
   ·
    refine⟨_,rfl,.inl ⟨rfl,_,bw.of rB⟩,_,rfl,_,rfl,_,rfl,(by show 4<=sizeLine; decide),fun p8 n8=>?_⟩;refine⟨pm,ms,_,rfl,rfl,aE.new n8 _ _ rB,bf (by lia),?_⟩;obtain⟨k5,s5,vX,h8,A2,Dm,mh⟩:=NP (xs:=[V.str "note",.int bl,.int day,.int dN]) nm s4 rB n8 n1 n3 FR AB Iz nQ;have no:=fun(EB HZ A1 CU KN x5 x6 x7 x8 x9 HP CF:Option V)=>uc.mk' (a:=a) (x5:=x5) (x6:=x6) (x7:=x7) (x8:=x8) (x9:=x9) (HP:=HP) (CF:=CF) (EB:=EB) (HZ:=HZ) (A1:=A1) (CU:=CU) (KN:=KN) (d:= .note bl day dN) M0 FV cy k5 s5 vX (eO h8 (gY (rS _) (gY (rI _) (gY (rI _) (gY (rI _) r0))))) oH A2 (by lia) Dm (by lia) mh (by lia) n1 n2 n3 n4;refine⟨_,rfl,_,_,rfl,rfl,_,rfl,cu (fun d1=>?_) (fun d1=>bV (no ..))⟩;refine⟨_,rfl,_,rfl,pb,_,rfl,.inl (bw.of A2),_,_,rfl,rfl,_,rfl,cu (fun d2=>?_) (fun d2=>bV (no ..))⟩;refine⟨_,rfl,_,_,rfl,rfl,_,rfl,cu (fun d3=>?_) (fun d3=>no ..)⟩;have Tu:0<=bl:=aM d1;have X3:bl < ((bs.map V.str).length:Int):=aM d2;obtain⟨bn,rfl⟩:=cv Tu;have hbn:bn < bs.length:=by rw[ae] at X3; lia
    refine⟨_,rfl,_,rfl,_,rfl,pb,_,_,.str bs[bn],rfl,rfl,bw.of A2,cf (by rw[aB,af hbn]; rfl),(by show 1<=sizeLine; decide),fun p9 n9=>?_⟩;have t9:=aE.new (o:= .lst [V.str bs[bn]]) n9;refine⟨ph,p9,_,_,rfl,rfl,t9 _ _ Dm,ag,df (bf (by rw[ae]; show hs.length + 1<=1000; lia)),fun KO IA=>?_⟩;have pX:=t9.trans (aE.new (o:= .lst (hs.map V.str ++ [V.str bs[bn]])) IA);exact uc.mk' (d:= .note (bn:Int) day dN) (ph:=KO) (hs:=hs ++ [bs[bn]]) M0 FV cy (k5.trans pX.tk) (s5.trans pX) (pX _ _ vX) (eO (pX _ _ h8) (gY (rS _) (gY (rI _) (gY (rI _) (gY (rI _) r0))))) oH (pX _ _ A2) (by lia) (by rw[aJ]; exact ag) (by rw[aH]; show hs.length + 1<=_; lia) (pX _ _ mh) (by lia) n1 n2 (aK (t9 _ _ vX) IA).symm (aK (t9 _ _ mh) IA).symm
   refine⟨_,rfl,_,_,rfl,rfl,_,rfl,cu (fun c4=>?_) (fun c4=>?_)⟩
   ·
    refine⟨_,rfl,.inl ⟨rfl,_,bw.of nQ⟩,_,rfl,lO,_,_,rfl,rfl,nQ,bf (by rw[ae]; lia),?_⟩;obtain⟨k0,s0,Rq,V6,Rt,M3⟩:=UE (x:=0 + (i:Int)) V5 s4 rB n2 n4 FR AB Iz nQ;have hR0:=M0.mono k0;have Y5:=s0.seq Y2;generalize upd H4 lO (.lst (sp.map V.int ++ [.int (0 + (i:Int))]))=H5 at s0 Rq V6 Rt M3 hR0 Y5 ⊢;refine⟨fun σ' H'=>aE H5 H'/\ ∃part:Int,σ'=[some (.ref a),some (.ref pm),some (.ref pb),some (.ref ph),some (.ref lO),some (.int (0 + (i:Int))),some (.int (cell / 16 % 10 ^ (60:Int).toNat)),some (.int ((cell + 5 * (0 + (i:Int))) % 16)),some (.str aC),some (.int day),some (.int dN),some (.int bl),EB,some (.int part),A1,CU,KN],?_,?_⟩
    ·refine⟨_,rfl,_,rfl,_,_,rfl,rfl,(by show(0:Int) < 3; decide),_,_,rfl,rfl,(by show 2<=sizeLine; decide),fun p9 n9=>?_⟩;refine⟨_,rfl,_,_,rfl,rfl,_,rfl,cu (fun d=>⟨_,rfl,_,_,rfl,rfl,(by show(0:Int) < 4; decide),_,_,rfl,rfl,.inr ⟨_,rfl,p9,_,_,_,rfl,rfl,bw.of ag,(UD _ _ _).2,?_⟩⟩) (fun d=> .inr ⟨_,rfl,p9,_,_,_,rfl,rfl,bw.of ag,(UD _ _ _).2,?_⟩)⟩
     ·exact⟨aE.new n9,_,rfl⟩
     ·exact⟨aE.new n9,_,rfl⟩
    rintro σ' H6 ⟨Y6,part,rfl⟩;refine⟨_,rfl,_,rfl,_,rfl,_,rfl,a,_,_,.int cell,rfl,rfl,Y6.seq Y5,Ro,_,rfl,_,_,rfl,rfl,ph,hs,aC,cell,_,rfl,bw.of (Y6 _ _ Rt),by lia,fun cr0 H7 s67=>?_⟩;have xH:=Y6.trans s67;refine⟨fun σ' H'=>H'=H7/\ ∃cr:Int,σ'=[some (.ref a),some (.ref pm),some (.ref pb),some (.ref ph),some (.ref lO),some (.int (0 + (i:Int))),some (.int (cell / 16 % 10 ^ (60:Int).toNat)),some (.int ((cell + 5 * (0 + (i:Int))) % 16)),some (.str aC),some (.int day),some (.int dN),some (.int bl),EB,some (.int part),some (.int cr),CU,KN],?_,?_⟩
    ·refine⟨_,rfl,_,rfl,a,_,_,.int cell,rfl,rfl,xH.seq Y5,Ro,_,_,rfl,rfl,(by show(0:Int) < 41; decide),rfl,_,rfl,cu (fun d=>?_) (fun d=>⟨rfl,_,rfl⟩)⟩;refine⟨_,rfl,_,_,rfl,rfl,⟨by decide,by decide⟩,_,rfl,ph,_,rfl,.inl (bw.of (xH _ _ Rt)),_,_,rfl,rfl,_,_,rfl,rfl,(by show(0:Int) < ((hs.map V.str).length:Int) + 1; lia),?_⟩;exact⟨rfl,_,rfl⟩
    rintro σ' H' ⟨rfl,cr,rfl⟩;have HJ:=xH _ _ Rq;refine⟨_,rfl,.inl ⟨rfl,_,bw.of HJ⟩,_,rfl,_,rfl,_,rfl,(by show 4<=sizeLine; decide),fun p8 n8=>?_⟩;refine⟨pm,ms,_,rfl,rfl,aE.new n8 _ _ HJ,bf (by lia),?_⟩;obtain⟨k5,s5,vX,h8,A2,Dm,mh⟩:=NP (xs:=[V.str "set",.int cr,.int bl,.int part]) nm (s0.trans xH) HJ n8 n1 n3 FR (xH _ _ V6) (xH _ _ Rt) (xH _ _ M3);exact uc.mk' (d:= .set cr bl part) (hR0.mono xH.tk) FV cy k5 s5 vX (eO h8 (gY (rS _) (gY (rI _) (gY (rI _) (gY (rI _) r0))))) trivial A2 (by lia) Dm (by lia) mh (by rw[aH]; show sp.length + 1<=_; lia) n1 n2 n3 n4
   refine⟨_,rfl,_,_,rfl,rfl,_,rfl,cu (fun c5=>?_) (fun c5=>?_)⟩
   ·
    refine⟨_,rfl,.inl ⟨rfl,_,bw.of nQ⟩,_,rfl,lO,_,_,rfl,rfl,nQ,bf (by rw[ae]; lia),?_⟩;obtain⟨k0,s0,Rq,V6,Rt,M3⟩:=UE (x:=0 + (i:Int)) V5 s4 rB n2 n4 FR AB Iz nQ;refine⟨_,rfl,.inl ⟨rfl,_,bw.of Rq⟩,_,rfl,(by show 2<=sizeLine; decide),fun p8 n8=>?_⟩;refine⟨pm,ms,_,rfl,rfl,aE.new n8 _ _ Rq,bf (by lia),?_⟩;obtain⟨k5,s5,vX,h8,A2,Dm,mh⟩:=NP (xs:=[V.str "sweep",.str aC]) nm s0 Rq n8 n1 n3 FR V6 Rt M3;exact uc.mk' (d:= .fL aC) (M0.mono k0) FV cy k5 s5 vX (eO h8 (gY (rS _) (gY (rS _) r0))) trivial A2 (by lia) Dm (by lia) mh (by rw[aH]; show sp.length + 1<=_; lia) n1 n2 n3 n4
   refine⟨_,rfl,rfl,_,rfl,cu (fun c6=>?_) (fun c6=>?_)⟩
   ·
    refine⟨_,rfl,_,rfl,_,rfl,_,_,rfl,rfl,⟨by decide,by decide,by decide⟩,_,rfl,_,_,rfl,rfl,_,rfl,_,_,rfl,rfl,⟨by decide,by decide⟩,_,rfl,_,_,rfl,rfl,_,_,rfl,rfl,(by show(0:Int) < 0 + (i:Int) + 1; lia),_,rfl,_,rfl,_,_,rfl,rfl,(by show 7<=sizeLine; decide),fun p9 n9=>?_⟩;refine⟨lO,p9,_,_,rfl,rfl,aE.new n9 _ _ nQ,ag,df (bf (by rw[ae]; show sp.length + 7<=1000; lia)),fun Rm Y0=>?_⟩;have Cp:=(aE.new (o:= .lst [V.int (0 + (i:Int)),.int (-1),.int (10 ^ (9:Int).toNat),.int 0,.int (0 + (i:Int) - 1),.int ((cell / 16 % 10 ^ (60:Int).toNat) / 3 % (0 + (i:Int) + 1)),.int (-2 - (cell / 16 % 10 ^ (60:Int).toNat))]) n9).trans (aE.new (o:= .lst (sp.map V.int ++ [V.int (0 + (i:Int)),.int (-1),.int (10 ^ (9:Int).toNat),.int 0,.int (0 + (i:Int) - 1),.int ((cell / 16 % 10 ^ (60:Int).toNat) / 3 % (0 + (i:Int) + 1)),.int (-2 - (cell / 16 % 10 ^ (60:Int).toNat))])) Y0);have UH:=ag (H:=upd H4 p9 (.lst [V.int (0 + (i:Int)),.int (-1),.int (10 ^ (9:Int).toNat),.int 0,.int (0 + (i:Int) - 1),.int ((cell / 16 % 10 ^ (60:Int).toNat) / 3 % (0 + (i:Int) + 1)),.int (-2 - (cell / 16 % 10 ^ (60:Int).toNat))])) (a:=Rm) (o:= .lst (sp.map V.int ++ [V.int (0 + (i:Int)),.int (-1),.int (10 ^ (9:Int).toNat),.int 0,.int (0 + (i:Int) - 1),.int ((cell / 16 % 10 ^ (60:Int).toNat) / 3 % (0 + (i:Int) + 1)),.int (-2 - (cell / 16 % 10 ^ (60:Int).toNat))]));generalize upd (upd H4 p9 (.lst [V.int (0 + (i:Int)),.int (-1),.int (10 ^ (9:Int).toNat),.int 0,.int (0 + (i:Int) - 1),.int ((cell / 16 % 10 ^ (60:Int).toNat) / 3 % (0 + (i:Int) + 1)),.int (-2 - (cell / 16 % 10 ^ (60:Int).toNat))])) Rm (.lst (sp.map V.int ++ [V.int (0 + (i:Int)),.int (-1),.int (10 ^ (9:Int).toNat),.int 0,.int (0 + (i:Int) - 1),.int ((cell / 16 % 10 ^ (60:Int).toNat) / 3 % (0 + (i:Int) + 1)),.int (-2 - (cell / 16 % 10 ^ (60:Int).toNat))]))=H5 at Cp UH ⊢;have UI:sp.map V.int ++ [V.int (0 + (i:Int)),.int (-1),.int (10 ^ (9:Int).toNat),.int 0,.int (0 + (i:Int) - 1),.int ((cell / 16 % 10 ^ (60:Int).toNat) / 3 % (0 + (i:Int) + 1)),.int (-2 - (cell / 16 % 10 ^ (60:Int).toNat))]=(sp ++ [0 + (i:Int),-1,10 ^ (9:Int).toNat,0,0 + (i:Int) - 1,(cell / 16 % 10 ^ (60:Int).toNat) / 3 % (0 + (i:Int) + 1),-2 - (cell / 16 % 10 ^ (60:Int).toNat)]).map V.int:=by rw[aJ]; rfl
    rw[UI] at UH;generalize Sw:sp ++ [0 + (i:Int),-1,10 ^ (9:Int).toNat,0,0 + (i:Int) - 1,(cell / 16 % 10 ^ (60:Int).toNat) / 3 % (0 + (i:Int) + 1),-2 - (cell / 16 % 10 ^ (60:Int).toNat)]=mn at UH;have ad3:0 < mn.length:=by rw[← Sw,aH]; show 0 < sp.length + 7; lia
    have hmp:0 < ((mn.map V.int).length:Int):=by rw[ae]; lia
    obtain⟨y,_,hy⟩:=kJ (g:=V.int) (xs:=mn) (m:=((mn.map V.int).length:Int)) (x:=(cell / 16 % 10 ^ (60:Int).toNat)) (by rw[ae]) hmp;have Qq:=Cp _ _ rB;refine⟨_,rfl,.inl ⟨rfl,_,bw.of Qq⟩,_,rfl,_,rfl,_,rfl,Rm,_,rfl,.inl (bw.of UH),_,_,rfl,rfl,hmp,Rm,_,_,.int y,rfl,rfl,bw.of UH,hy,(by show 2<=sizeLine; decide),fun p8 n8=>?_⟩;refine⟨pm,ms,_,rfl,rfl,aE.new n8 _ _ Qq,bf (by lia),?_⟩;obtain⟨k5,s5,vX,h8,A2,Dm,mh⟩:=NP (xs:=[V.str "undo",.int y]) nm (s4.trans Cp) Qq n8 n1 n3 FR (Cp _ _ AB) (Cp _ _ Iz) (Cp _ _ nQ);exact uc.mk' (d:= .g6 y) (M0.mono Cp.tk) FV cy k5 s5 vX (eO h8 (gY (rS _) (gY (rI _) r0))) trivial A2 (by lia) Dm (by lia) mh (by lia) n1 n2 n3 n4
   refine⟨_,rfl,rfl,_,rfl,cu (fun c7=>?_) (fun c7=>?_)⟩
   ·
    refine⟨_,rfl,.inl ⟨rfl,_,bw.of rB⟩,(by show 2<=sizeLine; decide),fun p9 n9=>?_⟩;have t9:=aE.new (o:= .lst [V.str "owed",.str "free"]) n9;obtain⟨y,X0,hy⟩:=kJ (g:=fun o:Bool=>V.str (if o then "owed" else "free")) (xs:=[true,false]) (m:=2) (x:=(cell / 16 % 10 ^ (60:Int).toNat)) rfl (by decide);refine⟨_,rfl,_,_,rfl,rfl,(by show(0:Int) < 2; decide),p9,_,_,_,rfl,rfl,bw.of ag,hy,_,rfl,_,rfl,(by show 3<=sizeLine; decide),fun p8 n8=>?_⟩;have hM9:=t9 _ _ rB;refine⟨pm,ms,_,rfl,rfl,aE.new n8 _ _ hM9,bf (by lia),?_⟩;obtain⟨k5,s5,vX,h8,A2,Dm,mh⟩:=NP (xs:=[V.str (if y then "owed" else "free"),.str aC,.int day]) nm (s4.trans t9) hM9 n8 n1 n3 FR (t9 _ _ AB) (t9 _ _ Iz) (t9 _ _ nQ);exact uc.mk' (d:= .ask y aC day) (M0.mono t9.tk) FV cy k5 s5 vX (eO h8 (gY (rS _) (gY (rS _) (gY (rI _) r0)))) trivial A2 (by lia) Dm (by lia) mh (by lia) n1 n2 n3 n4
   ·
    obtain⟨Ru,Y7,ad4⟩:=zR (cell / 16 % 10 ^ (60:Int).toNat) 12 (by decide);refine⟨_,rfl,_,_,rfl,rfl,(by show(0:Int) < 12; decide),_,rfl,lS (by decide) (ko _ (by decide)),Int.lt_trans (qj _ (by decide)) (by decide),?_⟩;show yg (Nc 0 ((cell / 16 % 10 ^ (60:Int).toNat) % 12).toNat) _ _ _ _ _ _;rw[Y7,dm];refine DM (lo:=0) (n:=Ru) (fun D j σ H6=>H4 D=none/\ ∃v,σ=[v,some (.int (cell / 16 % 10 ^ (60:Int).toNat))]/\aE H4 H6/\H6 D=some (.lst ((de (cell / 16 % 10 ^ (60:Int).toNat) j).map V.int))) (fun D hD=>⟨hD,none,rfl,aE.new hD,ag⟩) ?_ ?_
    ·rintro D j σ H6 hj ⟨hD,v,rfl,t3,hl⟩;refine⟨_,rfl,_,_,rfl,rfl,(by show(0:Int) < 9; decide),_,_,rfl,rfl,_,rfl,_,rfl,_,_,rfl,rfl,(by show(0:Int) < 30; decide),_,_,rfl,rfl,_,_,rfl,rfl,.inl ⟨by lia,by lia⟩,_,_,rfl,rfl,?_⟩;refine⟨_,hl,bf (by rw[ae,CV]; lia),hD,_,rfl,t3.cV hD,?_⟩;rw[ag];unfold de;rw[oy,aJ,aJ]; rfl
    ·rintro D σ H6 _ ⟨hD,v,rfl,t3,hl⟩;have Kl:=t3 _ _ rB;refine⟨_,rfl,.inl ⟨rfl,_,bw.of Kl⟩,_,rfl,_,rfl,_,rfl,D,_,rfl,.inl ⟨bw.of hl,fun pt npt=>?_⟩⟩;have t7:=t3.trans (aE.new (o:= .tup ((de (cell / 16 % 10 ^ (60:Int).toNat) Ru).map V.int)) npt);have g7:=ag (H:=H6) (a:=pt) (o:= .tup ((de (cell / 16 % 10 ^ (60:Int).toNat) Ru).map V.int));generalize upd H6 pt (.tup ((de (cell / 16 % 10 ^ (60:Int).toNat) Ru).map V.int))=H7 at t7 g7 ⊢;refine⟨(by show 4<=sizeLine; decide),fun p8 n8=>?_⟩;have HJ:=t7 _ _ rB;refine⟨pm,ms,_,rfl,rfl,aE.new n8 _ _ HJ,bf (by lia),?_⟩;obtain⟨k5,s5,vX,h8,A2,Dm,mh⟩:=NP (xs:=[V.str "ages",.str aC,.int day,.ref pt]) nm (s4.trans t7) HJ n8 n1 n3 FR (t7 _ _ AB) (t7 _ _ Iz) (t7 _ _ nQ);exact uc.mk' (d:= .iD aC day (de (cell / 16 % 10 ^ (60:Int).toNat) Ru)) (M0.mono t7.tk) FV cy k5 s5 vX (eO h8 (gY (rS _) (gY (rS _) (gY (rI _) (gY (eO (k5 _ _ g7) (ie.ints _)) r0))))) (MZ (cell / 16 % 10 ^ (60:Int).toNat) Ru (by lia)) A2 (by lia) Dm (by lia) mh (by lia) n1 n2 n3 n4
  ·rintro σ H2 ⟨pb,ph,bs,hs,sp,ds,ms,x5,x6,x7,x8,x9,HP,CF,EB,HZ,A1,CU,KN,rfl,s2,hM,hR,FV,cy,_⟩;rw[ae] at FV;refine⟨_,rfl,?_⟩;exact k pm ds ms H2 s2 hM hR FV cy
def sE.rp {H:Hp}{ok:Addr->Prop}{a:zl}{v:V}(h:sE H ok a v):Rp H a.dt v:=by
 cases a with
 |int i=>exact dj.mpr h
 |txt s=>exact fG.mpr h
 |sets l=>
  obtain⟨D,ms,rfl,_,z,t⟩:=h;exact iC z (il.Lc t)
 |pairs l=>
  obtain⟨D,ms,rfl,_,z,t⟩:=h;exact iC z (fU.Lc t)
 |«ints» l=>
  obtain⟨D,rfl,_,z⟩:=h;exact iC z (Cv l)
def yI {α:Type}(f:α->Dt)(n:Nat): ∀l:List α,(∀x∈l,(f x).size<=n)->Dt.fT (l.map f)<=l.length * n
 |[],_=>bp _
 |x :: l,h=>by
  have h1:=yI f n l fun y hy=>h y (aS _ hy);have h2:=h x bc;rw[bM,bH,wB];show(f x).size + Dt.fT (l.map f)<=_;lia
def EC {α:Type}(f:α->Dt)(l:List α)(h: ∀x∈l,(f x).plain=true):Dt.pH (l.map f)=true:=by
 rw[Dt.pI];intro d hd;obtain⟨x,hx,rfl⟩:=bG.mp hd;exact h x hx
def Ia {H:Hp}{pd:Addr}{d:bD}(h:sJ H pd d): ∃r,H pd=some (.tup (.str (bD.word d) :: r)):=by
 cases d with
 |iD w dy l=>
  obtain⟨pl,h1,_⟩:=h;exact⟨_,h1⟩
 |_=>exact⟨_,h⟩
def yJ (d:bD):wK (.str (bD.word d)) [.str "bill",.str "pay",.str "note",.str "set",.str "sweep"]=d.tells:=by
 cases d with
 |dW _ _ _ _=>show wK (.str "bill") _ =true; decide +kernel
 |qK _ _ _=>show wK (.str "pay") _ =true; decide +kernel
 |note _ _ _=>show wK (.str "note") _ =true; decide +kernel
 |set _ _ _=>show wK (.str "set") _ =true; decide +kernel
 |fL _=>show wK (.str "sweep") _ =true; decide +kernel
 |g6 _=>show wK (.str "undo") _ =false; decide +kernel
 |ask o _ _=>
  cases o
  ·show wK (.str "free") _ =false; decide +kernel
  ·show wK (.str "owed") _ =false; decide +kernel
 |iD _ _ _=>show wK (.str "ages") _ =false; decide +kernel
def M4 (xs:List V)(a b:Nat)(h:a<=b):(qB xs (some (a:Int)) (some (b:Int))).length<=b - a:=by
 unfold qB;rw[HT.yV,HT.yV,bb];lia
def M5 (ns:List Int)(lo hi:Option Int): ∃cs:List Int,qB (ns.map V.int) lo hi=cs.map V.int:=by
 unfold qB;rw[← List.map_drop,← List.map_take];exact⟨_,rfl⟩
def UJ {H:Hp}{ok:Addr->Prop}: ∀{as:List zl} {ws:List V},Paired (sE H ok) as ws->ie H (as.map zl.dt) ws
 |_,_,.nil=>cI.mpr rfl
 |_,_,.cons h t=>bI.mpr ⟨_,_,rfl,h.rp,UJ t⟩
def KP {H:Hp}{tb:Addr}{pos:Pos}{qual:Str}(h:H tb=some (.mL #[])):Tb H tb pos qual:=⟨#[],h,True.intro,.inl rfl⟩
def KQ (K:Frag)(cps:List (Addr×Addr)):Sp:=fun vs H Q _=> ∃(a:Addr) (ns:List Int),vs=[.ref a]/\bw K H a (ns.map V.int)/\ns.length<=63/\(∀cp∈cps,H cp.2=some (.mL #[]))/\ ∀H',Q (.bl true) H'
def M6 {H:Hp}{sd p:Addr}{S:Bk}{f:fC}{ws:List V}{o:HO}(h:dh H sd S f)(e:H p=some (.lst ws))(n:p∉f.fp):dh (upd H p o) sd S f:=
 h.keep (fun b u hb z=>by
  have nb:b≠p:=by
   rcases hb with hb|hb
   ·rw[hb];exact mm h.dict e (by intro q; cases q)
   ·exact fun q=>n (q▸hb)
  rw[aA nb];exact z) (fb e)
inductive KR (vs:List V)(H:Hp)(Q:VK)(E':XK):Prop
 |mk (pa:Addr)(ds:List bD)(ms:List V)(h1:vs=[.ref pa])(h2:H pa=some (.lst ms))(h3:fH H ds ms)(h4:ds.length<=59)(h5:(∀d∈ds,d.ok))(h6: ∀(t:Addr) (v:V) (ps sd:Addr) (us:List V) (f:fC) (H':Hp),aE H H'->H' t=some (.tup [v,.ref ps,.ref sd])->H' ps=some (.lst us)->gP H' (dv ds gE.new 0).2.steps us->dh H' sd (dv ds gE.new 0).2.bk f->(∀x∈f.fp,H x=none)->ps∉f.fp->Good (dv ds gE.new 0).2 ds.length->Q (.ref t) H'):KR vs H Q E'
def jm:aW ["_law_asked","_law_steps","_law_state","_law_due","_law_number","_law_deed","_law_answer"] ["_law_asked"] (ax (top 65)):={}
def oK (T:Txt K mg):eW P w K mg base "_law_gone_through" 6 ["_law_asked"] KR:=by
 have me:=ra (P:=P) (w:=w) (base:=base) T;have AR:=Ae (P:=P) (w:=w) (base:=base) T;have CW:=Cr (P:=P) (w:=w) (base:=base) T;refine T.oE.fv (k:=5) jm (fun f cO A outer s H vs Q E hr h=>?_)
 ·obtain⟨pa,ds,ms,rfl,MR,KH,FV,cy,k⟩:=h;have nd:=jm.nd;have Fz:=fH.length KH;refine⟨_,(ah (sv 1 nd (bQ av))
(ah (sv 2 nd (Jk me (hr.mono (by decide)) rfl))
(ah (sv 3 nd (bQ av))
(ah (dS bu rfl (hX rfl T.kG (aa (mH T.dP (pv 0)) av)) (gn 4 nd)
(ah (sv 5 nd (xl (pv 0) (pv 4)))
(ah (sv 6 nd aV)
(jc (bP (PW.pt (pw_or (gf (fc AR hr (aa (pv 5) av))) (pw_or1 (aX cG (xt (pv 5) ai) aV (a6 _)))))
(au (lV (fc CW hr (aa (pv 1) (aa (pv 2) (aa (pv 4) (aa (pv 5) av))))) (gT (bX (gn 6 nd) (bX (gn 1 nd) (bX (gn 2 nd) gh))))))
bh)
(au (bK (pS (pv 3) (pv 6))))))))
(au (a9 (cK (aa (pv 3) (aa (pv 1) (aa (pv 2) av)))))))))),?_⟩
  refine⟨bp _,fun ps FH=>?_⟩;have s6:=aE.new (o:= .lst []) FH;have Qr:upd H ps (.lst []) ps=some (.lst []):=ag;generalize upd H ps (.lst [])=H6 at s6 Qr;refine⟨rfl,fun sd g H7 s7 UK Mi nf=>?_⟩;have UL:=s7 _ _ Qr;have xH:=s6.trans s7;have Y8:ps∉g.fp:=fun z=>by
   have:=nf _ z;rw[Qr] at this;cases this
  have nf5: ∀b∈g.fp,H b=none:=fun b hb=>s6.free (nf b hb);refine⟨bp _,fun pu V7=>?_⟩;have s8:=aE.new (o:= .lst []) V7;have UM:upd H7 pu (.lst []) pu=some (.lst []):=ag;have UN:=s8 _ _ UL;have UO:=UK.same s8;have Y9:pu∉g.fp:=UK.off V7;have Za:pu≠ps:=(aK UL V7).symm;have Zb:=xH.trans s8;have Zc:H pu=none:=xH.free V7;generalize upd H7 pu (.lst [])=H8 at s8 UM UN UO Zb;refine⟨_,rfl,pa,_,rfl,.inl (bw.of (Zb _ _ MR)),(ms.length:Int),rfl,by lia,by lia,?_⟩;rw[dm];refine iY (lo:=0) (n:=ms.length) (fun i σ H2=> ∃(ps sd:Addr) (us ws:List V) (f:fC) (x4 x5 x6:Option V),σ=[some (.ref pa),some (.ref ps),some (.ref sd),some (.ref pu),x4,x5,x6]/\aE H H2/\H2 ps=some (.lst us)/\gP H2 (dv (ds.take i) gE.new 0).2.steps us/\dh H2 sd (dv (ds.take i) gE.new 0).2.bk f/\(∀x∈f.fp,H x=none)/\ps∉f.fp/\Good (dv (ds.take i) gE.new 0).2 i/\H2 pu=some (.lst ws)/\ws.length=i/\pu∉f.fp/\pu≠ps)
   ⟨ps,sd,[],[],g,none,none,none,rfl,Zb,UN,.nil,UO,nf5,Y8,Good.new,UM,rfl,Y9,Za⟩ ?_ ?_
  ·rintro i σ H2 hi ⟨ps,sd,us,ws,f,x4,x5,x6,rfl,s2,mF,Rv,hB,Qs,FH,hG,hpu,DK,Rg,Qt⟩;rw[gS];have wN:i < ds.length:=by lia
   have qm:=af wN;obtain⟨v0,Xq,T9⟩:=fH.get KH qm;obtain⟨pd,rfl,hd5⟩:=FO T9;have hd:=hd5.mono s2.tk;have MX:=cy _ (bN wN);have V3:=yH wN;have oX:Good (dG (dv (ds.take i) gE.new 0).2 (i:Int) ds[i]).2 (i + 1):=hG.step ds[i];rw[V3];generalize ds[i]=d at hd MX oX;generalize (dv (ds.take i) gE.new 0).2=TT at Rv hB hG oX;clear V3 T9 hd5 qm;refine⟨_,rfl,_,rfl,pa,_,_,.ref pd,rfl,rfl,bw.of (s2 _ _ MR),cf Xq,?_⟩;refine⟨fun σ' H'=> ∃(v:V) (vO Di:Addr) (Dj:List V) (f':fC),σ'=[some (.ref pa),some (.ref vO),some (.ref Di),some (.ref pu),some (.int (i:Int)),some (.ref pd),some v]/\aE H H'/\H' vO=some (.lst Dj)/\gP H' (dG TT i d).2.steps Dj/\dh H' Di (dG TT i d).2.bk f'/\(∀x∈f'.fp,H x=none)/\vO∉f'.fp/\H' pu=some (.lst ws)/\pu∉f'.fp/\pu≠vO,?_,?_⟩
   ·obtain⟨r,hdw⟩:=Ia hd;refine⟨_,rfl,pd,bD.word d,r,rfl,hdw,fun H3 s3=>⟨_,rfl,?_⟩⟩;have NF:=hd.mono s3.tk;have Zd:=s3 _ _ hdw;have Hu:=s3 _ _ mF;have M7:gP H3 TT.steps us:=Rv.mono s3.tk;have KJ:=hB.same s3;have V8:=s2.trans s3;have KS:=s3 _ _ hpu;have NQ: ∀(R:VK),(∀t v vO Di Dj f' H',H' t=some (.tup [v,.ref vO,.ref Di])->aE H H'->H' vO=some (.lst Dj)->gP H' (dG TT i d).2.steps Dj->dh H' Di (dG TT i d).2.bk f'->(∀x∈f'.fp,H x=none)->vO∉f'.fp->H' pu=some (.lst ws)->pu∉f'.fp->pu≠vO->R (.ref t) H')->NC R H3 ps f (dG TT i d):=fun R h t v vO Di f' Dj H' ht hv hp hS hb fr fi np nq=>
     h t v vO Di Dj f' H' ht (fr.same V8 Qs) hp hS hb (fun x hx=>(fi x hx).elim (Qs x) fun z=>V8.free z) np (fr _ _ Rg KS) (fun z=>(fi pu z).elim Rg fun q=>by rw[KS] at q; cases q) (fun z=>Qt (z.trans (nq pu _ Rg KS z.symm)))
    by_cases ht:d.tells=true
    ·rw[yJ,ht];have Iq:H3 pd=some (.tup (bD.vs d)):=by cases d <;> first|exact NF|cases ht
     refine fF (fF ⟨_,rfl,_,rfl,_,rfl,_,rfl,ps,sd,pd,i,TT,us,f,d,rfl,Hu,M7,KJ,FH,Iq,.inl ht,hG,(by lia),NQ _ fun t v vO Di Dj f' H' ht LQ hp hS hb hn Ze u1 u2 u3=>?_⟩);refine⟨t,_,rfl,cz.of ht,rfl,_,_,rfl,_,_,rfl,_,_,rfl,rfl,?_⟩;exact⟨v,vO,Di,Dj,f',rfl,LQ,hp,hS,hb,hn,Ze,u1,u2,u3⟩
    ·rw[yJ,Bool.eq_false_iff.mpr ht];refine bV ⟨_,rfl,pd,_,_,.str (bD.word d),rfl,rfl,cz.of Zd,Kx _ _,rfl,?_⟩;cases d with
     |dW _ _ _ _=>exact absurd rfl ht
     |qK _ _ _=>exact absurd rfl ht
     |note _ _ _=>exact absurd rfl ht
     |set _ _ _=>exact absurd rfl ht
     |fL _=>exact absurd rfl ht
     |g6 m=>
      refine⟨true,AZ _,fF ⟨_,rfl,_,rfl,_,rfl,_,rfl,ps,sd,pd,i,TT,us,f,.g6 m,rfl,Hu,M7,KJ,FH,NF,.inr ⟨m,rfl⟩,hG,(by lia),NQ _ fun t v vO Di Dj f' H' ht LQ hp hS hb hn Ze u1 u2 u3=>?_⟩⟩;refine⟨t,_,rfl,cz.of ht,rfl,_,_,rfl,_,_,rfl,_,_,rfl,rfl,?_⟩;exact⟨v,vO,Di,Dj,f',rfl,LQ,hp,hS,hb,hn,Ze,u1,u2,u3⟩
     |ask o wh dy=>
      refine⟨false,jF (by cases o; exact(show("free":Str)≠"undo" by decide +kernel); exact(show("owed":Str)≠"undo" by decide +kernel)),bV ?_⟩;exact⟨_,ps,sd,us,f,rfl,V8,Hu,M7,KJ,Qs,FH,KS,Rg,Qt⟩
     |iD wh dy de=>
      refine⟨false,jF (show("ages":Str)≠"undo" by decide +kernel),bV ?_⟩;exact⟨_,ps,sd,us,f,rfl,V8,Hu,M7,KJ,Qs,FH,KS,Rg,Qt⟩
   ·rintro σ' H' ⟨v,vO,Di,Dj,f',rfl,s',Ts,Y2,hB',Zf,Zg,u1,u2,u3⟩;refine⟨_,rfl,.inl ⟨rfl,_,bw.of u1⟩,_,rfl,pu,ws,v,rfl,rfl,u1,bf (by lia),?_⟩;exact⟨vO,Di,Dj,ws ++ [v],f',_,_,_,rfl,s'.cV Zc,by rw[aA u3.symm]; exact Ts,Y2.mono (fb u1),M6 hB' u1 u2,Zf,Zg,oX,ag,by rw[aH,DK]; rfl,u2,u3⟩
  ·rintro σ H2 ⟨ps,sd,us,ws,f,x4,x5,x6,rfl,s2,mF,Rv,hB,Qs,FH,hG,hpu,_⟩;rw[← Fz,aY] at Rv hB hG;refine⟨_,rfl,_,rfl,_,rfl,(by show 3<=sizeLine; decide),fun t nt=>?_⟩;have s9:=aE.new (o:= .tup [V.ref pu,.ref ps,.ref sd]) nt;exact k t _ ps sd us f _ (s2.trans s9) ag (s9 _ _ mF) (Rv.mono s9.tk) (hB.same s9) Qs FH hG
end
end eJ
namespace L2
open PySem
def CY (ms:List (Nat×Nat×Int))(k:Nat):Int:=((ms.filter fun t=>decide (t.2.1=k)).map (·.2.2)).sum
def CZ (ms:List (Nat×Nat×Int))(k:Nat):Int:=((ms.filter fun t=>decide (t.1=k)).map (·.2.2)).sum
def Ib (ms:List (Nat×Nat×Int))(t:Nat×Nat×Int)(k:Nat):CY (ms ++ [t]) k=CY ms k + if t.2.1=k then t.2.2 else 0:=by
 unfold CY;rw[f9,aJ,ox];by_cases h:t.2.1=k <;> simp[h]
def Ic (ms:List (Nat×Nat×Int))(t:Nat×Nat×Int)(k:Nat):CZ (ms ++ [t]) k=CZ ms k + if t.1=k then t.2.2 else 0:=by
 unfold CZ;rw[f9,aJ,ox];by_cases h:t.1=k <;> simp[h]
def Ie {ms:List (Nat×Nat×Int)}{k:Nat}(h: ∀t∈ms,t.2.1≠k):CY ms k=0:=by
 unfold CY;rw[List.filter_eq_nil_iff.mpr fun t ht=>by simp[h t ht]];rfl
def Ig {ms:List (Nat×Nat×Int)}{k:Nat}(h: ∀t∈ms,t.1≠k):CZ ms k=0:=by
 unfold CZ;rw[List.filter_eq_nil_iff.mpr fun t ht=>by simp[h t ht]];rfl
structure Acc (S:Bk):Prop where
 m: ∀t∈S.made,t.1 < S.credits.length/\t.2.1 < S.aF.length/\1<=t.2.2/\S.dO t.1 t.2.1=true
 b: ∀k,k < S.aF.length->(S.bl k).d=(S.bl k).c - CY S.made k/\0<=(S.bl k).d
 c: ∀k,k < S.credits.length->(S.cr k).d=(S.cr k).b - CZ S.made k/\0<=(S.cr k).d
def Acc.new:Acc Bk.new:=⟨(fun _ h=>by cases h),fun _ h=>absurd h (gG _),fun _ h=>absurd h (gG _)⟩
def Acc.iu {S:Bk}(h:Acc S){r:Rw}(e:r.d=r.c)(p:0<=r.d):Acc (S.iu r):=by
 have len:(S.iu r).aF.length=S.aF.length + 1:=by simp[Bk.iu]
 have old: ∀k,k < S.aF.length->(S.iu r).bl k=S.bl k:=fun k hk=>getD_snoc hk;refine⟨fun t ht=>?_,fun k hk=>?_,h.c⟩
 ·obtain⟨a,b,c,d⟩:=h.m t ht;refine⟨a,by rw[len]; lia,c,?_⟩;rw[← d];unfold Bk.dO;rw[old _ b];rfl
 ·by_cases q:k < S.aF.length
  ·rw[old k q];exact h.b k q
  ·have q':k=S.aF.length:=by lia
   have e2:(S.iu r).bl k=r:=by rw[q']; exact getD_last
   rw[e2,show(S.iu r).made=S.made from rfl,Ie fun t ht=>by have:=(h.m t ht).2.1; lia];lia
def Acc.fN {S:Bk}(h:Acc S){r:Rw}(e:r.d=r.b)(p:0<=r.d):Acc (S.fN r):=by
 have len:(S.fN r).credits.length=S.credits.length + 1:=by simp[Bk.fN]
 have old: ∀k,k < S.credits.length->(S.fN r).cr k=S.cr k:=fun k hk=>getD_snoc hk;refine⟨fun t ht=>?_,h.b,fun k hk=>?_⟩
 ·obtain⟨a,b,c,d⟩:=h.m t ht;refine⟨by rw[len]; lia,b,c,?_⟩;rw[← d];unfold Bk.dO;rw[old _ a];rfl
 ·by_cases q:k < S.credits.length
  ·rw[old k q];exact h.c k q
  ·have q':k=S.credits.length:=by lia
   have e2:(S.fN r).cr k=r:=by rw[q']; exact getD_last
   rw[e2,show(S.fN r).made=S.made from rfl,Ig fun t ht=>by have:=(h.m t ht).1; lia];lia
def Acc.put {S:Bk}(h:Acc S){c b:Nat}{x:Int}(hc:c < S.credits.length)(hb:b < S.aF.length)(hx:1<=x)(x1:x<=(S.cr c).d)(x2:x<=(S.bl b).d)(hg:S.dO c b=true):Acc (S.put c b x):=by
 have L:Later S (S.put c b x):=Later.put hb hc (by lia);refine⟨fun t ht=>?_,fun k hk=>?_,fun k hk=>?_⟩
 ·rw[L.cl,L.bl,L.dO];rcases bq.mp (show t∈S.made ++ [(c,b,x)] from ht) with ht|ht
  ·exact h.m t ht
  ·rw[ao.mp ht];exact⟨hc,hb,hx,hg⟩
 ·rw[L.bl] at hk;rw[show(S.put c b x).made=S.made ++ [(c,b,x)] from rfl,Ib,pK hb];have:=h.b k hk;by_cases e:k=b
  ·subst e;rw[aZ rfl,aZ rfl];show(S.bl k).d - x=(S.bl k).c - (CY S.made k + x)/\0<=(S.bl k).d - x;lia
  ·rw[aO e,aO (fun z=>e z.symm)];lia
 ·rw[L.cl] at hk;rw[show(S.put c b x).made=S.made ++ [(c,b,x)] from rfl,Ic,pL hc];have:=h.c k hk;by_cases e:k=c
  ·subst e;rw[aZ rfl,aZ rfl];show(S.cr k).d - x=(S.cr k).b - (CZ S.made k + x)/\0<=(S.cr k).d - x;lia
  ·rw[aO e,aO (fun z=>e z.symm)];lia
def sN {ex:Bool}{c:Nat}: ∀{l:List Nat} {S:Bk},l.Nodup->Acc S->c < S.credits.length->(∀b∈l,b < S.aF.length/\0 < (S.bl b).d)->Acc (l.foldl (bT ex c) S)/\(l.foldl (bT ex c) S).credits.length=S.credits.length/\(l.foldl (bT ex c) S).aF.length=S.aF.length
 |[],S,_,h,_,_=>⟨h,rfl,rfl⟩
 |b :: l,S,nd,h,hc,hl=>by
  rw[eV];rw[ej] at nd;obtain⟨hb,pb⟩:=hl b bc;by_cases q:0 < (S.cr c).d/\S.dO c b=true/\((S.cr c).d=(S.bl b).d∨ex=false)
  ·have e:bT ex c S b=S.put c b (gJ (S.cr c).d (S.bl b).d):=aZ q;rw[e];have mn:1<=gJ (S.cr c).d (S.bl b).d/\gJ (S.cr c).d (S.bl b).d<=(S.cr c).d/\gJ (S.cr c).d (S.bl b).d<=(S.bl b).d:=by
    unfold gJ;split <;> lia
   have L:Later S (S.put c b (gJ (S.cr c).d (S.bl b).d)):=Later.put hb hc (by lia);obtain⟨r1,r2,r3⟩:=sN (ex:=ex) nd.2 (h.put hc hb mn.1 mn.2.1 mn.2.2 q.2.1) (by rw[L.cl]; exact hc) (fun b' tT=>by
    obtain⟨u1,u2⟩:=hl b' (aS _ tT);refine⟨by rw[L.bl]; exact u1,?_⟩;have nb:b'≠b:=fun z=>nd.1 (z▸tT);rw[pK hb,aO nb];exact u2)
   exact⟨r1,r2.trans L.cl,r3.trans L.bl⟩
  ·have e:bT ex c S b=S:=aO q;rw[e];exact sN nd.2 h hc fun b' tT=>hl b' (aS _ tT)
def nR {ex:Bool}{aC:Str}: ∀{l:List Nat} {S:Bk},Acc S->(∀c∈l,c < S.credits.length)->Acc (l.foldl (cm aC ex) S)
 |[],_,h,_=>h
 |c :: l,S,h,hl=>by
  rw[eV];obtain⟨r1,r2,_⟩:=sN (ex:=ex) (jC S.aF aC (·.b)) h (hl c bc) (fun b hb=>⟨(dk.mp hb).1,(dk.mp hb).2.2⟩);exact nR r1 fun c' Oc=>by
   show c' < (cm aC ex S c).credits.length;rw[show(cm aC ex S c).credits.length=S.credits.length from r2];exact hl c' (aS _ Oc)
def Acc.iR {S:Bk}(h:Acc S)(aC:Str):Acc (S.iR aC):=
 nR (nR h fun c hc=>(dk.mp hc).1) fun c hc=>(dk.mp hc).1
def Acc.enter {S:Bk}(h:Acc S){d:bD}(hb:S.bar d=""):Acc (S.enter d):=by
 cases d with
 |dW w dy u a=>
  refine h.iu rfl ?_;have tT:(if a < 1 then("no amount":Str) else if u < dy then("too early":Str) else("":Str))="":=hb;split at tT
  ·exact absurd tT n4
  ·show 0<=a; lia
 |qK w dy a=>
  refine h.fN rfl ?_;have tT:(if a < 1 then("no amount":Str) else("":Str))="":=hb;split at tT
  ·exact absurd tT n4
  ·show 0<=a; lia
 |note b dy a=>
  refine h.fN rfl ?_;have:=(nZ hb).2;show 0<=a;lia
 |set c b a=>
  obtain⟨⟨c1,c2⟩,⟨b1,b2⟩,g,x,m1,m2⟩:=mX hb;exact h.put (by lia) (by lia) x m1 m2 g
 |fL w=>exact h.iR w
 |g6 m=>exact h
 |ask o w d=>exact h
 |iD w d l=>exact h
def wo: ∀(l:List (Int×bD)) {S T:Bk},Acc S->cF l S=some T->Acc T
 |[],S,T,h,e=>by
  cases e;exact h
 |(k,d) :: l,S,T,h,e=>by
  unfold cF at e;split at e
  ·rename_i hb;exact wo l (h.enter hb) e
  ·cases e
def Good.acc {T:gE}{n:Nat}(h:Good T n):Acc T.bk:=wo T.steps Acc.new h.w
def KU {l m:List Int}(h:l.Perm m):l.sum=m.sum:=by
 induction h with
 |nil=>rfl
 |cons x _ ih=>rw[cH,cH,ih]
 |swap x y l=>rw[cH,cH,cH,cH]; lia
 |trans _ _ a b=>exact a.trans b
def nS {α:Type}(f:α->Int): ∀l:List α,(∀x∈l,0<=f x)->((l.filter fun x=>decide (0 < f x)).map f).sum=(l.map f).sum
 |[],_=>rfl
 |x :: l,h=>by
  have ih:=nS f l fun y hy=>h y (aS _ hy);have hx:=h x bc;by_cases c:0 < f x
  ·rw[List.filter_cons_of_pos (by simpa using c),List.map_cons,List.map_cons,List.sum_cons,List.sum_cons,ih]
  ·rw[List.filter_cons_of_neg (by simpa using c),List.map_cons,List.sum_cons,ih];lia
def FW {α:Type}(f g:α->Int): ∀l:List α,(l.map fun x=>f x - g x).sum=(l.map f).sum - (l.map g).sum
 |[]=>rfl
 |x :: l=>by
  rw[bM,bM,bM,cH,cH,cH,FW f g l];lia
def sum_add {α:Type}(f g:α->Int): ∀l:List α,(l.map fun x=>f x + g x).sum=(l.map f).sum + (l.map g).sum
 |[]=>rfl
 |x :: l=>by
  rw[bM,bM,bM,cH,cH,cH,sum_add f g l];lia
def wq {α:Type}{f:α->Int}: ∀l:List α,(∀x∈l,f x=0)->(l.map f).sum=0
 |[],_=>rfl
 |x :: l,h=>by rw[bM,cH,h x bc,wq l fun y hy=>h y (aS _ hy)]; rfl
def KW {k:Nat}{x:Int}: ∀l:List Nat,l.Nodup->(l.map fun j=>if k=j then x else 0).sum=if k∈l then x else 0
 |[],_=>rfl
 |j :: l,nd=>by
  rw[ej] at nd;rw[bM,cH];by_cases e:k=j
  ·subst e;rw[aZ rfl,aZ bc,wq l fun y hy=>aO fun(z:k=y)=>nd.1 (z▸hy)];lia
  ·rw[aO e,KW l nd.2];by_cases c:k∈l
   ·rw[aZ c,aZ (aS _ c)]; lia
   ·rw[aO c,aO (fun z=>(aw.mp z).elim e c)]; lia
def C0 (sp:Nat×Nat×Int->Nat)(q:Nat×Nat×Int->Bool)(ks:List Nat)(nd:ks.Nodup): ∀ms:List (Nat×Nat×Int),(ks.map fun k=>((ms.filter fun t=>decide (sp t=k) && q t).map (·.2.2)).sum).sum=((ms.filter fun t=>decide (sp t∈ks) && q t).map (·.2.2)).sum
 |[]=>wq ks fun _ _=>rfl
 |t :: ms=>by
  have ih:=C0 sp q ks nd ms;have e: ∀k,(((t :: ms).filter fun t=>decide (sp t=k) && q t).map (·.2.2)).sum=(if sp t=k then(if q t=true then t.2.2 else 0) else 0) + ((ms.filter fun t=>decide (sp t=k) && q t).map (·.2.2)).sum:=fun k=>by
   by_cases c:(decide (sp t=k) && q t)=true
   ·rw[bS (p:=fun t=>decide (sp t=k) && q t) c,bM,cH];have c':sp t=k/\q t=true:=by simpa using c
    rw[aZ c'.1,aZ c'.2]
   ·rw[eo (p:=fun t=>decide (sp t=k) && q t) c];by_cases c1:sp t=k
    ·rw[if_pos c1,if_neg (fun z=>c (by simp[c1,z]))];lia
    ·rw[aO c1];lia
  rw[fJ (fun k _=>e k),sum_add,ih,KW ks nd];by_cases c:(decide (sp t∈ks) && q t)=true
  ·rw[bS (p:=fun t=>decide (sp t∈ks) && q t) c,bM,cH];have c':sp t∈ks/\q t=true:=by simpa using c
   rw[aZ c'.1,aZ c'.2]
  ·rw[eo (p:=fun t=>decide (sp t∈ks) && q t) c];by_cases c1:sp t∈ks
   ·rw[if_pos c1,if_neg (fun z=>c (by simp[c1,z]))];lia
   ·rw[aO c1];lia
def ir (rows:List Rw)(aC:Str)(day:Int):List Nat:=(List.range rows.length).filter fun k=>decide ((rows.getD k default).aC=aC) && decide ((rows.getD k default).a<=day)
def C1 (rows:List Rw)(aC:Str)(day:Int):(ir rows aC day).Nodup:=jv.filter _
def yK {rows:List Rw}{aC:Str}{day:Int}{k:Nat}:k∈ir rows aC day↔k < rows.length/\(rows.getD k default).aC=aC/\(rows.getD k default).a<=day:=by
 unfold ir;rw[dJ,cS];simp
def C2 (rows:List Rw)(aC:Str)(key:Rw->Int):(inOrder rows aC key).Perm ((List.range rows.length).filter fun k=>decide ((rows.getD k default).aC=aC)):=by
 unfold inOrder gg;have h:=(cL (((List.range rows.length).filter fun k=>decide ((rows.getD k default).aC=aC)).map fun k=>(key (rows.getD k default),k))).map (·.2);rw[dB] at h;have e:((fun x:Int×Nat=>x.2) ∘ fun k=>(key (rows.getD k default),k))=id:=rfl;rw[e,tP] at h;exact h
def KY (q:Nat×Nat×Int->Bool): ∀ms:List (Nat×Nat×Int),(∀t∈ms,1<=t.2.2)-> ∀p:Nat×Nat×Int->Bool,((ms.filter fun t=>p t && q t).map (·.2.2)).sum<=((ms.filter p).map (·.2.2)).sum
 |[],_,_=>fk _
 |t :: ms,h,p=>by
  have ih:=KY q ms (fun u hu=>h u (aS _ hu)) p;have ht:=h t bc;by_cases c1:p t=true
  ·by_cases c2:q t=true
   ·rw[List.filter_cons_of_pos (p:=fun t=>p t && q t) (by simp[c1,c2]),List.filter_cons_of_pos c1,List.map_cons,List.map_cons,List.sum_cons,List.sum_cons];lia
   ·rw[List.filter_cons_of_neg (p:=fun t=>p t && q t) (by simp[c2]),List.filter_cons_of_pos c1,List.map_cons,List.sum_cons];lia
  ·rw[List.filter_cons_of_neg (p:=fun t=>p t && q t) (by simp[c1]),List.filter_cons_of_neg c1];exact ih
def C3 {S:Bk}(h:Acc S){o:Bool}{k:Nat}(hk:k < (S.rows o).length)(day:Int):0<=S.rest o k day:=by
 have c:=KY (fun t=>decide (S.eZ t<=day)) S.made (fun t ht=>(h.m t ht).2.2.1) (fun t=>decide (spotOf o t=k));unfold Bk.rest;have e:S.cnt o k day=fun t=>decide (spotOf o t=k) && decide (S.eZ t<=day):=rfl;rw[e];cases o with
 |true=>
  have:=h.b k hk;have e2:((S.made.filter fun t=>decide (spotOf true t=k)).map (·.2.2)).sum=CY S.made k:=rfl;rw[e2] at c;show 0<=(S.bl k).c - _;lia
 |false=>
  have:=h.c k hk;have e2:((S.made.filter fun t=>decide (spotOf false t=k)).map (·.2.2)).sum=CZ S.made k:=rfl;rw[e2] at c;show 0<=(S.cr k).b - _;lia
def yL {S:Bk}(h:Acc S)(o:Bool)(aC:Str)(day:Int):((S.dF o aC day).map (·.2)).sum=((ir (S.rows o) aC day).map fun k=>qL o ((S.rows o).getD k default)).sum - ((S.made.filter fun t=>decide (spotOf o t∈ir (S.rows o) aC day) && decide (S.eZ t<=day)).map (·.2.2)).sum:=by
 rw[← C0 (spotOf o) (fun t=>decide (S.eZ t<=day)) _ (C1 _ _ _),← FW];unfold Bk.dF;rw[dB];have e1:((inOrder (S.rows o) aC (keyOf o)).filter fun k=>decide (((S.rows o).getD k default).a<=day) && decide (0 < S.rest o k day))=(((inOrder (S.rows o) aC (keyOf o)).filter fun k=>decide (((S.rows o).getD k default).a<=day)).filter fun k=>decide (0 < S.rest o k day)):=by
  rw[iw];apply iW;intro k _;rw[Bool.and_comm]
 rw[e1];have e2:((fun t:Nat×Int=>t.2) ∘ fun k=>(k,S.rest o k day))=fun k=>S.rest o k day:=rfl;rw[e2,nS (fun k=>S.rest o k day) _ (fun k hk=>C3 h (ji.mp (dJ.mp hk).1).1 day)];have pm:((inOrder (S.rows o) aC (keyOf o)).filter fun k=>decide (((S.rows o).getD k default).a<=day)).Perm (ir (S.rows o) aC day):=by
  have:=(C2 (S.rows o) aC (keyOf o)).filter fun k=>decide (((S.rows o).getD k default).a<=day);rw[iw] at this;have e3:(fun a=>decide (((S.rows o).getD a default).a<=day) && decide (((S.rows o).getD a default).aC=aC))=fun k=>decide (((S.rows o).getD k default).aC=aC) && decide (((S.rows o).getD k default).a<=day):=by
   funext k
   rw[Bool.and_comm]
  rw[e3] at this;exact this
 exact KU (pm.map _)
def AS {S:Bk}(h:Acc S)(aC:Str)(day:Int):((S.dF true aC day).map (·.2)).sum - ((S.dF false aC day).map (·.2)).sum=((ir S.aF aC day).map fun k=>(S.bl k).c).sum - ((ir S.credits aC day).map fun k=>(S.cr k).b).sum:=by
 rw[yL h,yL h];have e:(S.made.filter fun t=>decide (spotOf true t∈ir (S.rows true) aC day) && decide (S.eZ t<=day))=(S.made.filter fun t=>decide (spotOf false t∈ir (S.rows false) aC day) && decide (S.eZ t<=day)):=by
  apply iW;intro t ht;obtain⟨m1,m2,_,g⟩:=h.m t ht;by_cases c:S.eZ t<=day
  ·have gw:(S.cr t.1).aC=(S.bl t.2.1).aC:=by
    unfold Bk.dO at g;rw[ud] at g;exact aM g.1
   have l1:(S.bl t.2.1).a<=day/\(S.cr t.1).a<=day:=by
    unfold Bk.eZ at c;split at c <;> lia
   have q1:spotOf true t∈ir (S.rows true) aC day↔(S.bl t.2.1).aC=aC:=by
    rw[yK];exact⟨fun z=>z.2.1,fun z=>⟨m2,z,l1.1⟩⟩
   have q2:spotOf false t∈ir (S.rows false) aC day↔(S.cr t.1).aC=aC:=by
    rw[yK];exact⟨fun z=>z.2.1,fun z=>⟨m1,z,l1.2⟩⟩
   have q:spotOf true t∈ir (S.rows true) aC day↔spotOf false t∈ir (S.rows false) aC day:=by rw[q1,q2,gw]
   rw[jw.mpr q]
  ·rw[ba c,hV,hV]
 rw[e];show(((ir S.aF aC day).map fun k=>(S.bl k).c).sum - _) - (((ir S.credits aC day).map fun k=>(S.cr k).b).sum - _)=_;lia
end L2
namespace eJ
open PySem L2 PyProof.Rows K6
seal L2.oN L2.PS L2.PE L2.PT L2.PW L2.PA L2.PC L2.PG L2.IF L2.PI L2.LK L2.K2 L2.PO L2.oA L2.Ng L2.hZ L2.I9 L2.Ni
section
variable {P:Program}{w:World}{K:Frag}{mg:Str->Option Value}{base:Heap}
inductive UP (K:Frag)(vs:List V)(H:Hp)(Q:VK)(E':XK):Prop
 |mk (a:Addr)(ns:List Int)(k:Nat)(h1:vs=[.ref a,.int k])(h2:bw K H a (ns.map V.int))(h3: ∀i:Int,Q (.int i) H):UP K vs H Q E'
def ED:aW ["_law_script","_law_k"] ["_law_script","_law_k"] (ax (top 46)):={}
def Ih (T:Txt K mg):eW P w K mg base "_law_at" 1 ["_law_script","_law_k"] (UP K):=by
 refine T.G7.fv (k:=0) ED (fun f cO A outer s H vs Q E hr h=>?_)
 ·obtain⟨a,ns,k,rfl,hS,q⟩:=h;refine⟨_,(ah (bP (aX jO (pv 1) (mH T.dP (pv 0)) (a6 _))
(au (a9 (xl (pv 0) (pv 1))))
bh)
(au (a9 ai))),?_⟩
  refine⟨_,rfl,_,rfl,a,_,rfl,.inl hS,_,_,rfl,rfl,_,rfl,cu (fun z=>?_) (fun _=>q 0)⟩;have z':(k:Int) < ((ns.map V.int).length:Int):=aM z;have hk:k < ns.length:=by rw[ae] at z'; lia
  exact⟨_,rfl,_,rfl,a,_,_,.int (ns.getD k 0),rfl,rfl,hS,pV hk,q _⟩
def k8 (pr:List (Str×Int)):List bD:=pr.flatMap fun x=>[.ask true x.1 x.2,.ask false x.1 x.2]
def Ij (pr:List (Str×Int))(x:Str×Int):k8 (pr ++ [x])=k8 pr ++ [.ask true x.1 x.2,.ask false x.1 x.2]:=by
 unfold k8;rw[List.flatMap_append];simp
def rK (pr:List (Str×Int)):(k8 pr).length=2 * pr.length:=by
 induction pr with
 |nil=>rfl
 |cons x pr ih=>
  have e:k8 (x :: pr)= .ask true x.1 x.2 :: .ask false x.1 x.2 :: k8 pr:=rfl;rw[e,bH,bH,ih,bH];lia
def C4: ∀{pr:List (Str×Int)} {k:Nat} {x:Str×Int},pr[k]? =some x->(k8 pr)[2 * k]? =some (.ask true x.1 x.2)/\(k8 pr)[2 * k + 1]? =some (.ask false x.1 x.2)
 |[],_,_,h=>by simp at h
 |y :: pr,0,x,h=>by
  have e:y=x:=by simpa using h
  subst e;exact⟨rfl,rfl⟩
 |y :: pr,k + 1,x,h=>by
  have e:k8 (y :: pr)= .ask true y.1 y.2 :: .ask false y.1 y.2 :: k8 pr:=rfl;have ih:=C4 (pr:=pr) (k:=k) (x:=x) (by simpa using h);rw[e,show 2 * (k + 1)=2 * k + 1 + 1 by lia];exact⟨by simpa using ih.1,by simpa using ih.2⟩
def tK: ∀(l m:List bD) (T:gE) (n:Nat),dv (l ++ m) T n=((dv l T n).1 ++ (dv m (dv l T n).2 (n + l.length)).1,(dv m (dv l T n).2 (n + l.length)).2)
 |[],m,T,n=>rfl
 |d :: l,m,T,n=>by
  show((dG T n d).1 :: (dv (l ++ m) (dG T n d).2 (n + 1)).1,(dv (l ++ m) (dG T n d).2 (n + 1)).2)=_;rw[tK l m,show n + 1 + l.length=n + (d :: l).length by rw[bH]; lia];rfl
def yM: ∀(m:List bD) (T:gE) (n:Nat),(∀d∈m,(∃o w y,d= .ask o w y)∨ ∃w y l,d= .iD w y l)->(dv m T n).2=T/\ ∀(i:Nat) (d:bD),m[i]? =some d->(dv m T n).1[i]? =some (dG T 0 d).1
 |[],T,n,_=>⟨rfl,fun i d h=>by simp at h⟩
 |e :: m,T,n,h=>by
  have he:(dG T n e).2=T/\(dG T n e).1=(dG T 0 e).1:=by
   rcases h e bc with⟨o,w,y,rfl⟩|⟨w,y,l,rfl⟩
   ·exact⟨rfl,rfl⟩
   ·exact⟨rfl,rfl⟩
  obtain⟨h1,h2⟩:=yM m T (n + 1) fun d hd=>h d (aS _ hd);have eq:dv (e :: m) T n=((dG T n e).1 :: (dv m T (n + 1)).1,(dv m T (n + 1)).2):=by
   show((dG T n e).1 :: (dv m (dG T n e).2 (n + 1)).1,(dv m (dG T n e).2 (n + 1)).2)=_;rw[he.1]
  rw[eq];refine⟨h1,fun i d hd=>?_⟩;cases i with
  |zero=>
   have e2:e=d:=by simpa using hd
   subst e2;show some (dG T n e).1=_;rw[he.2]
  |succ i=>exact h2 i d (by simpa using hd)
def yN {H:Hp}{rs:List Rw}{ps:List Addr}(h:eP H rs ps){a:Addr}(ha:a∈ps): ∃xs,H a=some (.lst xs):=by
 induction h with
 |nil=>cases ha
 | @cons r p rs ps hr t ih=>
  rcases aw.mp ha with ha|ha
  ·rw[ha];exact⟨_,hr⟩
  ·exact ih ha
def M8 {H:Hp}{sd a:Addr}{S:Bk}{f:fC}(h:dh H sd S f)(hb:a∈f.fp): ∃xs,H a=some (.lst xs):=by
 obtain⟨ms,m1,_⟩:=h.hm;unfold fC.fp at hb;rcases aw.mp hb with z|z
 ·rw[z]; exact⟨_,h.hb⟩
 rcases aw.mp z with z|z
 ·rw[z]; exact⟨_,h.hc⟩
 rcases aw.mp z with z|z
 ·rw[z]; exact⟨_,m1⟩
 rcases bq.mp z with z|z
 ·exact yN h.rb z
 ·exact yN h.rc z
def Qu {H H':Hp}{sd:Addr}{S:Bk}{f:fC}(h:dh H sd S f)(k: ∀a o,H a=some o->(∀ps,o≠ .mL ps)->H' a=some o):dh H' sd S f:=by
 refine h.keep (fun b o hb e=>?_) (fun a xs e=>k _ _ e (fun _ z=>by cases z));refine k _ _ e (fun ps z=>?_);rcases hb with hb|hb
 ·rw[hb,h.dict,z] at e;cases e
 ·obtain⟨xs,q⟩:=M8 h hb;rw[q,z] at e;cases e
def C5 (H:Hp)(pr:List (Str×Int))(ws:List V):Prop:=Paired (fun(x:Str×Int) v=> ∃p,v= .ref p/\H p=some (.tup [.str x.1,.int x.2])) pr ws
def C5.mono {H H':Hp}{pr:List (Str×Int)}{ws:List V}(h:C5 H pr ws)(k:cB H H'):C5 H' pr ws:=Paired.iA h fun _ _ ⟨p,e,q⟩=>⟨p,e,k _ _ q⟩
def pj (names:List Str)(d1 d2:Int):List (Str×Int):=names.flatMap fun n=>[(n,d1),(n,d2)]
def EE (names:List Str)(d1 d2:Int)(n:Str):pj (names ++ [n]) d1 d2=pj names d1 d2 ++ [(n,d1),(n,d2)]:=by
 unfold pj;rw[List.flatMap_append];simp
def yO (names:List Str)(d1 d2:Int):(pj names d1 d2).length=2 * names.length:=by
 induction names with
 |nil=>rfl
 |cons x l ih=>
  have e:pj (x :: l) d1 d2=(x,d1) :: (x,d2) :: pj l d1 d2:=rfl;rw[e,bH,bH,ih,bH];lia
def wt (aC:Str)(day:Int)(r:Rw):Int:=if r.aC=aC/\r.a<=day then 1 else 0
def C6 (rows:List Rw)(aC:Str)(day:Int)(g:Rw->Int):((ir rows aC day).map fun k=>g (rows.getD k default)).sum=(rows.map fun r=>g r * wt aC day r).sum:=by
 have e:=sm rows (default:Rw);have e2:(rows.map fun r=>g r * wt aC day r)=(List.range rows.length).map fun k=>g (rows.getD k default) * wt aC day (rows.getD k default):=by
  have:(rows.map fun r=>g r * wt aC day r)=((List.range rows.length).map fun j=>rows.getD j default).map fun r=>g r * wt aC day r:=by rw[e]
  rw[this,dB]; rfl
 rw[e2];unfold ir;generalize List.range rows.length=ks
 induction ks with
 |nil=>rfl
 |cons k ks ih=>
  rw[bM,cH,← ih];by_cases c:(rows.getD k default).aC=aC/\(rows.getD k default).a<=day
  ·rw[List.filter_cons_of_pos (by simp only[Bool.and_eq_true,decide_eq_true_eq]; exact c),List.map_cons,List.sum_cons];have w1:wt aC day (rows.getD k default)=1:=aZ c;rw[w1,Int.mul_one]
  ·rw[List.filter_cons_of_neg (by simp only[Bool.and_eq_true,decide_eq_true_eq]; exact c)];have w1:wt aC day (rows.getD k default)=0:=aO c;rw[w1,Int.mul_zero,gS]
def C7 {rows:List Rw}{g:Rw->Int}{i:Nat}(h:i < rows.length):((rows.take (i + 1)).map g).sum=((rows.take i).map g).sum + g (rows.getD i default):=by
 rw[gQ h,aJ,ox,aj,af h];simp
def wu (S:Bk){n:Nat}(wf:WF S n)(hn:n<=60)(o:Bool)(aC:Str)(day:Int):(zl.pairs (S.dF o aC day)).dt.size<=100000/\(zl.pairs (S.dF o aC day)).dt.plain=true:=by
 have h1:=yI (fun t:Nat×Int=>Dt.tup [.int t.1,.int t.2]) 3 (S.dF o aC day) (fun x _=>aI _);have h2:(S.dF o aC day).length<=(S.rows o).length:=sD;have h3:(S.rows o).length<=60:=by
  have:=wf.lb;have:=wf.lc;cases o
  ·show S.credits.length<=60; lia
  ·show S.aF.length<=60; lia
 refine⟨?_,EC _ _ fun x _=>rfl⟩;show 1 + Dt.fT ((S.dF o aC day).map fun t=>Dt.tup [.int t.1,.int t.2])<=100000;lia
def KZ:aW ["_law_script","_law_cells","_law_asked","_law_state","_law_seed","_law_days","_law_pairs","_law_who","_law_day","_law_more","_law_found","_law_k","_law_spot","_law_due","_law_row","_law_owed"] ["_law_script"] (ax (top 66)):={}
def Qv {cps:List (Addr×Addr)}{f:Addr}{fd:FuncData}(F:gp K "law" "law" (top 66) f fd)(T:Txt K mg){A:d8}{tB tC:Addr}(G:jD K mg A)(DB:qo K mg "bills_in_order" (top 17) tB)(DC:qo K mg "credits_in_order" (top 18) tC)(js:tB≠tC)(hnd:A.i9≠A.tooMuch)(KB:K.In base)(BM:BMain mg base)(Xw: ∃c,(c,tB)∈cps)(hcC: ∃c,(c,tC)∈cps):lW P w K mg base sf 13 f fd ["_law_script"] (KQ K cps):=by
 have Ik:eW P w K mg base "answers" 12 ["deeds"] (sM A tB tC):=HY T G DB DC js hnd KB BM;have C8:=CS (P:=P) (w:=w) (base:=base) T;have AU:=AQ (P:=P) (w:=w) (base:=base) T;have rL:=AJ (P:=P) (w:=w) (base:=base) T;have yP:=Ih (P:=P) (w:=w) (base:=base) T;have k4:=oT (P:=P) (w:=w) (base:=base) T;have pq:=xC (P:=P) (w:=w) (base:=base) T;have oM:=oK (P:=P) (w:=w) (base:=base) T;refine F.ok (k:=12) KZ (fun vs H Q E h=>?_) (fun cO A' outer s H vs Q E hr h=>?_)
 ·obtain⟨a,ns,rfl,_⟩:=h;rfl
 ·obtain⟨a,ns,rfl,hS,hz,hO,k⟩:=h;have kj:lh H tB:=let⟨c,hc⟩:=Xw; KP (hO _ hc)
  have jL:lR H tC:=let⟨c,hc⟩:=hcC; KP (hO _ hc)
  have nd:=KZ.nd;have hu:=jP hr;refine⟨_,(ah (sv 1 nd (qA VC (pv 0) (qz ai) (qz (aQ cE ai (fc C8 hr (aa (pv 0) (aa ai (aa ai av))))))))
(ah (sv 2 nd (fc AU hr (aa (pv 1) av)))
(ah (sv 3 nd (xt (fc oM hr (aa (pv 2) av)) ai))
(ah (sv 4 nd (aQ cE (fc yP hr (aa (pv 0) (aa ai av))) (fc yP hr (aa (pv 0) (aa ai av)))))
(ah (sv 5 nd (bQ (aa (aQ eI (aQ b0 (pv 4) ai) ai) (aa (aQ iZ ai ai) av))))
(ah (sv 6 nd (bQ av))
(ah (dS bu rfl (ql (fc k4 hr (aa (pv 1) av))) (gn 7 nd)
(au (dS bu rfl (ql (pv 5)) (gn 8 nd)
(au (bK (pS (pv 6) (cK (aa (pv 7) (aa (pv 8) av)))))))))
(ah (sv 9 nd (bQ av))
(ah (dS bu rfl (ql (pv 6)) (gT (bX (gn 7 nd) (bX (gn 8 nd) gh)))
(au (sv 9 nd (aQ lY (pv 9) (bQ (aa (cK (aa aV (aa (pv 7) (aa (pv 8) av)))) (aa (cK (aa aV (aa (pv 7) (aa (pv 8) av)))) av)))))))
(ah (sv 10 nd (fc Ik hr (aa (aQ lY (pv 2) (pv 9)) av)))
(ah (bP (PW.pt (pw_or (jM (gf (vp T.di T.vw boot_list (pv 10)))) (pw_or1 (aX oP (mH T.dP (pv 10)) (aQ cE (mH T.dP (pv 2)) (mH T.dP (pv 9))) (a6 _)))))
(au (a9 kB))
bh)
(ah (dS bu rfl (hX rfl T.kG (aa (mH T.dP (pv 6)) av)) (gn 11 nd)
(ah (lV (xl (pv 6) (pv 11)) (gT (bX (gn 7 nd) (bX (gn 8 nd) gh))))
(ah (sv 12 nd (aQ cE (mH T.dP (pv 2)) (aQ jr ai (pv 11))))
(ah (bP (jM (gf (fc rL hr (aa (xl (pv 10) (pv 12)) (aa (fc pq hr (aa (pv 3) (aa (pv 7) (aa (pv 8) (aa ai av))))) av)))))
(au (a9 kB))
bh)
(ah (bP (jM (gf (fc rL hr (aa (xl (pv 10) (aQ cE (pv 12) ai)) (aa (fc pq hr (aa (pv 3) (aa (pv 7) (aa (pv 8) (aa ai av))))) av)))))
(au (a9 kB))
bh)
(ah (sv 13 nd ai)
(ah (dS bu rfl (ql (cA hu (pv 3) aV (fun _ _=>rfl))) (gn 14 nd)
(au (sv 13 nd (aQ cE (pv 13) (aQ jr (xl (pv 14) ai) (fX i6 (by rfl) T.sY N4 (aa (mN (eA cG (xl (pv 14) ai) (pv 7) (a6 _)) (lU (eA oQ (xl (pv 14) ai) (pv 8) (a6 _)))) av)))))))
(ah (dS bu rfl (ql (cA hu (pv 3) aV (fun _ _=>rfl))) (gn 14 nd)
(au (sv 13 nd (aQ eI (pv 13) (aQ jr (xl (pv 14) ai) (fX i6 (by rfl) T.sY N4 (aa (mN (eA cG (xl (pv 14) ai) (pv 7) (a6 _)) (lU (eA oQ (xl (pv 14) ai) (pv 8) (a6 _)))) av)))))))
(ah (sv 15 nd (eN (lA rfl) (by rfl) T.BK boot_sum (aa (gq (tn:=["_law_one"]) (cn:=[]) (cj:=[]) rfl uh (ql (xl (pv 10) (pv 12))) (fun _ _ _ _=>(ez (i:=0) (show(["_law_one"]:List Str).Nodup by decide +kernel) rfl (Or.inl rfl))) (fun _ _ _ _=>kW) (fun _ _ _ _=>(iQ (kE (K:=K) rfl) (pv 0) ai (fun _ _=>rfl)))) av)))
(au (bP (aX oP (aQ eI (pv 15) (eN (lA rfl) (by rfl) T.BK boot_sum (aa (gq (tn:=["_law_one"]) (cn:=[]) (cj:=[]) rfl uh (ql (xl (pv 10) (aQ cE (pv 12) ai))) (fun _ _ _ _=>(ez (i:=0) (show(["_law_one"]:List Str).Nodup by decide +kernel) rfl (Or.inl rfl))) (fun _ _ _ _=>kW) (fun _ _ _ _=>(iQ (kE (K:=K) rfl) (pv 0) ai (fun _ _=>rfl)))) av))) (pv 13) (a6 _))
(au (a9 kB))
bh)))))))))))
(au (a9 kB)))))))))))))),?_⟩
  refine⟨_,rfl,_,rfl,_,rfl,a,_,24,140,rfl,hS,(by rw[ae]; exact hz),_,_,rfl,rfl,_,rfl,a,_,rfl,hS,fun pc nc=>?_⟩;obtain⟨cs,ecs⟩:=M5 ns (some 2) (some (2 + 24));have qP:cs.length<=24:=by
   have h:=M4 (ns.map V.int) 2 26 (by decide);have e:qB (ns.map V.int) (some ((2:Nat):Int)) (some ((26:Nat):Int))=cs.map V.int:=ecs;rw[e,ae] at h;exact h
  rw[ecs];have s1:=aE.new (o:= .lst (cs.map V.int)) nc;have V9:upd H pc (.lst (cs.map V.int)) pc=some (.lst (cs.map V.int)):=ag;generalize upd H pc (.lst (cs.map V.int))=H1 at s1 V9;refine⟨_,rfl,pc,cs,rfl,bw.of V9,(by lia),fun pa ds ms H2 s2 MR KH FV cy=>?_⟩;have S2:=s1.trans s2;have UQ:=s2 _ _ V9;refine⟨_,rfl,pa,ds,ms,rfl,MR,KH,(by lia),cy,fun t v ps sd us g H3 s3 ht mF Rv UK Qs FH hG=>?_⟩;refine⟨t,_,_,.ref sd,rfl,rfl,cz.of ht,rfl,?_⟩;have UR:=s3 _ _ MR;have Qw:=KH.mono s3.tk;have US:=s3 _ _ UQ;have S3:=S2.trans s3;have rC:lh H3 tB:=bL kj S3;have rD:lR H3 tC:=bL jL S3;have Zh:=S3.seq hS;clear s1 s2 s3 S2 S3 kj jL MR KH V9 UQ hS;have Fz:=fH.length Qw;refine⟨_,rfl,a,ns,0,rfl,Zh,fun i0=>?_⟩;refine⟨_,rfl,a,ns,1,rfl,Zh,fun i1=>⟨_,_,rfl,rfl,?_⟩⟩;refine⟨_,rfl,_,_,rfl,rfl,(by show(0:Int) < 22; decide),_,_,rfl,rfl,_,_,rfl,rfl,⟨by decide,by decide,by decide⟩,(by show 2<=sizeLine; decide),fun pd nd1=>?_⟩;dsimp only;have s4:=aE.new (o:= .lst [V.int ((i0 + i1) % 22 - 5),.int (10 ^ (12:Int).toNat)]) nd1;generalize lz:(i0 + i1) % 22 - 5=d1 at s4;generalize hd2:(10:Int) ^ (12:Int).toNat=d2 at s4;have Cq:upd H3 pd (.lst [V.int d1,.int d2]) pd=some (.lst [V.int d1,.int d2]):=ag;have Qx:=s4 _ _ UR;have Qy:=Qw.mono s4.tk;have Qz:=s4 _ _ US;have rE:lh _ tB:=bL rC s4;have rF:lR _ tC:=bL rD s4;have QA:=UK.same s4;generalize upd H3 pd (.lst [V.int d1,.int d2])=H4 at s4 Cq Qx Qy Qz rE rF QA;clear s4 lz hd2 UR Qw US rC rD UK Zh;refine⟨bp _,fun pp Qt=>?_⟩;have s5:=aE.new (o:= .lst []) Qt;have QB:upd H4 pp (.lst []) pp=some (.lst []):=ag;have QC:=s5 _ _ Qz;have QD:=s5 _ _ Cq;generalize upd H4 pp (.lst [])=H5 at s5 QB QC QD;refine⟨_,rfl,pc,cs,rfl,bw.of QC,fun pn names H6 s6 Hn Zi Tn=>?_⟩;have xp:=s6 _ _ QB;have QE:=s6 _ _ QD;have s46:=s5.trans s6;have Qg:pn≠pp:=fun z=>by
   rw[z,xp] at Hn;cases names with
   |nil=>exact Zi rfl
   |cons x l=>cases Hn
  refine⟨pn,rfl,⟨_,bw.of Hn⟩,?_⟩;have ndp:pd≠pp:=aK Cq Qt;refine eM (K:=K) (a:=pn) (xs:=names.map V.str) (fun i σ H'=> ∃(x7 x8:Option V) (ws:List V),σ=[some (.ref a),some (.ref pc),some (.ref pa),some (.ref sd),some (.int (i0 + i1)),some (.ref pd),some (.ref pp),x7,x8,none,none,none,none,none,none,none]/\Frame [pp] H6 H'/\H' pp=some (.lst ws)/\C5 H' (pj (names.take i) d1 d2) ws)
   ⟨none,none,[],rfl,Frame.refl,xp,.nil⟩ (fun i σ H' _ ⟨_,_,_,_,f2,_⟩=>bw.of (f2 _ _ (by simpa using Qg) Hn)) ?_ ?_
  ·rintro i x σ H' hx ⟨x7,x8,ws,rfl,f2,zr,NR⟩;rw[aB] at hx;obtain⟨aC,hw,rfl⟩:=br.mp hx;have hi:i < names.length:=(ak.mp hw).1;have kq:names.take (i + 1)=names.take i ++ [aC]:=by rw[gQ hi,(ak.mp hw).2]
   rw[kq,EE];refine⟨_,rfl,pd,rfl,⟨_,bw.of (f2 _ _ (by simpa using ndp) QE)⟩,?_⟩;refine eM (K:=K) (a:=pd) (xs:=[d1,d2].map V.int) (fun j σ y4=> ∃(x8:Option V) (ws:List V),σ=[some (.ref a),some (.ref pc),some (.ref pa),some (.ref sd),some (.int (i0 + i1)),some (.ref pd),some (.ref pp),some (.str aC),x8,none,none,none,none,none,none,none]/\Frame [pp] H6 y4/\y4 pp=some (.lst ws)/\C5 y4 (pj (names.take i) d1 d2 ++ ([d1,d2].take j).map fun d=>(aC,d)) ws)
    ⟨_,ws,rfl,f2,zr,by simpa using NR⟩ (fun j σ y4 _ ⟨_,_,_,f3,_⟩=>bw.of (f3 _ _ (by simpa using ndp) QE)) ?_ ?_
   ·rintro j x σ y4 hx2 ⟨x8,Rx,rfl,f3,Il,M9⟩;rw[aB] at hx2;obtain⟨dd,QZ,rfl⟩:=br.mp hx2;have hj:j < [d1,d2].length:=(ak.mp QZ).1;have Zj:[d1,d2].take (j + 1)=[d1,d2].take j ++ [dd]:=by rw[gQ hj,(ak.mp QZ).2]
    have DK:Rx.length<=100:=by
     have:=aL M9;rw[aH,yO,ae,bb,bb] at this;have e2:[d1,d2].length=2:=rfl;lia
    refine⟨_,rfl,.inl ⟨rfl,_,bw.of Il⟩,_,rfl,_,rfl,(by show 2<=sizeLine; decide),fun p8 n8=>?_⟩;have u8:=aE.new (o:= .tup [V.str aC,.int dd]) n8;refine⟨pp,Rx,_,rfl,rfl,u8 _ _ Il,bf (by lia),?_⟩;have tk:=u8.tk.trans (fb (o:= .lst (Rx ++ [V.ref p8])) (u8 _ _ Il));refine⟨_,Rx ++ [.ref p8],rfl,(f3.c8 u8).tr (Frame.upd (by simp)),ag,?_⟩;rw[Zj,aJ,← dR];exact cw (M9.mono tk) ⟨p8,rfl,fb (u8 _ _ Il) _ _ ag⟩
   ·rintro σ y4 ⟨x8,Rx,rfl,f3,Il,M9⟩;exact⟨_,_,Rx,rfl,f3,Il,by simpa using M9⟩
  rintro σ H7 ⟨x7,x8,ws,rfl,f7,zr,NR⟩;rw[ae,aY] at NR;have Zk:(pj names d1 d2).length<=12:=by rw[yO]; lia
  generalize pj names d1 d2=pr at NR Zk;have UT: ∀{b:Addr} {o:HO},H4 b=some o->H7 b=some o:=fun{b o} e=>f7 _ _ (by simpa using aK e Qt) (s46 _ _ e);have Ry:aE H4 H7:=fun b o e=>UT e;have UU:=Ry _ _ Qx;have UW:=Qy.mono Ry.tk;have HM:lh H7 tB:=bL rE Ry;have HN:lR H7 tC:=bL rF Ry;have UX:=QA.same Ry;clear s5 QB QC QD xp QE s46 f7 UT Ry Hn Qz Cq Qx Qy rE rF QA;have DK:=aL NR;refine⟨bp _,fun pm0 X2=>?_⟩;have s8:=aE.new (o:= .lst []) X2;refine⟨_,rfl,pp,rfl,⟨_,bw.of (s8 _ _ zr)⟩,?_⟩;refine eM (K:=K) (a:=pp) (xs:=ws) (fun i σ H'=> ∃(x7 x8:Option V) (pm:Addr) (mw:List V),σ=[some (.ref a),some (.ref pc),some (.ref pa),some (.ref sd),some (.int (i0 + i1)),some (.ref pd),some (.ref pp),x7,x8,some (.ref pm),none,none,none,none,none,none]/\aE H7 H'/\H' pm=some (.lst mw)/\fH H' (k8 (pr.take i)) mw)
   ⟨_,_,pm0,[],rfl,s8,ag,cI.mpr rfl⟩ (fun i σ H' _ ⟨_,_,_,_,_,t2,_⟩=>bw.of (t2 _ _ zr)) ?_ ?_
  ·rintro i x σ H' hx ⟨x7,x8,pm,mw,rfl,t2,MS,hM⟩;have hi:i < pr.length:=by have:=(ak.mp hx).1; lia
   obtain⟨v',hv,p,rfl,hp⟩:=bB NR (af hi);rw[hx] at hv;obtain rfl:x= .ref p:=aD hv;have kq:=gQ hi;generalize pr[i]=y at hp kq;have QF:=fH.length hM;rw[rK,bb] at QF;refine⟨p,_,rfl,cz.of (t2 _ _ hp),rfl,_,_,rfl,_,_,rfl,rfl,?_⟩;refine⟨_,rfl,_,rfl,_,rfl,(by show 3<=sizeLine; decide),fun q1 n1=>?_⟩;have u1:=aE.new (o:= .tup [V.str "owed",.str y.1,.int y.2]) n1;refine⟨_,rfl,_,rfl,(by show 3<=sizeLine; decide),fun q2 n2=>?_⟩;have u2:=aE.new (o:= .tup [V.str "free",.str y.1,.int y.2]) n2;refine⟨(by show 2<=sizeLine; decide),fun q3 n3=>?_⟩;have u3:=aE.new (o:= .lst [V.ref q1,.ref q2]) n3;have Zl:=(u1.trans u2).trans u3;refine⟨pm,q3,mw,_,rfl,rfl,Zl _ _ MS,ag,?_,fun q4 n4=>?_⟩
   ·refine df (bf ?_);show mw.length + 2<=1000;lia
   have u4:=aE.new (o:= .lst (mw ++ [V.ref q1,.ref q2])) n4;refine⟨_,_,q4,mw ++ [.ref q1,.ref q2],rfl,(t2.trans Zl).trans u4,ag,?_⟩;rw[kq,Ij];have e1:Rp _ (bD.dt (.ask true y.1 y.2)) (.ref q1):=eO ((u2.trans (u3.trans u4)) _ _ ag) (bI.mpr ⟨_,_,rfl,fG.mpr rfl,bI.mpr ⟨_,_,rfl,fG.mpr rfl,bI.mpr ⟨_,_,rfl,dj.mpr rfl,cI.mpr rfl⟩⟩⟩);have e2:Rp _ (bD.dt (.ask false y.1 y.2)) (.ref q2):=eO ((u3.trans u4) _ _ ag) (bI.mpr ⟨_,_,rfl,fG.mpr rfl,bI.mpr ⟨_,_,rfl,fG.mpr rfl,bI.mpr ⟨_,_,rfl,dj.mpr rfl,cI.mpr rfl⟩⟩⟩);have h3:=((hM.mono (Zl.trans u4).tk).snoc e1).snoc e2;rw[dR,dR] at h3;exact h3
  rintro σ H9 ⟨x7',x8',pm,mw,rfl,t9,MS,hM⟩;rw[← DK,aY] at hM;have QG:=t9 _ _ UU;have UY:=UW.mono t9.tk;have QH:lh H9 tB:=bL HM t9;have QI:lR H9 tC:=bL HN t9;have UZ:=UX.same t9;have U0:=t9 _ _ zr;have U1:=NR.mono t9.tk;have QF:=fH.length hM;rw[rK] at QF;clear t9 s8 UU UW HM HN UX zr NR;refine⟨_,rfl,_,rfl,pa,pm,ms,mw,rfl,rfl,QG,MS,?_,fun ph nh=>?_⟩
  ·refine df (bf ?_);lia
  have u9:=aE.new (o:= .lst (ms ++ mw)) nh;have hda:fH (upd H9 ph (.lst (ms ++ mw))) (ds ++ k8 pr) (ms ++ mw):=by
   unfold fH;rw[aJ];exact ie.append (UY.mono u9.tk) (hM.mono u9.tk)
  refine⟨ph,ds ++ k8 pr,ms ++ mw,rfl,ag,hda,?_,?_,bL QH u9,bL QI u9,fun pt vs Iv F10 U2 U3 nt ur hA=>?_⟩
  ·rw[aH,rK];lia
  ·intro d hd;rcases bq.mp hd with hd|hd
   ·exact cy d hd
   ·unfold k8 at hd;obtain⟨y,_,hy⟩:=List.mem_flatMap.mp hd;simp only[List.mem_cons,List.not_mem_nil,or_false] at hy;rcases hy with rfl|rfl <;> exact trivial
  have NN: ∀t∈[tB,tC],∃ps,(upd H9 ph (.lst (ms ++ mw))) t=some (.mL ps):=fun t z=>by
   simp only[List.mem_cons,List.not_mem_nil,or_false] at z;rcases z with rfl|rfl
   ·exact cX (bL QH u9)
   ·exact cX (bL QI u9)
  have kk: ∀a o,H9 a=some o->(∀ps,o≠ .mL ps)->Iv a=some o:=fun a o e n=>yF F10 NN (u9 _ _ e) n;have NS:=kk _ _ QG (fun _ z=>by cases z);have U4:=kk _ _ MS (fun _ z=>by cases z);have NT:=kk _ _ U0 (fun _ z=>by cases z);have NU:=U1.mono (fun b xs e=>kk _ _ e (fun _ z=>by cases z));have mB:=Qu UZ kk;rw[tK] at hA;have NV: ∀d∈k8 pr,(∃o w y,d= .ask o w y)∨ ∃w y l,d= .iD w y l:=fun d hd=>by
   unfold k8 at hd;obtain⟨y,_,hy⟩:=List.mem_flatMap.mp hd;simp only[List.mem_cons,List.not_mem_nil,or_false] at hy;rcases hy with rfl|rfl
   ·exact .inl ⟨_,_,_,rfl⟩
   ·exact .inl ⟨_,_,_,rfl⟩
  obtain⟨_,vT⟩:=yM (k8 pr) (dv ds gE.new 0).2 (0 + ds.length) NV;have Le:=kF ds gE.new 0;have WQ:=kF (k8 pr) (dv ds gE.new 0).2 (0 + ds.length);have hvl:=aL hA;dsimp only at hvl;rw[aH,Le,WQ,rK] at hvl;have U5:=hG.acc;have wf:=hG.wf (by lia:ds.length<=60);have U6: ∀(k:Nat) (y:Str×Int),pr[k]? =some y-> ∃D1 m1 D2 m2,vs[ds.length + 2 * k]? =some (.ref D1)/\Iv D1=some (.lst m1)/\fU Iv ((dv ds gE.new 0).2.bk.dF true y.1 y.2) m1/\vs[ds.length + 2 * k + 1]? =some (.ref D2)/\Iv D2=some (.lst m2)/\fU Iv ((dv ds gE.new 0).2.bk.dF false y.1 y.2) m2:=fun k y hy=>by
   obtain⟨g1,g2⟩:=C4 hy;have a1:=vT _ _ g1;have a2:=vT _ _ g2;have b1:((dv ds gE.new 0).1 ++ (dv (k8 pr) (dv ds gE.new 0).2 (0 + ds.length)).1)[ds.length + 2 * k]? =some (zl.pairs ((dv ds gE.new 0).2.bk.dF true y.1 y.2)):=by
    rw[fR (by lia),Le,show ds.length + 2 * k - ds.length=2 * k by lia];exact a1
   have b2:((dv ds gE.new 0).1 ++ (dv (k8 pr) (dv ds gE.new 0).2 (0 + ds.length)).1)[ds.length + 2 * k + 1]? =some (zl.pairs ((dv ds gE.new 0).2.bk.dF false y.1 y.2)):=by
    rw[fR (by lia),Le,show ds.length + 2 * k + 1 - ds.length=2 * k + 1 by lia];exact a2
   obtain⟨v1,e1,D1,m1,rfl,_,f1,f2⟩:=bB hA b1;obtain⟨v2,e2,D2,m2,rfl,_,f3,f4⟩:=bB hA b2;exact⟨D1,m1,D2,m2,e1,f1,f2,e2,f3,f4⟩
  generalize (dv ds gE.new 0).2.bk=S at U6 mB U5 wf;have hrp:Rp Iv (.lst (((dv ds gE.new 0).1 ++ (dv (k8 pr) (dv ds gE.new 0).2 (0 + ds.length)).1).map zl.dt)) (.ref pt):=iC ur (UJ hA);refine⟨_,rfl,_,_,_,true,rfl,hrp.ty,E4 (.lst _),_,rfl,bV ?_⟩;refine⟨_,rfl,pt,_,rfl,.inl (bw.of ur),_,rfl,pa,_,rfl,.inl (bw.of NS),_,rfl,pm,_,rfl,.inl (bw.of U4),_,_,rfl,rfl,rfl,_,rfl,cu (fun z=>?_) (fun _=>?_)⟩
  ·exfalso;have e:(vs.length:Int)=(ms.length:Int) + (mw.length:Int):=by lia
   simp[e] at z
  clear hA hrp vT NV kk NN u9 hda F10 U2 U3 QH QI QG MS U0 UZ U1 UY hM nt nh Le WQ;have lc:=mB.rc.length;have lb:=mB.rb.length;have ad_:=aL NU;refine⟨_,rfl,pp,_,rfl,.inl (bw.of NT),(ws.length:Int),rfl,by lia,by lia,?_⟩;rw[dm];refine iY (lo:=0) (n:=ws.length) (fun i σ H'=> ∃(x7 x8 CF EB HZ A1 CU:Option V),σ=[some (.ref a),some (.ref pc),some (.ref pa),some (.ref sd),some (.int (i0 + i1)),some (.ref pd),some (.ref pp),x7,x8,some (.ref pm),some (.ref pt),CF,EB,HZ,A1,CU]/\aE Iv H') ⟨_,_,_,_,_,_,_,rfl,aE.refl _⟩ ?_ ?_
  ·rintro i σ H' hi ⟨x7,x8,CF,EB,HZ,A1,CU,rfl,t1⟩;rw[gS];obtain⟨v',hv,p,rfl,hp⟩:=bB NU (af (show i < pr.length by lia));obtain⟨D1,m1,D2,m2,e1,f1,f2,e2,f3,f4⟩:=U6 i _ (af (show i < pr.length by lia));generalize pr[i]=y at hp f2 f4;obtain⟨aC,day⟩:=y;have f2:fU Iv (S.dF true aC day) m1:=f2;have f4:fU Iv (S.dF false aC day) m2:=f4;refine⟨_,rfl,_,rfl,pp,_,_,.ref p,rfl,rfl,bw.of (t1 _ _ NT),cf hv,p,_,rfl,cz.of (t1 _ _ hp),rfl,_,_,rfl,_,_,rfl,rfl,?_⟩;refine⟨_,rfl,pa,_,rfl,.inl (bw.of (t1 _ _ NS)),_,rfl,_,_,rfl,rfl,.inl ⟨by decide,by decide⟩,_,_,rfl,rfl,?_⟩;have ei:(ms.length:Int) + 2 * (i:Int)=((ds.length + 2 * i:Nat):Int):=by lia
   have Zm:((ds.length + 2 * i:Nat):Int) + 1=((ds.length + 2 * i + 1:Nat):Int):=by lia
   dsimp only;rw[ei];generalize ya:ds.length + 2 * i=z9 at e1 e2 Zm;obtain⟨z1,p1⟩:=wu S wf (by lia) true aC day;obtain⟨z2,p2⟩:=wu S wf (by lia) false aC day;refine⟨_,rfl,_,rfl,pt,_,_,.ref D1,rfl,rfl,bw.of (t1 _ _ ur),cf e1,_,rfl,_,rfl,_,rfl,sd,S,g,_,true,aC,day,rfl,mB.same t1,wf,(by lia),fun Da ma H2 t2 nDa hDa hPa=>?_⟩;have pX:=t1.trans t2;refine⟨(zl.pairs (S.dF true aC day)).dt,.ref D1,.ref Da,rfl,iC (pX _ _ f1) (fU.Lc (f2.mono pX.tk)),iC hDa (fU.Lc hPa),z1,p1,fun H3 t3=>⟨_,rfl,bV ?_⟩⟩;have Wa:=pX.trans t3;refine⟨_,rfl,_,rfl,_,_,rfl,rfl,pt,_,_,.ref D2,rfl,rfl,bw.of (Wa _ _ ur),(by rw[Zm]; exact cf e2),_,rfl,_,rfl,_,rfl,sd,S,g,_,false,aC,day,rfl,mB.same Wa,wf,(by lia),fun Db mb H4' t4 nDb hDb hPb=>?_⟩;have Wb:=Wa.trans t4;refine⟨(zl.pairs (S.dF false aC day)).dt,.ref D2,.ref Db,rfl,iC (Wb _ _ f3) (fU.Lc (f4.mono Wb.tk)),iC hDb (fU.Lc hPb),z2,p2,fun H5' t5=>⟨_,rfl,bV ?_⟩⟩;have t15:=Wb.trans t5;have U7:=mB.same t15;clear t1 t2 pX t3 Wa t4 Wb t5;refine⟨_,rfl,sd,_,rfl,U7.gB,g.pb,rfl,⟨_,bw.of U7.hb⟩,?_⟩;refine eM (K:=K) (a:=g.pb) (xs:=g.ix.map V.ref) (fun j σ C9=> ∃(A1:Option V),σ=[some (.ref a),some (.ref pc),some (.ref pa),some (.ref sd),some (.int (i0 + i1)),some (.ref pd),some (.ref pp),some (.str aC),some (.int day),some (.ref pm),some (.ref pt),some (.int (i:Int)),some (.int (z9:Int)),some (.int ((((S.aF.take j).map fun r=>r.c * wt aC day r).sum))),A1,CU]/\aE Iv C9)
    ⟨_,rfl,t15⟩ (fun j σ C9 _ ⟨_,_,u2⟩=>bw.of (u2 _ _ mB.hb)) ?_ ?_
   ·rintro j x σ C9 hx ⟨Zn,rfl,u2⟩;have hj:j < S.aF.length:=by
     have:=(ak.mp hx).1;rw[ae] at this;lia
    obtain⟨q,q1,q2,q3⟩:=mB.lb hj;rw[aB,q1] at hx;obtain rfl:V.ref q=x:=aD hx;have hq:=u2 _ _ q3;have nX:=C7 (rows:=S.aF) (g:=fun r=>r.c * wt aC day r) hj;refine⟨_,rfl,_,rfl,q,_,_,.int (S.bl j).c,rfl,rfl,bw.of hq,rfl,_,rfl,q,_,_,.str (S.bl j).aC,rfl,rfl,bw.of hq,rfl,_,rfl,rfl,_,rfl,cu (fun z=>?_) (fun z=>?_)⟩
    ·have z':(S.bl j).aC=aC:=by
      have:=aM z;injection this
     refine⟨_,rfl,q,_,_,.int (S.bl j).a,rfl,rfl,bw.of hq,rfl,_,rfl,_,_,rfl,rfl,.inr ⟨_,rfl,_,_,rfl,rfl,.inr ?_,_,_,rfl,rfl,some (.ref q),?_,u2⟩⟩
     ·split <;> exact⟨by decide,by decide⟩
     ·have ew:(if decide ((S.bl j).a<=day)=true then(1:Int) else 0)=wt aC day (S.bl j):=by
       unfold wt;by_cases c:(S.bl j).a<=day
       ·rw[aZ (aG c),aZ ⟨z',c⟩]
       ·rw[aO (by rw[ba c]; exact aR),aO fun q=>c q.2]
      dsimp only;rw[ew,nX];rfl
    ·have z': ¬ (S.bl j).aC=aC:=fun e=>z (aG (by rw[e]));refine .inr ⟨_,rfl,_,_,rfl,rfl,.inr ⟨by decide,by decide⟩,_,_,rfl,rfl,some (.ref q),?_,u2⟩;have ew:wt aC day (S.bl j)=0:=aO fun q=>z' q.1;have EF:=nX
     try dsimp only at EF
     rw[show(S.aF.getD j default)=S.bl j from rfl,ew,Int.mul_zero,Int.add_zero] at EF
     try dsimp only
     rw[EF];simp
   rintro σ HB ⟨Zo,rfl,Zp⟩;rw[ae,← lb,aY];refine⟨_,rfl,sd,_,rfl,(mB.same Zp).gC,g.pc,rfl,⟨_,bw.of (mB.same Zp).hc⟩,?_⟩;refine eM (K:=K) (a:=g.pc) (xs:=g.cps.map V.ref) (fun j σ C9=> ∃(A1:Option V),σ=[some (.ref a),some (.ref pc),some (.ref pa),some (.ref sd),some (.int (i0 + i1)),some (.ref pd),some (.ref pp),some (.str aC),some (.int day),some (.ref pm),some (.ref pt),some (.int (i:Int)),some (.int (z9:Int)),some (.int ((S.aF.map fun r=>r.c * wt aC day r).sum - ((S.credits.take j).map fun r=>r.b * wt aC day r).sum)),A1,CU]/\aE Iv C9)
    ⟨Zo,by simp,Zp⟩ (fun j σ C9 _ ⟨_,_,u2⟩=>bw.of (u2 _ _ mB.hc)) ?_ ?_
   ·rintro j x σ C9 hx ⟨Zn,rfl,u2⟩;have hj:j < S.credits.length:=by
     have:=(ak.mp hx).1;rw[ae] at this;lia
    obtain⟨q,q1,q2,q3⟩:=mB.lc hj;rw[aB,q1] at hx;obtain rfl:V.ref q=x:=aD hx;have hq:=u2 _ _ q3;have nX:=C7 (rows:=S.credits) (g:=fun r=>r.b * wt aC day r) hj;refine⟨_,rfl,_,rfl,q,_,_,.int (S.cr j).b,rfl,rfl,bw.of hq,rfl,_,rfl,q,_,_,.str (S.cr j).aC,rfl,rfl,bw.of hq,rfl,_,rfl,rfl,_,rfl,cu (fun z=>?_) (fun z=>?_)⟩
    ·have z':(S.cr j).aC=aC:=by
      have:=aM z;injection this
     refine⟨_,rfl,q,_,_,.int (S.cr j).a,rfl,rfl,bw.of hq,rfl,_,rfl,_,_,rfl,rfl,.inr ⟨_,rfl,_,_,rfl,rfl,.inr ?_,_,_,rfl,rfl,some (.ref q),?_,u2⟩⟩
     ·split <;> exact⟨by decide,by decide⟩
     ·have ew:(if decide ((S.cr j).a<=day)=true then(1:Int) else 0)=wt aC day (S.cr j):=by
       unfold wt;by_cases c:(S.cr j).a<=day
       ·rw[aZ (aG c),aZ ⟨z',c⟩]
       ·rw[aO (by rw[ba c]; exact aR),aO fun q=>c q.2]
      dsimp only;rw[ew,nX];rw[← Int.sub_sub]; rfl
    ·have z': ¬ (S.cr j).aC=aC:=fun e=>z (aG (by rw[e]));refine .inr ⟨_,rfl,_,_,rfl,rfl,.inr ⟨by decide,by decide⟩,_,_,rfl,rfl,some (.ref q),?_,u2⟩;have ew:wt aC day (S.cr j)=0:=aO fun q=>z' q.1;have EF:=nX
     try dsimp only at EF
     rw[show(S.credits.getD j default)=S.cr j from rfl,ew,Int.mul_zero,Int.add_zero] at EF
     try dsimp only
     rw[EF];simp
   rintro σ HC ⟨aee,rfl,Wc⟩;rw[ae,← lc,aY];have U8:=AS U5 aC day;rw[C6 S.aF aC day (·.c) |> (fun h=>show((ir S.aF aC day).map fun k=>(S.bl k).c).sum=_ from h),C6 S.credits aC day (·.b) |> (fun h=>show((ir S.credits aC day).map fun k=>(S.cr k).b).sum=_ from h)] at U8;have Vn:=aL f2;have Tq:=aL f4;have Rk:(S.dF true aC day).length<=S.aF.length:=sD (S:=S) (aU:=true);have Sn:(S.dF false aC day).length<=S.credits.length:=sD (S:=S) (aU:=false);have hlb:=wf.lb;have X7:=wf.lc;have U9:=Wc _ _ f1;refine⟨_,rfl,_,rfl,pt,_,_,.ref D1,rfl,rfl,bw.of (Wc _ _ ur),cf e1,D1,rfl,⟨_,bw.of U9⟩,?_⟩;refine dU (K:=K) (a:=D1) (xs:=m1) (fun D j σ C9=>HC D=none/\ ∃v,σ=[v]/\aE HC C9/\C9 D=some (.lst ((((S.dF true aC day).take j).map (·.2)).map V.int))) (fun D hD=>⟨hD,none,rfl,aE.new hD,ag⟩) (fun D j σ C9 _ ⟨_,_,_,t3,_⟩=>bw.of (t3 _ _ U9)) ?_ ?_
   ·rintro D j x σ C9 hx ⟨hD,v,rfl,t3,gF⟩;have hj:j < (S.dF true aC day).length:=by have:=(ak.mp hx).1; lia
    obtain⟨v2,Pm,q,rfl,hq⟩:=bB f2 (af hj);rw[hx] at Pm;obtain rfl:x= .ref q:=aD Pm;have kq:=gQ hj;generalize (S.dF true aC day)[j]=y at hq kq;refine⟨_,rfl,q,_,_,.int y.2,rfl,rfl,cz.of (t3 _ _ (Wc _ _ hq)),rfl,_,gF,bf (by rw[ae,ae,bb]; lia),hD,_,rfl,t3.cV hD,?_⟩;rw[ag,kq,aJ,aJ];rfl
   rintro Ds σ HD nDs ⟨_,vD,rfl,tD,Va⟩;rw[← Vn,aY] at Va;refine⟨Ds,_,rfl,bw.of Va,?_⟩;have Wd:=Wc.trans tD;have Vb:=Wd _ _ f3;refine⟨_,rfl,_,rfl,_,rfl,_,_,rfl,rfl,pt,_,_,.ref D2,rfl,rfl,bw.of (Wd _ _ ur),(by rw[Zm]; exact cf e2),D2,rfl,⟨_,bw.of Vb⟩,?_⟩;refine dU (K:=K) (a:=D2) (xs:=m2) (fun D j σ C9=>HD D=none/\ ∃v,σ=[v]/\aE HD C9/\C9 D=some (.lst ((((S.dF false aC day).take j).map (·.2)).map V.int))) (fun D hD=>⟨hD,none,rfl,aE.new hD,ag⟩) (fun D j σ C9 _ ⟨_,_,_,t3,_⟩=>bw.of (t3 _ _ Vb)) ?_ ?_
   ·rintro D j x σ C9 hx ⟨hD,v,rfl,t3,gF⟩;have hj:j < (S.dF false aC day).length:=by have:=(ak.mp hx).1; lia
    obtain⟨v2,Pm,q,rfl,hq⟩:=bB f4 (af hj);rw[hx] at Pm;obtain rfl:x= .ref q:=aD Pm;have kq:=gQ hj;generalize (S.dF false aC day)[j]=y at hq kq;refine⟨_,rfl,q,_,_,.int y.2,rfl,rfl,cz.of (t3 _ _ (Wd _ _ hq)),rfl,_,gF,bf (by rw[ae,ae,bb]; lia),hD,_,rfl,t3.cV hD,?_⟩;rw[ag,kq,aJ,aJ];rfl
   rintro De σ HE nDe ⟨_,vE,rfl,tE,hDe⟩;rw[← Tq,aY] at hDe;refine⟨De,_,rfl,bw.of hDe,_,_,rfl,rfl,_,rfl,rfl,_,rfl,cu (fun z=>?_) (fun _=>?_)⟩
   ·exfalso;rw[Bool.not_eq_true',decide_eq_false_iff_not] at z;exact z (cY V.int U8)
   ·exact⟨_,_,_,_,_,_,_,rfl,Wd.trans tE⟩
  ·rintro σ H' ⟨x7,x8,CF,EB,HZ,A1,CU,rfl,_⟩;exact k H'
section
variable {h:Heap}{x q:Str}{st:Stmt}{f C R:Addr}{oc kV dc pm cd ct:Value}{od an:Option Addr}{sl:Array (Option Value)}
abbrev NW (K:Frag)(f:Addr)(x q:Str)(st:Stmt)(oc:Value)(od an:Option Addr)(kV dc pm cd ct:Value)(sl:Array (Option Value)):Prop:=K.lookup f=some ⟨oc,od,.func (fnOf x q (gI st) (dD st) (ax st) .none kV dc pm an cd ct),sl⟩
def cQ (X:K.In h)(G:h.Ns mainGlobals mg)(a:nsIn K mainGlobals x=some (some (.ref f)))(l:NW K f x x st oc od an kV dc pm cd ct sl)(c:codeIn K cd x=true)(k:keepIn K (.ref f)=true):Df K mg x st:=⟨_,_,pF l c k,cZ X G a⟩
def lP (a:findIn K (.ref C) x=some (some (.ref f)))(i:PySem.W.isFn K (.ref f)=true)(l:NW K f x q st oc od an kV dc pm cd ct sl)(c:codeIn K cd q=true)(k:keepIn K (.ref f)=true): ∃f fd,gp K x q st f fd/\Meth K C x f:=⟨_,_,pF l c k,a,i,k⟩
def FX (a:findIn K (.ref C) "__init__"=some (some (.ref f)))(i:PySem.W.isFn K (.ref f)=true)(l:NW K f "__init__" q st oc od an kV dc pm cd ct sl)(c:codeIn K cd q=true)(k:keepIn K (.ref f)=true)(m:makesIn K C=true)(kc:keepIn K (.ref C)=true): ∃f fd,gp K "__init__" q st f fd/\Mk K C f:=⟨_,_,pF l c k,m,a,i,kc⟩
def tL (a:findIn K (.ref C) "__init__"=some (some (.ref f)))(t:typeIn K (.ref f)=some (.type "function"))(l:NW K f "__init__" q st oc od an kV dc pm cd ct sl)(c:codeIn K cd q=true)(k:keepIn K (.ref f)=true): ∃f fd,gp K "__init__" q st f fd/\findIn K (.ref C) "__init__"=some (some (.ref f))/\typeIn K (.ref f)=some (.type "function"):=⟨_,_,pF l c k,a,t⟩
def QJ (r:readsIn K C (.type "type")=true)(s:specialIn K (.ref C) "__getattribute__"=some (some (.builtin "type.__getattribute__")))(a:findCls K (.ref C) (.type "type") "__init__"=some (.val (.ref f)))(l:NW K f "__init__" q st oc od an kV dc pm cd ct sl)(c:codeIn K cd q=true)(k:keepIn K (.ref f)=true): ∃f fd,gp K "__init__" q st f fd/\Fj K C f:=⟨_,_,pF l c k,r,s,a,k⟩
def tM {nm:Str}{N:Addr}{bs:List Value}{sn:List Str}{sub:List Value}{ab:Bool}{col:Option Bool}{dd:Option Addr}{k0 k1 k2 k3 k5:Option Value}(o:K.lookup C=some (excClassObj nm q C N bs [.ref R,.type "Exception",.type "BaseException",.type "object"] true sn sub ab col dd k0 k1 k2 k3 k5 "Exception.__new__"))
  (a:findIn K (.ref C) "__setattr__"=some (some (.builtin "object.__setattr__"))) (b:findIn K (.ref C) "__getattribute__"=some (some (.builtin "BaseException.__getattribute__"))) (c:findIn K (.ref C) "__getattr__"=some none) (d:findIn K (.ref C) "text"=some none):gW K C R:=⟨⟨_,_,_,_,_,_,_,_,_,_,_,_,_,_,_,o,.inr rfl⟩,a,b,c,d⟩
def QK {nm:Str}{N:Addr}{bs:List Value}{sn:List Str}{sub:List Value}{ab:Bool}{col:Option Bool}{dd:Option Addr}{k0 k1 k2 k3 k5:Option Value}(o:K.lookup C=some (excClassObj nm q C N bs [.type "Exception",.type "BaseException",.type "object"] true sn sub ab col dd k0 k1 k2 k3 k5 "Exception.__new__"))
  (a:findIn K (.ref C) "__setattr__"=some (some (.builtin "object.__setattr__"))) (b:findIn K (.ref C) "__getattribute__"=some (some (.builtin "BaseException.__getattribute__"))) (c:findIn K (.ref C) "__getattr__"=some none) (d:findIn K (.ref C) "text"=some none):gW K C C:=⟨⟨_,_,_,_,_,_,_,_,_,_,_,_,_,_,_,o,.inl ⟨rfl,rfl⟩⟩,a,b,c,d⟩
def NX {c tb:Addr}(X:K.In h)(G:h.Ns mainGlobals mg)(a:nsIn K mainGlobals x=some (some (.ref f)))(l:NW K f x x st oc od an kV dc pm (.ref c) ct sl)(cd:codeIn K (.ref c) x=true)(k:keepIn K (.ref f)=true)(hd:codeHdIn K c tb=true)(n:K.lookup tb=none):qo K mg x st tb/\ ∃c,codeHdIn K c tb=true/\K.lookup tb=none:=⟨⟨f,c,oc,od,kV,dc,pm,an,ct,sl,l,cd,k,cZ X G a,hd⟩,c,hd,n⟩
end
end
def QL {K:Frag}{mg:Str->Option Value}{mi iK fP mj eE ke nU jn kg kh lQ jo nV:Addr}(h1:mg "Refusal"=some (.ref eE))(h2:gW K eE eE)(h3:keepIn K (.ref eE)=true)(h4: ∃f fd,gp K "__init__" "Refusal.__init__" (mem 3 0) f fd/\Fj K eE f)(h5:mg "NoCredit"=some (.ref ke))(h6:gW K ke eE)(h7:keepIn K (.ref ke)=true)(h8: ∃f fd,gp K "__init__" "NoCredit.__init__" (mem 4 0) f fd/\findIn K (.ref ke) "__init__"=some (some (.ref f))/\typeIn K (.ref f)=some (.type "function"))(h9:mg "NoBill"=some (.ref nU))(K5:gW K nU eE)(Xk:keepIn K (.ref nU)=true)(Vs: ∃f fd,gp K "__init__" "NoBill.__init__" (mem 5 0) f fd/\findIn K (.ref nU) "__init__"=some (some (.ref f))/\typeIn K (.ref f)=some (.type "function"))(h13:mg "NotTheirs"=some (.ref jn))(h14:gW K jn eE)(WW:keepIn K (.ref jn)=true)(h16: ∃f fd,gp K "__init__" "NotTheirs.__init__" (mem 6 0) f fd/\findIn K (.ref jn) "__init__"=some (some (.ref f))/\typeIn K (.ref f)=some (.type "function"))(h17:mg "NoAmount"=some (.ref kg))(h18:gW K kg eE)(h19:keepIn K (.ref kg)=true)(h20: ∃f fd,gp K "__init__" "NoAmount.__init__" (mem 7 0) f fd/\findIn K (.ref kg) "__init__"=some (some (.ref f))/\typeIn K (.ref f)=some (.type "function"))(h21:mg "TooEarly"=some (.ref kh))(h22:gW K kh eE)(h23:keepIn K (.ref kh)=true)(XT: ∃f fd,gp K "__init__" "TooEarly.__init__" (mem 8 0) f fd/\findIn K (.ref kh) "__init__"=some (some (.ref f))/\typeIn K (.ref f)=some (.type "function"))(h25:mg "TooMuch"=some (.ref lQ))(h26:gW K lQ eE)(h27:keepIn K (.ref lQ)=true)(h28: ∃f fd,gp K "__init__" "TooMuch.__init__" (mem 9 0) f fd/\findIn K (.ref lQ) "__init__"=some (some (.ref f))/\typeIn K (.ref f)=some (.type "function"))(h29:mg "NoSetting"=some (.ref jo))(h30:gW K jo eE)(h31:keepIn K (.ref jo)=true)(h32: ∃f fd,gp K "__init__" "NoSetting.__init__" (mem 10 0) f fd/\findIn K (.ref jo) "__init__"=some (some (.ref f))/\typeIn K (.ref f)=some (.type "function"))(h33:mg "Needed"=some (.ref nV))(XU:gW K nV eE)(h35:keepIn K (.ref nV)=true)(h36: ∃f fd,gp K "__init__" "Needed.__init__" (mem 11 0) f fd/\findIn K (.ref nV) "__init__"=some (some (.ref f))/\typeIn K (.ref f)=some (.type "function"))(h37:mg "Bill"=some (.ref mi))(h38:wI K mi)(h39:b9 K mi "number")(h40:b9 K mi "who")(h41:b9 K mi "day")(h42:b9 K mi "due")(h43:b9 K mi "amount")(h44: ∃f fd,gp K "__init__" "Bill.__init__" (mem 13 0) f fd/\Mk K mi f)(h45:mg "Credit"=some (.ref iK))(h46:wI K iK)(h47:b9 K iK "number")(h48:b9 K iK "who")(h49:b9 K iK "day")(h50:b9 K iK "amount")(h51:b9 K iK "only")(h52: ∃f fd,gp K "__init__" "Credit.__init__" (mem 14 0) f fd/\Mk K iK f)(h53:mg "Work"=some (.ref fP))(XW:wI K fP)(h55:b9 K fP "bills")(h56:b9 K fP "all_credits")(h57:b9 K fP "lefts")(h58:b9 K fP "frees")(h59:b9 K fP "made")(h60: ∃f fd,gp K "__init__" "Work.__init__" (mem 25 0) f fd/\Mk K fP f)(h61: ∃f fd,gp K "tell_bill" "Work.tell_bill" (mem 25 1) f fd/\Meth K fP "tell_bill" f)(h62: ∃f fd,gp K "tell_payment" "Work.tell_payment" (mem 25 2) f fd/\Meth K fP "tell_payment" f)(h63: ∃f fd,gp K "tell_note" "Work.tell_note" (mem 25 3) f fd/\Meth K fP "tell_note" f)(Dd: ∃f fd,gp K "tell_credit" "Work.tell_credit" (mem 25 4) f fd/\Meth K fP "tell_credit" f)(h65: ∃f fd,gp K "set_by_hand" "Work.set_by_hand" (mem 25 5) f fd/\Meth K fP "set_by_hand" f)(h66: ∃f fd,gp K "sweep" "Work.sweep" (mem 25 6) f fd/\Meth K fP "sweep" f)(h67: ∃f fd,gp K "one_round" "Work.one_round" (mem 25 7) f fd/\Meth K fP "one_round" f)(h68: ∃f fd,gp K "put" "Work.put" (mem 25 8) f fd/\Meth K fP "put" f)(h69: ∃f fd,gp K "credit_at" "Work.credit_at" (mem 25 9) f fd/\Meth K fP "credit_at" f)(h70: ∃f fd,gp K "bill_at" "Work.bill_at" (mem 25 10) f fd/\Meth K fP "bill_at" f)(h71:mg "Book"=some (.ref mj))(h72:wI K mj)(h73:b9 K mj "kept")(h74:b9 K mj "work")(h75: ∃f fd,gp K "__init__" "Book.__init__" (mem 29 0) f fd/\Mk K mj f)(h76: ∃f fd,gp K "do" "Book.do" (mem 29 1) f fd/\Meth K mj "do" f)(h77: ∃f fd,gp K "undo" "Book.undo" (mem 29 2) f fd/\Meth K mj "undo" f)(h78: ∃f fd,gp K "in_force" "Book.in_force" (mem 29 3) f fd/\Meth K mj "in_force" f):jD K mg ⟨mi,iK,fP,mj,eE,ke,nU,jn,kg,kh,lQ,jo,nV⟩:=⟨h1,h2,h3,h4,h5,h6,h7,h8,h9,K5,Xk,Vs,h13,h14,WW,h16,h17,h18,h19,h20,h21,h22,h23,XT,h25,h26,h27,h28,h29,h30,h31,h32,h33,XU,h35,h36,h37,h38,h39,h40,h41,h42,h43,h44,h45,h46,h47,h48,h49,h50,h51,h52,h53,XW,h55,h56,h57,h58,h59,h60,h61,h62,h63,Dd,h65,h66,h67,h68,h69,h70,h71,h72,h73,h74,h75,h76,h77,h78⟩
def all_mk {l:PySem.W.OpenLaw}{w:World}{K:Frag}{h:Heap}{mg:Str->Option Value}{f fa:Addr}{oc kV dc pm cd ct:Value}{od an:Option Addr}{sl:Array (Option Value)}(X:K.In h)(G:h.Ns mainGlobals mg)(hfa:mg "law"=some (.ref fa)){A:d8}(GP:jD K mg A)(hnd:A.i9≠A.tooMuch)(T:Txt K mg)(DB:qo K mg "bills_in_order" (top 17) 249/\ ∃c,codeHdIn K c 249=true/\K.lookup 249=none)(DC:qo K mg "credits_in_order" (top 18) 254/\ ∃c,codeHdIn K c 254=true/\K.lookup 254=none)(a:nsIn K mainGlobals "law"=some (some (.ref f)))(lk:NW K f "law" "law" (top 66) oc od an kV dc pm cd ct sl)(c:codeIn K cd "law"=true)(k:keepIn K (.ref f)=true):
  ∃(fd:FuncData) (cps:List (Addr×Addr)),(∀cp∈cps,cp.2∈[254,249])/\(∀cp∈cps,codeHdIn K cp.1 cp.2=true/\K.lookup cp.2=none)/\(∀(s:Shared) (u:Value),BindsTo s fd ⟨[u],[]⟩ [("_law_script",u)])/\
   ∀base:Heap,K.In base->base.Ns mainGlobals mg->BMain mg base->lW l.prog w K mg base sf 13 fa fd ["_law_script"] (KQ K cps):=by
 have e:=hfa.symm.trans (cZ X G a);cases e;obtain⟨DB,cb,b1,b2⟩:=DB;obtain⟨DC,cc,c1,c2⟩:=DC;refine⟨_,[(cb,249),(cc,254)],fun cp hc=>?_,fun cp hc=>?_,fun s v=> .of_eq rfl,fun base KB _ BM=>Qv (pF (st:=top 66) lk c k) T GP DB DC (by decide) hnd KB BM ⟨cb,by simp⟩ ⟨cc,by simp⟩⟩
 ·simp only[List.mem_cons,List.not_mem_nil,or_false] at hc;rcases hc with rfl|rfl <;> simp
 ·simp only[List.mem_cons,List.not_mem_nil,or_false] at hc;rcases hc with rfl|rfl
  ·exact⟨b1,b2⟩
  ·exact⟨c1,c2⟩
end eJ
open PySem PySem.W PyProof.Rows L2
set_option maxRecDepth 100000 in
set_option maxHeartbeats 0 in
theorem PySem.Challenge.cw_spikebook_k05_whole_nothing_lost_holds : PySem.Challenge.rw_spikebook_k05_whole_nothing_lost.Holds := by
 w_on; o_law; k_head; (case hw=>w_witness2)
 k_fill
 refine L2.JJ (n:=63) (k:=13) (ts:=[254,249]) (x:="_law_script") (sp:=fun K cps=>eJ.KQ K cps) rfl (by decide) rfl ⟨rfl,by decide,by decide⟩ (fun w h Y=>⟨PySem.W.km_in_of Y,PySem.W.km_tabs_of Y⟩) ?F (fun _ cps _ a ns hl hO hS=>⟨a,ns,rfl,hS,hl,hO,fun _=>rfl⟩)
 case F=>
  intro w mg fa h KX G Sf
  refine' eJ.all_mk KX G Sf (eJ.QL (cZ KX G ?q1) (eJ.QK ?q2 ?q3 ?q4 ?q5 ?q6) ?q7 (eJ.QJ ?q8 ?q9 ?q10 ?q11 ?q12 ?q13) (cZ KX G ?q14) (eJ.tM ?q15 ?q16 ?q17 ?q18 ?q19) ?q20 (eJ.tL ?q21 ?q22 ?q23 ?q24 ?q25) (cZ KX G ?q26) (eJ.tM ?q27 ?q28 ?q29 ?q30 ?q31) ?q32 (eJ.tL ?q33 ?q34 ?q35 ?q36 ?q37) (cZ KX G ?q38) (eJ.tM ?q39 ?q40 ?q41 ?q42 ?q43) ?q44 (eJ.tL ?q45 ?q46 ?q47 ?q48 ?q49) (cZ KX G ?q50) (eJ.tM ?q51 ?q52 ?q53 ?q54 ?q55) ?q56 (eJ.tL ?q57 ?q58 ?q59 ?q60 ?q61) (cZ KX G ?q62) (eJ.tM ?q63 ?q64 ?q65 ?q66 ?q67) ?q68 (eJ.tL ?q69 ?q70 ?q71 ?q72 ?q73) (cZ KX G ?q74) (eJ.tM ?q75 ?q76 ?q77 ?q78 ?q79) ?q80 (eJ.tL ?q81 ?q82 ?q83 ?q84 ?q85) (cZ KX G ?q86) (eJ.tM ?q87 ?q88 ?q89 ?q90 ?q91) ?q92 (eJ.tL ?q93 ?q94 ?q95 ?q96 ?q97) (cZ KX G ?q98) (eJ.tM ?q99 ?q100 ?q101 ?q102 ?q103) ?q104 (eJ.tL ?q105 ?q106 ?q107 ?q108 ?q109) (cZ KX G ?q110) ⟨?q111,?q112,?q113,?q114⟩ ?q115 ?q116 ?q117 ?q118 ?q119 (eJ.FX ?q120 ?q121 ?q122 ?q123 ?q124 ?q125 ?q126) (cZ KX G ?q127) ⟨?q128,?q129,?q130,?q131⟩ ?q132 ?q133 ?q134 ?q135 ?q136 (eJ.FX ?q137 ?q138 ?q139 ?q140 ?q141 ?q142 ?q143) (cZ KX G ?q144) ⟨?q145,?q146,?q147,?q148⟩ ?q149 ?q150 ?q151 ?q152 ?q153 (eJ.FX ?q154 ?q155 ?q156 ?q157 ?q158 ?q159 ?q160) (eJ.lP ?q161 ?q162 ?q163 ?q164 ?q165) (eJ.lP ?q166 ?q167 ?q168 ?q169 ?q170) (eJ.lP ?q171 ?q172 ?q173 ?q174 ?q175) (eJ.lP ?q176 ?q177 ?q178 ?q179 ?q180) (eJ.lP ?q181 ?q182 ?q183 ?q184 ?q185) (eJ.lP ?q186 ?q187 ?q188 ?q189 ?q190) (eJ.lP ?q191 ?q192 ?q193 ?q194 ?q195) (eJ.lP ?q196 ?q197 ?q198 ?q199 ?q200) (eJ.lP ?q201 ?q202 ?q203 ?q204 ?q205) (eJ.lP ?q206 ?q207 ?q208 ?q209 ?q210) (cZ KX G ?q211) ⟨?q212,?q213,?q214,?q215⟩ ?q216 ?q217 (eJ.FX ?q218 ?q219 ?q220 ?q221 ?q222 ?q223 ?q224) (eJ.lP ?q225 ?q226 ?q227 ?q228 ?q229) (eJ.lP ?q230 ?q231 ?q232 ?q233 ?q234) (eJ.lP ?q235 ?q236 ?q237 ?q238 ?q239)) ?hnd ⟨eJ.cQ KX G ?q240 ?q241 ?q242 ?q243,eJ.cQ KX G ?q244 ?q245 ?q246 ?q247,eJ.cQ KX G ?q248 ?q249 ?q250 ?q251,eJ.cQ KX G ?q252 ?q253 ?q254 ?q255,eJ.cQ KX G ?q256 ?q257 ?q258 ?q259,eJ.cQ KX G ?q260 ?q261 ?q262 ?q263,eJ.cQ KX G ?q264 ?q265 ?q266 ?q267,eJ.cQ KX G ?q268 ?q269 ?q270 ?q271,eJ.cQ KX G ?q272 ?q273 ?q274 ?q275,eJ.cQ KX G ?q276 ?q277 ?q278 ?q279,eJ.cQ KX G ?q280 ?q281 ?q282 ?q283,eJ.cQ KX G ?q284 ?q285 ?q286 ?q287,eJ.cQ KX G ?q288 ?q289 ?q290 ?q291,eJ.cQ KX G ?q292 ?q293 ?q294 ?q295,eJ.cQ KX G ?q296 ?q297 ?q298 ?q299,eJ.cQ KX G ?q300 ?q301 ?q302 ?q303,eJ.cQ KX G ?q304 ?q305 ?q306 ?q307,eJ.cQ KX G ?q308 ?q309 ?q310 ?q311,eJ.cQ KX G ?q312 ?q313 ?q314 ?q315,eJ.cQ KX G ?q316 ?q317 ?q318 ?q319,eJ.cQ KX G ?q320 ?q321 ?q322 ?q323,eJ.cQ KX G ?q324 ?q325 ?q326 ?q327,eJ.cQ KX G ?q328 ?q329 ?q330 ?q331,eJ.cQ KX G ?q332 ?q333 ?q334 ?q335,eJ.cQ KX G ?q336 ?q337 ?q338 ?q339,eJ.cQ KX G ?q340 ?q341 ?q342 ?q343,eJ.cQ KX G ?q344 ?q345 ?q346 ?q347,eJ.cQ KX G ?q348 ?q349 ?q350 ?q351,eJ.cQ KX G ?q352 ?q353 ?q354 ?q355,eJ.cQ KX G ?q356 ?q357 ?q358 ?q359,eJ.cQ KX G ?q360 ?q361 ?q362 ?q363,eJ.cQ KX G ?q364 ?q365 ?q366 ?q367,eJ.cQ KX G ?q368 ?q369 ?q370 ?q371,eJ.cQ KX G ?q372 ?q373 ?q374 ?q375,eJ.cQ KX G ?q376 ?q377 ?q378 ?q379,eJ.cQ KX G ?q380 ?q381 ?q382 ?q383,eJ.cQ KX G ?q384 ?q385 ?q386 ?q387,eJ.cQ KX G ?q388 ?q389 ?q390 ?q391,eJ.cQ KX G ?q392 ?q393 ?q394 ?q395,eJ.cQ KX G ?q396 ?q397 ?q398 ?q399,eJ.cQ KX G ?q400 ?q401 ?q402 ?q403,eJ.cQ KX G ?q404 ?q405 ?q406 ?q407,eJ.cQ KX G ?q408 ?q409 ?q410 ?q411,eJ.cQ KX G ?q412 ?q413 ?q414 ?q415,eJ.cQ KX G ?q416 ?q417 ?q418 ?q419,eJ.cQ KX G ?q420 ?q421 ?q422 ?q423,bY KX G ?q424,bY KX G ?q425,bY KX G ?q426,bY KX G ?q427,bY KX G ?q428,bY KX G ?q429,bY KX G ?q430,bY KX G ?q431,bY KX G ?q432,bY KX G ?q433,bY KX G ?q434,bY KX G ?q435,bY KX G ?q436,bY KX G ?q437,bY KX G ?q438⟩ (eJ.NX KX G ?q439 ?q440 ?q441 ?q442 ?u1 ?u2) (eJ.NX KX G ?q443 ?q444 ?q445 ?q446 ?u3 ?u4) ?q447 ?q448 ?q449 ?q450
  case q1|q2|q3|q4|q5|q6|q7|q8|q9|q10|q11|q12|q13|q14|q15|q16|q17|q18|q19|q20|q21|q22|q23|q24|q25|q26|q27|q28|q29|q30|q31|q32|q33|q34|q35|q36|q37|q38|q39|q40|q41|q42|q43|q44|q45|q46|q47|q48|q49|q50|q51|q52|q53|q54|q55|q56|q57|q58|q59|q60|q61|q62|q63|q64|q65|q66|q67|q68|q69|q70|q71|q72|q73|q74|q75|q76|q77|q78|q79|q80|q81|q82|q83|q84|q85|q86|q87|q88|q89|q90|q91|q92|q93|q94|q95|q96|q97|q98|q99|q100|q101|q102|q103|q104|q105|q106|q107|q108|q109|q110|q111|q112|q113|q114|q115|q116|q117|q118|q119|q120|q121|q122|q123|q124|q125|q126|q127|q128|q129|q130|q131|q132|q133|q134|q135|q136|q137|q138|q139|q140|q141|q142|q143|q144|q145|q146|q147|q148|q149|q150|q151|q152|q153|q154|q155|q156|q157|q158|q159|q160|q161|q162|q163|q164|q165|q166|q167|q168|q169|q170|q171|q172|q173|q174|q175|q176|q177|q178|q179|q180|q181|q182|q183|q184|q185|q186|q187|q188|q189|q190|q191|q192|q193|q194|q195|q196|q197|q198|q199|q200|q201|q202|q203|q204|q205|q206|q207|q208|q209|q210|q211|q212|q213|q214|q215|q216|q217|q218|q219|q220|q221|q222|q223|q224|q225|q226|q227|q228|q229|q230|q231|q232|q233|q234|q235|q236|q237|q238|q239|q240|q241|q242|q243|q244|q245|q246|q247|q248|q249|q250|q251|q252|q253|q254|q255|q256|q257|q258|q259|q260|q261|q262|q263|q264|q265|q266|q267|q268|q269|q270|q271|q272|q273|q274|q275|q276|q277|q278|q279|q280|q281|q282|q283|q284|q285|q286|q287|q288|q289|q290|q291|q292|q293|q294|q295|q296|q297|q298|q299|q300|q301|q302|q303|q304|q305|q306|q307|q308|q309|q310|q311|q312|q313|q314|q315|q316|q317|q318|q319|q320|q321|q322|q323|q324|q325|q326|q327|q328|q329|q330|q331|q332|q333|q334|q335|q336|q337|q338|q339|q340|q341|q342|q343|q344|q345|q346|q347|q348|q349|q350|q351|q352|q353|q354|q355|q356|q357|q358|q359|q360|q361|q362|q363|q364|q365|q366|q367|q368|q369|q370|q371|q372|q373|q374|q375|q376|q377|q378|q379|q380|q381|q382|q383|q384|q385|q386|q387|q388|q389|q390|q391|q392|q393|q394|q395|q396|q397|q398|q399|q400|q401|q402|q403|q404|q405|q406|q407|q408|q409|q410|q411|q412|q413|q414|q415|q416|q417|q418|q419|q420|q421|q422|q423|q424|q425|q426|q427|q428|q429|q430|q431|q432|q433|q434|q435|q436|q437|q438|q439|q440|q441|q442|q443|q444|q445|q446|q447|q448|q449|q450=>((try unfold eJ.NW); (try unfold L2.b9); k_is)
  (case hnd=>decide)
  (case u1=>kernel_rfl)
  (case u2=>kernel_rfl)
  (case u3=>kernel_rfl)
  (case u4=>kernel_rfl)
