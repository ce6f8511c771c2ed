import PyProof.Rows.All
import Wide.All
import OpenK.AllK
import Wide.FinOn
import Lean
import PyProof.EqAt
import PyProof.EqKinds
import PyProof.TupleCall
import PySem.Str
import PyProof.StationsW
import PyProof.PassesOwn
import PyProof.RulesAs
import PyProof.ExcClass2
import PyProof.InstStore
import PyProof.ExcArgs
import PyProof.ExcClass
import PyProof.InstStoreFacts
import PyProof.ExcBaseAll.Exception
import PyProof.ExcAttrAll.Exception
import PyProof.DictValues
import PyProof.DictWalks
import PySem.Challenge.RW_spikebook_k08_whole_sweeps_leave_nothing
set_option Elab.async false
set_option linter.all false
set_option maxRecDepth 100000
set_option maxHeartbeats 4000000
def ae:=@List.length_map
def af:=@List.getElem?_eq_getElem
def ah:=@List.getElem?_eq_some_iff
def ak:=@List.getD_eq_getElem?_getD
def ao:=@List.mem_singleton
def au:=@List.mem_cons
def ax:=@List.length_append
def ay:=@PySem.Heap.get?_push_of_some
def aB:=@PySem.wpAny_bind
def aC:=@List.getElem?_map
def aD:=@Nat.le_refl
def aG:=@Option.some.inj
def aI:=@List.mem_cons_of_mem
def aK:=@decide_eq_true
def aL:=@List.map_append
def aM:=@PySem.Heap.lt_size
def aN:=@if_neg
def aO:=@PySem.Paired.length
def aS:=@List.mem_cons_self
def aV:=@Nat.le_trans
def aW:=@List.length_filter_le
def aX:=@Bool.false_ne_true
def aY:=@if_pos
def aZ:=@List.take_length
def a6:=@of_decide_eq_true
def a7:=@Nat.ne_of_lt
def a8:=@Option.map_eq_some_iff
def ba:=@List.length_take
def bc:=@List.mem_append
def bo:=@Nat.lt_of_lt_of_le
def bq:=@Nat.zero_le
def bw:=@List.mem_append_right
def bz:=@PySem.wpAny_loadPart_at
def bA:=@List.size_toArray
def bB:=@PySem.PassesOwn.never
def bF:=@PySem.wpAny_pure
def bH:=@List.getElem_mem
def bJ:=@List.mem_map
def bL:=@decide_eq_false
def bO:=@List.length_cons
def bR:=@PySem.Heap.get?_push_size
def bY:=@PySem.W.mg_none_of
def bZ:=@List.append_assoc
def cf:=@List.append_nil
def cg:=@PySem.mem_of_lookup
def ck:=@PySem.wpAny_mono
def cu:=@PySem.Paired.snoc
def cz:=@List.foldl_cons
def cA:=@Int.eq_ofNat_of_zero_le
def cJ:=@Nat.le_of_lt
def cL:=@List.map_cons
def cM:=@Nat.le_succ
def cO:=@List.filter_cons_of_pos
def cU:=@congrArg
def cW:=@Int.toNat_natCast
def cX:=@PySem.wpAny_isSubtype_exc
def cZ:=@List.mem_append_left
def c9:=@PySem.W.mg_of
def dv:=@List.replicate_succ
def dC:=@List.length_range
def dI:=@List.nodup_cons
def dJ:=@List.mem_range
def dR:=@PySem.wpAny_passesOwn
def ee:=@List.mem_filter
def eh:=@PySem.W.kia_one
def ej:=@PySem.W.kia_tup
def en:=@Nat.not_lt_zero
def ez:=@List.mem_of_getElem?
def eP:=@PySem.sizeLine_eq
def eQ:=@PySem.wpAny_Call_Name_kw
def fe:=@List.length_set
def ff:=@List.map_map
def fq:=@List.pairwise_cons
def fS:=@Int.le_refl
def fT:=@List.map_congr_left
def fY:=@PySem.wpAny_truthy_bool
def fZ:=@List.getElem?_append_right
def gg:=@Nat.lt_succ_self
def gj:=@List.filter_append
def gU:=@PyProof.Rows.take_snoc
def g6:=@beq_eq_false_iff_ne
def hV:=@List.length_drop
def iB:=@PySem.wpAny_holding
def iC:=@PySem.wpAny_standAt
def iQ:=@Nat.le_of_eq
def iR:=@List.length_replicate
def iV:=@Nat.lt_irrefl
def iW:=@PySem.Calls.callWith_builtin
def iX:=@List.flatten_cons
def iY:=@Nat.lt_succ_of_lt
def iZ:=@List.filter_congr
def jf:=@List.getElem?_of_mem
def jt:=@PySem.wpAny_execs_nil
def ju:=@List.getElem?_append_left
def jv:=@List.drop_eq_getElem_cons
def jN:=@Int.zero_add
def kz:=@PySem.W.callWith_K
def kA:=@List.filter_cons_of_neg
def kB:=@Int.emod_nonneg
def lz:=@List.getElem?_set_self
def lA:=@PySem.W.cellsFrom_some
def lB:=@List.foldl_append
def l4:=@List.getElem?_eq_none
def l5:=@Int.le_trans
def mP:=@decide_eq_decide
def mW:=@List.getElem?_set_ne
def mX:=@PySem.Heap.get?_update_other
def m8:=@PySem.Heap.get?_push_ne
def oB:=@PySem.Heap.size_push
def oQ:=@PyProof.Rows.callWith_type1
def oR:=@Bool.eq_iff_iff
def oS:=@List.of_mem_zip
def oT:=@Option.map_some
def oU:=@Array.length_toList
def oV:=@Nat.min_eq_left
def pT:=@PySem.Heap.size_update
def qB:=@Nat.ne_of_gt
def qC:=@List.map_nil
def qD:=@Nat.lt_of_le_of_lt
def qE:=@List.filter_filter
def qF:=@Int.emod_lt_of_pos
def qJ:=@List.getElem?_eq_none_iff
def qK:=@Nat.mul_le_mul
def se:=@List.any_eq_false
def sf:=@PySem.W.kitx_list
def sh:=@PySem.W.kitx_dict
def sj:=@List.pairwise_map
def sk:=@Nat.le_succ_of_le
def sm:=@PySem.Heap.SameBut.update
def sq:=@Array.size_setIfInBounds
def ub:=@PySem.wpAny_newFunctionEnv_cells
def uc:=@List.any_cons
def uq:=@PySem.tupleKind_room_in1
def ur:=@List.nodup_range
def wK:=@PyProof.Rows.listUpdate_at
def wM:=@Ne.symm
def wN:=@PySem.W.methodCall_KW
def wO:=@Nat.succ_mul
def wQ:=@List.length_nil
def wR:=@List.range_succ
def xZ:=@Nat.not_lt
def A3:=@List.take_succ
def A9:=@PySem.W.plainGet_of
def Ba:=@PySem.W.callWith_K0
def Bb:=@List.toList_toArray
def Dw:=@PySem.codeAny_mono
def Dx:=@PySem.Heap.get?_update_self
def Dy:=@Bool.true_and
def EM:=@PySem.wpAny_call
def Gd:=@beq_iff_eq
def Ge:=@PySem.Calls.evalArgs_plain
def Gf:=@Option.isSome_map
def Gg:=@List.take_add_one
def Gh:=@Classical.not_not
def Gi:=@PySem.codeAny_call_builtin
def ID:=@Bool.and_eq_true
def IE:=@PySem.Heap.get?_update_ne
def IF:=@PySem.wpAny_field
def IG:=@List.drop_append_of_le_length
def Ly:=@List.nil_append
def Lz:=@Array.getD_eq_getD_getElem?
def LA:=@Array.Perm.refl
def LB:=@PySem.wpAny_newList
def LC:=@List.sum_append
def LD:=@List.filter_map
def LF:=@List.map_id
def NF:=@PyProof.Rows.get?_update_seq
def Ow:=@Bool.false_and
def Ox:=@PySem.plainObj_wpAny_Assign_Attribute
def Oy:=@List.Perm.refl
def Oz:=@List.mem_of_find?_eq_some
def OA:=@PySem.F.excBase_Exception
def OB:=@List.drop_zero
def Ri:=@Option.isSome_iff_exists
def Rj:=@PySem.F.slot_dict_values
open PySem.W (Frag findIn keepIn typeIn fnOf nsIn codeIn codeHdIn mg_of mg_none_of specialIn readsIn findCls makesIn hasDictIn plainGet plainOver)
namespace PySem.W.Fast
def tw9567987829301854895:=0
def tw8230581006843457012:=0
def tw18227799062356370304:=0
def tw14858374632897321975:=0
def tw5490013497287404710:=0
def tw363479250043176761:=0
def tw15756870923459971580:=0
def tw14577110460226252826:=0
def tw4804065119053609745:=0
def tw14642464251809910141:=0
def tw4233866474574556013:=0
def tw9032878829397794003:=0
def tw1159980363716687033:=0
def tw639200928272554444:=0
def tw8572220479460860544:=0
def tw6856505536952537455:=0
def tw2066416011148031945:=0
def tw16832860283370918622:=0
def tw14886203047869760025:=0
def tw10931122604184762955:=0
def tw1236917435635472706:=0
def tw11676170516686157739:=0
def tw16616209447720207014:=0
def tw10569749670898003886:=0
def tw18138841941826146423:=0
def tw8261617326843596411:=0
def tw3941415787221405750:=0
def tw15909880296236735846:=0
def tw10947718832315525348:=0
def tw13633357532258997585:=0
def tw7733591473445688055:=0
def tw3915582705684622950:=0
def tw661284459045563286:=0
def tw2947443691388051396:=0
def tw11144357159307230741:=0
def tw10486940804836628333:=0
def tw17011017117878534287:=0
def tw14694097360771020802:=0
def tw14095013535499798434:=0
def tw7440749085262000113:=0
def tw3302588003080052228:=0
def tw17208679405346425233:=0
def tw15622540550076855561:=0
def tw448536923130276685:=0
def tw3976919220042638307:=0
def tw4825168219599175142:=0
def tw430441341167916773:=0
def tw5227981881199589252:=0
def tw15973968283339267333:=0
def tw9905505434210236223:=0
def tw13272122697593582658:=0
def tw2506242935943604641:=0
def tw1071365266602649851:=0
def tw3069966827149628610:=0
def tw7656254056497612230:=0
def tw1286273230872942431:=0
def tw4754184807659042892:=0
def tw13806656801319554894:=0
def tw248882797572917771:=0
def tw1343577154067944705:=0
def tw2299481084955609416:=0
def tw6594875160832135131:=0
def tw5636023165328450006:=0
def tw15898717312713485142:=0
def tw14285779311214747043:=0
def tw13629872599553807962:=0
def tw4359042010226420624:=0
def tw5501100153117501038:=0
def tw3036580293756805045:=0
def tw14067189716887265268:=0
def tw7200981023327892561:=0
def tw8327486544569140510:=0
def tw6885755510229499345:=0
def tw4814844371221198986:=0
def tw15265864487963115074:=0
def tw9005308118096817639:=0
def tw14226519319453462178:=0
def tw10763129886347267922:=0
def tw9068343791683737706:=0
def tw16721589416764506486:=0
def tw11682640529011131584:=0
def tw12831295314214413680:=0
def tw5848334394533845045:=0
def tw2215109715699980656:=0
def tw10419206261129696117:=0
def tw7274497343539537667:=0
def tw16054945394841856489:=0
def tw8664501872635970799:=0
def tw10601508754395995598:=0
def tw12783478243308330420:=0
def tw2141552182926063645:=0
def tw4236152476831941402:=0
def tw18393409192985145217:=0
def tw17509068983583903590:=0
def tw9141215641139890467:=0
def tw16501207166983517860:=0
def tw5340301114665281664:=0
def tw11350450796548657288:=0
def tw14463431821193851693:=0
def tw7976465651156537049:=0
def tw7542795821791661801:=0
def tw9326006661488456796:=0
def tw699280942646307702:=0
def tw13696878871308963892:=0
def tw720657138602257906:=0
def tw2507335168698417223:=0
def tw864007222917459018:=0
def tw17059929180813353439:=0
def tw10438076805612629220:=0
def tw3990545823143913806:=0
def tw15401361141673831149:=0
def tw10698692475314867950:=0
def tw17345870631291419630:=0
def tw13941699731319743917:=0
def tw1909514251893697338:=0
def tw14985662884764316685:=0
def tw7699156410551638477:=0
def tw11143651240622519931:=0
def tw4522550766548622064:=0
def tw4226331109076463732:=0
def tw1883744913451992337:=0
def tw217461992360934649:=0
def tw4535085029979334795:=0
def tw17081560022122663579:=0
def tw8868999574640064787:=0
def tw2793328905559790985:=0
def tw7766632076707281370:=0
def tw3896622048514318116:=0
def tw8420117093827671828:=0
def tw7738260953333392577:=0
def tw3160430149557653562:=0
def tw10813452049339555762:=0
def tw3771446734224193333:=0
def tw15169010290640253720:=0
def tw5428988335747446288:=0
def tw8534175989323714995:=0
def tw7709019066165065327:=0
def tw1147832546591045606:=0
def tw5360750790946392810:=0
def tw11193002099442115479:=0
def tw13891326698128560840:=0
def tw14256376147967595896:=0
def tw12074432224820699721:=0
def tw5444759767430757638:=0
def tw2698804092487890650:=0
def tw5343980359102840785:=0
def tw18156961493937375967:=0
def tw14112207614565450610:=0
def tw10790077692534407364:=0
def tw10417556864914615827:=0
def tw1162949580595816923:=0
def tw16570025198865076597:=0
def tw12465700685158423053:=0
def tw13268022102869534815:=0
def tw9683373326750348917:=0
def tw1537106925877198813:=0
def tw6339192896986752445:=0
def tw6628833353232220952:=0
def tw6139130815693811324:=0
def tw17828820045686368448:=0
def tw10039690203119021206:=0
def tw16902473982545856919:=0
def tw7056600822449767166:=0
def tw8023226886841373220:=0
def tw3307943246260999251:=0
def tw8509747610586944766:=0
def tw671820194879491136:=0
def tw8212018174297762826:=0
def tw8888353756216988065:=0
def tw13950513427923544139:=0
def tw13960126562498244530:=0
def tw16871783450907611940:=0
def tw10843861824494623798:=0
def tw13226586470360388158:=0
def tw14624933730758005120:=0
def tw13395081968400079432:=0
def tw2063560066288837624:=0
def tw16761163916828993411:=0
def tw16349375631322889714:=0
def tw4986697203646389641:=0
def tw5451700837172217996:=0
def tw17796796195720340091:=0
def tw10411976209096884437:=0
def tw3927718096166528867:=0
def tw9730958809067494217:=0
def tw6811685792627737855:=0
def tw1269285255686535512:=0
def tw12458019305388374646:=0
def tw10933249600182590055:=0
def tw9108409059020820207:=0
def tw16879506299662909578:=0
def tw9236455466576346815:=0
def tw16637884579527662493:=0
def tw6215779935691492548:=0
def tw13964599444937482380:=0
def tw14237142778109654936:=0
def tw5157779297626054006:=0
def tw8166003586983127793:=0
def tw13950670970287670513:=0
def tw17534493483749674186:=0
def tw11581462395629995976:=0
def tw18311870997122401173:=0
def tw18227814151257078349:=0
def tw5717370353550480443:=0
def tw1498852992122265392:=0
def tw3775617286740942710:=0
def tw1882084766782259770:=0
def tw13564709996948221860:=0
def tw1591239086488865153:=0
def tw9328599221646870638:=0
def tw9137200149648004616:=0
def tw2868901048847081643:=0
def tw13337537190038295957:=0
def tw16188905324770910429:=0
def tw2608027153720323488:=0
def tw11066494910938030040:=0
def tw12801583843699516934:=0
def tw1210796048552656998:=0
def tw4888057041179663845:=0
def tw2241647975052550339:=0
def tw16707425417041995370:=0
def tw5785352251141385647:=0
def tw3156449608174172050:=0
def tw3108124943669766030:=0
def tw1828932413087238920:=0
def tw5854939155679097747:=0
def tw9216650069993154539:=0
def tw13955076684123165440:=0
def tw13462318272773138646:=0
def tw6822290783975403536:=0
def tw12833845119546955161:=0
def tw10798930914809326275:=0
def tw4347617157779922350:=0
def tw5447788464104167352:=0
def tw12149211181047258045:=0
def tw7997304654486605877:=0
def tw7687250114609241940:=0
def tw4684704078014869194:=0
def tw7944480914251319359:=0
def tw7653365317393304391:=0
def tw12080396357505901348:=0
def tw2439218755079133183:=0
def tw16877706246910063441:=0
def tw3387286669948004041:=0
def tw2111412277984290027:=0
def tw15570939581682279517:=0
def tw15169667768996841138:=0
def tw5070331844235206069:=0
def tw4142587754450395839:=0
def tw10117544592976729327:=0
def tw14142886237579337778:=0
def tw8042137186667996678:=0
def tw14062905751555171548:=0
def tw9743260715158229926:=0
def tw3067738360491480121:=0
def tw1236457548308207401:=0
def tw3970900607806390562:=0
def tw10969027967755898090:=0
def tw17595215367650830016:=0
def tw14239077139118099443:=0
def tw4635173873906808309:=0
def tw16778036330001713684:=0
def tw2095882142119631414:=0
def tw5371693926900548815:=0
def tw12304902071251131013:=0
def tw4556705110729088085:=0
def tw16361383356450964348:=0
def tw10298208778561934594:=0
def tw3939249043808659295:=0
def tw17254068833642567200:=0
def tw506304375642160378:=0
def tw16708182286689047450:=0
def tw11577926130435351767:=0
def tw2979884786608048232:=0
def tw14178876232538938009:=0
def tw13412339216312837200:=0
def tw15526464731434275247:=0
def tw8249129962946016841:=0
def tw1991993704882997336:=0
def tw6226378169892244804:=0
def tw7843998022698414256:=0
def tw2979470710344734337:=0
def tw14549754869728074254:=0
def tw12954608293005714251:=0
def tw8659968610370369394:=0
def tw11604014597927863305:=0
def tw1296233954493903912:=0
def tw15257464396776627373:=0
def tw7005893161311977225:=0
def tw4150979671139984681:=0
def tw4791223101707133797:=0
def tw5814980887254876253:=0
def tw15160023943650249248:=0
def tw1382038832911567974:=0
def tw1562009491839044263:=0
def tw15247818031495219348:=0
def tw2398860847360690755:=0
def tw14138264146271864262:=0
def tw18317811668026875789:=0
def tw13686035836929370340:=0
def tw11561041704780716823:=0
def tw1496015273413373632:=0
def tw11311797220098616199:=0
def tw9259746731286897589:=0
def tw7155048194121499740:=0
def tw13706141223632455530:=0
def tw13954170226190920437:=0
def tw17444111628327137455:=0
def tw16490625032823664950:=0
def tw7515153866195956935:=0
def tw13666017658580067683:=0
def tw13107649005344223495:=0
def tw1058075512652096029:=0
def tw4466436790076266937:=0
def tw10034445937513023813:=0
def tw8270985447791705861:=0
def tw15921072000765453508:=0
def tw15996545742715496026:=0
def tw1938741773835005268:=0
def tw15099260347544194548:=0
def tw9740356361989392518:=0
def tw715779776176221039:=0
def tw6089189637092577903:=0
def tw1298506763639852575:=0
def tw4321500996651114429:=0
def tw7259869079137721491:=0
def tw14453995431301801530:=0
def tw16418051573339726405:=0
def tw4030061151904954369:=0
def tw8729406155650304011:=0
def tw17402861788130661137:=0
def tw5434321041370069616:=0
def tw15836840879021140384:=0
def tw14017150776810163022:=0
def tw14786315537871038421:=0
def tw2832809342618606418:=0
def tw7190504882926134329:=0
def tw16362194706318443146:=0
def tw7157893339578405596:=0
def tw1621400394011957473:=0
def tw17131164367444038407:=0
def tw15011934257059147909:=0
def tw11951676123426235531:=0
def tw6759577694256988985:=0
def tw11526301386323024851:=0
def tw13723721834701792995:=0
def tw8062949356416607831:=0
def tw6750055448310693990:=0
def tw9870919801349710511:=0
def tw6280399348987178227:=0
def tw14529315504590602104:=0
def tw4367418039164248617:=0
def tw6239004940929735152:=0
def tw1889440591258055833:=0
def tw15177602070910413691:=0
def tw2804456062308604426:=0
def tw13339580071286812713:=0
def tw16598745074512022125:=0
def tw8924675868768778761:=0
def tw1699193254894374356:=0
def tw14298882512885087990:=0
def tw13260482656232293568:=0
def tw13031024420248809735:=0
def tw9520712717779993575:=0
def tw595826560227437658:=0
def tw14481040991927270650:=0
def tw11426384089183907211:=0
def tw17271058038053940095:=0
def tw12904765295605407532:=0
def tw4004605767798749235:=0
def tw14320810343387392350:=0
def tw10302550910411786621:=0
def tw6150070578137790498:=0
def tw2705199477820103512:=0
def tw1105335326235207158:=0
def tw9661674889701737958:=0
def tw5639642980540462705:=0
def tw11324359235521221283:=0
def tw14314163172232658224:=0
def tw7102102941895243625:=0
def tw2857211871019921577:=0
def tw8261641152116491513:=0
def tw12742501100140174688:=0
def tw15096204565852895593:=0
def tw10832218933386844867:=0
def tw5801993291990466821:=0
def tw11779600540107200558:=0
def tw6252673917523716031:=0
def tw8645551759402790060:=0
def tw14423179103541270390:=0
def tw11552812430211769121:=0
def tw10758732748465432331:=0
def tw5926487770734203272:=0
def tw5470796213418668392:=0
def tw7430126522583207223:=0
def tw1774045386295467668:=0
def tw2077866253785573825:=0
def tw305026036815986905:=0
def tw9596698394267448298:=0
def tw7056541766980103763:=0
end PySem.W.Fast
namespace L2
open PySem PySem.Spec PyProof.Rows
abbrev Key:=Sum Int Str
def ya:Key->Value->Bool
 | .inl k,v=>Value.isInt k v
 | .inr x,v=>Value.isStrOf x v
def WY (w:World):Key->Int
 | .inl k=>hashInt k
 | .inr x=>hashStr w x
def fz: ∀{k:Key} {v:Value},ya k v=true->(∃i t,k=Sum.inl i/\v=Value.int i t)∨(∃x t,k=Sum.inr x/\v=Value.str x t)
 | .inl i,v,h=>by
  obtain⟨t,e⟩:=Value.isInt_shape (k:=i) (v:=v) h;exact .inl ⟨i,t,rfl,e⟩
 | .inr x,v,h=>by
  obtain⟨t,e⟩:=Value.isStrOf_shape (x:=x) (v:=v) h;exact .inr ⟨x,t,rfl,e⟩
def Gj (i:Int)(t:Tok):ya (.inl i) (.int i t)=true:=by simp[ya,Value.isInt]
def Gk (x:Str)(t:Tok):ya (.inr x) (.str x t)=true:=by simp[ya,Value.isStrOf]
def OC (a b:Int):decide ((Sum.inl a:Key)=Sum.inl b)=(a == b):=by
 by_cases e:a=b
 ·subst e; simp
 ·have h: ¬ (Sum.inl a:Key)=Sum.inl b:=fun q=>e (Sum.inl.inj q);rw[bL h];exact(g6.mpr e).symm
def OD (a b:Str):decide ((Sum.inr a:Key)=Sum.inr b)=decide (a=b):=by
 by_cases e:a=b
 ·subst e; simp
 ·have h: ¬ (Sum.inr a:Key)=Sum.inr b:=fun q=>e (Sum.inr.inj q);rw[bL h,bL e]
def OE (a:Int)(b:Str):decide ((Sum.inl a:Key)=Sum.inr b)=false:=bL (fun q=>nomatch q)
def OF (a:Str)(b:Int):decide ((Sum.inr a:Key)=Sum.inl b)=false:=bL (fun q=>nomatch q)
def dW (prog:Program)(w:World):PySem.KeyKind prog w Key where
 is:=ya
 hash:=WY w
 inj:=fun v a b ha hb=>by
  rcases fz ha with⟨i,t,rfl,rfl⟩|⟨x,t,rfl,rfl⟩
  ·rcases fz hb with⟨j,u,rfl,e⟩|⟨y,u,rfl,e⟩
   ·injection e with e1 _; rw[e1]
   ·exact nomatch e
  ·rcases fz hb with⟨j,u,rfl,e⟩|⟨y,u,rfl,e⟩
   ·exact nomatch e
   ·injection e with e1 _; rw[e1]
 byValue:=fun k v h=>by
  rcases fz h with⟨i,t,rfl,rfl⟩|⟨x,t,rfl,rfl⟩ <;> rfl
 pyHash:=fun hv h=>by
  rcases fz hv with⟨i,t,rfl,rfl⟩|⟨x,t,rfl,rfl⟩
  ·exact wpAny_pyHash_int h
  ·exact wpAny_pyHash_str h
 eqBool:=fun hu hv h=>by
  rcases fz hu with⟨i,t,rfl,rfl⟩|⟨x,t,rfl,rfl⟩
  ·rcases fz hv with⟨j,u,rfl,rfl⟩|⟨y,u,rfl,rfl⟩
   ·rw[OC] at h; exact wpAny_eqBool_int h
   ·rw[OE] at h; exact SeqAt.EqAt.int_str i t y u _ _ _ _ h
  ·rcases fz hv with⟨j,u,rfl,rfl⟩|⟨y,u,rfl,rfl⟩
   ·rw[OF] at h; exact SeqAt.EqAt.str_int x t j u _ _ _ _ h
   ·rw[OD] at h; exact wpAny_eqBool_str h
 «strs»:=fun k x t v h=>by
  rcases fz h with⟨i,u,rfl,e⟩|⟨y,u,rfl,e⟩
  ·exact nomatch e
  ·injection e with e1 _;subst e1;cases v <;> rfl
def Bc (prog:Program)(w:World)(i:Int)(t:Tok):(dW prog w).is (.inl i) (.int i t)=true:=Gj i t
def Bd (prog:Program)(w:World)(x:Str)(t:Tok):(dW prog w).is (.inr x) (.str x t)=true:=Gk x t
inductive V where
 |eA|bl (b:Bool)|int (i:Int)|str (x:Str)|Gm (b:Array UInt8)|LG (b:UInt64)|ref (a:Addr)|ty (n:String)
 deriving DecidableEq
def RelV:V->Value->Prop
 | .eA,u=>u=Value.none
 | .bl b,u=>u=Value.bool b
 | .int i,u=> ∃t,u=Value.int i t
 | .str x,u=> ∃t,u=Value.str x t
 | .Gm b,u=> ∃t,u=Value.bytes b t
 | .LG b,u=> ∃t,u=Value.float b t
 | .ref a,u=>u=Value.ref a
 | .ty n,u=>u=Value.type n
abbrev Vals:List V->List Value->Prop:=Paired RelV
def Vals.length {xs:List V}{us:List Value}(r:Vals xs us):xs.length=us.length:=aO r
def Vals.get: ∀{xs:List V} {us:List Value} {i:Nat} {x:V},Vals xs us->xs[i]? =some x-> ∃u,us[i]? =some u/\RelV x u
 |_,_,_,_,.nil,e=>by simp at e
 |_,_,0,_,.cons r _,e=>by simp at e; subst e; exact⟨_,rfl,r⟩
 |_,_,i + 1,x,.cons _ t,e=>by
  obtain⟨u,h1,h2⟩:=Vals.get (i:=i) (x:=x) t (by simpa using e);exact⟨u,by simpa using h1,h2⟩
def Vals.set {x:V}{u:Value}(r:RelV x u): ∀{xs:List V} {us:List Value} (i:Nat),Vals xs us->Vals (xs.set i x) (us.set i u)
 |_,_,_,.nil=> .nil
 |_,_,0,.cons _ t=> .cons r t
 |_,_,i + 1,.cons q t=> .cons q (Vals.set r i t)
def Vals.append: ∀{xs ys:List V} {us ws:List Value},Vals xs us->Vals ys ws->Vals (xs ++ ys) (us ++ ws)
 |_,_,_,_,.nil,s=>s
 |_,_,_,_,.cons r t,s=> .cons r (Vals.append t s)
def Vals.take: ∀{xs:List V} {us:List Value} (n:Nat),Vals xs us->Vals (xs.take n) (us.take n)
 |_,_,0,_=> .nil
 |_,_,_ + 1,.nil=> .nil
 |_,_,n + 1,.cons r t=> .cons r (Vals.take n t)
def Vals.drop: ∀{xs:List V} {us:List Value} (n:Nat),Vals xs us->Vals (xs.drop n) (us.drop n)
 |_,_,0,r=>r
 |_,_,_ + 1,.nil=> .nil
 |_,_,n + 1,.cons _ t=>Vals.drop n t
def Vals.none_of: ∀{xs:List V} {us:List Value} {i:Nat},Vals xs us->xs[i]? =none->us[i]? =none:=fun{xs us i} r e=>by
 have h1:=r.length;have h2:xs.length<=i:=qJ.mp e;exact qJ.mpr (by lia)
def lC:Option V->Option Value->Prop
 |some v,some u=>RelV v u
 |none,none=>True
 |_,_=>False
def KV {κ:Type}:List (κ×V)->List (κ×Value)->Prop:=Paired fun(p:κ×V) (q:κ×Value)=>p.1=q.1/\RelV p.2 q.2
def kV:Key->V
 | .inl i=> .int i
 | .inr x=> .str x
inductive HO where
 |lst (xs:List V)
 |tup (xs:List V)
 |dK (bh:List (Key×V))|dT (bh:List (List Key×V))
 |set (S:Int->Bool) (n:Nat)
 |ins (C dx:Addr) (fs:List (Str×V))
 |own (x:Addr)
 |xd (fs:List (Str×V))
 |met (f x:Addr)
 |WZ (lo hi:Int)
 |Dj (o:Obj) (u:HO)
 |mY (ps:Array Value)
 |ext (φ:Heap->Prop)
abbrev Hp:=Addr->Option HO
def upd (H:Hp)(a:Addr)(o:HO):Hp:=fun b=>if b=a then some o else H b
def ag {H:Hp}{a:Addr}{o:HO}:upd H a o a=some o:=by unfold upd; rw[if_pos rfl]
def az {H:Hp}{a b:Addr}{o:HO}(h:b≠a):upd H a o b=H b:=by unfold upd; rw[if_neg h]
def mH {H:Hp}{a b:Addr}{o u:HO}(h:H a=some o)(h':H b=some u)(d:o≠u):a≠b:=by
 intro e; subst e; rw[h] at h'; exact d (aG h')
def aJ {H:Hp}{a b:Addr}{o:HO}(h:H a=some o)(h':H b=none):a≠b:=by
 intro e; subst e; rw[h] at h'; cases h'
section
variable (P:Program)(w:World)
def dE (H:Hp)(h:Heap)(a:Addr):HO->Prop
 | .lst xs=>xs.length<=sizeLine/\ ∃(b0:List Value) (n:Nat),Vals xs b0/\h.get? a=some {cls:= .type "list",data:= .seq b0.toArray n}
 | .tup xs=>xs.length<=sizeLine/\ ∃b0:List Value,Vals xs b0/\IsTup h a b0.toArray
 | .dK bh=>bh.length<=sizeLine/\(a == sysModules)=false/\ ∃vs,KV bh vs/\h.DictOf (dW P w) a vs
 | .dT bh=>bh.length<=sizeLine/\(a == sysModules)=false/\ ∃xs:List (List Key×Addr×Value),
   Paired (fun(p:List Key×V) (q:List Key×Addr×Value)=>p.1=q.1/\H q.2.1=some (.tup (p.1.map kV))/\RelV p.2 q.2.2) bh xs/\
   ∃o es ep,h.get? a=some o/\o.ExactDict/\o.data= .dict es ep/\es.toList=xs.map (entryOfKey (tupleKind (dW P w)))/\(xs.map (·.1)).Nodup
 | .set S n=>h.SetOf (intKind P w) a S n
 | .ins C dx fs=>H dx=some (.own a)/\fs.length<=1000/\dx≠a/\h.get? a=some (PySem.W.instObj C dx)/\
   ∃mA,h.Ns1 dx mA/\(∀f,lC (fs.lookup f) (mA f))/\PySem.Within mA (fs.map (·.1))
 | .own _=> ∃o,h.get? a=some o
 | .xd fs=> ∃mA,h.Ns1 a mA/\ ∀f,lC (fs.lookup f) (mA f)
 | .WZ lo hi=> ∃t u v,h.get? a=some {cls:= .type "range",data:= .fields #[.int lo t,.int hi u,.int 1 v]}
 | .Dj o u=>h.get? a=some o/\dE H h a u
 | .mY ps=>h.get? a=some {cls:= .none,data:= .fields ps}
 | .met f x=>h.get? a=some (PySem.W.methodObj (.ref f) (.ref x))
 | .ext φ=>φ h/\(∃o,h.get? a=some o)/\ ∀h1 h2:Heap,φ h1->(∀o,h1.get? a=some o->h2.get? a=some o)->φ h2
def oW (H:Hp)(h:Heap):Prop:= ∀a o,H a=some o->dE P w H h a o
end
section
variable {P:Program}{w:World}{H H':Hp}{h h':Heap}{a:Addr}{o:HO}
def dE.lt (x:dE P w H h a o):a < h.objs.size:=by
 cases o with
 |lst xs=>obtain⟨_,_,_,_,e⟩:=x; exact aM e
 |tup xs=>obtain⟨_,_,_,p⟩:=x; exact p.lt
 |dK bh=>obtain⟨_,_,_,_,o,_,_,e,_⟩:=x; exact aM e
 |dT bh=>obtain⟨_,_,_,_,o,_,_,e,_⟩:=x; exact aM e
 |set S n=>obtain⟨o,_,_,_,e,_⟩:=x; exact aM e
 |ins C dx fs=>obtain⟨_,_,_,e,_⟩:=x; exact aM e
 |own y=>obtain⟨_,e⟩:=x; exact aM e
 |xd fs=>obtain⟨_,⟨_,_,_,e,_⟩,_⟩:=x; exact aM e
 |WZ lo hi=>obtain⟨_,_,_,e⟩:=x; exact aM e
 |Dj ob u=>obtain⟨e,_⟩:=x; exact aM e
 |mY ps=>exact aM (show h.get? a=some _ from x)
 |met f y=>exact aM (show h.get? a=some _ from x)
 |ext φ=>obtain⟨_,⟨_,e⟩,_⟩:=x; exact aM e
def Paired.gX {α β:Type}{F G:α->β->Prop}: ∀{l₁:List α} {l₂:List β},Paired F l₁ l₂->(∀a b,F a b->G a b)->Paired G l₁ l₂
 |_,_,.nil,_=> .nil
 |_,_,.cons r t,f=> .cons (f _ _ r) (Paired.gX t f)
def dE.ud (x:dE P w H h a o)(k: ∀b u,(b=a∨H b=some (.own a))->h.get? b=some u->h'.get? b=some u)
  (ho: ∀b,H b=some (.own a)->H' b=some (.own a)) (ht: ∀b xs,H b=some (.tup xs)->H' b=some (.tup xs)):dE P w H' h' a o:=by
 induction o with
 |lst xs=>obtain⟨z,b0,n,r,e⟩:=x; exact⟨z,b0,n,r,k _ _ (.inl rfl) e⟩
 |tup xs=>obtain⟨z,b0,r,ob,e,c⟩:=x; exact⟨z,b0,r,ob,k _ _ (.inl rfl) e,c⟩
 |dK bh=>obtain⟨z,y,vs,r,ob,es,ep,e,c⟩:=x; exact⟨z,y,vs,r,ob,es,ep,k _ _ (.inl rfl) e,c⟩
 |dT bh=>
  obtain⟨z,y,xs,r,ob,es,ep,e,c⟩:=x;exact⟨z,y,xs,Paired.gX r fun p q z=>⟨z.1,ht _ _ z.2.1,z.2.2⟩,ob,es,ep,k _ _ (.inl rfl) e,c⟩
 |set S n=>obtain⟨ob,es,ep,t,e,c⟩:=x; exact⟨ob,es,ep,t,k _ _ (.inl rfl) e,c⟩
 |ins C dx fs=>
  obtain⟨d,z,ne,e,mA,⟨od,es,ep,e2,c⟩,r⟩:=x;exact⟨ho _ d,z,ne,k _ _ (.inl rfl) e,mA,⟨od,es,ep,k _ _ (.inr d) e2,c⟩,r⟩
 |own y=>obtain⟨ob,e⟩:=x; exact⟨ob,k _ _ (.inl rfl) e⟩
 |xd fs=>obtain⟨mA,⟨od,es,ep,e,c⟩,r⟩:=x; exact⟨mA,⟨od,es,ep,k _ _ (.inl rfl) e,c⟩,r⟩
 |WZ lo hi=>obtain⟨t,u,v,e⟩:=x; exact⟨t,u,v,k _ _ (.inl rfl) e⟩
 |Dj ob u ih=>obtain⟨e,q⟩:=x; exact⟨k _ _ (.inl rfl) e,ih q⟩
 |mY ps=>
  have e:h.get? a=some {cls:= .none,data:= .fields ps}:=x;show h'.get? a=some {cls:= .none,data:= .fields ps};exact k a _ (.inl rfl) e
 |met f y=>
  have e:h.get? a=some (PySem.W.methodObj (.ref f) (.ref y)):=x;show h'.get? a=some (PySem.W.methodObj (.ref f) (.ref y));exact k a _ (.inl rfl) e
 |ext φ=>obtain⟨p,⟨o,e⟩,st⟩:=x; exact⟨st _ _ p fun o q=>k _ _ (.inl rfl) q,⟨o,k _ _ (.inl rfl) e⟩,st⟩
def oW.lt (x:oW P w H h)(e:H a=some o):a < h.objs.size:=(x a o e).lt
def oW.fresh (x:oW P w H h)(e:h.objs.size<=a):H a=none:=by
 cases q:H a with
 |none=>rfl
 |some u=>exact absurd (bo (x.lt q) e) (iV _)
def oW.kept (x:oW P w H h)(k: ∀b u,h.get? b=some u->h'.get? b=some u):oW P w H h':=fun a o e=>
 (x a o e).ud (fun b u _ q=>k b u q) (fun _ q=>q) fun _ _ q=>q
def oW.laid (x:oW P w H h)(k: ∀b u,h.get? b=some u->h'.get? b=some u)(hp:h.objs.size<=a)(new:dE P w (upd H a o) h' a o):oW P w (upd H a o) h':=fun b u e=>by
 have hn:=x.fresh hp;by_cases hb:b=a
 ·subst hb; rw[ag] at e; cases e; exact new
 ·rw[az hb] at e;exact(x b u e).ud (fun c v _ q=>k c v q) (fun c q=>by rw[az (aJ q hn)]; exact q) fun c xs q=>by rw[az (aJ q hn)]; exact q
end
def Rd (H:Hp)(a:Addr)(u:HO):Prop:=H a=some u∨ ∃o,H a=some (.Dj o u)
def Rd.ok {P:Program}{w:World}{H:Hp}{h:Heap}{a:Addr}{u:HO}(r:Rd H a u)(x:oW P w H h):dE P w H h a u:=by
 rcases r with r|⟨o,r⟩
 ·exact x a u r
 ·obtain⟨_,q⟩:=x a _ r;exact q
def R7:Option HO->Prop
 |some (.lst _)=>True
 |some (.dK _)=>True
 |some (.dT _)=>True
 |some (.set _ _)=>True
 |some (.ins _ _ _)=>True
 |some (.ext _)=>True
 |_=>False
section
variable {P:Program}{w:World}{H:Hp}{h h':Heap}{x e:Addr}{o':HO}
def oW.write (ok:oW P w H h)(mu:R7 (H x))(he:e=x∨H e=some (.own x))(k: ∀b u,b≠e->h.get? b=some u->h'.get? b=some u)(Rk: ∃u,h'.get? e=some u)
  (new:dE P w (upd H x o') h' x o'):oW P w (upd H x o') h':=fun b u q=>by
 have R8: ∀c y,H c=some (.own y)->c≠x:=fun c y r z=>by subst z; rw[r] at mu; exact mu
 have W0: ∀c xs,H c=some (.tup xs)->c≠x:=fun c xs r z=>by subst z; rw[r] at mu; exact mu
 by_cases hb:b=x
 ·subst hb; rw[ag] at q; cases q; exact new
 ·rw[az hb] at q;by_cases OG:b=e
  ·have q':H b=some (.own x):=by
    rcases he with z|z
    ·exact absurd (OG.trans z) hb
    ·rw[OG]; exact z
   rw[q] at q'; cases q';obtain⟨v,hv⟩:=Rk;exact⟨v,by rw[OG]; exact hv⟩
  ·refine(ok b u q).ud (fun c v hc r=>k c v ?_ r) (fun c r=>by rw[az (R8 c b r)]; exact r) fun c xs r=>by rw[az (W0 c xs r)]; exact r
   rcases hc with rfl|hc
   ·exact OG
   ·rintro rfl;rcases he with z|z
    ·exact R8 c b hc z
    ·rw[hc] at z; cases z; exact hb rfl
end
structure Un (fs ex:List Addr)(H H':Hp)(h h':Heap):Prop where
 keep: ∀b o,h.get? b=some o->H b=none->b∉fs->b∉ex->h'.get? b=some o
 slot: ∀b o,h.get? b=some o->H b=none->b∈fs->b∉ex-> ∃sl,h'.get? b=some {o with slots:=sl}
 free: ∀b o,h.get? b=some o->H b=none->b∉ex->H' b=none
 there: ∀b o,h.get? b=some o->b∉ex-> ∃o',h'.get? b=some o'
 qL: ∀b xs,H b=some (.tup xs)->H' b=some (.tup xs)
 pU: ∀b o u,H b=some (.Dj o u)->H' b=some (.Dj o u)
 pV: ∀b ps,H b=some (.mY ps)-> ∃more,H' b=some (.mY (ps ++ more))
section
variable {fs fs' ex ex':List Addr}{H H1 H2:Hp}{h h1 h2 h':Heap}{a x e:Addr}{o:HO}
def Un.any (u:Un fs ex H H1 h h1){b:Addr}{ob:Obj}(q:h.get? b=some ob)(n:H b=none)(hx:b∉ex): ∃sl,h1.get? b=some {ob with slots:=sl}:=by
 by_cases hb:b∈fs
 ·exact u.slot b ob q n hb hx
 ·exact⟨ob.slots,u.keep b ob q n hb hx⟩
def Un.kept (k: ∀b u,h.get? b=some u->h'.get? b=some u):Un fs ex H H h h':=
 ⟨fun b ob q _ _ _=>k b ob q,fun b ob q _ _ _=>⟨ob.slots,k b ob q⟩,fun _ _ _ n _=>n,fun b ob q _=>⟨ob,k b ob q⟩,fun _ _ q=>q,fun _ _ _ q=>q,fun _ ps q=>⟨#[],by rw[q]; simp⟩⟩
def Un.refl:Un fs ex H H h h:=Un.kept fun _ _ q=>q
def Un.laid (k: ∀b u,h.get? b=some u->h'.get? b=some u)(hp:h.objs.size<=a)(hn:H a=none):Un fs ex H (upd H a o) h h' where
 keep:=fun b u q _ _ _=>k b u q
 slot:=fun b u q _ _ _=>⟨u.slots,k b u q⟩
 free:=fun b u q n _=>by rw[az (a7 (bo (aM q) hp))]; exact n
 there:=fun b u q _=>⟨u,k b u q⟩
 qL:=fun b xs q=>by rw[az (aJ q hn)]; exact q
 pU:=fun b u xs q=>by rw[az (aJ q hn)]; exact q
 pV:=fun b ps q=>⟨#[],by rw[az (aJ q hn),q]; simp⟩
def Un.write (mu:R7 (H x))(he:e=x∨H e=some (.own x))(k: ∀b u,b≠e->h.get? b=some u->h'.get? b=some u)(Rk: ∃u,h'.get? e=some u):Un fs ex H (upd H x o) h h':=by
 have hx: ∀b,H b=none->b≠x:=fun b n z=>by subst z; rw[n] at mu; exact mu
 have hb: ∀b,H b=none->b≠e:=fun b n z=>by
  subst z;rcases he with r|r
  ·exact hx b n r
  ·rw[n] at r; cases r
 have hm: ∀b u,H b=some u-> ¬ R7 (some u)->b≠x:=fun b u q nm z=>by subst z; rw[q] at mu; exact nm mu
 refine⟨fun b u q n _ _=>k b u (hb b n) q,fun b u q n _ _=>⟨u.slots,k b u (hb b n) q⟩,fun b u q n _=>by rw[az (hx b n)]; exact n,fun b u q _=>?_,
  fun b xs q=>by rw[az (hm b _ q fun z=>z)]; exact q,fun b u xs q=>by rw[az (hm b _ q fun z=>z)]; exact q,fun b ps q=>⟨#[],by rw[az (hm b _ q fun z=>z),q]; simp⟩⟩
 by_cases OG:b=e
 ·subst OG; exact Rk
 ·exact⟨u,k b u OG q⟩
end
def VT (h:Heap)(H:Hp):List Addr:=(List.range h.objs.size).filter fun a=>(H a).isSome
def wU (h:Heap)(H:Hp):Heap:=PySem.W.hideAll h (VT h H)
def Gn (h:Heap)(H:Hp):(wU h H).objs.size=h.objs.size:=PySem.W.hideAll_size _ _
def IH {h:Heap}{H:Hp}{b:Addr}{o:Obj}(e:h.get? b=some o)(n:H b=none):(wU h H).get? b=some o:=
 PySem.W.hideAll_get _ e fun hm=>by
  have q:(H b).isSome=true:=(ee.mp hm).2;rw[n] at q; simp at q
def LH {h:Heap}{H:Hp}{b:Addr}{o:Obj}(e:(wU h H).get? b=some o):h.get? b=some o/\H b=none:=by
 have e':h.get? b=some o:=PySem.W.of_hideAll (VT h H) e;refine⟨e',?_⟩;cases q:H b with
 |none=>rfl
 |some x=>
  have hm:b∈VT h H:=List.mem_filter.mpr ⟨List.mem_range.mpr (Heap.lt_size e'),by simp[q]⟩;have z:(wU h H).get? b=none:=PySem.W.hideAll_none (VT h H) hm;rw[z] at e; cases e
structure Mod (K:Frag)(mg:Str->Option Value)(base:Heap):Prop where
 LI:K.In base
 glob:base.Ns mainGlobals mg
 blt: ∃mb,base.Ns builtinsNs mb/\ ∀x:Str,x≠"__name__"->mb x=bootBuiltins x
 nolimit:base.NoLimit
structure Cx where
 prog:Program
 w:World
 K:Frag
 mg:Str->Option Value
 base:Heap
 A:Around
 N:List Str
 s₀:Shared
 H₀:Hp
 env:Env
 outer:List Env
 stack:List Env
 ex:List Addr
 fn:Str->Bool
 calm:Bool
 pn:List (Addr×Obj)
 xe:Value->Shared->Prop
def Dz (l:List Env):List Addr:=l.filterMap (·.frame)
abbrev Cx.fs (X:Cx):List Addr:=Dz X.outer
def R9 (sc:Scope)(x:Str):Prop:=sc.names.lookup x=some .local∨sc.names.lookup x=some .cell∨sc.names.lookup x=some .free
def Loc (sc:Scope)(x:Str):Prop:=sc.names.lookup x=some .local∨sc.names.lookup x=some .cell
def Look (env:Env)(h:Heap)(m:Str->Option Value)(x:Str)(u:Value):Prop:=
 (env.kindOf x=some .local/\m x=some u)∨((env.kindOf x=some .cell∨env.kindOf x=some .free)/\ ∃c,env.cells.lookup x=some c/\h.IsCell c (some u))
structure Cx.Ok (X:Cx):Prop where
 mod:Mod X.K X.mg X.base
 kind:X.env.scope.kind= .function
 glob:X.env.globals=mainGlobals
 blt:X.env.builtins=builtinsNs
 above:X.s₀.heap.objs.size<=X.env.locals
 inj: ∀x y c,X.env.cells.lookup x=some c->X.env.cells.lookup y=some c->x=y
 has: ∀x,(X.env.kindOf x=some .cell∨X.env.kindOf x=some .free)-> ∃c,X.env.cells.lookup x=some c
 Le: ∀x c,X.fn x=true->X.env.cells.lookup x=some c->X.s₀.heap.objs.size<=c
 hd:X.calm=true->X.A.handled=none
 frames:X.A.frames=some X.stack
 Iv:X.stack=X.outer∨(X.stack=X.env :: X.outer/\X.env.frame=some X.env.locals)
 LJ: ∀b∈X.ex,b≠X.env.locals/\ ∀x c,X.env.cells.lookup x=some c->c≠b
 bs: ∀b o,X.base.get? b=some o->X.s₀.heap.get? b=some o/\X.H₀ b=none
 Be:X.base.objs.size<=X.s₀.heap.objs.size
 wV: ∀b o,X.base.get? b=some o->b∉X.ex
 wW: ∀b∈X.ex,b∉X.fs
 l6:X.s₀.heap.FunFrames X.base X.outer
 EN: ∀b∈X.fs,X.H₀ b=none
structure Inv (X:Cx)(pins:List (Addr×Obj))(σ:List (Option V))(H:Hp)(s:Shared):Prop where
 ok:X.Ok
 os:s.os=X.s₀.os
 bare:AllBare s.gens
 base:Un X.fs X.ex X.H₀ H X.s₀.heap s.heap
 loc: ∃m,s.heap.Ns X.env.locals m/\ ∀(i:Nat) (x:Str) (v:V),X.N[i]? =some x->σ[i]? =some (some v)->R9 X.env.scope x-> ∃u,RelV v u/\Look X.env s.heap m x u
 cell: ∀x c,X.env.cells.lookup x=some c-> ∃v,s.heap.IsCell c v
 free:H X.env.locals=none
 iU: ∀x c,X.env.cells.lookup x=some c->H c=none
 pin: ∀p∈X.pn ++ pins,s.heap.get? p.1=some p.2/\H p.1=none/\p.1≠X.env.locals/\p.1∉X.fs/\ ∀v,p.2.data≠ .cell v
 cB:oW X.prog X.w H s.heap
 len:σ.length=X.N.length
section
variable {X:Cx}{pins:List (Addr×Obj)}{σ:List (Option V)}{H H':Hp}{s:Shared}{h':Heap}
def Cx.Ok.W6 (ok:X.Ok){b:Addr}{o:Obj}(e:X.base.get? b=some o):b∉X.fs:=fun hb=>by
 have:=(ok.l6.mem hb).1;rw[e] at this; cases this
def Inv.bs (I:Inv X pins σ H s): ∀b o,X.base.get? b=some o->s.heap.get? b=some o/\H b=none:=fun b o e=>
 ⟨I.base.keep b o (I.ok.bs b o e).1 (I.ok.bs b o e).2 (I.ok.W6 e) (I.ok.wV b o e),I.base.free b o (I.ok.bs b o e).1 (I.ok.bs b o e).2 (I.ok.wV b o e)⟩
def Inv.bk (I:Inv X pins σ H s): ∀b o,X.base.get? b=some o->s.heap.get? b=some o:=fun b o e=>(I.bs b o e).1
def Inv.mod (I:Inv X pins σ H s):Mod X.K X.mg X.base:=I.ok.mod
def Inv.gW (I:Inv X pins σ H s):X.K.In s.heap:=I.ok.mod.LI.keeps I.bk
def Inv.nolimit (I:Inv X pins σ H s):s.heap.NoLimit:=I.ok.mod.nolimit.keeps I.bk
def Inv.fr (I:Inv X pins σ H s): ∃m,Fr X.base X.env.locals s.heap m:=
 let⟨m,hn,_⟩:=I.loc
 ⟨m,hn,I.bk,aV I.ok.Be I.ok.above⟩
def Inv.lt (I:Inv X pins σ H s):X.env.locals < s.heap.objs.size:=let⟨_,hn,_⟩:=I.loc; hn.lt
def Inv.sz (I:Inv X pins σ H s):X.s₀.heap.objs.size<=s.heap.objs.size:=aV I.ok.above (cJ I.lt)
def Inv.Gp (I:Inv X pins σ H s){a:Addr}(h:s.heap.objs.size<=a):a∉X.fs:=fun hb=>by
 obtain⟨_,o,ho,_⟩:=I.ok.l6.mem hb;exact absurd (bo (aM ho) (aV I.sz h)) (iV _)
def Inv.NG (I:Inv X pins σ H s): ∀x c,X.env.cells.lookup x=some c->c≠X.env.locals:=fun x c e z=>by
 obtain⟨v,o,ho,hd⟩:=I.cell x c e;obtain⟨m,⟨o',es,ep,LK,Gq,_⟩,_⟩:=I.loc;rw[z,LK] at ho; cases ho; rw[Gq] at hd; cases hd
def Inv.l6 (I:Inv X pins σ H s):s.heap.FunFrames X.base X.outer:=by
 have all: ∀(l:List Env),(∀b∈Dz l,b∈X.fs)->X.s₀.heap.FunFrames X.base l->s.heap.FunFrames X.base l:=by
  intro l
  induction l with
  |nil=>intro _ _; trivial
  |cons env r ih=>
   intro hs hl;obtain⟨hk,⟨L,o,hf,hn,ho,hd⟩,hr⟩:=hl;have hL:L∈X.fs:=hs L (by unfold Dz; rw[List.filterMap_cons,hf]; exact List.mem_cons_self);obtain⟨sl,e⟩:=I.base.slot L o ho (I.ok.EN L hL) hL fun z=>I.ok.wW L z hL;exact⟨hk,⟨L,_,hf,hn,e,hd⟩,ih (fun b hb=>hs b (by unfold Dz; rw[List.filterMap_cons,hf]; exact List.mem_cons_of_mem _ hb)) hr⟩
 exact all X.outer (fun _ hb=>hb) I.ok.l6
def Inv.stack (I:Inv X pins σ H s):s.heap.FunFrames X.base X.stack:=by
 rcases I.ok.Iv with e|⟨e,hf⟩
 ·rw[e]; exact I.l6
 ·rw[e];obtain⟨m,hn,_⟩:=I.loc;refine .cons (by rw[I.ok.kind]; decide) hf hn ?_ I.l6;exact Heap.get?_none_of_le (aV I.ok.Be I.ok.above)
def Inv.uM (I:Inv X pins σ H s): ∀b∈Dz X.stack,b∈X.env.locals :: X.fs:=fun b hb=>by
 rcases I.ok.Iv with e|⟨e,hf⟩
 ·rw[e] at hb; exact aI _ hb
 ·rw[e] at hb;unfold Dz at hb;rw[List.filterMap_cons,hf] at hb;exact hb
def Inv.qM (I:Inv X pins σ H s): ∀b∈Dz X.stack,H b=none:=fun b hb=>by
 rcases au.mp (I.uM b hb) with e|hb
 ·rw[e]; exact I.free
 ·obtain⟨_,o,ho,_⟩:=I.ok.l6.mem hb;exact I.base.free b o ho (I.ok.EN b hb) fun z=>I.ok.wW b z hb
def Inv.step {g':Array GenState}{t':Nat}{d':Drawn}{ch:List Addr}(I:Inv X pins σ H s)
  (Bf: ∀b∈ch,(b∈X.ex∨X.s₀.heap.objs.size<=b)/\b≠X.env.locals/\(∀x c,X.env.cells.lookup x=some c->c≠b)/\ ∀p∈X.pn ++ pins,p.1≠b)
  (keep: ∀b o,b≠X.env.locals->b∉X.fs->b∉ch->s.heap.get? b=some o->H b=none->h'.get? b=some o)
  (slot: ∀b o,b≠X.env.locals->b∈X.fs->b∉ch->s.heap.get? b=some o->H b=none-> ∃sl,h'.get? b=some {o with slots:=sl}) (free: ∀b o,b∉ch->s.heap.get? b=some o->H b=none->H' b=none)
  (there: ∀b o,b∉ch->s.heap.get? b=some o-> ∃o',h'.get? b=some o')
  (qL: ∀b xs,H b=some (.tup xs)->H' b=some (.tup xs)) (pU: ∀b o u,H b=some (.Dj o u)->H' b=some (.Dj o u)) (pV: ∀b ps,H b=some (.mY ps)-> ∃more,H' b=some (.mY (ps ++ more)))
  (ns: ∀m,s.heap.Ns X.env.locals m->h'.Ns X.env.locals m) (cB:oW X.prog X.w H' h') (hg:AllBare g'):
  Inv X pins σ H' {s with heap:=h',gens:=g',drawn:=d',toks:=t'}:=by
 have neL: ∀b o,X.s₀.heap.get? b=some o->b≠X.env.locals:=fun b o e=>a7 (bo (aM e) I.ok.above);have VU: ∀b o,X.s₀.heap.get? b=some o->b∉X.ex->b∉ch:=fun b o e hx hb=>by
  rcases(Bf b hb).1 with z|z
  ·exact hx z
  ·exact absurd (bo (aM e) z) (iV _)
 have cellK: ∀x c,X.env.cells.lookup x=some c-> ∀v,s.heap.IsCell c v->h'.IsCell c v:=fun x c e v ⟨o,ho,hd⟩=>by
  have Sa:c∉ch:=fun z=>(Bf c z).2.2.1 x c e rfl;by_cases hc:c∈X.fs
  ·obtain⟨sl,q⟩:=slot c o (I.NG x c e) hc Sa ho (I.iU x c e);exact⟨_,q,hd⟩
  ·exact⟨o,keep c o (I.NG x c e) hc Sa ho (I.iU x c e),hd⟩
 refine⟨I.ok,I.os,hg,⟨fun b o e n hb hx=>?_,fun b o e n hb hx=>?_,fun b o e n hx=>?_,fun b o e hx=>?_,fun b xs e=>qL b xs (I.base.qL b xs e),fun b o xs e=>pU b o xs (I.base.pU b o xs e),fun b ps e=>?_⟩,?_,fun x c e=>?_,?_,fun x c e=>?_,fun p hp=>?_,cB,I.len⟩
 ·exact keep b o (neL b o e) hb (VU b o e hx) (I.base.keep b o e n hb hx) (I.base.free b o e n hx)
 ·obtain⟨sl,e1⟩:=I.base.slot b o e n hb hx;obtain⟨sl',e2⟩:=slot b _ (neL b o e) hb (VU b o e hx) e1 (I.base.free b o e n hx);exact⟨sl',e2⟩
 ·obtain⟨o',e1⟩:=I.base.there b o e hx;exact free b o' (VU b o e hx) e1 (I.base.free b o e n hx)
 ·obtain⟨o',e1⟩:=I.base.there b o e hx;exact there b o' (VU b o e hx) e1
 ·obtain⟨m1,e1⟩:=I.base.pV b ps e;obtain⟨m2,e2⟩:=pV b _ e1;exact⟨m1 ++ m2,by rw[e2,Array.append_assoc]⟩
 ·obtain⟨m,hn,hl⟩:=I.loc;refine⟨m,ns m hn,fun i x v e1 e2 e3=>?_⟩;obtain⟨u,r,l⟩:=hl i x v e1 e2 e3;refine⟨u,r,?_⟩;rcases l with l|⟨k,c,e,z⟩
  ·exact .inl l
  ·exact .inr ⟨k,c,e,cellK x c e _ z⟩
 ·obtain⟨v,z⟩:=I.cell x c e;exact⟨v,cellK x c e v z⟩
 ·obtain⟨m,⟨o,_,_,ho,_⟩,_⟩:=I.loc;exact free _ o (fun z=>(Bf _ z).2.1 rfl) ho I.free
 ·obtain⟨v,o,ho,hd⟩:=I.cell x c e;exact free c o (fun z=>(Bf c z).2.2.1 x c e rfl) ho (I.iU x c e)
 ·obtain⟨e,n,ne,nf,d⟩:=I.pin p hp;have Sa:p.1∉ch:=fun z=>(Bf p.1 z).2.2.2 p hp rfl;exact⟨keep p.1 p.2 ne nf Sa e n,free p.1 p.2 Sa e n,ne,nf,d⟩
def Inv.un {t':Nat}(I:Inv X pins σ H s)(u:Un X.fs [] H H' s.heap h')(cB:oW X.prog X.w H' h'):Inv X pins σ H' {s with heap:=h',toks:=t'}:=by
 obtain⟨m,⟨o,es,ep,ho,r⟩,_⟩:=id I.loc;obtain⟨sl,hL⟩:=u.any ho I.free (by simp);exact I.step (g':=s.gens) (d':=s.drawn) (ch:=[]) (fun _ z=>nomatch z) (fun b o _ hb _ e n=>u.keep b o e n hb (by simp)) (fun b o _ hb _ e n=>u.slot b o e n hb (by simp)) (fun b o _ e n=>u.free b o e n (by simp)) (fun b o _ e=>u.there b o e (by simp)) u.qL u.pU u.pV (fun m' hm=>by
  obtain⟨o',W7,W8,LK,r'⟩:=hm;rw[ho] at LK; cases LK;exact⟨_,W7,W8,hL,r'⟩) cB I.bare
def Inv.call {g':Array GenState}{t':Nat}{d':Drawn}{ch:List Addr}(I:Inv X pins σ H s)(u:Un (Dz X.stack) ch H H' s.heap h')(cB:oW X.prog X.w H' h')(hg:AllBare g')
  (Bf: ∀b∈ch,(b∈X.ex∨X.s₀.heap.objs.size<=b)/\b≠X.env.locals/\(∀x c,X.env.cells.lookup x=some c->c≠b)/\ ∀p∈X.pn ++ pins,p.1≠b):
  Inv X pins σ H' {s with heap:=h',gens:=g',drawn:=d',toks:=t'}:=by
 obtain⟨m,⟨o,es,ep,ho,r⟩,_⟩:=id I.loc;obtain⟨sl,hL⟩:=u.any ho I.free fun z=>(Bf _ z).2.1 rfl;exact I.step (ch:=ch) Bf (fun b o hL hb hc e n=>u.keep b o e n (fun z=>(au.mp (I.uM b z)).elim hL hb) hc) (fun b o _ _ hc e n=>u.any e n hc) (fun b o hc e n=>u.free b o e n hc) (fun b o hc e=>u.there b o e hc) u.qL u.pU u.pV (fun m' hm=>by
  obtain⟨o',W7,W8,LK,r'⟩:=hm;rw[ho] at LK; cases LK;exact⟨_,W7,W8,hL,r'⟩) cB hg
def Inv.turned {t':Nat}{it:Addr}(I:Inv X pins σ H s)(k: ∀b o,b≠it->s.heap.get? b=some o->h'.get? b=some o)(hn:H it=none)(hL:it≠X.env.locals)
  (h1:it∈X.ex∨X.s₀.heap.objs.size<=it) (h2: ∀x c,X.env.cells.lookup x=some c->c≠it) (h3: ∀p∈X.pn ++ pins,p.1≠it):Inv X pins σ H {s with heap:=h',toks:=t'}:=by
 have Sb: ∀b u,H b=some u->b≠it:=fun b u e z=>by rw[z,hn] at e; cases e
 refine I.step (g':=s.gens) (d':=s.drawn) (ch:=[it]) (fun b hb=>?_) (fun b o _ _ hc e _=>k b o (fun z=>hc (by simp[z])) e) (fun b o _ _ hc e _=>⟨o.slots,k b o (fun z=>hc (by simp[z])) e⟩) (fun _ _ _ _ n=>n)
  (fun b o hc e=>⟨o,k b o (fun z=>hc (by simp[z])) e⟩) (fun _ _ e=>e) (fun _ _ _ e=>e) (fun b ps e=>⟨#[],by rw[e]; simp⟩) (fun m hm=>?_) (fun b u e=>?_) I.bare
 ·have e:b=it:=by simpa using hb
  subst e;exact⟨h1,hL,h2,h3⟩
 ·obtain⟨o,es,ep,ho,r⟩:=hm;exact⟨o,es,ep,k _ o (wM hL) ho,r⟩
 ·refine(I.cB b u e).ud (fun c v hc q=>k c v ?_ q) (fun _ q=>q) fun _ _ q=>q;rcases hc with z|z
  ·rw[z]; exact Sb b u e
  ·exact Sb c _ z
def Inv.tok (I:Inv X pins σ H s)(t:Nat):Inv X pins σ H {s with toks:=t}:=I.un (h':=s.heap) (t':=t) Un.refl I.cB
def Inv.kept {t':Nat}(I:Inv X pins σ H s)(k: ∀b u,s.heap.get? b=some u->h'.get? b=some u):Inv X pins σ H {s with heap:=h',toks:=t'}:=I.un (Un.kept k) (I.cB.kept k)
def Inv.laid {a:Addr}{o:HO}{t':Nat}(I:Inv X pins σ H s)(k: ∀b u,s.heap.get? b=some u->h'.get? b=some u)(hp:s.heap.objs.size<=a)(new:dE X.prog X.w (upd H a o) h' a o):
  Inv X pins σ (upd H a o) {s with heap:=h',toks:=t'}:=I.un (Un.laid k hp (I.cB.fresh hp)) (I.cB.laid k hp new)
def Inv.write {x e:Addr}{o:HO}{t':Nat}(I:Inv X pins σ H s)(mu:R7 (H x))(he:e=x∨H e=some (.own x))(k: ∀b u,b≠e->s.heap.get? b=some u->h'.get? b=some u)(Rk: ∃u,h'.get? e=some u)
  (new:dE X.prog X.w (upd H x o) h' x o):Inv X pins σ (upd H x o) {s with heap:=h',toks:=t'}:=I.un (Un.write mu he k Rk) (I.cB.write mu he k Rk new)
def Inv.uu {Bg:List (Addr×Obj)}(I:Inv X pins σ H s)(h: ∀p∈Bg,s.heap.get? p.1=some p.2/\H p.1=none/\p.1≠X.env.locals/\p.1∉X.fs/\ ∀v,p.2.data≠ .cell v):Inv X Bg σ H s:=
 ⟨I.ok,I.os,I.bare,I.base,I.loc,I.cell,I.free,I.iU,fun p hp=>(bc.mp hp).elim (fun z=>I.pin p (cZ _ z)) (h p),I.cB,I.len⟩
def Bh {N:List Str}(hN:N.Nodup){i j:Nat}{x:Str}(a:N[i]? =some x)(b:N[j]? =some x):i=j:=by
 obtain⟨h1,e1⟩:=ah.mp a;obtain⟨h2,e2⟩:=ah.mp b;exact(List.getElem_inj hN).mp (e1.trans e2.symm)
def yb {M:Model}{A:Around}{E:Value->Shared->Prop}{i:Nat}{x:Str}{v:V}{u:Value}{Q:Unit->Shared->Prop}(I:Inv X pins σ H s)(hN:X.N.Nodup)(hi:X.N[i]? =some x)(hx:Loc X.env.scope x)(r:RelV v u)
  (h: ∀s',Inv X pins (σ.set i (some v)) H s'->(∃a,Heap.SameBut a s.heap s'.heap/\(a=X.env.locals∨X.env.cells.lookup x=some a))->Q () s') (hf:X.fn x=true∨X.env.scope.names.lookup x=some .local:=by first|exact .inl rfl|exact .inr rfl|assumption):wpAny M A (storeName X.env x u) Q E s:=by
 obtain⟨m,hn,hl⟩:=id I.loc;have OH:(X.env.scope.kind == .class || (X.env.scope.kind == .module && X.env.locals != X.env.globals))=false:=by rw[I.ok.kind]; rfl
 have hiσ:i < σ.length:=by rw[I.len]; exact(ah.mp hi).1
 have NG:=I.NG;have tracked: ∀{a:Addr} {h':Heap},(∃o,s.heap.get? a=some o/\H a=none)->Heap.SameBut a s.heap h'->oW X.prog X.w H h':=fun{a h'} ha hs b ob e=>by
  obtain⟨_,_,yc⟩:=ha;refine(I.cB b ob e).ud (fun c w' hc q=>(hs.2 c ?_).trans q) (fun _ q=>q) fun _ _ q=>q;rintro rfl;rcases hc with rfl|hc
  ·rw[yc] at e; cases e
  ·rw[yc] at hc; cases hc
 rcases hx with hk|hk
 ·refine wpAny_storeName_local hk hn (fun h' W9 hs=>?_) OH;obtain⟨oL,_,_,OI,_⟩:=id hn;refine h _ ⟨I.ok,I.os,I.bare,⟨fun b o e n hb hx=>?_,fun b o e n hb hx=>?_,I.base.free,fun b o e hx=>?_,I.base.qL,I.base.pU,I.base.pV⟩,⟨_,W9,fun j y v' e1 e2 e3=>?_⟩,fun y c e=>?_,I.free,I.iU,fun p hp=>?_,tracked ⟨oL,OI,I.free⟩ hs,by simpa using I.len⟩ ⟨_,hs,.inl rfl⟩
  ·exact(hs.2 b (a7 (bo (aM e) I.ok.above))).trans (I.base.keep b o e n hb hx)
  ·obtain⟨sl,e1⟩:=I.base.slot b o e n hb hx;exact⟨sl,(hs.2 b (a7 (bo (aM e) I.ok.above))).trans e1⟩
  ·obtain⟨o',e1⟩:=I.base.there b o e hx;exact⟨o',(hs.2 b (a7 (bo (aM e) I.ok.above))).trans e1⟩
  ·by_cases hj:j=i
   ·subst hj;rw[hi] at e1; cases e1;rw[lz hiσ] at e2;cases e2;exact⟨u,r,.inl ⟨hk,by simp⟩⟩
   ·rw[mW (wM hj)] at e2;obtain⟨u',r',q⟩:=hl j y v' e1 e2 e3;refine⟨u',r',?_⟩;rcases q with⟨k,e⟩|⟨k,c,e,z⟩
    ·refine .inl ⟨k,?_⟩;have:y≠x:=fun e=>hj (Bh hN e1 (e▸hi));simp[this,e]
    ·exact .inr ⟨k,c,e,z.sameBut hs (NG y c e)⟩
  ·obtain⟨w',z⟩:=I.cell y c e;exact⟨w',z.sameBut hs (NG y c e)⟩
  ·obtain⟨e,n,ne,nf,d⟩:=I.pin p hp;exact⟨(hs.2 p.1 ne).trans e,n,ne,nf,d⟩
 ·have LL:X.fn x=true:=by
   rcases hf with z|z
   ·exact z
   ·rw[z] at hk; cases hk
  obtain⟨c,hc⟩:=I.ok.has x (.inl hk);obtain⟨w',z⟩:=I.cell x c hc;refine wpAny_storeName_cell I.ok.kind hk hc z (fun h' Bi hs=>?_);obtain⟨oc,Rl,Xa⟩:=id z;refine h {s with heap:=h'} ⟨I.ok,I.os,I.bare,⟨fun b o e n hb hx=>?_,fun b o e n hb hx=>?_,I.base.free,fun b o e hx=>?_,I.base.qL,I.base.pU,I.base.pV⟩,⟨m,hn.sameBut hs (Ne.symm (NG x c hc)),fun j y v' e1 e2 e3=>?_⟩,fun y c' e=>?_,I.free,I.iU,fun p hp=>?_,tracked ⟨oc,Rl,I.iU x c hc⟩ hs,by simpa using I.len⟩ ⟨c,hs,.inr hc⟩
  ·exact(hs.2 b (a7 (bo (aM e) (I.ok.Le x c LL hc)))).trans (I.base.keep b o e n hb hx)
  ·obtain⟨sl,e1⟩:=I.base.slot b o e n hb hx;exact⟨sl,(hs.2 b (a7 (bo (aM e) (I.ok.Le x c LL hc)))).trans e1⟩
  ·obtain⟨o',e1⟩:=I.base.there b o e hx;exact⟨o',(hs.2 b (a7 (bo (aM e) (I.ok.Le x c LL hc)))).trans e1⟩
  ·by_cases hj:j=i
   ·subst hj;rw[hi] at e1; cases e1;rw[lz hiσ] at e2;cases e2;exact⟨u,r,.inr ⟨.inl hk,c,hc,Bi⟩⟩
   ·rw[mW (wM hj)] at e2;obtain⟨u',r',q⟩:=hl j y v' e1 e2 e3;refine⟨u',r',?_⟩;rcases q with q|⟨k,c',e,z'⟩
    ·exact .inl q
    ·refine .inr ⟨k,c',e,z'.sameBut hs ?_⟩;rintro rfl;exact hj (Bh hN e1 (I.ok.inj _ _ _ e hc▸hi))
  ·by_cases VW:c'=c
   ·subst VW; exact⟨_,Bi⟩
   ·obtain⟨w2,z2⟩:=I.cell y c' e;exact⟨w2,z2.sameBut hs VW⟩
  ·obtain⟨e,n,ne,nf,d⟩:=I.pin p hp;refine⟨(hs.2 p.1 ?_).trans e,n,ne,nf,d⟩;intro q;rw[q,Rl] at e;have q':oc=p.2:=aG e;exact d w' (by rw[← q']; exact Xa)
def uN {M:Model}{A:Around}{E:Value->Shared->Prop}{i:Nat}{x:Str}{v:V}{u:Value}{Q:Unit->Shared->Prop}(I:Inv X pins σ H s)(hN:X.N.Nodup)(hi:X.N[i]? =some x)(hx:Loc X.env.scope x)(r:RelV v u)
  (h: ∀s',Inv X pins (σ.set i (some v)) H s'->Q () s') (hf:X.fn x=true∨X.env.scope.names.lookup x=some .local:=by first|exact .inl rfl|exact .inr rfl|assumption):wpAny M A (storeName X.env x u) Q E s:=
 yb I hN hi hx r (fun s' I' _=>h s' I') hf
def Inv.EO {s':Shared}{ch:List Addr}(I:Inv X pins σ H s)(ho:s'.os=s.os)(u:Un (Dz X.stack) ch H H' s.heap s'.heap)(cB:oW X.prog X.w H' s'.heap)(hg:AllBare s'.gens)
  (Bf: ∀b∈ch,(b∈X.ex∨X.s₀.heap.objs.size<=b)/\b≠X.env.locals/\(∀x c,X.env.cells.lookup x=some c->c≠b)/\ ∀p∈X.pn ++ pins,p.1≠b):Inv X pins σ H' s':=by
 obtain⟨h',g',d',t',o'⟩:=s';have e:o'=s.os:=ho;subst e;exact I.call (g':=g') (t':=t') (d':=d') u cB hg Bf
end
abbrev XK:=Value->Option Addr->Hp->Prop
abbrev St:=List (Option V)
abbrev VK:=V->Hp->Prop
abbrev TE:=St->Hp->VK->Prop
abbrev TT:=St->Hp->(Bool->Hp->Prop)->Prop
abbrev TA:=St->Hp->(List V->Hp->Prop)->Prop
structure Ends where
 nx:St->Hp->Prop
 rt:VK
 bk:St->Hp->Prop:=fun _ _=>False
 ct:St->Hp->Prop:=fun _ _=>False
abbrev TS:=Ends->St->Hp->Prop
def EP (X:Cx)(pins:List (Addr×Obj))(σ:St)(Q:VK)(u:Value)(s':Shared):Prop:= ∃v H',Inv X pins σ H' s'/\RelV v u/\Q v H'
def TP (X:Cx)(pins:List (Addr×Obj))(σ:St)(Q:Bool->Hp->Prop)(b:Bool)(s':Shared):Prop:= ∃H',Inv X pins σ H' s'/\Q b H'
def AP (X:Cx)(pins:List (Addr×Obj))(σ:St)(Q:List V->Hp->Prop)(us:List Value)(s':Shared):Prop:= ∃vs H',Inv X pins σ H' s'/\Vals vs us/\Q vs H'
def SP (X:Cx)(pins:List (Addr×Obj))(D:Ends)(f:Flow)(s':Shared):Prop:=
 match f with
 | .next=> ∃σ' H',Inv X pins σ' H' s'/\D.nx σ' H'
 | .brk=> ∃σ' H',Inv X pins σ' H' s'/\D.bk σ' H'
 | .cont=> ∃σ' H',Inv X pins σ' H' s'/\D.ct σ' H'
 | .ret u=> ∃v σ' H',Inv X pins σ' H' s'/\RelV v u/\D.rt v H'
def PE (X:Cx)(e:Expr)(t:TE):Prop:=
 ∀(pins:List (Addr×Obj)) (s:Shared) (σ:St) (H:Hp) (Q:VK),Inv X pins σ H s->t σ H Q->wpAny (model X.prog X.w) X.A (eval e X.env) (EP X pins σ Q) X.xe s
def PT (X:Cx)(e:Expr)(t:TT):Prop:=
 ∀(pins:List (Addr×Obj)) (s:Shared) (σ:St) (H:Hp) (Q:Bool->Hp->Prop),Inv X pins σ H s->t σ H Q->wpAny (model X.prog X.w) X.A (isTrue e X.env (eval e X.env)) (TP X pins σ Q) X.xe s
def PW (X:Cx)(e:Expr)(t:TT):Prop:=
 ∀(whole:Sem Value) (pins:List (Addr×Obj)) (s:Shared) (σ:St) (H:Hp) (Q:Bool->Hp->Prop),Inv X pins σ H s->t σ H Q->wpAny (model X.prog X.w) X.A (isTrue e X.env whole) (TP X pins σ Q) X.xe s
def PW.pt {X:Cx}{e:Expr}{t:TT}(h:PW X e t):PT X e t:=h _
def PA (X:Cx)(es:List Expr)(t:TA):Prop:=
 ∀(pos:Pos) (pins:List (Addr×Obj)) (s:Shared) (σ:St) (H:Hp) (Q:List V->Hp->Prop),Inv X pins σ H s->t σ H Q->wpAny (model X.prog X.w) X.A (spliced (backTo pos (starEach es X.env))) (AP X pins σ Q) X.xe s
def PS (X:Cx)(st:Stmt)(t:TS):Prop:=
 ∀(pins:List (Addr×Obj)) (s:Shared) (σ:St) (H:Hp) (D:Ends),Inv X pins σ H s->t D σ H->wpAny (model X.prog X.w) X.A (exec st X.env) (SP X pins D) X.xe s
def pj (X:Cx)(st:List Stmt)(t:TS):Prop:=
 ∀(pins:List (Addr×Obj)) (s:Shared) (σ:St) (H:Hp) (D:Ends),Inv X pins σ H s->t D σ H->wpAny (model X.prog X.w) X.A (execs st X.env) (SP X pins D) X.xe s
def dY {α:Type}{t:Sem α}{Q Q':α->Shared->Prop}{M:Model}{A:Around}{E:Value->Shared->Prop}{s:Shared}(h:wpAny M A t Q E s)(hQ: ∀a s,Q a s->Q' a s):wpAny M A t Q' E s:=ck h hQ fun _ _ x=>x
section
variable {X:Cx}
inductive EvV (o:Option (Option V))(k:V->Prop):Prop
 |mk (v:V)(h:o=some (some v))(q:k v):EvV o k
def Sd (i:Nat):TE:=fun σ H Q=>EvV σ[i]? fun v=>Q v H
def tC (v:V):TE:=fun _ H Q=>Q v H
def DA {i:Nat}{x:Str}{pos:Pos}(hN:X.N[i]? =some x)(hv:R9 X.env.scope x)(hd:(x == ("__debug__":Str))=false:=by decide)(rZ:(x == ("__classdict__":Str))=false:=by decide):PE X (.Name x pos) (Sd i):=by
 intro pins s σ H Q I h;obtain⟨v,e,h⟩:=h;obtain⟨m,hn,hl⟩:=I.loc;obtain⟨u,r,l⟩:=hl i x v hN e hv;have fin:EP X pins σ Q u s:=⟨v,H,I,r,h⟩;rcases l with⟨hk,hm⟩|⟨hk,c,hc,mI⟩
 ·exact wpAny_Name (wpAny_loadName_local I.ok.kind hk hn hm fin) hd
 ·rcases hk with hk|hk
  ·exact wpAny_Name (wpAny_loadName_cell I.ok.kind hk hc mI fin) hd
  ·exact wpAny_Name (wpAny_loadName_free I.ok.kind hk hc mI fin rZ) hd
def aj {i j pos}:PE X (.Constant (.int i) j pos) (tC (.int i)):=fun _ _ _ H _ I h=>wpAny_Constant_int ⟨.int i,H,I.tok _,⟨_,rfl⟩,h⟩
def kG {b j pos}:PE X (.Constant (.bool b) j pos) (tC (.bl b)):=fun _ _ _ H _ I h=>Constant_bool ⟨.bl b,H,I,rfl,h⟩
def DD {j pos}:PE X (.Constant .none j pos) (tC .eA):=fun _ _ _ H _ I h=>Constant_none ⟨.eA,H,I,rfl,h⟩
def aR {x j pos}:PE X (.Constant (.str x) j pos) (tC (.str x)):=fun _ _ _ H _ I h=>Calls.Constant_str ⟨.str x,H,I.tok _,⟨_,rfl⟩,h⟩
def Gl (X:Cx)(x:Str):Prop:=X.env.kindOf x=some .globalImplicit
def jF {E:Value->Shared->Prop}{pins:List (Addr×Obj)}{s:Shared}{σ:St}{H:Hp}{x:Str}{u:Value}{pos:Pos}{Q:Value->Shared->Prop}(I:Inv X pins σ H s)(hg:Gl X x)(hm:X.mg x=some u)(h:Q u s)
  (hd:(x == ("__debug__":Str))=false:=by decide):wpAny (model X.prog X.w) X.A (eval (.Name x pos) X.env) Q E s:=
 Calls.Name_function_global I.ok.kind hg (Calls.loadGlobal_global (by rw[I.ok.glob]; exact I.mod.glob.keeps I.bk) hm h) hd
def pW {E:Value->Shared->Prop}{pins:List (Addr×Obj)}{s:Shared}{σ:St}{H:Hp}{x:Str}{u:Value}{pos:Pos}{Q:Value->Shared->Prop}(I:Inv X pins σ H s)(hg:Gl X x)(hm:X.mg x=none)(hv:bootBuiltins x=some u)(h:Q u s)
  (hn:x≠"__name__":=by decide) (hd:(x == ("__debug__":Str))=false:=by decide):wpAny (model X.prog X.w) X.A (eval (.Name x pos) X.env) Q E s:=by
 obtain⟨mb,h1,h2⟩:=I.mod.blt;exact Calls.Name_function_global I.ok.kind hg (Calls.loadGlobal_builtin (by rw[I.ok.glob]; exact I.mod.glob.keeps I.bk) hm (by rw[I.ok.blt]; exact h1.keeps I.bk) ((h2 x hn).trans hv) h) hd
def ER {x:Str}{v:V}{u:Value}{pos:Pos}(hg:Gl X x)(hm:X.mg x=some u)(r:RelV v u)(hd:(x == ("__debug__":Str))=false:=by decide):PE X (.Name x pos) (tC v):=
 fun _ _ _ H _ I h=>jF I hg hm ⟨v,H,I,r,h⟩ hd
def yZ {x:Str}{v:V}{u:Value}{pos:Pos}(hg:Gl X x)(hm:X.mg x=none)(hv:bootBuiltins x=some u)(r:RelV v u)(hn:x≠"__name__":=by decide)(hd:(x == ("__debug__":Str))=false:=by decide):PE X (.Name x pos) (tC v):=
 fun _ _ _ H _ I h=>pW I hg hm hv ⟨v,H,I,r,h⟩ hn hd
variable {a b:Expr}{ta tb:TE}{pos:Pos}
def PC (X:Cx)(op:CmpOp)(a b:Expr)(t:TE):Prop:=
 ∀(pins:List (Addr×Obj)) (s:Shared) (σ:St) (H:Hp) (Q:VK),Inv X pins σ H s->t σ H Q->
  wpAny (model X.prog X.w) X.A (eval a X.env) (fun v s₁=>wpAny (model X.prog X.w) X.A (eval b X.env) (fun u s₂=>wpAny (model X.prog X.w) X.A (compareOp op v u) (EP X pins σ Q) X.xe s₂) X.xe s₁) X.xe s
def Bj (b:Expr){op:CmpOp}(h:op≠ .In)(h2:op≠ .NotIn):behindInMarks op b=false:=by
 have e1:(op == CmpOp.In)=false:=by cases op <;> first|rfl|exact absurd rfl h
 have e2:(op == CmpOp.NotIn)=false:=by cases op <;> first|rfl|exact absurd rfl h2
 cases b <;> simp[behindInMarks,e1,e2]
def Xb (ta:TE):TE:=fun σ H Q=>ta σ H fun x H1=>Q (.bl (decide (x= .eA))) H1
def Se (ta:TE):TE:=fun σ H Q=>ta σ H fun x H1=>Q (.bl (!decide (x= .eA))) H1
def RelV.Bl {x:V}{v:Value}(r:RelV x v):(v == Value.none)=decide (x= .eA):=by
 cases x with
 |eA=>cases r; rfl
 |bl _=>cases r; rfl
 |int _=>obtain⟨t,rfl⟩:=r; rfl
 |str _=>obtain⟨t,rfl⟩:=r; rfl
 |Gm _=>obtain⟨t,rfl⟩:=r; rfl
 |LG _=>obtain⟨t,rfl⟩:=r; rfl
 |ref _=>cases r; rfl
 |ty _=>cases r; rfl
def II {j pos'}(ha:PE X a ta):PC X .Is a (.Constant .none j pos') (Xb ta):=by
 intro pins s σ H Q I h;refine dY (ha pins s σ H _ I h) fun v s1 ⟨x,H1,I1,r1,q1⟩=>?_;exact Constant_none (is_none_gen ⟨.bl _,H1,I1,by rw[r1.Bl]; rfl,q1⟩)
def LM {j pos'}(ha:PE X a ta):PC X .IsNot a (.Constant .none j pos') (Se ta):=by
 intro pins s σ H Q I h;refine dY (ha pins s σ H _ I h) fun v s1 ⟨x,H1,I1,r1,q1⟩=>?_;exact Constant_none (isnot_none_gen ⟨.bl _,H1,I1,by rw[r1.Bl]; rfl,q1⟩)
def tB (t:TE):TT:=fun σ H Q=>t σ H fun x H1=> ∃c,x= .bl c/\Q c H1
def OJ {op:CmpOp}{t:TE}(h:PC X op a b t)(h1:behindInMarks op b=false:=by first|exact Bj _ (by decide) (by decide)|rfl):PE X (.Compare a [op] [b] pos) t:=fun pins s σ H Q I hw=>wpAny_Compare1 (h pins s σ H Q I hw) h1
def y0 {op:CmpOp}{t:TE}(h:PC X op a b t)(h1:behindInMarks op b=false:=by first|exact Bj _ (by decide) (by decide)|rfl):PT X (.Compare a [op] [b] pos) (tB t):=by
 intro pins s σ H Q I hw;refine wpAny_isTrue_Compare1 (dY (h pins s σ H _ I hw) fun v s1 h1=>dY h1 fun u s2 h2=>dY h2 fun c s3 ⟨x,H1,I1,r1,q1⟩=>?_) h1;obtain⟨d,rfl,q⟩:=q1;cases r1;exact fY ⟨H1,I1,q⟩
def fM {e:Expr}{t:TE}(h:PE X e t)(he: ∀whole,isTrue e X.env whole=(do let v ← whole; standAt e.pos; holding [v] (truthy v)):=by intro _; rfl):PT X e (tB t):=by
 intro pins s σ H Q I hw;refine isTrue_plain (dY (h pins s σ H _ I hw) fun v s1 ⟨x,H1,I1,r1,q1⟩=>?_) (he _);obtain⟨d,rfl,q⟩:=q1;cases r1;exact fY ⟨H1,I1,q⟩
variable {tA VX:TT}{rest:List Expr}
def Xc (t u:TT):TT:=fun σ H Q=>t σ H fun c H1=>if c=true then u σ H1 Q else Q false H1
def tOr (t u:TT):TT:=fun σ H Q=>t σ H fun c H1=>if c=true then Q true H1 else u σ H1 Q
def Xd (t:TT):TT:=fun σ H Q=>t σ H fun c H1=>Q (!c) H1
def pw_and1 (ha:PT X a tA):PW X (.BoolOp .And [a] pos) tA:=by
 intro wh pins s σ H Q I h;refine isTrue_and (dY (ha pins s σ H Q I h) fun c s1 e=>?_);cases c with
 |true=>exact isTrue_and_nil e
 |false=>exact e
def pw_or1 (ha:PT X a tA):PW X (.BoolOp .Or [a] pos) tA:=by
 intro wh pins s σ H Q I h;refine isTrue_or (dY (ha pins s σ H Q I h) fun c s1 e=>?_);cases c with
 |false=>exact isTrue_or_nil e
 |true=>exact e
def pw_and (ha:PT X a tA)(hb:PW X (.BoolOp .And (b :: rest) pos) VX):PW X (.BoolOp .And (a :: b :: rest) pos) (Xc tA VX):=by
 intro wh pins s σ H Q I h;refine isTrue_and (dY (ha pins s σ H _ I h) fun c s1 ⟨H1,I1,q1⟩=>?_);cases c with
 |true=>exact hb wh pins s1 σ H1 Q I1 q1
 |false=>exact⟨H1,I1,q1⟩
def pw_or (ha:PT X a tA)(hb:PW X (.BoolOp .Or (b :: rest) pos) VX):PW X (.BoolOp .Or (a :: b :: rest) pos) (tOr tA VX):=by
 intro wh pins s σ H Q I h;refine isTrue_or (dY (ha pins s σ H _ I h) fun c s1 ⟨H1,I1,q1⟩=>?_);cases c with
 |true=>exact⟨H1,I1,q1⟩
 |false=>exact hb wh pins s1 σ H1 Q I1 q1
def jw (ha:PT X a tA):PT X (.UnaryOp .Not a pos) (Xd tA):=by
 intro pins s σ H Q I h;exact isTrue_not (ha pins s σ H (fun c H1=>Q (!c) H1) I h)
def Sf (ta tb:TE):TE:=fun σ H Q=>ta σ H fun x H1=> ∃c,x= .bl c/\if c=true then tb σ H1 Q else Q (.bl false) H1
def Xe (ta tb:TE):TE:=fun σ H Q=>ta σ H fun x H1=> ∃c,x= .bl c/\if c=true then Q (.bl true) H1 else tb σ H1 Q
def Sg (ta:TE):TE:=fun σ H Q=>ta σ H fun x H1=> ∃c,x= .bl c/\Q (.bl (!c)) H1
def pX {op}{t:TE}(h:PE X a t):PE X (.BoolOp op [a] pos) t:=fun pins s σ H Q I hw=>BoolOp_one (h pins s σ H Q I hw)
def su (ha:PE X a ta)(hb:PE X (.BoolOp .And (b :: rest) pos) tb):PE X (.BoolOp .And (a :: b :: rest) pos) (Sf ta tb):=by
 intro pins s σ H Q I h;refine BoolOp_and (dY (ha pins s σ H _ I h) fun v s1 ⟨x,H1,I1,r1,q1⟩=>?_);obtain⟨c,rfl,q1⟩:=q1;cases r1;refine fY ?_;cases c with
 |true=>exact hb pins s1 σ H1 Q I1 q1
 |false=>exact⟨.bl false,H1,I1,rfl,q1⟩
def Sh (ha:PE X a ta)(hb:PE X (.BoolOp .Or (b :: rest) pos) tb):PE X (.BoolOp .Or (a :: b :: rest) pos) (Xe ta tb):=by
 intro pins s σ H Q I h;refine BoolOp_or (dY (ha pins s σ H _ I h) fun v s1 ⟨x,H1,I1,r1,q1⟩=>?_);obtain⟨c,rfl,q1⟩:=q1;cases r1;refine fY ?_;cases c with
 |false=>exact hb pins s1 σ H1 Q I1 q1
 |true=>exact⟨.bl true,H1,I1,rfl,q1⟩
def OK (ha:PE X a ta):PE X (.UnaryOp .Not a pos) (Sg ta):=by
 intro pins s σ H Q I h;refine UnaryOp_ (dY (ha pins s σ H _ I h) fun v s1 ⟨x,H1,I1,r1,q1⟩=>?_);obtain⟨c,rfl,q1⟩:=q1;cases r1;exact not_of (fY ⟨.bl (!c),H1,I1,rfl,q1⟩)
end
def bG (K:Frag)(H:Hp)(a:Addr)(xs:List V):Prop:=
 Rd H a (.lst xs)∨
  ∃(o:Obj) (b0:Array Value) (n:Nat),K.lookup a=some o/\o.cls= .type "list"/\o.dict=none/\o.data= .seq b0 n/\b0.size<=sizeLine/\Vals xs b0.toList
def cE (K:Frag)(H:Hp)(a:Addr)(xs:List V):Prop:=
 Rd H a (.tup xs)∨
  ∃(o:Obj) (b0:Array Value) (n:Nat),K.lookup a=some o/\o.cls= .type "tuple"/\o.data= .seq b0 n/\b0.size<=sizeLine/\Vals xs b0.toList
def Xf:Value->Option V
 | .none=>some .eA
 | .bool b=>some (.bl b)
 | .int i _=>some (.int i)
 | .str x _=>some (.str x)
 | .bytes b _=>some (.Gm b)
 | .float b _=>some (.LG b)
 | .ref a=>some (.ref a)
 | .type n=>some (.ty n)
 |_=>none
def RelV.abs {x:V}{u:Value}(r:RelV x u):Xf u=some x:=by
 cases x with
 |eA=>cases r; rfl
 |bl _=>cases r; rfl
 |int _=>obtain⟨t,rfl⟩:=r; rfl
 |str _=>obtain⟨t,rfl⟩:=r; rfl
 |Gm _=>obtain⟨t,rfl⟩:=r; rfl
 |LG _=>obtain⟨t,rfl⟩:=r; rfl
 |ref _=>cases r; rfl
 |ty _=>cases r; rfl
def RelV.inj {x y:V}{u:Value}(r:RelV x u)(q:RelV y u):x=y:=aG (r.abs.symm.trans q.abs)
def Vals.inj: ∀{xs ys:List V} {us:List Value},Vals xs us->Vals ys us->xs=ys
 |_,_,_,.nil,.nil=>rfl
 |_,_,_,.cons r t,.cons r' t'=>by rw[r.inj r',Vals.inj t t']
section
variable {X:Cx}{pins:List (Addr×Obj)}{σ:St}{H:Hp}{s:Shared}{a:Addr}{xs ys:List V}
def bG.of {K:Frag}(h:H a=some (.lst xs)):bG K H a xs:= .inl (.inl h)
def cE.of {K:Frag}(h:H a=some (.tup xs)):cE K H a xs:= .inl (.inl h)
def Inv.list (I:Inv X pins σ H s)(h:bG X.K H a xs): ∃b0:List Value,Vals xs b0/\PlainL s.heap a b0.toArray/\xs.length<=sizeLine:=by
 rcases h with h|⟨o,b0,n,hk,hc,hd,hs,hz,r⟩
 ·obtain⟨z,b0,n,r,e⟩:=h.ok I.cB;exact⟨b0,r,⟨_,n,e,rfl,rfl,rfl⟩,z⟩
 ·refine⟨b0.toList,r,⟨o,n,I.gW a o hk,hc,hd,by simpa using hs⟩,?_⟩;have e:=r.length;simp only[Array.length_toList] at e;lia
def Inv.tuple (I:Inv X pins σ H s)(h:cE X.K H a xs): ∃b0:List Value,Vals xs b0/\IsTup s.heap a b0.toArray/\xs.length<=sizeLine:=by
 rcases h with h|⟨o,b0,n,hk,hc,hs,hz,r⟩
 ·obtain⟨z,b0,r,p⟩:=h.ok I.cB;exact⟨b0,r,p,z⟩
 ·refine⟨b0.toList,r,⟨o,I.gW a o hk,hc,n,by simpa using hs⟩,?_⟩;have e:=r.length;simp only[Array.length_toList] at e;lia
def Inv.Bm (I:Inv X pins σ H s)(h:bG X.K H a xs)(h':bG X.K H a ys):xs=ys:=by
 obtain⟨b0,r,⟨o,n,e,_,_,d⟩,_⟩:=I.list h;obtain⟨qN,r',⟨o',n',e',_,_,d'⟩,_⟩:=I.list h';rw[e] at e'; cases e';rw[d] at d';injection d' with d1 _;have:b0=qN:=by simpa using congrArg Array.toList d1
 subst this;exact r.inj r'
def Inv.Gr (I:Inv X pins σ H s)(h:cE X.K H a xs)(h':cE X.K H a ys):xs=ys:=by
 obtain⟨b0,r,⟨o,e,_,n,d⟩,_⟩:=I.tuple h;obtain⟨qN,r',⟨o',e',_,n',d'⟩,_⟩:=I.tuple h';rw[e] at e'; cases e';rw[d] at d';injection d' with d1 _;have:b0=qN:=by simpa using congrArg Array.toList d1
 subst this;exact r.inj r'
end
abbrev Cx.uO (X:Cx)(E:Value->Shared->Prop):Cx:={X with xe:=E}
abbrev Cx.DE (X:Cx):Cx:=X.uO fun _ _=>False
def Cx.Ok.uO {X:Cx}(ok:X.Ok)(E:Value->Shared->Prop):(X.uO E).Ok:=
 ⟨ok.mod,ok.kind,ok.glob,ok.blt,ok.above,ok.inj,ok.has,ok.Le,ok.hd,ok.frames,ok.Iv,ok.LJ,ok.bs,ok.Be,ok.wV,ok.wW,ok.l6,ok.EN⟩
def Cx.Ok.m9 {X:Cx}{E:Value->Shared->Prop}(ok:(X.uO E).Ok):X.Ok:=
 ⟨ok.mod,ok.kind,ok.glob,ok.blt,ok.above,ok.inj,ok.has,ok.Le,ok.hd,ok.frames,ok.Iv,ok.LJ,ok.bs,ok.Be,ok.wV,ok.wW,ok.l6,ok.EN⟩
section
variable {X:Cx}{pins:List (Addr×Obj)}{σ:St}{H:Hp}{s:Shared}{E:Value->Shared->Prop}
def Inv.uO (I:Inv X pins σ H s)(E:Value->Shared->Prop):Inv (X.uO E) pins σ H s:=⟨I.ok.uO E,I.os,I.bare,I.base,I.loc,I.cell,I.free,I.iU,I.pin,I.cB,I.len⟩
def Inv.m9 (I:Inv (X.uO E) pins σ H s):Inv X pins σ H s:=⟨I.ok.m9,I.os,I.bare,I.base,I.loc,I.cell,I.free,I.iU,I.pin,I.cB,I.len⟩
def SP.m9 {D:Ends}{f:Flow}{s':Shared}(h:SP (X.uO E) pins D f s'):SP X pins D f s':=by
 cases f with
 |next=>obtain⟨σ',H',I,q⟩:=h; exact⟨σ',H',I.m9,q⟩
 |brk=>obtain⟨σ',H',I,q⟩:=h; exact⟨σ',H',I.m9,q⟩
 |cont=>obtain⟨σ',H',I,q⟩:=h; exact⟨σ',H',I.m9,q⟩
 |ret u=>obtain⟨v,σ',H',I,r,q⟩:=h; exact⟨v,σ',H',I.m9,r,q⟩
def pj.DE {st:List Stmt}{t:TS}(h:pj X.DE st t):pj X st t:=fun pins s σ H D I hw=>
 ck (h pins s σ H D (I.uO _) hw) (fun _ _ q=>q.m9) fun _ _ z=>False.elim z
end
section
variable {X:Cx}{st:Stmt}{rest:List Stmt}{t u:TS}{e:Expr}{te:TE}{pos:Pos}
def Sk:TS:=fun D σ H=>D.nx σ H
def Xg (t u:TS):TS:=fun D σ H=>t {D with nx:=u D} σ H
def bp:pj X [] Sk:=fun _ _ σ H _ I h=>jt ⟨σ,H,I,h⟩
def ai (h1:PS X st t)(h2:pj X rest u):pj X (st :: rest) (Xg t u):=by
 intro pins s σ H D I h;refine wpAny_execs_cons (dY (h1 pins s σ H {D with nx:=u D} I h) fun f s1 q=>?_);cases f with
 |next=>
  obtain⟨σ',H',I',q⟩:=q;exact h2 pins s1 σ' H' D I' q
 |ret v=>exact q
 |brk=>exact q
 |cont=>exact q
def av (h1:PS X st t):pj X [st] t:=by
 intro pins s σ H D I h;refine wpAny_execs_cons (dY (h1 pins s σ H D I h) fun f s1 q=>?_);cases f with
 |next=>exact jt q
 |ret v=>exact q
 |brk=>exact q
 |cont=>exact q
def Inv.quiet {pins:List (Addr×Obj)}{σ:St}{H:Hp}{s:Shared}(I:Inv X pins σ H s):interactive X.env=false:=by simp[interactive,I.ok.kind]
def Sl (te:TE):TS:=fun D σ H=>te σ H fun _ H1=>D.nx σ H1
def bM (he:PE X e te)(hs:swapsWith e none pos.line X.env=pure false:=by rfl):PS X (.Expr e pos) (Sl te):=by
 intro pins s σ H D I h;exact wpAny_Expr_any (dY (he pins s σ H _ I h) fun v s1 ⟨x,H1,I1,r1,q1⟩=>⟨σ,H1,I1,q1⟩) I.quiet hs
def Xh (te:TE):TS:=fun D σ H=>te σ H D.rt
def a9 (he:PE X e te):PS X (.Return (some e) pos) (Xh te):=by
 intro pins s σ H D I h;exact wpAny_Return_some (dY (he pins s σ H _ I h) fun v s1 ⟨x,H1,I1,r1,q1⟩=>⟨x,σ,H1,I1,r1,q1⟩)
def Xi (c:TT)(t u:TS):TS:=fun D σ H=>c σ H fun b H1=>if b=true then t D σ H1 else u D σ H1
def bT {c:Expr}{a b:List Stmt}{tc:TT}(hc:PT X c tc)(ha:pj X a t)(hb:pj X b u):PS X (.If c a b pos) (Xi tc t u):=by
 intro pins s σ H D I h;refine wpAny_If (dY (hc pins s σ H _ I h) fun d s1 ⟨H1,I1,q1⟩=>?_);cases d with
 |true=>exact ha pins s1 σ H1 D I1 q1
 |false=>exact hb pins s1 σ H1 D I1 q1
end
abbrev TG:=V->St->Hp->(St->Hp->Prop)->Prop
abbrev LN:=List V->St->Hp->(St->Hp->Prop)->Prop
def PG (X:Cx)(target:Expr)(t:TG):Prop:=
 ∀(pins:List (Addr×Obj)) (s:Shared) (σ:St) (H:Hp) (v:V) (u:Value) (Q:St->Hp->Prop),Inv X pins σ H s->RelV v u->t v σ H Q->
  wpAny (model X.prog X.w) X.A (assign target X.env u) (fun _ s'=> ∃σ' H',Inv X pins σ' H' s'/\Q σ' H') X.xe s
def IJ (X:Cx)(ts:List Expr)(t:LN):Prop:=
 ∀(pins:List (Addr×Obj)) (s:Shared) (σ:St) (H:Hp) (vs:List V) (us:List Value) (Q:St->Hp->Prop),Inv X pins σ H s->Vals vs us->t vs σ H Q->
  wpAny (model X.prog X.w) X.A (assignInOrder ((assignEach ts X.env).map (·.2)) us) (fun _ s'=> ∃σ' H',Inv X pins σ' H' s'/\Q σ' H') X.xe s
abbrev OL:=V->V->V->Hp->(Hp->Prop)->Prop
def Sm (X:Cx)(t:OL):Prop:=
 ∀(pins:List (Addr×Obj)) (s:Shared) (σ:St) (H:Hp) (o i v:V) (ov iv u:Value) (Q:Hp->Prop),Inv X pins σ H s->RelV o ov->RelV i iv->RelV v u->t o i v H Q->
  wpAny (model X.prog X.w) X.A (setItem ov iv u) (fun _ s'=> ∃H',Inv X pins σ H' s'/\Q H') X.xe s
section
variable {X:Cx}{pos:Pos}
def Bn (i:Nat):TG:=fun v σ H Q=>Q (σ.set i (some v)) H
def eB {i:Nat}{x:Str}(hN:X.N.Nodup)(hi:X.N[i]? =some x)(hx:Loc X.env.scope x)(hf:X.fn x=true∨X.env.scope.names.lookup x=some .local:=by first|exact .inl rfl|exact .inr rfl|assumption):PG X (.Name x pos) (Bn i):=by
 intro pins s σ H v u Q I r h;exact wpAny_assign_Name (uN I hN hi hx r (fun s' I'=>⟨_,H,I',h⟩) hf)
def Xj:LN:=fun vs σ H Q=>vs=[]/\Q σ H
inductive EvC (vs:List V)(k:V->List V->Prop):Prop
 |mk (v:V)(r:List V)(h:vs=v :: r)(q:k v r):EvC vs k
def Sn (t:TG)(u:LN):LN:=fun vs σ H Q=>EvC vs fun v r=>t v σ H fun σ' H'=>u r σ' H' Q
def gq:IJ X [] Xj:=by
 intro pins s σ H vs us Q I r h;obtain⟨e,h⟩:=h;subst e;cases r;exact assignInOrder_nil ⟨σ,H,I,h⟩
def bW {e:Expr}{es:List Expr}{t:TG}{u:LN}(h1:PG X e t)(h2:IJ X es u)
  (hs:(assignEach (e :: es) X.env).map (·.2)=assign e X.env :: (assignEach es X.env).map (·.2):=by rfl):IJ X (e :: es) (Sn t u):=by
 intro pins s σ H vs us Q I r h;obtain⟨v,vr,e1,h⟩:=h;subst e1;cases r with
 |cons r rr=>
  rw[hs];refine assignInOrder_cons (dY (h1 pins s σ H _ _ _ I r h) fun _ s1 ⟨σ1,H1,I1,q1⟩=>?_);exact h2 pins s1 σ1 H1 _ _ Q I1 rr q1
inductive EvT (K:Frag)(H:Hp)(n:Nat)(v:V)(k:List V->Prop):Prop
 |mk (a:Addr)(xs:List V)(h1:v= .ref a)(h2:cE K H a xs)(h3:xs.length=n)(q:k xs):EvT K H n v k
def OM (K:Frag)(n:Nat)(t:LN):TG:=fun v σ H Q=>EvT K H n v fun xs=>t xs σ H Q
def IK {es:List Expr}{k:Nat}{t:LN}{n:Nat}(hc:X.calm=true)(h:IJ X es t)
  (hn:(assignEach es X.env).length=n:=by rfl) (r6:(assignEach es X.env).findIdx? (·.1)=none:=by rfl):PG X (.Tuple es k pos) (OM X.K n t):=by
 intro pins s σ H v u Q I r hw;obtain⟨a,xs,e1,hq,hl,hw⟩:=hw;subst e1;cases r;obtain⟨b0,rv,ht,hz⟩:=I.tuple hq;refine assign_Tuple_tuple (I.ok.hd hc) ht (by simp[hn,← hl,rv.length]) r6 fun h' hx=>?_;have I1:Inv X pins σ H {s with heap:=h'}:=I.kept (t':=s.toks) fun b o e=>hx b o (a7 (aM e)) e;exact h pins _ σ H xs _ Q I1 (by simpa using rv) hw
def Xk (to ti:TE)(t:OL):TG:=fun v σ H Q=>to σ H fun o H1=>ti σ H1 fun i H2=>t o i v H2 fun H3=>Q σ H3
def sx {o i:Expr}{to ti:TE}{t:OL}(ho:PE X o to)(hi:PE X i ti)(hs:Sm X t)
  (ha: ∀v,assign (.Subscript o i pos) X.env v=(do
   let ov ← holding [v] (eval o X.env)
   let iv ← holding [v,ov] (eval i X.env)
   standAt pos
   holding [v,ov,iv] (setItem ov iv v)
   release [v,ov,iv] []):=by intro _; rfl):PG X (.Subscript o i pos) (Xk to ti t):=by
 intro pins s σ H v u Q I r h;rw[ha];refine aB (iB (dY (ho pins s σ H _ I h) fun ov s1 ⟨x,H1,I1,r1,q1⟩=>?_));refine aB (iB (dY (hi pins s1 σ H1 _ I1 q1) fun iv s2 ⟨y,H2,I2,r2,q2⟩=>?_));refine aB (iC (aB (iB (dY (hs pins s2 σ H2 x y v ov iv u _ I2 r1 r2 r q2) fun _ s3 ⟨H3,I3,q3⟩=>?_))));exact wpAny_release ⟨σ,H3,I3,q3⟩
def LO (te:TE)(g:TG):TS:=fun D σ H=>te σ H fun x H1=>g x σ H1 D.nx
def ng {tg e:Expr}{te:TE}{g:TG}(he:PE X e te)(hg:PG X tg g)(hs:swapsWithSole [tg] e pos.line X.env=pure false:=by rfl)(hw:swappedStores [tg] e X.env=pure none:=by rfl)
  (h1:(assignEach [tg] X.env).map (·.2)=[assign tg X.env]:=by rfl):PS X (.Assign [tg] e pos) (LO te g):=by
 intro pins s σ H D I h;refine wpAny_Assign_stores (dY (he pins s σ H _ I h) fun v s1 ⟨x,H1,I1,r1,q1⟩=>?_) hs hw;rw[h1];exact dY (hg pins s1 σ H1 x v _ I1 r1 q1) fun _ s2 q=>q
def ON {i:Nat}{x:Str}{e:Expr}{te:TE}{pos':Pos}(hN:X.N.Nodup)(hi:X.N[i]? =some x)(hx:Loc X.env.scope x)(he:PE X e te)(hs:swapsWith e (some (.Name x pos')) pos.line X.env=pure false:=by rfl)(hf:X.fn x=true∨X.env.scope.names.lookup x=some .local:=by first|exact .inl rfl|exact .inr rfl|assumption):
  PS X (.Assign [.Name x pos'] e pos) (LO te (Bn i)):=by
 intro pins s σ H D I h;refine wpAny_Assign_Name (dY (he pins s σ H _ I h) fun v s1 ⟨y,H1,I1,r1,q1⟩=>?_) hs;exact uN I1 hN hi hx r1 (fun s2 I2=>⟨_,H1,I2,q1⟩) hf
def OO (c:TT)(tb:TS):TS:=fun D σ H=> ∃W:Nat->St->Hp->Prop,(∃m,W m σ H)/\ ∀m σ H,W m σ H->
 c σ H fun b H1=>if b=true then ∃N:St->Hp->Prop,(∀σ' H',N σ' H'-> ∃m',m' < m/\W m' σ' H')/\tb {D with nx:=N,ct:=N,bk:=D.nx} σ H1 else D.nx σ H1
def IL {c:Expr}{body:List Stmt}{tc:TT}{tb:TS}(hp:PassesOwn (model X.prog X.w) X.A X.env X.xe)(hc:PT X c tc)(hb:pj X body tb):PS X (.While c body [] pos) (OO tc tb):=by
 intro pins s σ H D I h;obtain⟨W,⟨m0,w0⟩,turn⟩:=h;refine wpAny_While (codeAny_whileLoop (fun n s'=> ∃σ' H',Inv X pins σ' H' s'/\W n σ' H') ?_ m0 ⟨σ,H,I,w0⟩);rintro n s1 ⟨σ1,H1,I1,w1⟩;refine dR hp (dY (hc pins s1 σ1 H1 _ I1 (turn n σ1 H1 w1)) fun b s2 ⟨H2,I2,q2⟩=>?_);cases b with
 |true=>
  obtain⟨N,hN,q2⟩:=q2;rw[aY rfl];refine dR hp (dY (hb pins s2 σ1 H2 _ I2 q2) fun f s3 q3=>?_);cases f with
  |next=>
   obtain⟨σ3,H3,I3,n3⟩:=q3;obtain⟨m',hm,w3⟩:=hN σ3 H3 n3;exact⟨m',hm,σ3,H3,I3,w3⟩
  |cont=>
   obtain⟨σ3,H3,I3,n3⟩:=q3;obtain⟨m',hm,w3⟩:=hN σ3 H3 n3;exact⟨m',hm,σ3,H3,I3,w3⟩
  |brk=>exact q3
  |ret v=>exact q3
 |false=>
  rw[aN aX];exact jt ⟨σ1,H2,I2,q2⟩
end
structure It where
 go:Nat->Hp->Prop
 Rm:Nat->Hp->V->Hp->Prop
 stop:Nat->Hp->Prop
def uP (X:Cx)(pins:List (Addr×Obj))(H:Hp)(b:Addr):Prop:=
 H b=none/\b≠X.env.locals/\b∉X.fs/\(b∈X.ex∨X.s₀.heap.objs.size<=b)/\(∀x c,X.env.cells.lookup x=some c->c≠b)/\ ∀p∈X.pn ++ pins,p.1≠b
def Inv.Gs {X:Cx}{pins:List (Addr×Obj)}{σ:St}{H H':Hp}{s:Shared}{b:Addr}(I:Inv X pins σ H s)(hb:s.heap.objs.size<=b)(hn:H' b=none):uP X pins H' b:=by
 refine⟨hn,qB (bo I.lt hb),I.Gp hb,.inr (aV I.sz hb),fun x c e z=>?_,fun p hp z=>?_⟩
 ·obtain⟨v,q⟩:=I.cell x c e;exact absurd (bo q.lt (by rw[z]; exact hb)) (iV _)
 ·exact absurd (bo (aM (I.pin p hp).1) (by rw[z]; exact hb)) (iV _)
structure Turn (P:Program)(w:World)(K:Frag)(tg:Expr)(J:It)(fp:List Addr)(it:Addr)(tn:Nat->Heap->Prop):Prop where
 mem:it∈fp
 obj: ∀i h,tn i h-> ∀b∈fp,∃o,h.get? b=some o/\ ∀v,o.data≠ .cell v
 keep: ∀i h h',tn i h->(∀b∈fp,∀o,h.get? b=some o->h'.get? b=some o)->tn i h'
 item: ∀(X:Cx),X.prog=P->X.w=w->X.K=K->X.calm=true-> ∀(i:Nat) (pins:List (Addr×Obj)) (s:Shared) (σ:St) (H:Hp) (E:Value->Shared->Prop),Inv X pins σ H s->(∀b∈fp,uP X pins H b)->tn i s.heap->J.go i H->
  wpAny (model P w) X.A (pyNext (.ref it)) (fun r s1=> ∃u,r=some u/\
   wpAny (model P w) X.A (letOwnedTupleGo tg (.ref it) u) (fun _ s2=> ∃x H',Inv X pins σ H' s2/\RelV x u/\J.Rm i H x H'/\tn (i + 1) s2.heap/\ ∀b∈fp,H' b=none) E s1) E s
 done: ∀(X:Cx),X.prog=P->X.w=w->X.K=K->X.calm=true-> ∀(i:Nat) (pins:List (Addr×Obj)) (s:Shared) (σ:St) (H:Hp) (E:Value->Shared->Prop),Inv X pins σ H s->(∀b∈fp,uP X pins H b)->tn i s.heap->J.stop i H->
  wpAny (model P w) X.A (pyNext (.ref it)) (fun r s1=>r=none/\Inv X pins σ H s1) E s
 self: ∀(A:Around) (i:Nat) (s:Shared) (Q:Value->Shared->Prop) (E:Value->Shared->Prop),tn i s.heap->Q (.ref it) s->wpAny (model P w) A (pyIter (.ref it)) Q E s
abbrev TI:=St->Hp->(It->Hp->Prop)->Prop
def PIE (X:Cx)(pins:List (Addr×Obj))(σ:St)(tg:Expr)(R:It->Hp->Prop)(VY:Value)(s2:Shared):Prop:=
 ∃(it:Addr) (fp:List Addr) (tn:Nat->Heap->Prop) (J:It) (H':Hp),VY= .ref it/\Inv X pins σ H' s2/\Turn X.prog X.w X.K tg J fp it tn/\tn 0 s2.heap/\(∀b∈fp,uP X pins H' b)/\R J H'
def PI (X:Cx)(tg iter:Expr)(wi:TI):Prop:=
 ∀(pins:List (Addr×Obj)) (s:Shared) (σ:St) (H:Hp) (R:It->Hp->Prop),Inv X pins σ H s->wi σ H R->
  wpAny (model X.prog X.w) X.A (eval iter X.env) (fun v s1=>wpAny (model X.prog X.w) X.A (pyIter v) (PIE X pins σ tg R) X.xe s1) X.xe s
def ES {M:Model}{A:Around}{E:Value->Shared->Prop}{s:Shared}{tg:Expr}{it:Addr}{u:Value}{o:Obj}{n:String}{vs:Array Value}{Q:Unit->Shared->Prop}(ho:s.heap.get? it=some o)(hc:o.cls= .type n)(hd:o.data= .fields vs)
  (hn:["enumerate","zip","dict_itemiterator","dict_reverseitemiterator","odict_iterator","itertools.zip_longest","itertools.pairwise"].contains n=false) (hQ:Q () s):wpAny M A (letOwnedTupleGo tg (.ref it) u) Q E s:=by
 unfold letOwnedTupleGo;cases tg <;> first
  |exact bF hQ
  |(cases u <;> first
    |exact bF hQ
    |(refine aB (wpAny_load ho ?_)
      rw[hc,hd];show wpAny M A (if(["enumerate","zip","dict_itemiterator","dict_reverseitemiterator","odict_iterator","itertools.zip_longest","itertools.pairwise"].contains n && vs[0]? == some (rawInt _))=true then _ else _) Q E s;rw[aN (by intro h; rw[hn,Ow] at h; cases h)];exact bF hQ))
def Rn (K:Frag)(a:Addr):It:=
 ⟨fun i H=> ∃xs x,bG K H a xs/\xs[i]? =some x,fun i H x H'=>H'=H/\ ∀xs,bG K H a xs->xs[i]? =some x,fun i H=> ∃xs,bG K H a xs/\xs.length<=i⟩
def Xl (K:Frag)(a:Addr):It:=
 ⟨fun i H=> ∃xs x,cE K H a xs/\xs[i]? =some x,fun i H x H'=>H'=H/\ ∀xs,cE K H a xs->xs[i]? =some x,fun i H=> ∃xs,cE K H a xs/\xs.length<=i⟩
def NH (lo:Int)(n:Nat):It:=⟨fun i _=>i < n,fun i H x H'=>H'=H/\x= .int (lo + i),fun i _=>n<=i⟩
def Gu {P:Program}{w:World}{K:Frag}{tg:Expr}(a it:Addr):Turn P w K tg (Rn K a) [it] it (fun i h=>h.IsListIter it a i) where
 mem:=by simp
 obj:=fun i h st b hb=>by
  have e:b=it:=by simpa using hb
  subst e;obtain⟨o,e,c,d⟩:=st;exact⟨o,e,fun v z=>by rw[d] at z; cases z⟩
 keep:=fun i h h' st k=>st.at fun o e=>k it (by simp) o e
 item:=by
  intro X hP hw hK hc i pins s σ H E I hf st hg;subst hP hw hK;obtain⟨xs,x,hq,hx⟩:=hg;obtain⟨b0,rv,p,hz⟩:=I.list hq;obtain⟨u,hu,ru⟩:=rv.get hx;obtain⟨f0,f1,f2,f3,f4,f5⟩:=hf it (by simp);refine wpAny_pyNext_list_item st p.isList (x:=u) (by simpa using hu) fun h' A4 sb=>?_;have I1:Inv X pins σ H {s with heap:=h'}:=I.turned (t':=s.toks) (fun b o hb e=>(sb.2 b hb).trans e) f0 f1 f3 f4 f5;obtain⟨o,e,c,d⟩:=id A4;exact⟨u,rfl,ES (s:={s with heap:=h'}) e c d (by decide) ⟨x,H,I1,ru,⟨rfl,fun ys hy=>by rw[I.Bm hy hq]; exact hx⟩,A4,fun b hb=>(hf b hb).1⟩⟩
 done:=by
  intro X hP hw hK hc i pins s σ H E I hf st hg;subst hP hw hK;obtain⟨xs,hq,hx⟩:=hg;obtain⟨b0,rv,p,hz⟩:=I.list hq;obtain⟨f0,f1,f2,f3,f4,f5⟩:=hf it (by simp);have hl:=rv.length;exact wpAny_pyNext_list_end (I.ok.hd hc) st p.isList (by simp; lia) fun h' eb=>⟨rfl,I.turned (t':=s.toks) (fun b o hb e=>eb b o hb e) f0 f1 f3 f4 f5⟩
 self:=fun _ _ _ _ _ st h=>wpAny_pyIter_listiter st h
def DF {P:Program}{w:World}{K:Frag}{tg:Expr}(a it:Addr):Turn P w K tg (Xl K a) [it] it (fun i h=>h.IsTupleIter it a i) where
 mem:=by simp
 obj:=fun i h st b hb=>by
  have e:b=it:=by simpa using hb
  subst e;obtain⟨o,e,c,d⟩:=st;exact⟨o,e,fun v z=>by rw[d] at z; cases z⟩
 keep:=fun i h h' st k=>st.at fun o e=>k it (by simp) o e
 item:=by
  intro X hP hw hK hc i pins s σ H E I hf st hg;subst hP hw hK;obtain⟨xs,x,hq,hx⟩:=hg;obtain⟨b0,rv,p,hz⟩:=I.tuple hq;obtain⟨u,hu,ru⟩:=rv.get hx;obtain⟨f0,f1,f2,f3,f4,f5⟩:=hf it (by simp);refine wpAny_pyNext_tuple_item st (show s.heap.IsTuple a b0.toArray from p) (x:=u) (by simpa using hu) fun h' A4 sb=>?_;have I1:Inv X pins σ H {s with heap:=h'}:=I.turned (t':=s.toks) (fun b o hb e=>(sb.2 b hb).trans e) f0 f1 f3 f4 f5;obtain⟨o,e,c,d⟩:=id A4;exact⟨u,rfl,ES (s:={s with heap:=h'}) e c d (by decide) ⟨x,H,I1,ru,⟨rfl,fun ys hy=>by rw[I.Gr hy hq]; exact hx⟩,A4,fun b hb=>(hf b hb).1⟩⟩
 done:=by
  intro X hP hw hK hc i pins s σ H E I hf st hg;subst hP hw hK;obtain⟨xs,hq,hx⟩:=hg;obtain⟨b0,rv,p,hz⟩:=I.tuple hq;obtain⟨f0,f1,f2,f3,f4,f5⟩:=hf it (by simp);have hl:=rv.length;exact wpAny_pyNext_tuple_end (I.ok.hd hc) st (show s.heap.IsTuple a b0.toArray from p) (by simp; lia) fun h' eb=>⟨rfl,I.turned (t':=s.toks) (fun b o hb e=>eb b o hb e) f0 f1 f3 f4 f5⟩
 self:=fun _ _ _ _ _ st h=>wpAny_pyIter_tupleiter st h
def DG {P:Program}{w:World}{K:Frag}{tg:Expr}(it:Addr)(lo:Int)(n:Nat):Turn P w K tg (NH lo n) [it] it (fun i h=>IsRangeIter h it (lo + (i:Nat) * 1) ((n:Int) - (i:Nat)) 1) where
 mem:=by simp
 obj:=fun i h st b hb=>by
  have e:b=it:=by simpa using hb
  subst e;exact⟨_,st,fun v z=>by
   have z':Data.fields _ =Data.cell v:=z;cases z'⟩
 keep:=fun i h h' st k=>k it (by simp) _ st
 item:=by
  intro X hP hw hK hc i pins s σ H E I hf st hg;subst hP hw hK;obtain⟨f0,f1,f2,f3,f4,f5⟩:=hf it (by simp);have W:=Walks.range (prog:=X.prog) (w:=X.w) (I.ok.hd hc) it lo 1 n;refine W.item i s _ _ hg st fun v h' tk hv A4 kk=>?_;obtain⟨t,rfl⟩:=hv;have I1:Inv X pins σ H {s with heap:=h',toks:=tk}:=I.turned (fun b o hb e=>kk b o (by simpa using hb) e) f0 f1 f3 f4 f5;refine⟨_,rfl,ES (s:={s with heap:=h',toks:=tk}) (n:="range_iterator") A4 rfl rfl (by decide) ⟨.int (lo + i),H,I1,⟨t,?_⟩,⟨rfl,rfl⟩,A4,fun b hb=>(hf b hb).1⟩⟩;rw[Int.mul_one]
 done:=by
  intro X hP hw hK hc i pins s σ H E I hf st hg;subst hP hw hK;obtain⟨f0,f1,f2,f3,f4,f5⟩:=hf it (by simp);exact wpAny_pyNext_range_end (I.ok.hd hc) st (by have:n<=i:=hg; lia) fun h' eb=>⟨rfl,I.turned (t':=s.toks) (fun b o hb e=>eb b o hb e) f0 f1 f3 f4 f5⟩
 self:=fun _ _ _ _ _ st h=>wpAny_pyIter_rangeiter st h
section
variable {X:Cx}{tg:Expr}
inductive EvR (x:V)(S k:Addr->Prop):Prop
 |mk (a:Addr)(h:x= .ref a)(s:S a)(q:k a):EvR x S k
def NI (K:Frag)(tl:TE):TI:=fun σ H R=>tl σ H fun x H1=>EvR x (fun a=> ∃xs,bG K H1 a xs) fun a=>R (Rn K a) H1
def Xm (K:Frag)(tl:TE):TI:=fun σ H R=>tl σ H fun x H1=> ∃a,x= .ref a/\(∃xs,cE K H1 a xs)/\R (Xl K a) H1
def LP {l:Expr}{tl:TE}(hl:PE X l tl):PI X tg l (NI X.K tl):=by
 intro pins s σ H R I h;refine dY (hl pins s σ H _ I h) fun v s1 ⟨x,H1,I1,r1,q1⟩=>?_;obtain⟨a,e,⟨xs,hq⟩,q⟩:=q1;subst e;cases r1;obtain⟨b0,rv,p,hz⟩:=I1.list hq;refine wpAny_pyIter_list p.isList ?_;refine⟨s1.heap.objs.size,[s1.heap.objs.size],_,_,H1,rfl,I1.kept (t':=s1.toks) fun b o e=>ay _ e,Gu a _,⟨_,bR _ rfl,rfl,rfl⟩,fun b hb=>?_,q⟩;have e:b=s1.heap.objs.size:=by simpa using hb
 subst e;exact I1.Gs (aD _) (I1.cB.fresh (aD _))
def OP {l:Expr}{tl:TE}(hl:PE X l tl):PI X tg l (Xm X.K tl):=by
 intro pins s σ H R I h;refine dY (hl pins s σ H _ I h) fun v s1 ⟨x,H1,I1,r1,q1⟩=>?_;obtain⟨a,e,⟨xs,hq⟩,q⟩:=q1;subst e;cases r1;obtain⟨b0,rv,p,hz⟩:=I1.tuple hq;refine wpAny_pyIter_tuple (show s1.heap.IsTuple a b0.toArray from p) ?_;refine⟨s1.heap.objs.size,[s1.heap.objs.size],_,_,H1,rfl,I1.kept (t':=s1.toks) fun b o e=>ay _ e,DF a _,⟨_,bR _ rfl,rfl,rfl⟩,fun b hb=>?_,q⟩;have e:b=s1.heap.objs.size:=by simpa using hb
 subst e;exact I1.Gs (aD _) (I1.cB.fresh (aD _))
def IM {pins:List (Addr×Obj)}{σ:St}{H:Hp}{s:Shared}{R:It->Hp->Prop}{E:Value->Shared->Prop}{lo hi:Int}{t u v:Tok}{tk:Nat}(I:Inv X pins σ H s)(h1: -(2 ^ 62)<=lo)(h2:lo < 2 ^ 62)(h3: -(2 ^ 62)<=hi)(h4:hi < 2 ^ 62)
  (q:R (NH lo (hi - lo).toNat) H):wpAny (model X.prog X.w) X.A (pyIter (.ref s.heap.objs.size)) (PIE X pins σ tg R) E {s with heap:=s.heap.push {cls:= .type "range",data:= .fields #[.int lo t,.int hi u,.int 1 v]},toks:=tk}:=by
 refine wpAny_pyIter_range (IsRange.new ..) (small_one h1 h2 h3 h4) ?_;have I1:Inv X pins σ H {s with heap:=s.heap.push {cls:= .type "range",data:= .fields #[.int lo t,.int hi u,.int 1 v]},toks:=tk}:=I.kept fun b o e=>ay _ e;refine⟨(s.heap.push {cls:= .type "range",data:= .fields #[.int lo t,.int hi u,.int 1 v]}).objs.size,[(s.heap.push {cls:= .type "range",data:= .fields #[.int lo t,.int hi u,.int 1 v]}).objs.size],_,_,H,rfl,
  I1.kept (t':=tk) fun b o e=>ay _ e,DG _ lo (hi - lo).toNat,?_,fun b hb=>?_,q⟩
 ·have e1:lo + ((0:Nat):Int) * 1=lo:=by simp
  have e2:(((hi - lo).toNat:Nat):Int) - ((0:Nat):Int)=Builtin.Range.rangeSize lo hi 1:=by rw[rangeSize_one]; split <;> lia
  show IsRangeIter _ _ (lo + ((0:Nat):Int) * 1) ((((hi - lo).toNat:Nat):Int) - ((0:Nat):Int)) 1;rw[e1,e2];exact bR _ rfl
 ·have e:b=(s.heap.push {cls:= .type "range",data:= .fields #[.int lo t,.int hi u,.int 1 v]}).objs.size:=by simpa using hb
  subst e;exact I1.Gs (aD _) (I1.cB.fresh (aD _))
def So (ta:TA):TI:=fun σ H R=>ta σ H fun vs H1=> ∃j:Int,vs=[.int j]/\ -(2 ^ 62)<=j/\j < 2 ^ 62/\R (NH 0 j.toNat) H1
def i0 {a:Expr}{ta:TA}{p pos:Pos}(hg:Gl X "range")(hm:X.mg "range"=none)(ha:PA X [a] ta)(hs:starEach [a] X.env=[(false,eval a X.env)]:=by rfl):PI X tg (.Call (.Name "range" p) [a] [] pos) (So ta):=by
 intro pins s σ H R I h;refine Call_ (pW I hg hm boot_range (oQ (dY (ha pos pins s σ H _ I h) fun us s1 ⟨vs,H1,I1,r1,q1⟩=>?_) hs rfl));obtain⟨j,e,q1,q2,q⟩:=q1;subst e;cases r1 with
 |cons r rr=>
  cases rr;obtain⟨t,rfl⟩:=r;exact call_range_1 (IM I1 (by lia) (by lia) q1 q2 (by simpa using q))
def Xn (wi:TI)(g:TG)(tb:TS):TS:=fun D σ H=>wi σ H fun J H1=> ∃W:Nat->Nat->St->Hp->Prop,(∃m,W 0 m σ H1)/\ ∀i m σ H,W i m σ H->
 (J.stop i H/\D.nx σ H)∨(J.go i H/\ ∃N:St->Hp->Prop,(∀σ' H',N σ' H'-> ∃m',m' < m/\W (i + 1) m' σ' H')/\ ∀x H',J.Rm i H x H'->g x σ H' fun σ2 H2=>tb {D with nx:=N,ct:=N,bk:=D.nx} σ2 H2)
def pY (fp:List Addr)(h:Heap):List (Addr×Obj):=fp.filterMap fun b=>(h.get? b).map fun o=>(b,o)
def jV {fp:List Addr}{h:Heap}{b:Addr}{o:Obj}(hb:b∈fp)(e:h.get? b=some o):(b,o)∈pY fp h:=List.mem_filterMap.mpr ⟨b,hb,by rw[e]; rfl⟩
def Gv {fp:List Addr}{h:Heap}{p:Addr×Obj}(hp:p∈pY fp h):p.1∈fp/\h.get? p.1=some p.2:=by
 obtain⟨b,hb,e⟩:=List.mem_filterMap.mp hp;cases q:h.get? b with
 |none=>rw[q] at e; cases e
 |some o=>
  rw[q] at e;have e':(b,o)=p:=aG e;subst e';exact⟨hb,q⟩
def Inv.pinned {pins:List (Addr×Obj)}{σ:St}{H:Hp}{s:Shared}{fp:List Addr}(I:Inv X pins σ H s)(hf: ∀b∈fp,uP X pins H b)(ho: ∀b∈fp,∃o,s.heap.get? b=some o/\ ∀v,o.data≠ .cell v):Inv X (pins ++ pY fp s.heap) σ H s:=
 I.uu fun p hp=>(bc.mp hp).elim (fun z=>I.pin p (bw _ z)) fun z=>by
  obtain⟨hb,e⟩:=Gv z;obtain⟨f0,f1,f2,_⟩:=hf p.1 hb;obtain⟨o,e',d⟩:=ho p.1 hb;rw[e] at e'; cases e';exact⟨e,f0,f1,f2,d⟩
def Inv.jg {pins pl:List (Addr×Obj)}{σ:St}{H:Hp}{s:Shared}(I:Inv X (pins ++ pl) σ H s):Inv X pins σ H s:=I.uu fun p hp=>I.pin p (bw _ (cZ _ hp))
def eJ {iter:Expr}{body:List Stmt}{wi:TI}{g:TG}{tb:TS}{pos:Pos}(hp:PassesOwn (model X.prog X.w) X.A X.env X.xe)(hc:X.calm=true)(hi:PI X tg iter wi)(hg:PG X tg g)(hb:pj X body tb)
  (hs: ∀x,foldedSetIterable iter X.env x=pure x:=by intro _; rfl):PS X (.For tg iter body [] pos) (Xn wi g tb):=by
 intro pins s σ H D I h;refine wpAny_For (dY (hi pins s σ H _ I h) fun v s1 h1=>dY h1 fun VY s2 h2=>?_) hs;obtain⟨it,fp,tn,J,H2,e,I2,T,NJ,f2,W,⟨m0,w0⟩,turn⟩:=h2;subst e;have ni: ∀{H':Hp},(∀b∈fp,H' b=none)-> ∀b∈fp,uP X pins H' b:=fun hn b hb=>⟨hn b hb,(f2 b hb).2⟩;refine codeAny_forLoop_any (fun n s'=> ∃i σ' H',Inv X pins σ' H' s'/\tn i s'.heap/\(∀b∈fp,H' b=none)/\W i n σ' H') ?_ m0 ⟨0,σ,H2,I2,NJ,fun b hb=>(f2 b hb).1,w0⟩;rintro n s3 ⟨i,σ3,H3,I3,Sq,LQ,w3⟩;rcases turn i n σ3 H3 w3 with⟨stop,qn⟩|⟨go,N,hN,step⟩
 ·refine dR hp (dY (T.done X rfl rfl rfl hc i pins s3 σ3 H3 X.xe I3 (ni LQ) Sq stop) fun r s4 ⟨hr,I4⟩=>?_);subst hr;exact jt ⟨σ3,H3,I4,qn⟩
 ·refine dR hp (dY (T.item X rfl rfl rfl hc i pins s3 σ3 H3 X.xe I3 (ni LQ) Sq go) fun r s4 ⟨u,hr,h4⟩=>?_);subst hr;refine dR hp (dY h4 fun _ s5 ⟨x,H5,I5,r5,y5,OQ,Ro⟩=>?_);have I5':=I5.pinned (ni Ro) (T.obj _ _ OQ);refine dR hp (dY (hg _ s5 σ3 H5 x u _ I5' r5 (step x H5 y5)) fun _ s6 ⟨σ6,H6,I6,q6⟩=>?_);refine dR hp (dY (hb _ s6 σ6 H6 _ I6 q6) fun f s7 q7=>?_);have again: ∀{σ7:St} {H7:Hp},Inv X (pins ++ pY fp s5.heap) σ7 H7 s7->N σ7 H7-> ∃m,m < n/\ ∃i σ' H',Inv X pins σ' H' s7/\tn i s7.heap/\(∀b∈fp,H' b=none)/\W i m σ' H':=fun{σ7 H7} I7 n7=>by
   obtain⟨m',hm,w7⟩:=hN σ7 H7 n7;refine⟨m',hm,i + 1,σ7,H7,I7.jg,T.keep _ _ _ OQ fun b hb o e=>(I7.pin (b,o) (bw _ (bw _ (jV hb e)))).1,fun b hb=>?_,w7⟩;obtain⟨o,e,d⟩:=T.obj _ _ OQ b hb;exact(I7.pin (b,o) (bw _ (bw _ (jV hb e)))).2.1
  cases f with
  |next=>obtain⟨σ7,H7,I7,n7⟩:=q7; exact again I7 n7
  |cont=>obtain⟨σ7,H7,I7,n7⟩:=q7; exact again I7 n7
  |brk=>obtain⟨σ7,H7,I7,q7⟩:=q7; exact⟨σ7,H7,I7.jg,q7⟩
  |ret v=>obtain⟨x7,σ7,H7,I7,r7,q7⟩:=q7; exact⟨x7,σ7,H7,I7.jg,r7,q7⟩
end
def fA {K:Frag}{a:Addr}{xs:List V}{g:TG}{tb:TS}{D:Ends}{σ:St}{H:Hp}(Pv:Nat->St->Hp->Prop)(h0:Pv 0 σ H)(hl: ∀i σ H,i<=xs.length->Pv i σ H->bG K H a xs)
  (hs: ∀i x σ H,xs[i]? =some x->Pv i σ H->g x σ H fun σ2 H2=>tb {D with nx:=Pv (i + 1),ct:=Pv (i + 1),bk:=D.nx} σ2 H2) (hd: ∀σ H,Pv xs.length σ H->D.nx σ H):
  ∃W:Nat->Nat->St->Hp->Prop,(∃m,W 0 m σ H)/\ ∀i m σ H,W i m σ H->
   ((Rn K a).stop i H/\D.nx σ H)∨((Rn K a).go i H/\ ∃N:St->Hp->Prop,(∀σ' H',N σ' H'-> ∃m',m' < m/\W (i + 1) m' σ' H')/\ ∀x H',(Rn K a).Rm i H x H'->g x σ H' fun σ2 H2=>tb {D with nx:=N,ct:=N,bk:=D.nx} σ2 H2):=by
 refine⟨fun i m σ H=>m=xs.length - i/\i<=xs.length/\Pv i σ H,⟨xs.length,by simp,Nat.zero_le _,h0⟩,?_⟩;rintro i m σ H ⟨rfl,hi,p⟩;have q:=hl i σ H hi p;by_cases iD:i < xs.length
 ·refine .inr ⟨⟨xs,xs[i],q,by simp[iD]⟩,Pv (i + 1),fun σ' H' p'=>⟨xs.length - (i + 1),by lia,rfl,iD,p'⟩,fun x H' y=>?_⟩;obtain⟨e,y⟩:=y;subst e;exact hs i x σ _ (y xs q) p
 ·have e:i=xs.length:=by lia
  subst e;exact .inl ⟨⟨xs,q,aD _⟩,hd σ H p⟩
def jO {lo:Int}{n:Nat}{g:TG}{tb:TS}{D:Ends}{σ:St}{H:Hp}(Pv:Nat->St->Hp->Prop)(h0:Pv 0 σ H)
  (hs: ∀i σ H,i < n->Pv i σ H->g (.int (lo + i)) σ H fun σ2 H2=>tb {D with nx:=Pv (i + 1),ct:=Pv (i + 1),bk:=D.nx} σ2 H2) (hd: ∀σ H,Pv n σ H->D.nx σ H):
  ∃W:Nat->Nat->St->Hp->Prop,(∃m,W 0 m σ H)/\ ∀i m σ H,W i m σ H->
   ((NH lo n).stop i H/\D.nx σ H)∨((NH lo n).go i H/\ ∃N:St->Hp->Prop,(∀σ' H',N σ' H'-> ∃m',m' < m/\W (i + 1) m' σ' H')/\ ∀x H',(NH lo n).Rm i H x H'->g x σ H' fun σ2 H2=>tb {D with nx:=N,ct:=N,bk:=D.nx} σ2 H2):=by
 refine⟨fun i m σ H=>m=n - i/\i<=n/\Pv i σ H,⟨n,by simp,Nat.zero_le _,h0⟩,?_⟩;rintro i m σ H ⟨rfl,hi,p⟩;by_cases iD:i < n
 ·refine .inr ⟨iD,Pv (i + 1),fun σ' H' p'=>⟨n - (i + 1),by lia,rfl,iD,p'⟩,fun x H' y=>?_⟩;obtain⟨e,y⟩:=y;subst e y;exact hs i σ _ iD p
 ·have e:i=n:=by lia
  subst e;exact .inl ⟨aD _,hd σ H p⟩
abbrev R2:=V->V->Hp->VK->Prop
def oX (X:Cx)(f:Value->Value->Sem Value)(r:R2):Prop:=
 ∀(pins:List (Addr×Obj)) (s:Shared) (σ:St) (H:Hp) (x y:V) (v u:Value) (Q:VK),Inv X pins σ H s->RelV x v->RelV y u->r x y H Q->
  wpAny (model X.prog X.w) X.A (f v u) (EP X pins σ Q) X.xe s
def NK (X:Cx)(f:Value->Sem Value)(r:V->Hp->VK->Prop):Prop:=
 ∀(pins:List (Addr×Obj)) (s:Shared) (σ:St) (H:Hp) (x:V) (v:Value) (Q:VK),Inv X pins σ H s->RelV x v->r x H Q->
  wpAny (model X.prog X.w) X.A (f v) (EP X pins σ Q) X.xe s
def ip (X:Cx)(f:Value)(r:List V->Hp->VK->Prop):Prop:=
 ∀(pins:List (Addr×Obj)) (s:Shared) (σ:St) (H:Hp) (xs:List V) (us:List Value) (Q:VK),Inv X pins σ H s->Vals xs us->r xs H Q->
  wpAny (model X.prog X.w) X.A (call f us) (EP X pins σ Q) X.xe s
def Rq (r:R2)(ta tb:TE):TE:=fun σ H Q=>ta σ H fun x H1=>tb σ H1 fun y H2=>r x y H2 Q
def tUn (r:V->Hp->VK->Prop)(ta:TE):TE:=fun σ H Q=>ta σ H fun x H1=>r x H1 Q
inductive EvI (x y:V)(C k:Int->Int->Prop):Prop
 |mk (i j:Int)(h1:x= .int i)(h2:y= .int j)(c:C i j)(q:k i j):EvI x y C k
inductive EvJ (x y:V)(k:Int->Int->Prop):Prop
 |mk (i j:Int)(h1:x= .int i)(h2:y= .int j)(q:k i j):EvJ x y k
def rI (C:Int->Int->Prop)(g:Int->Int->V):R2:=fun x y H Q=>EvI x y C fun i j=>Q (g i j) H
def Lf (g:Int->Int->V):R2:=fun x y H Q=>EvJ x y fun i j=>Q (g i j) H
def rU (g:Int->V):V->Hp->VK->Prop:=fun x H Q=> ∃i,x= .int i/\Q (g i) H
section
variable {X:Cx}{a b c:Expr}{ta tb tc:TE}{pos:Pos}
def OR (ha:PE X a ta)(hb:PE X b tb){pins:List (Addr×Obj)}{s:Shared}{σ:St}{H:Hp}{R:V->V->Hp->Prop}(I:Inv X pins σ H s)
  (h:ta σ H fun x H1=>tb σ H1 fun y H2=>R x y H2) {Q:Value->Shared->Prop} {f:Value->Value->Sem Value}
  (hf: ∀v u s2 x y H2,Inv X pins σ H2 s2->RelV x v->RelV y u->R x y H2->wpAny (model X.prog X.w) X.A (f v u) Q X.xe s2):
  wpAny (model X.prog X.w) X.A (eval a X.env) (fun v s₁=>wpAny (model X.prog X.w) X.A (eval b X.env) (fun u s₂=>wpAny (model X.prog X.w) X.A (f v u) Q X.xe s₂) X.xe s₁) X.xe s:=by
 refine dY (ha pins s σ H _ I h) fun v s1 ⟨x,H1,I1,r1,q1⟩=>?_;refine dY (hb pins s1 σ H1 _ I1 q1) fun u s2 ⟨y,H2,I2,r2,q2⟩=>?_;exact hf v u s2 x y H2 I2 r1 r2 q2
def aQ {op:Operator}{r:R2}(ho:oX X (binaryOp op) r)(ha:PE X a ta)(hb:PE X b tb):PE X (.BinOp a op b pos) (Rq r ta tb):=by
 intro pins s σ H Q I h;exact wpAny_BinOp (OR ha hb I h fun v u s2 x y H2 I2 rx ry q=>ho pins s2 σ H2 x y v u Q I2 rx ry q)
def pq {op:UnaryOp}{r:V->Hp->VK->Prop}(ho:NK X (unaryOp op) r)(ha:PE X a ta):PE X (.UnaryOp op a pos) (tUn r ta):=by
 intro pins s σ H Q I h;exact UnaryOp_ (dY (ha pins s σ H _ I h) fun v s1 ⟨x,H1,I1,r1,q1⟩=>ho pins s1 σ H1 x v Q I1 r1 q1)
def Sr {f:Value->Value->Sem Value}{C:Int->Int->Prop}{g:Int->Int->Int}
  (rule: ∀(i j:Int) (t u:Tok) (s:Shared) (Q:Value->Shared->Prop) (E:Value->Shared->Prop),C i j->Q (.int (g i j) s.toks) {s with toks:=s.toks + 1}->wpAny (model X.prog X.w) X.A (f (.int i t) (.int j u)) Q E s):
  oX X f (rI C fun i j=> .int (g i j)):=by
 intro pins s σ H x y v u Q I rx ry h;obtain⟨i,j,rfl,rfl,hc,q⟩:=h;obtain⟨t,rfl⟩:=rx;obtain⟨t',rfl⟩:=ry;exact rule i j t t' s _ _ hc ⟨.int (g i j),H,I.tok _,⟨_,rfl⟩,q⟩
def Ss {f:Value->Value->Sem Value}{g:Int->Int->Int}
  (rule: ∀(i j:Int) (t u:Tok) (s:Shared) (Q:Value->Shared->Prop) (E:Value->Shared->Prop),Q (.int (g i j) s.toks) {s with toks:=s.toks + 1}->wpAny (model X.prog X.w) X.A (f (.int i t) (.int j u)) Q E s):
  oX X f (Lf fun i j=> .int (g i j)):=by
 intro pins s σ H x y v u Q I rx ry h;obtain⟨i,j,rfl,rfl,q⟩:=h;obtain⟨t,rfl⟩:=rx;obtain⟨t',rfl⟩:=ry;exact rule i j t t' s _ _ ⟨.int (g i j),H,I.tok _,⟨_,rfl⟩,q⟩
def LR {f:Value->Value->Sem Value}{g:Int->Int->Bool}
  (rule: ∀(i j:Int) (t u:Tok) (s:Shared) (Q:Value->Shared->Prop) (E:Value->Shared->Prop),Q (.bool (g i j)) s->wpAny (model X.prog X.w) X.A (f (.int i t) (.int j u)) Q E s):
  oX X f (Lf fun i j=> .bl (g i j)):=by
 intro pins s σ H x y v u Q I rx ry h;obtain⟨i,j,rfl,rfl,q⟩:=h;obtain⟨t,rfl⟩:=rx;obtain⟨t',rfl⟩:=ry;exact rule i j t t' s _ _ ⟨.bl (g i j),H,I,rfl,q⟩
def Xo (i j:Int):Prop:=0 < j/\j < 1073741824
def Xp (i j:Int):Prop:=0<=j/\j<=1000000/\i.natAbs < 2 ^ 64
def OS (i j:Int):Prop:=(-(2 ^ 64) < i/\i < 2 ^ 64)∨(-(2 ^ 64) < j/\j < 2 ^ 64)
def OS.ok {i j:Int}(h:OS i j):IntMulOk i j:=by
 rcases h with⟨h1,h2⟩|⟨h1,h2⟩
 ·exact .of_left (intBits_le_64 h1 h2)
 ·exact .of_right (intBits_le_64 h1 h2)
def dj:oX X (binaryOp .Add) (Lf fun i j=> .int (i + j)):=Ss fun _ _ _ _ _ _ _ q=>add_int q
def fN:oX X (binaryOp .Sub) (Lf fun i j=> .int (i - j)):=Ss fun _ _ _ _ _ _ _ q=>sub_int q
def jx:oX X (binaryOp .Mult) (rI OS fun i j=> .int (i * j)):=Sr fun _ _ _ _ _ _ _ hc q=>mul_int q hc.ok
def jG:oX X (binaryOp .FloorDiv) (rI Xo fun i j=> .int (i / j)):=Sr fun i j _ _ _ _ _ hc q=>by
 have h1:(0:Int) < j:=hc.1;have h2:j < 1073741824:=hc.2;exact floordiv_int (by lia) (by rw[Int.fdiv_eq_ediv_of_nonneg i (by lia)]; exact q) (.inl (PyProof.noPylong_small (by lia)))
def cm:oX X (binaryOp .Mod) (rI (fun _ j=>0 < j) fun i j=> .int (i % j)):=Sr fun i j _ _ _ _ _ hc q=>by
 have h1:(0:Int) < j:=hc;exact mod_int' (by lia) (by rw[Int.fmod_eq_emod_of_nonneg i (by lia)]; exact q)
def iE:oX X (binaryOp .Pow) (rI Xp fun i j=> .int (i ^ j.toNat)):=Sr fun _ _ _ _ _ _ _ hc q=>pow_int_small hc.1 hc.2.1 hc.2.2 q
def unI {f:Value->Sem Value}{g:Int->Int}
  (rule: ∀(i:Int) (t:Tok) (s:Shared) (Q:Value->Shared->Prop) (E:Value->Shared->Prop),Q (.int (g i) s.toks) {s with toks:=s.toks + 1}->wpAny (model X.prog X.w) X.A (f (.int i t)) Q E s):
  NK X f (rU fun i=> .int (g i)):=by
 intro pins s σ H x v Q I rx h;obtain⟨i,rfl,q⟩:=h;obtain⟨t,rfl⟩:=rx;exact rule i t s _ _ ⟨.int (g i),H,I.tok _,⟨_,rfl⟩,q⟩
def k6:NK X (unaryOp .USub) (rU fun i=> .int (-i)):=unI fun _ _ _ _ _ q=>neg_int q
end
def Su:V->V->Bool
 | .eA,.eA=>true| .eA,.int _=>true| .int _,.eA=>true| .eA,.bl _=>true| .bl _,.eA=>true| .eA,.str _=>true| .str _,.eA=>true
 | .int _,.int _=>true| .bl _,.bl _=>true| .str _,.str _=>true| .Gm _,.Gm _=>true
 | .int _,.str _=>true| .str _,.int _=>true| .bl _,.str _=>true| .str _,.bl _=>true
 |_,_=>false
def rEq:R2:=fun x y H Q=>Su x y=true/\Q (.bl (decide (x=y))) H
def rNe:R2:=fun x y H Q=>Su x y=true/\Q (.bl (!decide (x=y))) H
def ET {i j:Int}:decide (V.int i=V.int j)=(i == j):=by
 rw[oR];simp
def IP {i j:Bool}:decide (V.bl i=V.bl j)=(i == j):=by
 rw[oR];simp
def EU {i j:Str}:decide (V.str i=V.str j)=(i == j):=by
 rw[oR];simp
def EV {i j:Array UInt8}:decide (V.Gm i=V.Gm j)=(i.toList == j.toList):=by
 rw[oR];cases i;cases j;simp
section
variable {X:Cx}{a b c:Expr}{ta tb tc:TE}{pos:Pos}
def dD {pins:List (Addr×Obj)}{σ:St}{H:Hp}{s:Shared}{Q:VK}{k k':Bool}(I:Inv X pins σ H s)(q:Q (.bl k) H)(e:k=k'):EP X pins σ Q (.bool k') s:=by
 subst e;exact⟨.bl k,H,I,rfl,q⟩
def dg:oX X (compareOp .Eq) rEq:=by
 intro pins s σ H x y v u Q I rx ry h;obtain⟨hs,q⟩:=h;cases x with
 |eA=>
  cases rx;cases y with
  |eA=>cases ry; exact PySem.EqNone.eq_none_none (dD I q (by simp))
  |bl j=>cases ry; exact PySem.EqNone.eq_none_bool (dD I q (by simp))
  |int j=>obtain⟨t',rfl⟩:=ry; exact PySem.EqNone.eq_none_int (dD I q (by simp))
  |str j=>obtain⟨t',rfl⟩:=ry; exact PySem.EqNone.eq_none_str (dD I q (by simp))
  |_=>exact absurd (show false=true from hs) aX
 |bl i=>
  cases rx;cases y with
  |eA=>cases ry; exact PySem.EqNone.eq_bool_none (dD I q (by simp))
  |bl j=>cases ry; exact eq_bool (dD I q IP)
  |str j=>obtain⟨t',rfl⟩:=ry; exact PySem.EqMixed.eq_bool_str (dD I q (by simp))
  |_=>exact absurd (show false=true from hs) aX
 |int i=>
  obtain⟨t,rfl⟩:=rx;cases y with
  |eA=>cases ry; exact PySem.EqNone.eq_int_none (dD I q (by simp))
  |int j=>obtain⟨t',rfl⟩:=ry; exact eq_int (dD I q ET)
  |str j=>obtain⟨t',rfl⟩:=ry; exact PySem.EqMixed.eq_int_str (dD I q (by simp))
  |_=>exact absurd (show false=true from hs) aX
 |str i=>
  obtain⟨t,rfl⟩:=rx;cases y with
  |eA=>cases ry; exact PySem.EqNone.eq_str_none (dD I q (by simp))
  |bl j=>cases ry; exact PySem.EqMixed.eq_str_bool (dD I q (by simp))
  |int j=>obtain⟨t',rfl⟩:=ry; exact PySem.EqMixed.eq_str_int (dD I q (by simp))
  |str j=>obtain⟨t',rfl⟩:=ry; exact eq_str (dD I q EU)
  |_=>exact absurd (show false=true from hs) aX
 |Gm i=>
  obtain⟨t,rfl⟩:=rx;cases y with
  |Gm j=>obtain⟨t',rfl⟩:=ry; exact PySem.W.eq_bytes (dD I q EV)
  |_=>exact absurd (show false=true from hs) aX
 |_=>cases y <;> exact absurd (show false=true from hs) aX
def qO:oX X (compareOp .NotEq) rNe:=by
 intro pins s σ H x y v u Q I rx ry h;obtain⟨hs,q⟩:=h;cases x with
 |eA=>
  cases rx;cases y with
  |eA=>cases ry; exact PySem.EqNone.ne_none_none (dD I q (by simp))
  |bl j=>cases ry; exact PySem.EqNone.ne_none_bool (dD I q (by simp))
  |int j=>obtain⟨t',rfl⟩:=ry; exact PySem.EqNone.ne_none_int (dD I q (by simp))
  |str j=>obtain⟨t',rfl⟩:=ry; exact PySem.EqNone.ne_none_str (dD I q (by simp))
  |_=>exact absurd (show false=true from hs) aX
 |bl i=>
  cases rx;cases y with
  |eA=>cases ry; exact PySem.EqNone.ne_bool_none (dD I q (by simp))
  |bl j=>cases ry; exact ne_bool (dD I q (cU not IP))
  |str j=>obtain⟨t',rfl⟩:=ry; exact PySem.EqMixed.ne_bool_str (dD I q (by simp))
  |_=>exact absurd (show false=true from hs) aX
 |int i=>
  obtain⟨t,rfl⟩:=rx;cases y with
  |eA=>cases ry; exact PySem.EqNone.ne_int_none (dD I q (by simp))
  |int j=>obtain⟨t',rfl⟩:=ry; exact ne_int (dD I q (cU not ET))
  |str j=>obtain⟨t',rfl⟩:=ry; exact PySem.EqMixed.ne_int_str (dD I q (by simp))
  |_=>exact absurd (show false=true from hs) aX
 |str i=>
  obtain⟨t,rfl⟩:=rx;cases y with
  |eA=>cases ry; exact PySem.EqNone.ne_str_none (dD I q (by simp))
  |bl j=>cases ry; exact PySem.EqMixed.ne_str_bool (dD I q (by simp))
  |int j=>obtain⟨t',rfl⟩:=ry; exact PySem.EqMixed.ne_str_int (dD I q (by simp))
  |str j=>obtain⟨t',rfl⟩:=ry; exact ne_str (dD I q (cU not EU))
  |_=>exact absurd (show false=true from hs) aX
 |Gm i=>
  obtain⟨t,rfl⟩:=rx;cases y with
  |Gm j=>obtain⟨t',rfl⟩:=ry; exact PySem.W.ne_bytes (dD I q (cU not EV))
  |_=>exact absurd (show false=true from hs) aX
 |_=>cases y <;> exact absurd (show false=true from hs) aX
def kH:oX X (compareOp .Lt) (Lf fun i j=> .bl (decide (i < j))):=LR fun _ _ _ _ _ _ _ q=>lt_int q
def yd:oX X (compareOp .LtE) (Lf fun i j=> .bl (decide (i<=j))):=LR fun _ _ _ _ _ _ _ q=>le_int q
def jB:oX X (compareOp .Gt) (Lf fun i j=> .bl (decide (j < i))):=LR fun _ _ _ _ _ _ _ q=>gt_int q
def IQ:oX X (compareOp .GtE) (Lf fun i j=> .bl (decide (j<=i))):=LR fun _ _ _ _ _ _ _ q=>ge_int q
def bb (b:Expr){op:CmpOp}(h:op≠ .In:=by decide)(h2:op≠ .NotIn:=by decide):behindInMarks op b=false:=by
 have e1:(op == CmpOp.In)=false:=by cases op <;> first|rfl|exact absurd rfl h
 have e2:(op == CmpOp.NotIn)=false:=by cases op <;> first|rfl|exact absurd rfl h2
 cases b <;> simp[behindInMarks,e1,e2]
def fL {op:CmpOp}{r:R2}(ho:oX X (compareOp op) r)(ha:PE X a ta)(hb:PE X b tb)(hm:behindInMarks op b=false):PE X (.Compare a [op] [b] pos) (Rq r ta tb):=by
 intro pins s σ H Q I h;exact wpAny_Compare1 (OR ha hb I h fun v u s2 x y H2 I2 rx ry q=>ho pins s2 σ H2 x y v u Q I2 rx ry q) hm
inductive EvB (x:V)(k:Bool->Prop):Prop
 |mk (b:Bool)(h:x= .bl b)(q:k b):EvB x k
def IS (t:TE):TT:=fun σ H Q=>t σ H fun x H'=>EvB x fun b=>Q b H'
def a0 {op:CmpOp}{r:R2}(ho:oX X (compareOp op) r)(ha:PE X a ta)(hb:PE X b tb)(hm:behindInMarks op b=false):PT X (.Compare a [op] [b] pos) (IS (Rq r ta tb)):=by
 intro pins s σ H Q I h;refine wpAny_isTrue_Compare1 (dY (ha pins s σ H _ I h) fun v s1 ⟨x,H1,I1,r1,q1⟩=>dY (hb pins s1 σ H1 _ I1 q1) fun u s2 ⟨y,H2,I2,r2,q2⟩=>
  dY (ho pins s2 σ H2 x y v u _ I2 r1 r2 q2) fun c s3 ⟨z,H3,I3,r3,k,e,q3⟩=>?_) hm
 subst e;cases r3;exact fY ⟨H3,I3,q3⟩
def IT (r r':R2)(ta tb tc:TE):TE:=fun σ H Q=>ta σ H fun x H1=>tb σ H1 fun y H2=>r x y H2 fun z H3=> ∃k,z= .bl k/\
 (if k=true then tc σ H3 fun w' H4=>r' y w' H4 Q else Q (.bl false) H3)
def Bo {op Xq:CmpOp}{r r':R2}(ho:oX X (compareOp op) r)(LK:oX X (compareOp Xq) r')(ha:PE X a ta)(hb:PE X b tb)(hc:PE X c tc)
  (hm:lastMarks [op,Xq] [b,c]=false:=by with_unfolding_all rfl):PT X (.Compare a [op,Xq] [b,c] pos) (IS (IT r r' ta tb tc)):=by
 intro pins s σ H Q I h;refine isTrue_chain (dY (ha pins s σ H _ I h) fun v s1 ⟨x,H1,I1,r1,q1⟩=>test_link (dY (hb pins s1 σ H1 _ I1 q1) fun u s2 ⟨y,H2,I2,r2,q2⟩=>
  dY (ho pins s2 σ H2 x y v u _ I2 r1 r2 q2) fun d s3 ⟨z,H3,I3,r3,k,e,q3⟩=>?_)) hm
 subst e;cases r3;refine fY ?_;cases k with
 |false=>
  obtain⟨k',e',q'⟩:=q3;cases e';exact ite_ff ⟨H3,I3,q'⟩
 |true=>
  refine ite_tt (test_last (dY (hc pins s3 σ H3 _ I3 q3) fun w' s4 ⟨z',H4,I4,r4,q4⟩=>dY (LK pins s4 σ H4 y z' u w' _ I4 r2 r4 q4) fun d' s5 ⟨z2,H5,I5,r5,k2,e2,q5⟩=>?_));subst e2;cases r5;exact fY ⟨H5,I5,q5⟩
def y1:(sizeLine:Nat) < 2 ^ 63:=by rw[eP]; decide
def uQ:oX X (binaryOp .Add) (fun x y H Q=> ∃i j,x= .str i/\y= .str j/\i.length + j.length<=sizeLine/\Q (.str (i ++ j)) H):=by
 intro pins s σ H x y v u Q I rx ry h;obtain⟨i,j,rfl,rfl,hz,q⟩:=h;obtain⟨t,rfl⟩:=rx;obtain⟨t',rfl⟩:=ry;exact add_str (fun t' tk=>⟨.str (i ++ j),H,I.tok _,⟨_,rfl⟩,q⟩) hz
def vals1 {x:V}{us:List Value}(r:Vals [x] us): ∃u,us=[u]/\RelV x u:=by
 cases r with
 |cons r1 r2=>cases r2; exact⟨_,rfl,r1⟩
def vals2 {x y:V}{us:List Value}(r:Vals [x,y] us): ∃u w',us=[u,w']/\RelV x u/\RelV y w':=by
 cases r with
 |cons r1 r2=>
  cases r2 with
  |cons r3 r4=>cases r4; exact⟨_,_,rfl,r1,r3⟩
def Gw (hc:X.calm=true):ip X (.builtin "max") (fun xs H Q=> ∃i j,xs=[.int i,.int j]/\Q (.int (if j > i then j else i)) H):=by
 intro pins s σ H xs us Q I r h;obtain⟨i,j,rfl,q⟩:=h;obtain⟨u,w',rfl,⟨t,rfl⟩,⟨t',rfl⟩⟩:=vals2 r;refine max_two_ints (I.ok.hd hc) fun h' tk k=>⟨_,H,I.kept k,?_,q⟩;by_cases hj:j > i
 ·rw[aY hj,aY hj]; exact⟨_,rfl⟩
 ·rw[aN hj,aN hj]; exact⟨_,rfl⟩
def sy (hc:X.calm=true):ip X (.builtin "min") (fun xs H Q=> ∃i j,xs=[.int i,.int j]/\Q (.int (if j < i then j else i)) H):=by
 intro pins s σ H xs us Q I r h;obtain⟨i,j,rfl,q⟩:=h;obtain⟨u,w',rfl,⟨t,rfl⟩,⟨t',rfl⟩⟩:=vals2 r;refine min_two_ints (I.ok.hd hc) fun h' tk k=>⟨_,H,I.kept k,?_,q⟩;by_cases hj:j < i
 ·rw[aY hj,aY hj]; exact⟨_,rfl⟩
 ·rw[aN hj,aN hj]; exact⟨_,rfl⟩
def lD:ip X (.type "int") (fun xs H Q=>(∃i,xs=[.int i]/\Q (.int i) H)∨ ∃k,xs=[.bl k]/\Q (.int (if k then 1 else 0)) H):=by
 intro pins s σ H xs us Q I r h;rcases h with⟨i,rfl,q⟩|⟨k,rfl,q⟩
 ·obtain⟨u,rfl,t,rfl⟩:=vals1 r;exact call_int_int ⟨.int i,H,I,⟨_,rfl⟩,q⟩
 ·obtain⟨u,rfl,r1⟩:=vals1 r;cases r1;exact call_int_bool ⟨.int (if k then 1 else 0),H,I.tok _,⟨_,rfl⟩,q⟩
end
structure DH (h:Heap)(x dx C:Addr)(mA:Str->Option Value):Prop where
 obj:h.get? x=some (PySem.W.instObj C dx)
 ns:h.Ns1 dx mA
 ne:dx≠x
def Gx {h:Heap}{dx:Addr}{mA:Str->Option Value}(n:h.Ns1 dx mA): ∃od,h.get? dx=some od/\ ∀name,PySem.W.lookIn name od=some (mA name):=by
 obtain⟨o,es,ep,ho,hd,hk,_,hm⟩:=n;refine⟨o,ho,fun name=>?_⟩;have e:=hm name;unfold nsFind findBy at e;rw[← Array.find?_toList] at e;unfold PySem.W.lookIn;rw[hd];dsimp only;split
 ·rename_i y q;rw[q] at e;exact cU some e
 ·rename_i q;rw[q] at e;have a:es.toList.any (·.refKey)=false:=by
   rw[se];intro y hy;obtain⟨z,t,IU⟩:=hk y (Array.mem_toList_iff.mp hy);simp[DictEntry.refKey,IU]
  have a': ¬ es.toList.any (·.refKey)=true:=by rw[a]; exact aX
  rw[aN a'];exact cU some e
def DH.look {h:Heap}{x dx C:Addr}{mA:Str->Option Value}(I:DH h x dx C mA): ∃od,PySem.W.InstAt h x (PySem.W.instObj C dx) C (some od)/\ ∀name,PySem.W.lookIn name od=some (mA name):=
 let⟨od,ho,hl⟩:=Gx I.ns
 ⟨od,⟨I.obj,rfl,rfl,ho⟩,hl⟩
section
variable {prog:Program}{w:World}{A:Around}{E:Value->Shared->Prop}{s:Shared}{K:Frag}{x dx C f:Addr}{mA:Str->Option Value}{name:Str}{v:Value}
def get_map {expr:Bool}{Q:Value->Shared->Prop}(X:K.In s.heap)(I:DH s.heap x dx C mA)(hg:plainGet K C name=true)(hh:hasDictIn K C=true)
  (ha:findIn K (.ref C) name=some none) (hv:mA name=some v) (VZ:PySem.W.handedIn v=true) (h:Q v {s with toks:=s.toks + 1}):
  wpAny (model prog w) A (getAttr (.ref x) name expr) Q E s:=by
 obtain⟨od,J,hl⟩:=I.look;exact PySem.W.get_value X J (A9 hg).1 (PySem.W.findObj_own hh ha rfl (by rw[hl,hv])) VZ h
def IV {pl:Sem Bool}{Q:Value×List Value->Shared->Prop}(X:K.In s.heap)(I:DH s.heap x dx C mA)(hg:plainGet K C name=true)
  (hf:findIn K (.ref C) name=some (some (.ref f))) (ht:PySem.W.isFn K (.ref f)=true) (hv:mA name=none) (h:Q (.ref f,[.ref x]) s):
  wpAny (model prog w) A (getMethod (.ref x) name pl) Q E s:=by
 obtain⟨od,J,hl⟩:=I.look;exact PySem.W.method_fn X J (A9 hg).1 (A9 hg).2 hf (Gd.mp ht) (by show(PySem.W.lookIn name od).map (·.isSome)=some false; rw[hl,hv]; rfl) h
def LS {ns:List Str}{Q:Unit->Shared->Prop}(X:K.In s.heap)(I:DH s.heap x dx C mA)
  (hs:findIn K (.ref C) "__setattr__"=some (some (.builtin "object.__setattr__"))) (hp:plainOver K C=true) (ht:PySem.W.takerIn K C name=some none) (hh:hasDictIn K C=true)
  (hw:PySem.Within mA ns) (hsz:ns.length<=sizeLine)
  (h: ∀h',DH h' x dx C (fun y=>if y=name then some v else mA y)->Heap.SameBut dx s.heap h'->Q () {s with heap:=h',toks:=s.toks + 2}):
  wpAny (model prog w) A (setAttr (.ref x) name v) Q E s:=by
 obtain⟨od,J,hl⟩:=I.look;refine PySem.W.set_plain X J hs (PySem.W.osa_open (s:={s with toks:=s.toks + 1}) (r:=none) X J hp ht fun b=>?_);obtain⟨cd,hc,Gq⟩:=PySem.W.any_some hh;have hx:s.heap.get? x=some ⟨.ref C,some dx,.plain,#[]⟩:=I.obj;refine aB (bF (aB (aB (wpAny_loadPart hx (aB (PySem.W.Looks.here (s:={s with toks:=s.toks + 1}) (PySem.W.looks_clsIn X hc) ?_))))));rw[Gq];refine bF (a:=some dx) (aB (bF (aB ?_)));refine wpAny_nsSet1 (s:={s with toks:=s.toks + 1}) I.ns fun h' V0 Rt=>?_;obtain⟨oD,esD,epD,Xr,Xs,Xt⟩:=V0.count (PySem.Within.cons name v hw);refine aB (wpAny_lookBehind Xr (by rw[Xs]; exact pastItsLine_dict (aV Xt (by rw[bO]; lia))) ?_);exact bF (h _ ⟨(Rt.2 _ (wM I.ne)).trans I.obj,V0,I.ne⟩ Rt)
def IW {R:Result->Shared->Prop}{vs:List Value}{kw:List (Str×Value)}(X:K.In s.heap)(hm:makesIn K C=true)
  (hi:findIn K (.ref C) "__init__"=some (some (.ref f))) (hf:typeIn K (.ref f)=some (.type "function"))
  (h:codeAny (model prog w) (A.under (.builtin "type.__call__" ⟨.ref C :: vs,kw⟩)) (.call (.ref f) ⟨.ref (s.heap.objs.size + 1) :: vs,kw⟩) (PySem.W.InitBack (s.heap.objs.size + 1) R)
   {s with heap:=(s.heap.push PySem.W.emptyDict).push (PySem.W.instObj C s.heap.objs.size)}):
  codeAny (model prog w) A (.call (.ref C) ⟨vs,kw⟩) R s:=by
 obtain⟨hh,g,d,t,os⟩:=s;exact PySem.W.make_core (PySem.W.makes_of X hm) (PySem.W.looks_findIn X hi) (fun self=>PySem.W.bind_fn X self hf) (.inl rfl) h
end
def eK (f:Str)(v:V):List (Str×V)->List (Str×V)
 |[]=>[(f,v)]
 |(g,x) :: r=>if g=f then(g,v) :: r else(g,x) :: eK f v r
def tw (f g:Str)(v:V): ∀fs:List (Str×V),(eK f v fs).lookup g=if g=f then some v else fs.lookup g
 |[]=>by
  show List.lookup g [(f,v)]=_;by_cases h:g=f
  ·have hb:(g == f)=true:=Gd.mpr h;simp only[List.lookup,hb,if_pos h]
  ·have hb:(g == f)=false:=g6.mpr h;simp only[List.lookup,hb,if_neg h]
 |(k,x) :: r=>by
  have ih:=tw f g v r;rw[show eK f v ((k,x) :: r)=(if k=f then(k,v) :: r else(k,x) :: eK f v r) from rfl];by_cases hk:k=f
  ·rw[aY hk];by_cases h:g=k
   ·have hb:(g == k)=true:=Gd.mpr h;simp only[List.lookup,hb,if_pos (h.trans hk)]
   ·have hb:(g == k)=false:=g6.mpr h;simp only[List.lookup,hb,if_neg (fun e:g=f=>h (e.trans hk.symm))]
  ·rw[aN hk];by_cases h:g=k
   ·have hb:(g == k)=true:=Gd.mpr h;simp only[List.lookup,hb,if_neg (fun e:g=f=>hk (h.symm.trans e))]
   ·have hb:(g == k)=false:=g6.mpr h;simp only[List.lookup,hb];exact ih
def sC (f:Str)(v:V): ∀fs:List (Str×V),f∈(eK f v fs).map (·.1)/\ ∀g,g∈fs.map (·.1)->g∈(eK f v fs).map (·.1)
 |[]=>⟨by simp[eK],fun g h=>by simp at h⟩
 |(k,x) :: r=>by
  obtain⟨i1,i2⟩:=sC f v r;rw[show eK f v ((k,x) :: r)=(if k=f then(k,v) :: r else(k,x) :: eK f v r) from rfl];by_cases hk:k=f
  ·rw[aY hk];subst hk;exact⟨by simp,fun g h=>by simpa using h⟩
  ·rw[aN hk];refine⟨?_,fun g h=>?_⟩
   ·rw[cL];exact aI _ i1
   ·rw[cL] at h ⊢;rcases au.mp h with e|e
    ·exact au.mpr (.inl e)
    ·exact aI _ (i2 g e)
def nj (f:Str)(v:V): ∀fs:List (Str×V),(eK f v fs).length<=fs.length + 1
 |[]=>by simp[eK]
 |(k,x) :: r=>by
  have ih:=nj f v r;rw[show eK f v ((k,x) :: r)=(if k=f then(k,v) :: r else(k,x) :: eK f v r) from rfl];by_cases hk:k=f
  ·rw[aY hk,bO,bO]; lia
  ·rw[aN hk,bO,bO]; lia
def lC.some_of {v:V}{o:Option Value}(r:lC (some v) o): ∃u,o=some u/\RelV v u:=by
 cases o with
 |none=>exact(show False from r).elim
 |some u=>exact⟨u,rfl,r⟩
def lC.none_of {o:Option Value}(r:lC none o):o=none:=by
 cases o with
 |none=>rfl
 |some u=>exact(show False from r).elim
def Gy {v:V}{u:Value}(r:RelV v u):PySem.W.handedIn u=true:=by
 cases v with
 |eA=>cases(show u=Value.none from r); rfl
 |bl b=>cases(show u=Value.bool b from r); rfl
 |int i=>obtain⟨t,e⟩:=(show ∃t,u=Value.int i t from r); cases e; rfl
 |str x=>obtain⟨t,e⟩:=(show ∃t,u=Value.str x t from r); cases e; rfl
 |Gm b=>obtain⟨t,e⟩:=(show ∃t,u=Value.bytes b t from r); cases e; rfl
 |LG b=>obtain⟨t,e⟩:=(show ∃t,u=Value.float b t from r); cases e; rfl
 |ref a=>cases(show u=Value.ref a from r); rfl
 |ty n=>cases(show u=Value.type n from r); rfl
section
variable {P:Program}{w:World}{H H':Hp}{h h':Heap}{a C dx:Addr}{fs fs':List (Str×V)}
def qP (cB:oW P w H h)(e:H a=some (.ins C dx fs)): ∃mA,DH h a dx C mA/\(∀f,lC (fs.lookup f) (mA f))/\PySem.Within mA (fs.map (·.1))/\fs.length<=1000/\H dx=some (.own a):=by
 obtain⟨d,z,ne,ob,mA,n,r,q⟩:=(show dE P w H h a (.ins C dx fs) from cB a _ e);exact⟨mA,⟨ob,n,ne⟩,r,q,z,d⟩
end
structure wX (K:Frag)(C:Addr):Prop where
 pg:plainGet K C Str.empty=true
 hd:hasDictIn K C=true
 po:plainOver K C=true
 sa:findIn K (.ref C) "__setattr__"=some (some (.builtin "object.__setattr__"))
def wX.get {K:Frag}{C:Addr}(c:wX K C)(f:Str):plainGet K C f=true:=c.pg
def b9 (K:Frag)(C:Addr)(f:Str):Prop:=findIn K (.ref C) f=some none
def b9.Sv {K:Frag}{C:Addr}{f:Str}(n:b9 K C f):PySem.W.takerIn K C f=some none:=by
 unfold PySem.W.takerIn;rw[show findIn K (.ref C) f=some none from n];rfl
structure Meth (K:Frag)(C:Addr)(m:Str)(f:Addr):Prop where
 at_:findIn K (.ref C) m=some (some (.ref f))
 fn:PySem.W.isFn K (.ref f)=true
 kp:keepIn K (.ref f)=true
section
variable {X:Cx}{pins:List (Addr×Obj)}{σ:St}{H:Hp}{s:Shared}{a C dx:Addr}{fs:List (Str×V)}{f:Str}{v:V}{A:Around}{E:Value->Shared->Prop}
def DI {b:Bool}{Q:Value->Shared->Prop}(I:Inv X pins σ H s)(e:H a=some (.ins C dx fs))(c:wX X.K C)(n:b9 X.K C f)(l:fs.lookup f=some v)
  (h: ∀u s',Inv X pins σ H s'->RelV v u->Q u s'):wpAny (model X.prog X.w) A (getAttr (.ref a) f b) Q E s:=by
 obtain⟨mA,O,r,_,_,_⟩:=qP I.cB e;obtain⟨u,hu,ru⟩:=lC.some_of (v:=v) (o:=mA f) (by rw[← l]; exact r f);exact get_map I.gW O (c.get f) c.hd n hu (Gy ru) (h u _ (I.tok _) ru)
def DJ {m:Str}{g:Addr}{pl:Sem Bool}{Q:Value×List Value->Shared->Prop}(I:Inv X pins σ H s)(e:H a=some (.ins C dx fs))(c:wX X.K C)(k:Meth X.K C m g)(l:fs.lookup m=none)
  (h:Q (.ref g,[.ref a]) s):wpAny (model X.prog X.w) A (getMethod (.ref a) m pl) Q E s:=by
 obtain⟨mA,O,r,_,_,_⟩:=qP I.cB e;have hn:mA m=none:=lC.none_of (by rw[← l]; exact r m);exact IV I.gW O (c.get m) k.at_ k.fn hn h
def DK {y:V}{u:Value}{Q:Unit->Shared->Prop}(I:Inv X pins σ H s)(e:H a=some (.ins C dx fs))(c:wX X.K C)(n:b9 X.K C f)(hl:fs.length < 1000)(ry:RelV y u)
  (h: ∀s',Inv X pins σ (upd H a (.ins C dx (eK f y fs))) s'->Q () s'):wpAny (model X.prog X.w) A (setAttr (.ref a) f u) Q E s:=by
 obtain⟨mA,O,r,wi,_,ho⟩:=qP I.cB e;have hz:(fs.map (·.1)).length<=sizeLine:=by rw[ae,eP]; lia
 refine LS I.gW O c.sa c.po n.Sv c.hd wi hz fun h' O' sb=>h _ ?_;have hd: ∃o,h'.get? dx=some o:=let⟨o,_,_,e',_⟩:=O'.ns; ⟨o,e'⟩
 refine I.write (x:=a) (e:=dx) (by rw[e]; exact True.intro) (.inr ho) (fun b q hb z=>(sb.2 b hb).trans z) hd ?_;refine⟨by rw[az O.ne]; exact ho,?_,O.ne,O'.obj,_,O'.ns,fun g=>?_,fun g hg=>?_⟩
 ·have:=nj f y fs; lia
 ·show lC ((eK f y fs).lookup g) (if g=f then some u else mA g);rw[tw];by_cases q:g=f
  ·rw[aY q,aY q]; exact ry
  ·rw[aN q,aN q]; exact r g
 ·by_cases q:g=f
  ·rw[q]; exact(sC f y fs).1
  ·refine(sC f y fs).2 g (wi g fun z=>hg ?_);show(if g=f then some u else mA g)=none;rw[aN q]; exact z
def Inv.made (I:Inv X pins σ H s):Inv X pins σ (upd (upd H s.heap.objs.size (.own (s.heap.objs.size + 1))) (s.heap.objs.size + 1) (.ins C s.heap.objs.size []))
  {s with heap:=(s.heap.push PySem.W.emptyDict).push (PySem.W.instObj C s.heap.objs.size)}:=by
 have e1:(s.heap.push PySem.W.emptyDict).get? s.heap.objs.size=some PySem.W.emptyDict:=bR s.heap rfl;have e2:((s.heap.push PySem.W.emptyDict).push (PySem.W.instObj C s.heap.objs.size)).get? (s.heap.objs.size + 1)=some (PySem.W.instObj C s.heap.objs.size):=by
  have:=bR (s.heap.push PySem.W.emptyDict) (o:=PySem.W.instObj C s.heap.objs.size) rfl;rwa [oB] at this
 have e3:(s.heap.push PySem.W.emptyDict).Ns s.heap.objs.size (fun _=>none):=⟨PySem.W.emptyDict,#[],_,e1,rfl,(fun e he=>absurd he (by simp)),fun _=>rfl⟩;have I1:=I.laid (a:=s.heap.objs.size) (o:= .own (s.heap.objs.size + 1)) (h':=s.heap.push PySem.W.emptyDict) (t':=s.toks) (fun b u q=>ay _ q) (aD _) ⟨_,e1⟩;refine I1.laid (a:=s.heap.objs.size + 1) (o:= .ins C s.heap.objs.size []) (t':=s.toks) (fun b u q=>ay _ q) (iQ (oB _ _)) ?_;have ne:s.heap.objs.size≠s.heap.objs.size + 1:=a7 (gg _);refine⟨by rw[az ne,ag],bq _,ne,e2,fun _=>none,(Heap.Ns1.of_empty e3).at fun o q=>ay _ q,fun _=>True.intro,fun y hy=>absurd rfl hy⟩
def EW {prog:Program}{w:World}{env:Env}{e:Expr}{f:Str}{pos:Pos}{s:Shared}{Q:Value->Shared->Prop}(hb:attributeBase e f env (eval e env)=eval e env)
  (h:wpAny (model prog w) A (eval e env) (fun o s₁=>wpAny (model prog w) A (getAttr o f true) Q E s₁) E s):wpAny (model prog w) A (eval (.Attribute e f pos) env) Q E s:=
 Attribute_any_ h (by rw[arm_eval_Attribute,hb])
end
inductive EvF (K:Frag)(H:Hp)(x:V)(f:Str)(k:V->Prop):Prop
 |mk (a C dx:Addr)(fs:List (Str×V))(v:V)(h1:x= .ref a)(h2:H a=some (.ins C dx fs))(c:wX K C)(n:b9 K C f)(l:fs.lookup f=some v)(q:k v):EvF K H x f k
def OT (K:Frag)(ta:TE)(f:Str):TE:=fun σ H Q=>ta σ H fun x H1=>EvF K H1 x f fun v=>Q v H1
inductive EvG (K:Frag)(H:Hp)(x:V)(f:Str)(k:Addr->Addr->Addr->List (Str×V)->Prop):Prop
 |mk (a C dx:Addr)(fs:List (Str×V))(h1:x= .ref a)(h2:H a=some (.ins C dx fs))(c:wX K C)(n:b9 K C f)(l:fs.length < 1000)(q:k a C dx fs):EvG K H x f k
def Sw (K:Frag)(ta tv:TE)(f:Str):TS:=fun D σ H=>tv σ H fun y H1=>ta σ H1 fun x H2=>EvG K H2 x f fun a C dx fs=>D.nx σ (upd H2 a (.ins C dx (eK f y fs)))
section
variable {X:Cx}{o e value:Expr}{f:Str}{pos pos' OU:Pos}{ta tv:TE}
def IX (he:PE X e ta)(hb:attributeBase e f X.env (eval e X.env)=eval e X.env):PE X (.Attribute e f pos) (OT X.K ta f):=by
 intro pins s σ H Q I h;refine EW hb (dY (he pins s σ H _ I h) fun u s1 ⟨x,H1,I1,rx,a,C,dx,fs,v,ex,ea,c,n,l,q⟩=>?_);subst ex;obtain rfl:u=Value.ref a:=rx;exact DI I1 ea c n l fun u' s2 I2 ru=>⟨v,H1,I2,ru,q⟩
def OV (ha:PE X o ta)(hv:PE X value tv)(hs:swapsWith value (some (.Attribute o f pos')) pos.line X.env=pure false):PS X (.Assign [.Attribute o f pos'] value pos) (Sw X.K ta tv f):=by
 intro pins s σ H D I h;refine Ox (dY (hv pins s σ H _ I h) fun u s1 ⟨y,H1,I1,ry,q⟩=>dY (ha pins s1 σ H1 _ I1 q) fun ov s2 ⟨x,H2,I2,rx,a,C,dx,fs,ex,ea,c,n,l,q2⟩=>?_) hs;subst ex;obtain rfl:ov=Value.ref a:=rx;exact DK I2 ea c n l ry fun s3 I3=>⟨σ,_,I3,q2⟩
end
section
variable {X:Cx}{pins:List (Addr×Obj)}{σ:St}{H:Hp}{s:Shared}{A:Around}{E:Value->Shared->Prop}{Q:Value->Shared->Prop}{c:Value}{b:Bool}
inductive mQ (K:Frag)(H:Hp):V->Value->Prop where
 |eA:mQ K H .eA (.type "NoneType")
 |bl (x:Bool):mQ K H (.bl x) (.type "bool")
 |int (i:Int):mQ K H (.int i) (.type "int")
 |str (x:Str):mQ K H (.str x) (.type "str")
 |LG (x:UInt64):mQ K H (.LG x) (.type "float")
 |lst {a:Addr} {xs:List V} (e:H a=some (.lst xs)):mQ K H (.ref a) (.type "list")
 |Dj {a:Addr} {o:Obj} {xs:List V} (e:H a=some (.Dj o (.lst xs))):mQ K H (.ref a) (.type "list")
 |tup {a:Addr} {xs:List V} (e:H a=some (.tup xs)):mQ K H (.ref a) (.type "tuple")
 |dK {a:Addr} {bh:List (Key×V)} (e:H a=some (.dK bh)):mQ K H (.ref a) (.type "dict")
 |dT {a:Addr} {bh:List (List Key×V)} (e:H a=some (.dT bh)):mQ K H (.ref a) (.type "dict")
 |ins {a C dx:Addr} {fs:List (Str×V)} (e:H a=some (.ins C dx fs)) (cl:wX K C) (ha:findIn K (.ref C) "__class__"=some (some (.builtin "object.__class__")))
   (hn:specialIn K (.builtin "object.__class__") "__get__"=some (some (.builtin "getset_descriptor.__get__"))) (pZ:PySem.W.takesIn K (.builtin "object.__class__")=some true)
   (hm:PySem.W.mroIn K C (.type "object")=some true):mQ K H (.ref a) (.ref C)
def Gz {x:V}{u t:Value}(I:Inv X pins σ H s)(rx:RelV x u)(ty:mQ X.K H x t)(e:PySem.W.kitOne X.K t c=some b)(h: ∀tk,Q (.bool b) {s with toks:=tk}):
  wpAny (model X.prog X.w) A (call (.builtin "isinstance") [u,c]) Q E s:=by
 cases ty with
 |eA=>cases(show u=Value.none from rx); exact eh PySem.W.kitx_none I.gW True.intro e (fun z=>nomatch z) h
 |bl y=>cases(show u=Value.bool y from rx); exact eh PySem.W.kitx_bool I.gW True.intro e (fun z=>nomatch z) h
 |int i=>obtain⟨t,q⟩:=(show ∃t,u=Value.int i t from rx); cases q; exact eh PySem.W.kitx_int I.gW True.intro e (fun z=>nomatch z) h
 |str y=>obtain⟨t,q⟩:=(show ∃t,u=Value.str y t from rx); cases q; exact eh PySem.W.kitx_str I.gW True.intro e (fun z=>nomatch z) h
 |LG y=>obtain⟨t,q⟩:=(show ∃t,u=Value.float y t from rx); cases q; exact eh PySem.W.kitx_float I.gW True.intro e (fun z=>nomatch z) h
 | @lst a xs ea=>
  cases(show u=Value.ref a from rx);obtain⟨_,_,n,_,h1⟩:=(show dE X.prog X.w H s.heap a (.lst xs) from I.cB a _ ea);exact eh sf I.gW ⟨_,h1,rfl⟩ e (fun z=>nomatch z) h
 | @Dj a ob xs ea=>
  cases(show u=Value.ref a from rx);obtain⟨_,_,_,n,_,h1⟩:=(show dE X.prog X.w H s.heap a (.Dj ob (.lst xs)) from I.cB a _ ea);exact eh sf I.gW ⟨_,h1,rfl⟩ e (fun z=>nomatch z) h
 | @tup a xs ea=>
  cases(show u=Value.ref a from rx);obtain⟨_,_,_,p⟩:=(show dE X.prog X.w H s.heap a (.tup xs) from I.cB a _ ea);obtain⟨o,h1,h2,_⟩:=p;exact eh PySem.W.kitx_tuple I.gW ⟨o,h1,h2⟩ e (fun z=>nomatch z) h
 | @dK a bh ea=>
  cases(show u=Value.ref a from rx);obtain⟨_,_,vs,_,p⟩:=(show dE X.prog X.w H s.heap a (.dK bh) from I.cB a _ ea);obtain⟨o,es,ep,h1,h2,_⟩:=p;exact eh sh I.gW ⟨o,h1,h2.1⟩ e (fun z=>nomatch z) h
 | @dT a bh ea=>
  cases(show u=Value.ref a from rx);obtain⟨_,_,xs,_,o,es,ep,h1,h2,_⟩:=(show dE X.prog X.w H s.heap a (.dT bh) from I.cB a _ ea);exact eh sh I.gW ⟨o,h1,h2.1⟩ e (fun z=>nomatch z) h
 | @ins a C dx fs ea cl ha hn pZ hm=>
  cases(show u=Value.ref a from rx);obtain⟨mA,O,_⟩:=qP I.cB ea;obtain⟨od,J,_⟩:=O.look;exact eh (PySem.W.kitx_own (cl.get _) cl.hd ha hn pZ hm) I.gW J e (fun z=>nomatch z) h
end
structure fh (k:Nat)(A:Around):Prop where
 hd:A.handled=none
 dp:A.depth + 3 * k + 5 < recursionLimit
 un:A.units + 16 * k + 200 < cLine
def fh.mono {j k:Nat}{A:Around}(r:fh k A)(h:j<=k):fh j A:=⟨r.hd,by have:=r.dp; lia,by have:=r.un; lia⟩
def fh.deeper {k:Nat}{A:Around}(r:fh (k + 1) A)(env:Env):fh k (A.deeper env):=
 ⟨r.hd,by have:=r.dp; show A.depth + 1 + 3 * k + 5 < _; lia,by have:=r.un; show A.units + 3 + 16 * k + 200 < _; lia⟩
def uR {A:Around}{C:Addr}{us:List Value}{kw:List (Str×Value)}:(A.under (.builtin "type.__call__" ⟨.ref C :: us,kw⟩)).depth=A.depth + 1:=by
 first|rfl|simp[Around.under,Code.weight,Code.isCreation,Code.isGuard,Code.isCaller,Code.frames,Code.isFrame,guardIds]
def uS {A:Around}{C:Addr}{us:List Value}{kw:List (Str×Value)}:(A.under (.builtin "type.__call__" ⟨.ref C :: us,kw⟩)).units=A.units + 1:=by
 first|rfl|simp[Around.under,Code.cUnits,Code.frames,Code.isFrame]
def fh.make {k:Nat}{A:Around}(r:fh (k + 1) A)(C:Addr)(us:List Value)(kw:List (Str×Value)):fh k (A.under (.builtin "type.__call__" ⟨.ref C :: us,kw⟩)):=
 ⟨r.hd,by have:=r.dp; rw[uR]; lia,by have:=r.un; rw[uS]; lia⟩
def fh.depth {k:Nat}{A:Around}(r:fh k A):A.depth < recursionLimit:=by have:=r.dp; lia
def fh.units {k:Nat}{A:Around}(r:fh k A):A.units + 64 < cLine:=by have:=r.un; lia
def Bp:TA:=fun _ H Q=>Q [] H
def Bq (ta:TE)(tr:TA):TA:=fun σ H Q=>ta σ H fun x H1=>tr σ H1 fun xs H2=>Q (x :: xs) H2
section
variable {X:Cx}{e:Expr}{es:List Expr}{te:TE}{t:TA}{pos:Pos}
def aw:PA X [] Bp:=fun _ _ _ _ H Q I h=>Calls.spliced_nil ⟨[],H,I,.nil,h⟩
def aa (ha:PE X e te)(hr:PA X es t)(hs:starEach (e :: es) X.env=(false,eval e X.env) :: starEach es X.env:=by rfl):PA X (e :: es) (Bq te t):=by
 intro pos pins s σ H Q I h;rw[hs];show wpAny _ _ (spliced ((false,eval e X.env) :: backTo pos (starEach es X.env))) _ _ s;refine Calls.spliced_cons (dY (ha pins s σ H _ I h) fun u s1 ⟨x,H1,I1,r1,q1⟩=>?_);exact dY (hr pos pins s1 σ H1 _ I1 q1) fun us s2 ⟨xs,H2,I2,r2,q2⟩=>⟨x :: xs,H2,I2,.cons r1 r2,q2⟩
def Xu (t:TA):TE:=fun σ H Q=>t σ H fun xs H1=>xs.length<=sizeLine/\ ∀p,H1 p=none->Q (.ref p) (upd H1 p (.tup xs))
def Xv (t:TA):TE:=fun σ H Q=>t σ H fun xs H1=>xs.length<=sizeLine/\ ∀p,H1 p=none->Q (.ref p) (upd H1 p (.lst xs))
def cK {x1}(h:PA X es t):PE X (.Tuple es x1 pos) (Xu t):=by
 intro pins s σ H Q I hq;refine wpAny_Tuple_spliced (dY (h pos pins s σ H _ I hq) fun us s1 ⟨xs,H1,I1,r,z,q⟩=>⟨by rw[← r.length]; exact z,?_⟩);have hf:H1 s1.heap.objs.size=none:=I1.cB.fresh (aD _);refine⟨.ref s1.heap.objs.size,upd H1 s1.heap.objs.size (.tup xs),I1.laid (t':=s1.toks) (fun b u e=>ay _ e) (aD _) ?_,rfl,q _ hf⟩;exact⟨z,us,r,⟨_,bR _ rfl,rfl,_,rfl⟩⟩
def bS (h:PA X es t):PE X (.List es pos) (Xv t):=by
 intro pins s σ H Q I hq;refine wpAny_List_spliced (dY (h pos pins s σ H _ I hq) fun us s1 ⟨xs,H1,I1,r,z,q⟩=>⟨by rw[← r.length]; exact z,?_⟩);have hf:H1 s1.heap.objs.size=none:=I1.cB.fresh (aD _);refine⟨.ref s1.heap.objs.size,upd H1 s1.heap.objs.size (.lst xs),I1.laid (t':=s1.toks) (fun b u e=>ay _ e) (aD _) ?_,rfl,q _ hf⟩;exact⟨z,us,0,r,bR _ rfl⟩
end
abbrev Sp:=List V->Hp->VK->XK->Prop
abbrev EY:=List Env->Hp->Shared->XK->Value->Shared->Prop
structure qQ (P:Program)(w:World)(K:Frag)(mg:Str->Option Value)(base:Heap)(A:Around)(outer:List Env)(s:Shared)(H:Hp):Prop where
 frames:A.frames=some outer
 mod:Mod K mg base
 bs: ∀b o,base.get? b=some o->s.heap.get? b=some o/\H b=none
 Be:base.objs.size<=s.heap.objs.size
 l6:s.heap.FunFrames base outer
 EN: ∀b∈Dz outer,H b=none
 cB:oW P w H s.heap
 bare:AllBare s.gens
def CE (outer:List Env)(P:Program)(w:World)(H:Hp)(s:Shared)(Q:VK)(u:Value)(s':Shared):Prop:=
 ∃v H',s'.os=s.os/\AllBare s'.gens/\Un (Dz outer) [] H H' s.heap s'.heap/\oW P w H' s'.heap/\RelV v u/\Q v H'
def CR (CX:EY)(outer:List Env)(P:Program)(w:World)(H:Hp)(s:Shared)(Q:VK)(E:XK)(r:Result)(s':Shared):Prop:=
 match r with
 | .ok (.ret u)=>CE outer P w H s Q u s'
 | .ok _=>False
 | .error e=>CX outer H s E e s'
structure l7 (P:Program)(w:World)(K:Frag)(mg:Str->Option Value)(base:Heap)(CX:EY)(k:Nat)(f:Addr)(fd:FuncData)(ps:List Str)(sp:Sp):Prop where
 len: ∀vs H Q E,sp vs H Q E->vs.length=ps.length
 run: ∀(A:Around) (outer:List Env) (s:Shared) (H:Hp) (args:Args) (us:List Value) (vs:List V) (Q:VK) (E:XK),fh k A->qQ P w K mg base A outer s H->BindsTo s fd args (ps.zip us)->Vals vs us->sp vs H Q E->
  codeAny (model P w) A (.call (.ref f) args) (CR CX outer P w H s Q E) s
def qQ.make {P:Program}{w:World}{K:Frag}{mg:Str->Option Value}{base:Heap}{A:Around}{outer:List Env}{s:Shared}{H:Hp}(e:qQ P w K mg base A outer s H)(C:Addr)(us:List Value)(kw:List (Str×Value)):
  qQ P w K mg base (A.under (.builtin "type.__call__" ⟨.ref C :: us,kw⟩)) outer s H:=⟨by first|exact e.frames|(simpa[Around.under,Code.envs,Code.isFrame,pushEnvs] using e.frames),e.mod,e.bs,e.Be,e.l6,e.EN,e.cB,e.bare⟩
def qQ.in1 {P:Program}{w:World}{K:Frag}{mg:Str->Option Value}{base:Heap}{A:Around}{outer:List Env}{s:Shared}{H:Hp}(e:qQ P w K mg base A outer s H):
  qQ P w K mg base A.in1 outer s H:=⟨e.frames,e.mod,e.bs,e.Be,e.l6,e.EN,e.cB,e.bare⟩
section
variable {X:Cx}{pins:List (Addr×Obj)}{σ:St}{H:Hp}{s s':Shared}
def Inv.IZ (I:Inv X pins σ H s):qQ X.prog X.w X.K X.mg X.base X.A X.stack s H:=
 ⟨I.ok.frames,I.ok.mod,I.bs,aV I.ok.Be I.sz,I.stack,I.qM,I.cB,I.bare⟩
def Inv.after {Q:VK}{u:Value}(I:Inv X pins σ H s)(h:CE X.stack X.prog X.w H s Q u s'):EP X pins σ Q u s':=by
 obtain⟨v,H',os,bare,un,cB,r,q⟩:=h;obtain⟨hh,g,d,t,os'⟩:=s';obtain rfl:os'=s.os:=os;exact⟨v,H',I.call (h':=hh) (g':=g) (d':=d) (t':=t) (ch:=[]) un cB bare (fun b z=>absurd z (by simp)),r,q⟩
end
def uT (sp:Sp)(uU:List V)(E:XK)(t:TA):TE:=fun σ H Q=>t σ H fun vs H1=>sp (vs ++ uU) H1 Q E
def NL (C:Addr)(m:Str)(sp:Sp)(uU:List V)(E:XK)(ta:TE)(t:TA):TE:=fun σ H Q=>ta σ H fun x H1=> ∃a dx fs,x= .ref a/\H1 a=some (.ins C dx fs)/\fs.lookup m=none/\
 t σ H1 fun vs H2=>sp (x :: (vs ++ uU)) H2 Q E
def EZ (C:Addr)(sp:Sp)(uU:List V)(E:XK)(t:TA):TE:=fun σ H Q=>t σ H fun vs H1=> ∀x dx,H1 x=none->H1 dx=none->dx≠x->
 sp (.ref x :: (vs ++ uU)) (upd (upd H1 dx (.own x)) x (.ins C dx [])) (fun v H2=>v= .eA/\Q (.ref x) H2) E
def Binds (K:Frag)(fd:FuncData)(ps:List Str)(ds:List Value):Prop:=
 ∀(s:Shared) (us:List Value),K.In s.heap->(us ++ ds).length=ps.length->BindsTo s fd ⟨us,[]⟩ (ps.zip (us ++ ds))
def Binds.all {K:Frag}{fd:FuncData}{ps:List Str}(h: ∀us:List Value,us.length=ps.length->bindArgs fd ⟨us,[]⟩=pure (ps.zip us)):Binds K fd ps []:=fun s us _ hl=>by
 rw[cf] at hl ⊢;exact .of_eq (h us hl)
def Passes (CX:EY)(X:Cx)(E:XK):Prop:= ∀(pins:List (Addr×Obj)) (σ:St) (H:Hp) (s:Shared) (e:Value) (s':Shared),Inv X pins σ H s->CX X.stack H s E e s'->X.xe e s'
section
variable {X:Cx}{CX:EY}{k:Nat}{f C:Addr}{fd:FuncData}{ps:List Str}{sp:Sp}{uU:List V}{ds:List Value}{E:XK}{x m:Str}{p pos apos:Pos}{e o:Expr}{es:List Expr}{ta:TE}{t:TA}
def y2 {pins:List (Addr×Obj)}{σ:St}{H:Hp}{s:Shared}{Q:VK}{us:List Value}{vs:List V}(F:l7 X.prog X.w X.K X.mg X.base CX k f fd ps sp)(hr:fh k X.A)(hb:Binds X.K fd ps ds)(hd:Vals uU ds)(hx:Passes CX X E)
  (I:Inv X pins σ H s) (r:Vals vs us) (h:sp (vs ++ uU) H Q E):wpAny (model X.prog X.w) X.A (call (.ref f) us) (EP X pins σ Q) X.xe s:=by
 have r2:Vals (vs ++ uU) (us ++ ds):=r.append hd;have hl:(us ++ ds).length=ps.length:=by rw[← r2.length]; exact F.len _ _ _ _ h
 refine EM (Dw (F.run X.A X.stack s H ⟨us,[]⟩ (us ++ ds) (vs ++ uU) Q E hr I.IZ (hb s us I.gW hl) r2 h) fun r s' hq=>?_);cases r with
 |error e=>exact hx pins σ H s e s' I hq
 |ok fl=>
  cases fl with
  |ret u=>exact I.after hq
  |next=>exact False.elim hq
  |brk=>exact False.elim hq
  |cont=>exact False.elim hq
def E1 (F:l7 X.prog X.w X.K X.mg X.base CX k f fd ps sp)(hr:fh k X.A)(hg:Gl X x)(hm:X.mg x=some (.ref f))(hk:keepIn X.K (.ref f)=true)(hb:Binds X.K fd ps ds)(hd:Vals uU ds)(hx:Passes CX X E)
  (ha:PA X (e :: es) t) (qR:(x == ("__debug__":Str))=false:=by decide) (he:starEach (e :: es) X.env=(false,eval e X.env) :: starEach es X.env:=by rfl) (iS:(backTo pos (starEach es X.env)).any (·.1)=false:=by rfl):
  PE X (.Call (.Name x p) (e :: es) [] pos) (uT sp uU E t):=by
 intro pins s σ H Q I h;refine eQ (jF I hg hm ?_ qR);refine kz (h₀:=X.base) I.ok.mod.LI hk (dY (ha pos pins s σ H _ I h) fun us s1 ⟨vs,H1,I1,r,q⟩=>⟨I1.gW,?_⟩) he iS;exact y2 F hr hb hd hx I1 r q
def I9 (F:l7 X.prog X.w X.K X.mg X.base CX k f fd ps sp)(hr:fh k X.A)(hg:Gl X x)(hm:X.mg x=some (.ref f))(hk:keepIn X.K (.ref f)=true)(hb:Binds X.K fd ps ds)(hd:Vals uU ds)(hx:Passes CX X E)
  (qR:(x == ("__debug__":Str))=false:=by decide):PE X (.Call (.Name x p) [] [] pos) (uT sp uU E Bp):=by
 intro pins s σ H Q I h;refine eQ (jF I hg hm ?_ qR);exact Ba I.gW hk (y2 (us:=[]) F hr hb hd hx I .nil h)
def LU {pl:Sem Bool}(he:PE X o ta)(c:wX X.K C)(hm:Meth X.K C m f)(F:l7 X.prog X.w X.K X.mg X.base CX k f fd ps sp)(hr:fh k X.A)(hb:Binds X.K fd ps ds)(hd:Vals uU ds)(hx:Passes CX X E)(ha:PA X (e :: es) t)
  (r6:starEach (e :: es) X.env=(false,eval e X.env) :: starEach es X.env:=by rfl) (iS:(backTo pos (starEach es X.env)).any (·.1)=false:=by rfl)
  (ht:eval (.Call (.Attribute o m apos) (e :: es) [] pos) X.env=(do
   let ov ← eval o X.env
   standAt apos.atName
   let(f,first) ← holding [ov] (getMethod ov m pl)
   callWith pos f first (backTo pos (starEach (e :: es) X.env)) (backToKw pos (keywordEach [] X.env))):=by rfl):
  PE X (.Call (.Attribute o m apos) (e :: es) [] pos) (NL C m sp uU E ta t):=by
 intro pins s σ H Q I h;refine wN (pl:=pl) (dY (he pins s σ H _ I h) fun u s1 ⟨x,H1,I1,rx,a,dx,fs,ex,ea,l,q⟩=>?_) ht;subst ex;obtain rfl:u=Value.ref a:=rx;refine DJ I1 ea c hm l ?_;refine kz (first:=[.ref a]) (h₀:=X.base) I.ok.mod.LI hm.kp (dY (ha pos pins s1 σ H1 _ I1 q) fun us s2 ⟨vs,H2,I2,r,q2⟩=>⟨I2.gW,?_⟩) r6 iS;exact y2 (us:= .ref a :: us) (vs:= .ref a :: vs) F hr hb hd hx I2 (.cons rfl r) q2
structure Mk (K:Frag)(C f:Addr):Prop where
 makes:makesIn K C=true
 init:findIn K (.ref C) "__init__"=some (some (.ref f))
 fn:PySem.W.isFn K (.ref f)=true
 kp:keepIn K (.ref C)=true
def Br {pins:List (Addr×Obj)}{σ:St}{H:Hp}{s:Shared}{Q:VK}{us:List Value}{vs:List V}(M:Mk X.K C f)(F:l7 X.prog X.w X.K X.mg X.base CX k f fd ps sp)(hr:fh (k + 1) X.A)(hb:Binds X.K fd ps ds)(hd:Vals uU ds)
  (hx:Passes CX X E) (I:Inv X pins σ H s) (r:Vals vs us)
  (h: ∀x dx,H x=none->H dx=none->dx≠x->sp (.ref x :: (vs ++ uU)) (upd (upd H dx (.own x)) x (.ins C dx [])) (fun v H2=>v= .eA/\Q (.ref x) H2) E):
  wpAny (model X.prog X.w) X.A (call (.ref C) us) (EP X pins σ Q) X.xe s:=by
 have hq:=h (s.heap.objs.size + 1) s.heap.objs.size (I.cB.fresh (cM _)) (I.cB.fresh (aD _)) (a7 (gg _));have I2:=Inv.made (C:=C) I;have r2:Vals (V.ref (s.heap.objs.size + 1) :: (vs ++ uU)) (Value.ref (s.heap.objs.size + 1) :: (us ++ ds)):= .cons rfl (r.append hd);have hl:(Value.ref (s.heap.objs.size + 1) :: us ++ ds).length=ps.length:=by
  have e:=r2.length;rw[F.len _ _ _ _ hq] at e;exact e.symm
 refine EM (IW (f:=f) I.gW M.makes M.init (Gd.mp M.fn) (Dw (F.run _ X.stack _ _ ⟨Value.ref (s.heap.objs.size + 1) :: us,[]⟩ (Value.ref (s.heap.objs.size + 1) :: (us ++ ds)) _ _ E (hr.make C us [])
  (I2.IZ.make C us []) (hb _ (Value.ref (s.heap.objs.size + 1) :: us) I2.gW hl) r2 hq) fun r s' tE=>?_))
 cases r with
 |error e=>exact hx pins σ _ _ e s' I2 tE
 |ok fl=>
  cases fl with
  |ret u=>
   obtain⟨v,H',I3,rv,ev,q3⟩:=I2.after tE;subst ev;exact⟨rv,⟨V.ref (s.heap.objs.size + 1),H',I3,rfl,q3⟩⟩
  |next=>exact False.elim tE
  |brk=>exact False.elim tE
  |cont=>exact False.elim tE
def LV (M:Mk X.K C f)(F:l7 X.prog X.w X.K X.mg X.base CX k f fd ps sp)(hr:fh (k + 1) X.A)(hg:Gl X x)(hm:X.mg x=some (.ref C))(hb:Binds X.K fd ps ds)(hd:Vals uU ds)(hx:Passes CX X E)
  (ha:PA X (e :: es) t) (qR:(x == ("__debug__":Str))=false:=by decide) (he:starEach (e :: es) X.env=(false,eval e X.env) :: starEach es X.env:=by rfl) (iS:(backTo pos (starEach es X.env)).any (·.1)=false:=by rfl):
  PE X (.Call (.Name x p) (e :: es) [] pos) (EZ C sp uU E t):=by
 intro pins s σ H Q I h;refine eQ (jF I hg hm ?_ qR);refine kz (h₀:=X.base) I.ok.mod.LI M.kp (dY (ha pos pins s σ H _ I h) fun us s1 ⟨vs,H1,I1,r,q⟩=>⟨I1.gW,?_⟩) he iS;exact Br M F hr hb hd hx I1 r q
def Ja (M:Mk X.K C f)(F:l7 X.prog X.w X.K X.mg X.base CX k f fd ps sp)(hr:fh (k + 1) X.A)(hg:Gl X x)(hm:X.mg x=some (.ref C))(hb:Binds X.K fd ps ds)(hd:Vals uU ds)(hx:Passes CX X E)
  (qR:(x == ("__debug__":Str))=false:=by decide):PE X (.Call (.Name x p) [] [] pos) (EZ C sp uU E Bp):=by
 intro pins s σ H Q I h;refine eQ (jF I hg hm ?_ qR);exact Ba I.gW M.kp (Br (us:=[]) M F hr hb hd hx I .nil h)
end
section
variable {X:Cx}{CX:EY}{k:Nat}{f C:Addr}{fd:FuncData}{ps ks:List Str}{sp:Sp}{E:XK}{x m:Str}{p pos apos Sx:Pos}{e o:Expr}{es:List Expr}{kws:List Keyword}{te ta:TE}{t tk:TA}{nm:Option Str}
variable {g:List Value->List Value->List Value}{gV:List V->List V->List V}
end
structure aU (N P:List Str)(sc:Scope):Prop where
 kind:sc.kind= .function:=by rfl
 co:sc.isCoroutine=false:=by rfl
 gen:sc.isGenerator=false:=by rfl
 nd:N.Nodup:=by decide +kernel
 pre:N.take P.length=P:=by rfl
 par: ∀x∈P,sc.names.lookup x=some .local∨sc.names.lookup x=some .cell:=by decide +kernel
 OW: ∀y∈sc.names,y.2≠ .free:=by decide +kernel
def ye {kindOf:Str->Option NameKind}{x:Str}: ∀{binds:List (Str×Value)} {m:Str->Option Value},(∀v,(x,v)∉binds)->bindL kindOf binds m x=m x
 |[],_,_=>rfl
 |(n,v) :: r,m,h=>by
  unfold bindL;rw[ye fun w hw=>h w (aI _ hw)];split
  ·have:x≠n:=by rintro rfl; exact h v aS
   simp[this]
  ·rfl
def yf {kindOf:Str->Option NameKind}{x:Str}: ∀{binds:List (Str×Value)} {m:Str->Option Value},(∀v,(x,v)∉binds)->bindC kindOf binds m x=m x
 |[],_,_=>rfl
 |(n,v) :: r,m,h=>by
  unfold bindC;rw[yf fun w hw=>h w (aI _ hw)];split
  ·rfl
  ·have:x≠n:=by rintro rfl; exact h v aS
   simp[this]
def yg {kindOf:Str->Option NameKind}{x:Str}{v:Value}: ∀{P:List Str} {vs:List Value} {i:Nat} {m:Str->Option Value},P.Nodup->P[i]? =some x->vs[i]? =some v->kindOf x=some .local->
  bindL kindOf (P.zip vs) m x=some v
 |[],_,_,_,_,h,_,_=>by simp at h
 |_ :: _,[],_,_,_,_,h,_=>by simp at h
 |p :: P,w :: vs,0,m,nd,h1,h2,hk=>by
  simp at h1 h2; subst h1; subst h2;show bindL kindOf ((p,w) :: P.zip vs) m p=_;unfold bindL;rw[ye fun v hv=>(dI.mp nd).1 (oS hv).1,aY hk];simp
 |p :: P,w :: vs,i + 1,m,nd,h1,h2,hk=>by
  show bindL kindOf ((p,w) :: P.zip vs) m x=_;unfold bindL;exact yg (i:=i) (List.nodup_cons.mp nd).2 (by simpa using h1) (by simpa using h2) hk
def yh {kindOf:Str->Option NameKind}{x:Str}{v:Value}: ∀{P:List Str} {vs:List Value} {i:Nat} {m:Str->Option Value},P.Nodup->P[i]? =some x->vs[i]? =some v->kindOf x≠some .local->
  bindC kindOf (P.zip vs) m x=some v
 |[],_,_,_,_,h,_,_=>by simp at h
 |_ :: _,[],_,_,_,_,h,_=>by simp at h
 |p :: P,w :: vs,0,m,nd,h1,h2,hk=>by
  simp at h1 h2; subst h1; subst h2;show bindC kindOf ((p,w) :: P.zip vs) m p=_;unfold bindC;rw[yf fun v hv=>(dI.mp nd).1 (oS hv).1,aN hk];simp
 |p :: P,w :: vs,i + 1,m,nd,h1,h2,hk=>by
  show bindC kindOf ((p,w) :: P.zip vs) m x=_;unfold bindC;exact yh (i:=i) (List.nodup_cons.mp nd).2 (by simpa using h1) (by simpa using h2) hk
def start (N:List Str)(vs:List V):St:=vs.map some ++ List.replicate (N.length - vs.length) none
def k7 (CX:EY)(P:Program)(w:World)(K:Frag)(mg:Str->Option Value)(base:Heap)(N:List Str)(qual:Str)(scope:Scope)(f:Addr)(cd:Value)(A:Around)(outer:List Env)(s:Shared)(H:Hp)(E:XK):Cx where
 prog:=P
 w:=w
 K:=K
 mg:=mg
 base:=base
 A:=A.deeper (envOfC qual scope s.heap.objs.size f cd)
 N:=N
 s₀:=s
 H₀:=H
 env:=envOfC qual scope s.heap.objs.size f cd
 outer:=outer
 stack:=envOfC qual scope s.heap.objs.size f cd :: outer
 ex:=[]
 calm:=true
 fn:=fun _=>true
 pn:=[]
 xe:=fun e s'=>wpAny (model P w) (A.deeper (envOfC qual scope s.heap.objs.size f cd)) (leaving (envOfC qual scope s.heap.objs.size f cd) e) (fun _ E2=>CX outer H s E e E2) (fun e' E2=>CX outer H s E e' E2) s'
def Bs {sc:Scope}{n:Nat}{x:Str}(h:sc.names.lookup x=some .cell): ∃c,(cellsFrom n sc.names []).lookup x=some c:=by
 have q:=lA sc.names n [] (.inl h);exact Ri.mp q
def yi {CX:EY}{P:Program}{w:World}{K:Frag}{mg:Str->Option Value}{base:Heap}{N ps:List Str}{qual:Str}{scope:Scope}{f:Addr}{cd:Value}{A:Around}{outer:List Env}{s s1:Shared}{H:Hp}{E:XK}{us:List Value}{vs:List V}
  (S:aU N ps scope) (hd:A.handled=none) (e0:qQ P w K mg base A outer s H) (hl:vs.length=ps.length) (r:Vals vs us)
  (x:InCallC s s.heap.objs.size (bindL (envOfC qual scope s.heap.objs.size f cd).kindOf (ps.zip us) fun _=>none) (cellsFrom (s.heap.objs.size + 1) scope.names []) (bindC (envOfC qual scope s.heap.objs.size f cd).kindOf (ps.zip us) fun _=>none) s1):
  Inv (k7 CX P w K mg base N qual scope f cd A outer s H E) [] (start N vs) H s1:=by
 have iS:ps.length<=N.length:=by have:=cU List.length S.pre; rw[ba] at this; lia
 obtain⟨h1,tk,rfl,hk⟩:=x.done;have Xw: ∀b:Addr,b∉(k7 CX P w K mg base N qual scope f cd A outer s H E).ex:=fun b z=>absurd (show b∈([]:List Addr) from z) (by simp);refine⟨⟨e0.mod,S.kind,rfl,rfl,aD _,fun y z c h1 h2=>?_,fun y hy=>?_,fun y c _ h=>?_,fun _=>hd,Around.frames_deeper e0.frames,.inr ⟨rfl,rfl⟩,fun b z=>absurd z (Xw b),e0.bs,e0.Be,fun b _ _=>Xw b,fun b z=>absurd z (Xw b),e0.l6,e0.EN⟩,
  rfl,e0.bare,Un.kept hk,⟨_,x.toInCall.ns,fun i y v h1 h2 h3=>?_⟩,fun y c h=>⟨_,x.cell y c h⟩,e0.cB.fresh (Nat.le_refl _),fun y c h=>?_,fun p hp=>absurd (show p∈([]:List (Addr×Obj)) from hp) (by simp),e0.cB.kept hk,?_⟩
 ·exact name_of_addr x.apart (cg h1) (cg h2)
 ·have hy:scope.names.lookup y=some .cell∨scope.names.lookup y=some .free:=hy;rcases hy with hy|hy
  ·exact Bs hy
  ·exact absurd rfl (S.OW _ (cg hy))
 ·exact cJ (x.above y c (cg h))
 ·have hi:i < vs.length:=by
   unfold start at h2;by_cases hi:i < vs.length
   ·exact hi
   ·rw[List.getElem?_append_right (by simpa using hi)] at h2;rw[List.getElem?_replicate] at h2;split at h2 <;> cases h2
  have ha:vs[i]? =some v:=by
   unfold start at h2;rw[List.getElem?_append_left (by simpa using hi),List.getElem?_map] at h2;cases e:vs[i]? with
   |none=>rw[e] at h2; cases h2
   |some a=>rw[e] at h2; cases h2; rfl
  obtain⟨u,hu,rv⟩:=r.get ha;have hp:ps[i]? =some y:=by
   rw[← S.pre,List.getElem?_take_of_lt (by lia)]; exact h1
  have ndP:ps.Nodup:=by rw[← S.pre]; exact S.nd.sublist (List.take_sublist _ _)
  refine⟨u,rv,?_⟩;rcases S.par y (ez hp) with k|k
  ·exact .inl ⟨k,yg ndP hp hu k⟩
  ·obtain⟨c,e⟩:=Bs (n:=s.heap.objs.size + 1) k;refine .inr ⟨.inl k,c,e,?_⟩;have q:=x.cell y c e;rw[yh ndP hp hu (by show scope.names.lookup y≠_; rw[k]; decide)] at q;exact q
 ·exact e0.cB.fresh (cJ (x.above y c (cg h)))
 ·unfold start;show _ =N.length;rw[ax,ae,iR];lia
def Jb {CX:EY}{P:Program}{w:World}{K:Frag}{mg:Str->Option Value}{base:Heap}{k:Nat}{f:Addr}{name qual:Str}{params:Arguments}{body:List Stmt}{scope:Scope}{dV kV doc pm cY ct oc:Value}{an od:Option Addr}
  {GA:Array (Option Value)} {N ps:List Str} {sp:Sp} (lk:K.lookup f=some ⟨oc,od,.func (fnOf name qual params body scope dV kV doc pm an cY ct),GA⟩) (rZ:codeIn K cY qual=true) (S:aU N ps scope)
  (len: ∀vs H Q E,sp vs H Q E->vs.length=ps.length)
  (f7: ∀(A:Around) (outer:List Env) (s:Shared) (H:Hp) (vs:List V) (Q:VK) (E:XK),fh k (A.deeper (envOfC qual scope s.heap.objs.size f cY))->sp vs H Q E->
   ∃t,pj (k7 CX P w K mg base N qual scope f cY A outer s H E) body t/\t {nx:=fun _ H'=>Q .eA H',rt:=Q} (start N vs) H):
  l7 P w K mg base CX (k + 1) f (fnOf name qual params body scope dV kV doc pm an cY ct) ps sp:=by
 refine⟨len,fun A outer s H args us vs Q E hr e0 hb r y3=>?_⟩;have hl:=len _ _ _ _ y3;have KX:K.In s.heap:=e0.mod.LI.keeps fun b o e=>(e0.bs b o e).1;have lim:s.heap.NoLimit:=e0.mod.nolimit.keeps fun b o e=>(e0.bs b o e).1;have nu: ∀y∈ps.zip us,scope.names.lookup y.1=some .local∨(scope.names.lookup y.1=some .cell/\((cellsFrom (s.heap.objs.size + 1) scope.names []).lookup y.1).isSome=true):=fun⟨n,v⟩ hy=>by
  rcases S.par n (oS hy).1 with q|q
  ·exact .inl q
  ·exact .inr ⟨q,lA _ _ _ (.inl q)⟩
 refine codeAny_call_function hr.depth (KX _ _ lk) rfl S.co S.gen rfl (PySem.W.codeRec_of KX rZ) (hb _ _ _ _ ?_);refine ub S.kind nu fun env he s1 x=>?_;subst he;refine⟨lim.keeps x.toInCall.keep,codeAny_func ?_⟩;obtain⟨t,ht,hq⟩:=f7 A outer s H vs Q E (hr.deeper _) y3;have I:Inv (k7 CX P w K mg base N qual scope f cY A outer s H E) [] (start N vs) H s1:=yi S hr.hd e0 hl r x;refine ck (ht [] s1 (start N vs) H _ I hq) (fun fl s' hs=>?_) fun e s' hs=>hs;have fin: ∀{σ':St} {H':Hp} {v:V} {u:Value},Inv (k7 CX P w K mg base N qual scope f cY A outer s H E) [] σ' H' s'->RelV v u->Q v H'->CE outer P w H s Q u s':=
  fun{σ' H' v u} J rv q=>⟨v,H',J.os,J.bare,J.base,J.cB,rv,q⟩
 cases fl with
 |ret u=>
  obtain⟨v,σ',H',J,rv,q⟩:=hs;exact fin J rv q
 |next=>
  obtain⟨σ',H',J,q⟩:=hs;exact fin (v:=V.eA) (u:=Value.none) J rfl q
 |brk=>
  obtain⟨_,_,_,q⟩:=hs;exact False.elim q
 |cont=>
  obtain⟨_,_,_,q⟩:=hs;exact False.elim q
section
variable {X:Cx}{x:Str}{p pos:Pos}{e:Expr}{es:List Expr}{t:TA}{id T:String}{r:List V->Hp->VK->Prop}
def V3 (r:List V->Hp->VK->Prop)(t:TA):TE:=fun σ H Q=>t σ H fun vs H1=>r vs H1 Q
def gv (hc:ip X (.builtin id) r)(hg:Gl X x)(hm:X.mg x=none)(hv:bootBuiltins x=some (.builtin id))(ha:PA X (e :: es) t)(hn:x≠"__name__":=by decide)(qR:(x == ("__debug__":Str))=false:=by decide)
  (he:starEach (e :: es) X.env=(false,eval e X.env) :: starEach es X.env:=by rfl) (iS:(backTo pos (starEach es X.env)).any (·.1)=false:=by rfl):PE X (.Call (.Name x p) (e :: es) [] pos) (V3 r t):=by
 intro pins s σ H Q I h;refine eQ (pW I hg hm hv ?_ hn qR);exact PyProof.Rows.callWith_builtin1 (dY (ha pos pins s σ H _ I h) fun us s1 ⟨vs,H1,I1,r1,q1⟩=>hc pins s1 σ H1 vs us Q I1 r1 q1) he iS
def iq (hc:ip X (.type T) r)(hg:Gl X x)(hm:X.mg x=none)(hv:bootBuiltins x=some (.type T))(ha:PA X (e :: es) t)(hn:x≠"__name__":=by decide)(qR:(x == ("__debug__":Str))=false:=by decide)
  (he:starEach (e :: es) X.env=(false,eval e X.env) :: starEach es X.env:=by rfl) (iS:(backTo pos (starEach es X.env)).any (·.1)=false:=by rfl):PE X (.Call (.Name x p) (e :: es) [] pos) (V3 r t):=by
 intro pins s σ H Q I h;refine eQ (pW I hg hm hv ?_ hn qR);exact oQ (dY (ha pos pins s σ H _ I h) fun us s1 ⟨vs,H1,I1,r1,q1⟩=>hc pins s1 σ H1 vs us Q I1 r1 q1) he iS
end
end L2
namespace HT
open PySem PyProof.Rows
def lexLt:List Int->List Int->Bool
 |[],[]=>false
 |[],_ :: _=>true
 |_ :: _,[]=>false
 |x :: xs,y :: ys=>if x=y then lexLt xs ys else decide (x < y)
def qa (x y:Int)(xs ys:List Int):lexLt (x :: xs) (y :: ys)=if x=y then lexLt xs ys else decide (x < y):=rfl
section
open PySem.SeqAt
open PySem.AutoSeq1 (wpAny_loadPart')
open PySem.MeetsSeq PySem.MeetsSeq2 PySem.MeetsSeq3
end
section
variable {prog:Program}{w:World}{A:Around}{E:Value->Shared->Prop}{s:Shared}
def Bt (n d:Nat):Option Int->Nat
 |none=>d
 |some v=>if v < 0 then(v + (n:Int)).toNat else min v.toNat n
def Bu (n d:Nat):Bt n d none=d:=rfl
def oC (n d k:Nat):Bt n d (some (k:Int))=min k n:=by
 show(if(k:Int) < 0 then((k:Int) + (n:Int)).toNat else min (k:Int).toNat n)=min k n;rw[aN (by lia),cW]
end
end HT
namespace L2
open PySem PySem.Spec PyProof.Rows
abbrev TO:=St->Hp->(Option Int->Hp->Prop)->Prop
def PO (X:Cx)(e:Option Expr)(t:TO):Prop:=
 ∀(pins:List (Addr×Obj)) (s:Shared) (σ:St) (H:Hp) (Q:Option Int->Hp->Prop),Inv X pins σ H s->t σ H Q->
  wpAny (model X.prog X.w) X.A (evalPart e X.env) (fun u s'=> ∃o H',Inv X pins σ H' s'/\IsPart u o/\Q o H') X.xe s
def LW:TO:=fun _ H Q=>Q none H
inductive EvP (x:V)(k:Int->Prop):Prop
 |mk (i:Int)(h:x= .int i)(q:k i):EvP x k
def Sy (t:TE):TO:=fun σ H Q=>t σ H fun x H1=>EvP x fun i=>Q (some i) H1
def intsAre_of {ns:List Int}: ∀{us:List Value},Vals (ns.map V.int) us->IntsAre us ns:=by
 induction ns with
 |nil=>intro us r; rw[qC] at r; cases r; exact .nil
 |cons n ns ih=>
  intro us r;rw[cL] at r;cases r with
  |cons r1 r2=>
   obtain⟨t,e⟩:=r1;subst e;exact .cons n t (ih r2)
section
variable {X:Cx}{e:Expr}{te:TE}{lo hi:Option Expr}{tl th:TO}{pos p2:Pos}
def oE:PO X none LW:=by
 intro pins s σ H Q I h;rw[evalPart_none];exact bF ⟨none,H,I,.none,h⟩
def jb (h:PE X e te):PO X (some e) (Sy te):=by
 intro pins s σ H Q I hw;rw[evalPart_some];refine dY (h pins s σ H _ I hw) fun u s1 ⟨x,H1,I1,r1,q1⟩=>?_;obtain⟨i,rfl,q⟩:=q1;obtain⟨t,rfl⟩:=r1;exact⟨some i,H1,I1,.int i t,q⟩
def NM (X:Cx)(r:V->Option Int->Option Int->Hp->VK->Prop):Prop:=
 ∀(pins:List (Addr×Obj)) (s:Shared) (σ:St) (H:Hp) (x:V) (v vl vu:Value) (lo hi:Option Int) (sl:Addr) (Q:VK),Inv X pins σ H s->RelV x v->s.heap.IsSliceOf sl vl vu .none->IsPart vl lo->IsPart vu hi->r x lo hi H Q->
  ∃T id,typeLookup (.type T) "__getitem__"=pure (some (.builtin id))/\s.TypeIs v T/\wpAny (model X.prog X.w) X.A (getItem v (.ref sl)) (EP X pins σ Q) X.xe s
def tSl (r:V->Option Int->Option Int->Hp->VK->Prop)(te:TE)(tl th:TO):TE:=fun σ H Q=>te σ H fun x H1=>tl σ H1 fun l H2=>th σ H2 fun u H3=>r x l u H3 Q
def jh {r:V->Option Int->Option Int->Hp->VK->Prop}(hr:NM X r)(he:PE X e te)(hl:PO X lo tl)(hu:PO X hi th):PE X (.Subscript e (.Slice lo hi none p2) pos) (tSl r te tl th):=by
 intro pins s σ H Q I h;refine Subscript_ (dY (he pins s σ H _ I h) fun v s1 ⟨x,H1,I1,r1,q1⟩=>?_);refine wpAny_Slice (dY (hl pins s1 σ H1 _ I1 q1) fun vl s2 ⟨l,H2,I2,pl,q2⟩=>dY (hu pins s2 σ H2 _ I2 q2) fun vu s3 ⟨u,H3,I3,pu,q3⟩=>?_);rw[evalPart_none];refine bF ?_;have I4:Inv X pins σ H3 {s3 with heap:=s3.heap.push {cls:= .type "slice",data:= .fields #[vl,vu,.none]}}:=I3.kept (t':=s3.toks) fun b ob q=>ay _ q;obtain⟨T,id,hT,ht,hg⟩:=hr pins {s3 with heap:=s3.heap.push {cls:= .type "slice",data:= .fields #[vl,vu,.none]}} σ H3 x v vl vu l u s3.heap.objs.size Q I4 r1 (Heap.IsSliceOf.new ..) pl pu q3;show wpAny (model X.prog X.w) X.A (subscriptTail e (.Slice lo hi none p2) v (.ref s3.heap.objs.size)) (EP X pins σ Q) X.xe {s3 with heap:=s3.heap.push {cls:= .type "slice",data:= .fields #[vl,vu,.none]}};exact tail_any (ops:=[.ref s3.heap.objs.size,v]) ht hT hg (by with_unfolding_all rfl)
def mR (xs:List V)(lo hi:Option Int):List V:=(xs.drop (HT.Bt xs.length 0 lo)).take (HT.Bt xs.length xs.length hi - HT.Bt xs.length 0 lo)
def Bv (xs:List V)(lo hi:Option Int):(mR xs lo hi).length<=xs.length:=by
 unfold mR;rw[ba,hV];lia
end
def LX (n:Nat)(i:Int):Option Nat:=if 0<=i then(if i < n then some i.toNat else none) else if -(n:Int)<=i then some (i + n).toNat else none
def uv {α:Type}(xs:List α)(i:Int):Option α:=(LX xs.length i).bind fun j=>xs[j]?
def E3 {n:Nat}{i:Int}{j:Nat}(h:LX n i=some j):seqIndex? i n=some j/\j < n/\ -(n:Int)<=i/\i < n:=by
 unfold LX at h;by_cases h0:0<=i
 ·rw[aY h0] at h;by_cases h1:i < n
  ·rw[aY h1] at h;have e:i.toNat=j:=aG h;exact⟨by rw[seqIndex_of h0 h1,e],by lia,by lia,h1⟩
  ·rw[aN h1] at h; cases h
 ·rw[aN h0] at h;by_cases h1: -(n:Int)<=i
  ·rw[aY h1] at h;have e:(i + n).toNat=j:=aG h;exact⟨by rw[seqIndex_neg (by lia) h1,e],by lia,h1,by lia⟩
  ·rw[aN h1] at h; cases h
def E4 {α:Type}{xs:List α}{i:Int}{v:α}(h:uv xs i=some v): ∃j,seqIndex? i xs.length=some j/\xs[j]? =some v/\j < xs.length/\ -(xs.length:Int)<=i/\i < xs.length:=by
 unfold uv at h;cases e:LX xs.length i with
 |none=>rw[e] at h; cases h
 |some j=>
  rw[e] at h;obtain⟨h1,h2,h3,h4⟩:=E3 e;exact⟨j,h1,h,h2,h3,h4⟩
def cw {α:Type}{xs:List α}{j:Nat}{v:α}(h:xs[j]? =some v):uv xs (j:Int)=some v:=by
 have hj:j < xs.length:=(ah.mp h).1;have e:LX xs.length (j:Int)=some j:=by
  unfold LX;rw[if_pos (by lia),if_pos (by lia)]; simp
 unfold uv; rw[e]; exact h
def y4 (b:Expr):Prop:= ∀o i,subscripted b false o i=operate [o,i] (getItem o i)
def Jc (X:Cx)(r:R2):Prop:=
 ∀(value slice:Expr) (pins:List (Addr×Obj)) (s:Shared) (σ:St) (H:Hp) (x y:V) (v u:Value) (Q:VK),Inv X pins σ H s->RelV x v->RelV y u->r x y H Q->
  subscripted slice false v u=operate [v,u] (getItem v u)->wpAny (model X.prog X.w) X.A (subscriptTail value slice v u) (EP X pins σ Q) X.xe s
def MtR (X:Cx)(id:String)(r:V->List V->Hp->VK->Prop):Prop:=
 ∀(pins:List (Addr×Obj)) (s:Shared) (σ:St) (H:Hp) (x:V) (xs:List V) (v:Value) (us:List Value) (Q:VK),Inv X pins σ H s->RelV x v->Vals xs us->r x xs H Q->
  wpAny (model X.prog X.w) X.A (call (.builtin id) (v :: us)) (EP X pins σ Q) X.xe s
section
variable {X:Cx}{a b:Expr}{ta tb:TE}{pos:Pos}
def kI {r:R2}(hr:Jc X r)(ha:PE X a ta)(hb:PE X b tb)(hs:y4 b):PE X (.Subscript a b pos) (Rq r ta tb):=by
 intro pins s σ H Q I h;exact Subscript_ (OR ha hb I h fun v u s2 x y H2 I2 rx ry q=>hr a b pins s2 σ H2 x y v u Q I2 rx ry q (hs _ _))
inductive Xx (x y:V)(S:Addr->List V->Prop)(k:V->Prop):Prop
 |mk (p:Addr)(xs:List V)(i:Int)(v:V)(h1:x= .ref p)(h2:y= .int i)(s:S p xs)(a:uv xs i=some v)(q:k v):Xx x y S k
def OX (K:Frag):R2:=fun x y H Q=>Xx x y (bG K H) fun v=>Q v H
def OY (K:Frag):R2:=fun x y H Q=>Xx x y (cE K H) fun v=>Q v H
def y6:Jc X (OX X.K):=by
 intro value slice pins s σ H x y v u Q I rx ry h hs;obtain⟨p,xs,i,z,rfl,rfl,hq,he,q⟩:=h;cases rx;obtain⟨t,rfl⟩:=ry;obtain⟨b0,r,pl,hz⟩:=I.list hq;obtain⟨j,h1,h2,h3,h4,h5⟩:=E4 he;obtain⟨w,ew,GB⟩:=r.get h2;have hl:=r.length;have hn:=y1;have fin:EP X pins σ Q w s:=⟨z,H,I,GB,q⟩;by_cases h0:0<=i
 ·have hj:i.toNat=j:=by
   rw[seqIndex_of h0 h5] at h1;exact aG h1
  exact item_listR pl.isList h0 (by lia) (by rw[hj]; simpa using ew) fin hs
 ·have hj:(i + (b0.toArray.size:Int)).toNat=j:=by
   rw[seqIndex_neg (by lia) h4] at h1;rw[bA,← hl];exact aG h1
  exact subscriptTail_builtinR (x:=w) pl.isList.typeIs slot_list_getitem.lookup
   (wpAny_getItem_list_neg (Q:=fun r s'=>r=w/\EP X pins σ Q r s') pl.isList (by lia) (by rw[List.size_toArray] <;> lia) (by lia) (by rw[hj]; simpa using ew) ⟨rfl,fin⟩) hs
def DM:Jc X (OY X.K):=by
 intro value slice pins s σ H x y v u Q I rx ry h hs;obtain⟨p,xs,i,z,rfl,rfl,hq,he,q⟩:=h;cases rx;obtain⟨t,rfl⟩:=ry;obtain⟨b0,r,pl,hz⟩:=I.tuple hq;obtain⟨j,h1,h2,h3,h4,h5⟩:=E4 he;obtain⟨w,ew,GB⟩:=r.get h2;have hl:=r.length;have hn:=y1;have fin:EP X pins σ Q w s:=⟨z,H,I,GB,q⟩;exact subscriptTail_builtinR (x:=w) pl.typeIs slot_tuple_getitem.lookup
  (getItem_tuple (j:=j) (Q:=fun r s'=>r=w/\EP X pins σ Q r s') pl (by lia) (by lia) (by rw[List.size_toArray,← hl]; exact h1) (by simpa using ew) ⟨rfl,fin⟩) hs
def DN (b0:List Value)(n j:Nat)(u:Value):Obj.mapSeq (·.setIfInBounds j u) {cls:= .type "list",data:= .seq b0.toArray n}={cls:= .type "list",data:= .seq (b0.set j u).toArray n}:=by
 simp[Obj.mapSeq]
def Inv.lst {pins:List (Addr×Obj)}{σ:St}{H:Hp}{s:Shared}{p:Addr}{xs:List V}(I:Inv X pins σ H s)(h:H p=some (.lst xs)):
  ∃(b0:List Value) (n:Nat),Vals xs b0/\s.heap.get? p=some {cls:= .type "list",data:= .seq b0.toArray n}/\xs.length<=sizeLine:=by
 obtain⟨z,b0,n,r,e⟩:=I.cB p _ h;exact⟨b0,n,r,e,z⟩
def Inv.OZ {pins:List (Addr×Obj)}{σ:St}{H:Hp}{s:Shared}{p:Addr}{xs ys:List V}{b0 qN:List Value}{n n':Nat}{f:Obj->Obj}(I:Inv X pins σ H s)(h:H p=some (.lst xs))
  (ho:s.heap.get? p=some {cls:= .type "list",data:= .seq b0.toArray n}) (hf:f {cls:= .type "list",data:= .seq b0.toArray n}={cls:= .type "list",data:= .seq qN.toArray n'}) (r:Vals ys qN) (hz:ys.length<=sizeLine) (t:Nat):
  Inv X pins σ (upd H p (.lst ys)) {s with heap:=s.heap.update p f,toks:=t}:=by
 have e:(s.heap.update p f).get? p=some {cls:= .type "list",data:= .seq qN.toArray n'}:=by
  rw[Dx f ho (by rw[hf] <;> rfl),hf]
 refine I.write (x:=p) (e:=p) (by rw[h]; trivial) (.inl rfl) (fun b u hb q=>(mX _ _ (wM hb)).trans q) ⟨_,e⟩ ?_;exact⟨hz,qN,n',r,e⟩
def Sz:V->V->V->Hp->(Hp->Prop)->Prop:=fun o i v H Q=> ∃p xs k j,o= .ref p/\i= .int k/\H p=some (.lst xs)/\LX xs.length k=some j/\Q (upd H p (.lst (xs.set j v)))
def set_list:Sm X Sz:=by
 intro pins s σ H o i v ov iv u Q I ro ri rv h;obtain⟨p,xs,k,j,rfl,rfl,hp,hj,q⟩:=h;cases ro;obtain⟨t,rfl⟩:=ri;obtain⟨b0,n,r,ho,hz⟩:=I.lst hp;obtain⟨h1,h2,h3,h4⟩:=E3 hj;have hl:=r.length;have hn:=y1;have I':Inv X pins σ (upd H p (.lst (xs.set j v))) {s with heap:=s.heap.update p (Obj.mapSeq (·.setIfInBounds j u))}:=
  I.OZ hp ho (DN b0 n j u) (r.set rv j) (by rw[fe]; exact hz) s.toks
 by_cases h0:0<=k
 ·have hk:k.toNat=j:=by
   rw[seqIndex_of h0 h4] at h1;exact aG h1
  exact PySem.W.ki_setAt ho h0 (by lia) (by rw[bA,← hl]; exact h4) (by rw[hk]; exact⟨_,I',q⟩)
 ·have hk:(k + (b0.toArray.size:Int)).toNat=j:=by
   rw[seqIndex_neg (by lia) h3] at h1;rw[bA,← hl];exact aG h1
  exact PySem.W.ki_setBack ho (by lia) (by rw[bA,← hl]; exact h3) (by lia) (by rw[hk]; exact⟨_,I',q⟩)
def y7 (lo hi:Option Int)(n:Nat):(sliceBounds lo hi none n).1=((HT.Bt n 0 lo:Nat):Int)/\(sliceBounds lo hi none n).2.1=((HT.Bt n n hi:Nat):Int)/\(sliceBounds lo hi none n).2.2=1:=by
 refine⟨?_,?_,rfl⟩
 ·cases lo with
  |none=>simp[sliceBounds,HT.Bt]
  |some i=>
   simp only[sliceBounds,HT.Bt,Option.getD_none,show(1:Int) > 0 by decide,if_true];by_cases h:i < 0
   ·simp only[h,if_true] <;> lia
   ·simp only[h,if_false] <;> lia
 ·cases hi with
  |none=>simp[sliceBounds,HT.Bt]
  |some i=>
   simp only[sliceBounds,HT.Bt,Option.getD_none,show(1:Int) > 0 by decide,if_true];by_cases h:i < 0
   ·simp only[h,if_true] <;> lia
   ·simp only[h,if_false] <;> lia
def wY (b0:List Value)(lo hi:Option Int):slicePick b0.toArray lo hi none=((b0.drop (HT.Bt b0.length 0 lo)).take (HT.Bt b0.length b0.length hi - HT.Bt b0.length 0 lo)).toArray:=by
 obtain⟨h1,h2,h3⟩:=y7 lo hi b0.toArray.size;unfold slicePick;rw[h1,h2,h3];simp only[sliceRange_one,pick_run,List.size_toArray] <;> rfl
inductive EvW (K:Frag)(x:V)(lo hi:Option Int)(H:Hp)(Q:VK):Prop
 |mk (a:Addr)(xs:List V)(h1:x= .ref a)(h2:bG K H a xs)(q: ∀p,H p=none->Q (.ref p) (upd H p (.lst (mR xs lo hi)))):EvW K x lo hi H Q
def SA (K:Frag):V->Option Int->Option Int->Hp->VK->Prop:=EvW K
def LY:NM X (SA X.K):=by
 intro pins s σ H x v vl vu lo hi sl Q I rx hs pl pu h;obtain⟨a,xs,rfl,hx,q⟩:=h;cases rx;obtain⟨b0,r,ht,hz⟩:=I.list hx;have hlen:=r.length;refine⟨"list",_,slot_list_getitem.lookup,ht.isList.typeIs,?_⟩;refine wpAny_getItem_list_slice ht.isList hs pl pu .none (by simp) ?_ (by rw[List.size_toArray] <;> lia);rw[wY,← hlen];refine⟨.ref s.heap.objs.size,_,I.laid (t':=s.toks) (o:= .lst (mR xs lo hi)) (fun b ob q=>ay _ q) (aD _) ?_,rfl,q _ (I.cB.fresh (aD _))⟩;exact⟨aV (Bv xs lo hi) hz,_,0,(r.drop (HT.Bt xs.length 0 lo)).take (HT.Bt xs.length xs.length hi - HT.Bt xs.length 0 lo),bR _ rfl⟩
def tF:V->Bool
 | .eA=>true
 | .bl _=>true
 | .int _=>true
 | .str _=>true
 |_=>false
def LZ:V->V->Bool
 | .eA,.eA=>true
 | .bl a,.bl b=>a == b
 | .bl a,.int b=>(if a then 1 else 0) == b
 | .int a,.bl b=>a == (if b then 1 else 0)
 | .int a,.int b=>a == b
 | .str a,.str b=>a == b
 |_,_=>false
def O0 {A:Around}{s:Shared}{y x:V}{u v:Value}(ry:RelV y u)(rx:RelV x v)(fy:tF y=true)(fx:tF x=true):SeqAt.EqAt A s u v (LZ y x):=by
 cases y with
 |eA=>
  cases ry;cases x with
  |eA=>cases rx; exact SeqAt.EqAt.same _
  |bl b=>cases rx; exact SeqAt.EqAt.none_bool b
  |int b=>obtain⟨t,rfl⟩:=rx; exact SeqAt.EqAt.none_int b t
  |str b=>obtain⟨t,rfl⟩:=rx; exact SeqAt.EqAt.none_str b t
  |_=>exact absurd (show false=true from fx) aX
 |bl a=>
  cases ry;cases x with
  |eA=>cases rx; exact SeqAt.EqAt.bool_none a
  |bl b=>cases rx; exact SeqAt.EqAt.bool_bool a b
  |int b=>obtain⟨t,rfl⟩:=rx; exact SeqAt.EqAt.bool_int a b t
  |str b=>obtain⟨t,rfl⟩:=rx; exact SeqAt.EqAt.bool_str a b t
  |_=>exact absurd (show false=true from fx) aX
 |int a=>
  obtain⟨t',rfl⟩:=ry;cases x with
  |eA=>cases rx; exact SeqAt.EqAt.int_none a t'
  |bl b=>cases rx; exact SeqAt.EqAt.int_bool a t' b
  |int b=>obtain⟨t,rfl⟩:=rx; exact SeqAt.EqAt.int_int a t' b t
  |str b=>obtain⟨t,rfl⟩:=rx; exact SeqAt.EqAt.int_str a t' b t
  |_=>exact absurd (show false=true from fx) aX
 |str a=>
  obtain⟨t',rfl⟩:=ry;cases x with
  |eA=>cases rx; exact SeqAt.EqAt.str_none a t'
  |bl b=>cases rx; exact SeqAt.EqAt.str_bool a t' b
  |int b=>obtain⟨t,rfl⟩:=rx; exact SeqAt.EqAt.str_int a t' b t
  |str b=>obtain⟨t,rfl⟩:=rx; exact SeqAt.EqAt.str_str a t' b t
  |_=>exact absurd (show false=true from fx) aX
 |_=>exact absurd (show false=true from fy) aX
def DO (x:V)(u:Value):Bool:=match u with
 | .none=>LZ .eA x
 | .bool b=>LZ (.bl b) x
 | .int i _=>LZ (.int i) x
 | .str z _=>LZ (.str z) x
 |_=>false
def Jd {x y:V}{u:Value}(r:RelV y u)(f:tF y=true):DO x u=LZ y x:=by
 cases y with
 |eA=>cases r; rfl
 |bl b=>cases r; rfl
 |int i=>obtain⟨t,rfl⟩:=r; rfl
 |str z=>obtain⟨t,rfl⟩:=r; rfl
 |_=>exact absurd (show false=true from f) aX
def qS {x:V}: ∀{xs:List V} {us:List Value},Vals xs us->xs.all tF=true->us.any (DO x)=xs.any fun y=>LZ y x
 |_,_,.nil,_=>rfl
 |y :: xs,u :: us,.cons r t,f=>by
  rw[List.all_cons,ID] at f;rw[uc,uc,Jd r f.1,qS t f.2]
def nv {A:Around}{s:Shared}{x:V}{v:Value}(rx:RelV x v)(fx:tF x=true): ∀{xs:List V} {us:List Value},Vals xs us->xs.all tF=true-> ∀u∈us,SeqAt.EqAt A s u v (DO x u)
 |_,_,.nil,_=>fun u hu=>by cases hu
 |y :: xs,u :: us,.cons r t,f=>fun u' hu=>by
  rw[List.all_cons,ID] at f;rcases au.mp hu with rfl|hu
  ·rw[Jd r f.1]; exact O0 r rx f.1 fx
  ·exact nv rx fx t f.2 u' hu
def wZ (x:V)(xs:List V):Bool:=xs.any fun y=>LZ y x
def rIn (K:Frag)(neg:Bool):R2:=fun x y H Q=> ∃p xs,y= .ref p/\(bG K H p xs∨cE K H p xs)/\tF x=true/\xs.all tF=true/\Q (.bl (if neg then !wZ x xs else wZ x xs)) H
def oF:oX X (compareOp .In) (rIn X.K false):=by
 intro pins s σ H x y v u Q I rx ry h;obtain⟨p,xs,rfl,hq,fx,fs,q⟩:=h;cases ry;rcases hq with hq|hq
 ·obtain⟨b0,r,pl,hz⟩:=I.list hq;refine SeqAt.in_listAt (DO x) pl.isList (fun w hw=>nv rx fx r fs w (by simpa using hw)) ⟨.bl _,H,I,rfl,?_⟩;rw[show b0.toArray.any (DO x)=b0.any (DO x) by simp,qS r fs];exact q
 ·obtain⟨b0,r,pl,hz⟩:=I.tuple hq;refine SeqAt.in_tupleAt (DO x) pl (fun w hw=>nv rx fx r fs w (by simpa using hw)) ⟨.bl _,H,I,rfl,?_⟩;rw[show b0.toArray.any (DO x)=b0.any (DO x) by simp,qS r fs];exact q
def zd:oX X (compareOp .NotIn) (rIn X.K true):=by
 intro pins s σ H x y v u Q I rx ry h;obtain⟨p,xs,rfl,hq,fx,fs,q⟩:=h;cases ry;rcases hq with hq|hq
 ·obtain⟨b0,r,pl,hz⟩:=I.list hq;refine SeqAt.notIn_listAt (DO x) pl.isList (fun w hw=>nv rx fx r fs w (by simpa using hw)) ⟨.bl _,H,I,rfl,?_⟩;rw[show b0.toArray.any (DO x)=b0.any (DO x) by simp,qS r fs];exact q
 ·obtain⟨b0,r,pl,hz⟩:=I.tuple hq;refine SeqAt.notIn_tupleAt (DO x) pl (fun w hw=>nv rx fx r fs w (by simpa using hw)) ⟨.bl _,H,I,rfl,?_⟩;rw[show b0.toArray.any (DO x)=b0.any (DO x) by simp,qS r fs];exact q
def ze:ip X (.builtin "len") (fun xs H Q=> ∃p ys,xs=[.ref p]/\(bG X.K H p ys∨cE X.K H p ys)/\Q (.int ys.length) H):=by
 intro pins s σ H xs us Q I r h;obtain⟨p,ys,rfl,hq,q⟩:=h;obtain⟨u,rfl,rx⟩:=vals1 r;cases rx;have hn:=y1;rcases hq with hq|hq
 ·obtain⟨b0,r',pl,hz⟩:=I.list hq;have hlen:=r'.length;exact Calls.call_len_list pl.isList (by simp only[List.size_toArray] <;> lia) ⟨.int ys.length,H,I.tok _,⟨s.toks + 1,by rw[List.size_toArray,hlen]⟩,q⟩
 ·obtain⟨b0,r',pl,hz⟩:=I.tuple hq;have hlen:=r'.length;exact len_tuple pl (by simp only[List.size_toArray] <;> lia) ⟨.int ys.length,H,I.tok _,⟨s.toks + 1,by rw[List.size_toArray,hlen]⟩,q⟩
def zf:ip X (.type "list") (fun xs H Q=> ∃p ys,xs=[.ref p]/\(bG X.K H p ys∨cE X.K H p ys)/\ ∀l,H l=none->Q (.ref l) (upd H l (.lst ys))):=by
 intro pins s σ H xs us Q I r h;obtain⟨p,ys,rfl,hq,q⟩:=h;obtain⟨u,rfl,rx⟩:=vals1 r;cases rx;have fin: ∀(b0:List Value),Vals ys b0->ys.length<=sizeLine-> ∀(h':Heap) (c':Nat),(∀b o',s.heap.get? b=some o'->h'.get? b=some o')->
   h'.get? s.heap.objs.size=some {cls:= .type "list",dict:=none,data:= .seq b0.toArray c',slots:= #[]}->EP X pins σ Q (.ref s.heap.objs.size) {s with heap:=h'}:=fun b0 r' hz h' c' kp e=>
  ⟨.ref s.heap.objs.size,_,I.laid (t':=s.toks) kp (aD _) (show dE X.prog X.w _ h' _ (.lst ys) from⟨hz,b0,c',r',e⟩),rfl,q _ (I.cB.fresh (aD _))⟩
 rcases hq with hq|hq
 ·obtain⟨b0,r',pl,hz⟩:=I.list hq;have hlen:=r'.length;obtain⟨o,ho,hc,n,hd⟩:=pl.isList;exact call_list_seq p (.inl rfl) ho hc hd (fun h' c' kp e=>fin b0 r' hz h' c' kp e) (by simp only[List.size_toArray] <;> lia)
 ·obtain⟨b0,r',pl,hz⟩:=I.tuple hq;have hlen:=r'.length;obtain⟨o,ho,hc,n,hd⟩:=pl;exact call_list_seq p (.inr rfl) ho hc hd (fun h' c' kp e=>fin b0 r' hz h' c' kp e) (by simp only[List.size_toArray] <;> lia)
def w6:ip X (.type "tuple") (fun xs H Q=> ∃p ys,xs=[.ref p]/\((bG X.K H p ys/\ ∀l,H l=none->Q (.ref l) (upd H l (.tup ys)))∨(cE X.K H p ys/\Q (.ref p) H))):=by
 intro pins s σ H xs us Q I r h;obtain⟨p,ys,rfl,h⟩:=h;obtain⟨u,rfl,rx⟩:=vals1 r;cases rx;rcases h with⟨hq,q⟩|⟨hq,q⟩
 ·obtain⟨b0,r',pl,hz⟩:=I.list hq;have hlen:=r'.length;refine call_tuple_list pl.isList (fun h' kp=>?_) (by simp only[List.size_toArray] <;> lia);have I1:Inv X pins σ H {s with heap:=h'}:=I.kept (t':=s.toks) kp;have I2:Inv X pins σ (upd H h'.objs.size (.tup ys)) {s with heap:=h'.push {cls:= .type "tuple",data:= .seq b0.toArray}}:=
   I1.laid (t':=s.toks) (fun b o e=>ay _ e) (aD _) (show dE X.prog X.w _ _ _ (.tup ys) from⟨hz,b0,r',IsTup.new _ _⟩)
  exact⟨.ref h'.objs.size,_,I2,rfl,q _ (I1.cB.fresh (aD _))⟩
 ·obtain⟨b0,r',pl,hz⟩:=I.tuple hq;exact call_tuple_same pl ⟨.ref p,H,I,rfl,q⟩
def Xy (K:Frag)(T:String)(x:V)(H:Hp):Prop:=match x with
 | .str _=>T="str"
 | .int _=>T="int"
 | .ref p=>(T="list"/\ ∃xs,bG K H p xs)∨(T="tuple"/\ ∃o,K.lookup p=some o/\o.cls= .type "tuple"/\o.dict=none)∨
   (T="dict"/\((∃bh,H p=some (.dK bh))∨ ∃bh,H p=some (.dT bh)))∨(T="set"/\ ∃S n,H p=some (.set S n))
 |_=>False
def Je {pins:List (Addr×Obj)}{σ:St}{H:Hp}{s:Shared}{T:String}{x:V}{v:Value}(I:Inv X pins σ H s)(r:RelV x v)(ty:Xy X.K T x H):
  s.TypeIs v T/\ ∀a,v= .ref a-> ∃ob,s.heap.get? a=some ob/\ob.dict=none:=by
 cases x with
 |str z=>
  obtain⟨t,rfl⟩:=r;cases(show T="str" from ty);exact⟨typeIs_str s z t,fun _ e=>nomatch e⟩
 |int i=>
  obtain⟨t,rfl⟩:=r;cases(show T="int" from ty);exact⟨typeIs_int s i t,fun _ e=>nomatch e⟩
 |ref p=>
  cases r;rcases ty with⟨rfl,xs,hq⟩|⟨rfl,o,hk,hc,hd⟩|⟨rfl,hk⟩|⟨rfl,S,n,hk⟩
  ·obtain⟨b0,_,pl,_⟩:=I.list hq;refine⟨pl.isList.typeIs,fun a e=>?_⟩;cases e;obtain⟨o,n,e,c,hd,_⟩:=pl;exact⟨o,e,hd⟩
  ·refine⟨⟨o,I.gW p o hk,hc⟩,fun a e=>?_⟩;cases e;exact⟨o,I.gW _ o hk,hd⟩
  ·have z: ∃o,s.heap.get? p=some o/\o.ExactDict:=by
    rcases hk with⟨bh,hk⟩|⟨bh,hk⟩
    ·obtain⟨_,_,_,_,o,_,_,e,ex,_⟩:=I.cB p _ hk;exact⟨o,e,ex⟩
    ·obtain⟨_,_,_,_,o,_,_,e,ex,_⟩:=I.cB p _ hk;exact⟨o,e,ex⟩
   obtain⟨o,e,ex⟩:=z;refine⟨⟨o,e,ex.1⟩,fun a e2=>?_⟩;cases e2;exact⟨o,e,ex.2.1⟩
  ·obtain⟨o,_,_,_,e,ex,_⟩:=I.cB p _ hk;refine⟨⟨o,e,ex.1⟩,fun a e2=>?_⟩;cases e2;exact⟨o,e,ex.2.1⟩
 |_=>exact False.elim ty
def Xz (K:Frag)(T:String)(r:V->List V->Hp->VK->Prop)(to:TE):TE:=fun σ H Q=>to σ H fun x H1=>Xy K T x H1/\r x [] H1 Q
def tBM (K:Frag)(T:String)(r:V->List V->Hp->VK->Prop)(to:TE)(t:TA):TE:=fun σ H Q=>to σ H fun x H1=>Xy K T x H1/\t σ H1 fun xs H2=>r x xs H2 Q
variable {o e:Expr}{es:List Expr}{to:TE}{t:TA}{name:Str}{apos gI:Pos}{T id:String}{r:V->List V->Hp->VK->Prop}
def O1 (pa:PlainAttrs T)(slot:Slot T name id)(V4:typeOf (.builtin id)=pure (.type "method_descriptor"))(hm:MtR X id r)(ho:PE X o to)
  (qT:attributeBase o name X.env (eval o X.env)=eval o X.env:=by rfl) (uV:(apos.endLine == gI.line)=true:=by rfl):PE X (.Call (.Attribute o name apos) [] [] gI) (Xz X.K T r to):=by
 intro pins s σ H Q I h;refine wpAny_Call_method0_late qT uV (dY (ho pins s σ H _ I h) fun v s1 ⟨x,H1,I1,r1,ty,q1⟩=>?_);obtain⟨h1,h2⟩:=Je I1 r1 ty;exact⟨T,id,pa,slot,V4,h1,h2,iW rfl (PySem.evalArgs_none (hm pins s1 σ H1 x [] v [] Q I1 r1 .nil q1))⟩
def SD (pa:PlainAttrs T)(slot:Slot T name id)(V4:typeOf (.builtin id)=pure (.type "method_descriptor"))(hm:MtR X id r)(ho:PE X o to)(ha:PA X (e :: es) t)
  (qT:attributeBase o name X.env (eval o X.env)=eval o X.env:=by rfl)
  (O2:((backTo gI (starEach (e :: es) X.env)).all (fun x=> !x.1) && (backToKw gI (keywordEach [] X.env)).all (fun x=>x.1.isSome)
   && decide ((e :: es).length + ([]:List Keyword).length + (if([]:List Keyword).isEmpty then 0 else 1) < 30))=true:=by rfl)
  (uV:(apos.endLine == gI.line)=true:=by rfl) (hs:starEach (e :: es) X.env=(false,eval e X.env) :: starEach es X.env:=by rfl) (uW:(backTo gI (starEach es X.env)).any (·.1)=false:=by rfl):
  PE X (.Call (.Attribute o name apos) (e :: es) [] gI) (tBM X.K T r to t):=by
 intro pins s σ H Q I h;refine wpAny_Call_method_late qT O2 uV rfl (dY (ho pins s σ H _ I h) fun v s1 ⟨x,H1,I1,r1,ty,q1⟩=>?_);obtain⟨h1,h2⟩:=Je I1 r1 ty;refine⟨T,id,pa,slot,V4,h1,h2,?_⟩;have hA:=ha gI pins s1 σ H1 _ I1 q1;rw[hs] at hA ⊢;refine iW (by show(false || (backTo gI (starEach es X.env)).any (·.1))=false; rw[uW] <;> rfl) (Ge ?_);exact dY hA fun us s2 ⟨vs,H2,I2,r2,q2⟩=>hm pins s2 σ H2 x vs v us Q I2 r1 r2 q2
end
def MtM (X:Cx)(id:String)(r:V->List V->Hp->VK->Prop):Prop:=
 ∀(pins:List (Addr×Obj)) (s:Shared) (σ:St) (H:Hp) (x:V) (xs:List V) (v:Value) (us:List Value) (Q:VK),Inv X pins σ H s->RelV x v->Vals xs us->r x xs H Q->
  wpAny (model X.prog X.w) X.A (call (.builtin id) (v :: us)) (EP X pins σ Q) X.xe s
def Vals.one: ∀{x:V} {us:List Value},Vals [x] us-> ∃u,us=[u]/\RelV x u
 |_,_,.cons r .nil=>⟨_,rfl,r⟩
def Vals.zero: ∀{us:List Value},Vals [] us->us=[]
 |_,.nil=>rfl
def Vals.dropLast {xs:List V}{us:List Value}(h:Vals xs us):Vals xs.dropLast us.dropLast:=by
 induction h with
 |nil=>exact .nil
 |cons r t ih=>
  cases t with
  |nil=>exact .nil
  |cons q t'=>exact .cons r ih
def Vals.rep {xs:List V}{us:List Value}(h:Vals xs us): ∀k:Nat,Vals (List.replicate k xs).flatten (List.replicate k us).flatten
 |0=> .nil
 |k + 1=>by
  rw[dv,dv,iX,iX];exact Vals.append h (Vals.rep h k)
def DP {α:Type}(l:List α):l.eraseIdx (l.length - 1)=l.dropLast:=by
 induction l with
 |nil=>rfl
 |cons a r ih=>
  cases r with
  |nil=>rfl
  |cons b r=>
   have e:(a :: b :: r).length - 1=((b :: r).length - 1) + 1:=by
    have h1:(a :: b :: r).length=r.length + 2:=rfl;have h2:(b :: r).length=r.length + 1:=rfl;lia
   rw[e,List.eraseIdx_cons_succ,ih]
   all_goals rfl
def foldl_rep (b0:List Value): ∀(k:Nat) (acc:List Value),
  List.foldl (fun x1 x2=>x1 ++ x2) acc.toArray (List.replicate k b0.toArray)=(acc ++ (List.replicate k b0).flatten).toArray
 |0,acc=>by simp
 |k + 1,acc=>by
  have e:acc.toArray ++ b0.toArray=(acc ++ b0).toArray:=by simp
  have e2:(acc ++ b0) ++ (List.replicate k b0).flatten=acc ++ (List.replicate (k + 1) b0).flatten:=by
   rw[dv,iX,bZ]
  rw[← e2,← foldl_rep b0 k (acc ++ b0),← e,dv,cz]
section
variable {X:Cx}{pins:List (Addr×Obj)}{σ:St}{H:Hp}{s:Shared}{l b:Addr}{xs ys zs:List V}
def Inv.SE {b0 qN:List Value}{n:Nat}{f:Array Value->Array Value}{t':Nat}(I:Inv X pins σ H s)(hH:H l=some (.lst xs))
  (e:s.heap.get? l=some {cls:= .type "list",data:= .seq b0.toArray n}) (hf:f b0.toArray=qN.toArray) (hv:Vals ys qN) (hz:ys.length<=sizeLine):
  Inv X pins σ (upd H l (.lst ys)) {s with heap:=s.heap.update l (Obj.mapSeq f),toks:=t'}:=by
 have q:=PySem.IsL.update e f;rw[hf] at q;refine I.write (x:=l) (e:=l) (by rw[hH]; exact trivial) (.inl rfl) (fun b' u hb hu=>(mX s.heap (Obj.mapSeq f) (wM hb)).trans hu) ⟨_,q⟩ ?_;exact⟨hz,qN,_,hv,q⟩
def Inv.O3 {b0:List Value}{t':Nat}(I:Inv X pins σ H s)(hv:Vals ys b0)(hz:ys.length<=sizeLine):
  Inv X pins σ (upd H s.heap.objs.size (.lst ys)) {s with heap:=s.heap.push {cls:= .type "list",data:= .seq b0.toArray},toks:=t'}:=
 I.laid (fun _ _ q=>ay _ q) (aD _) ⟨hz,b0,0,hv,bR _ rfl⟩
def Inv.fresh (I:Inv X pins σ H s):H s.heap.objs.size=none:=I.cB.fresh (aD _)
def Inv.Jf (I:Inv X pins σ H s)(hH:H l=some (.lst xs)):xs.length<=sizeLine/\ ∃(b0:List Value) (n:Nat),Vals xs b0/\xs.length=b0.length/\s.heap.get? l=some {cls:= .type "list",data:= .seq b0.toArray n}:=by
 obtain⟨z,b0,n,r,e⟩:=I.cB l _ hH;exact⟨z,b0,n,r,r.length,e⟩
def Jg {n:Nat}(h:n<=sizeLine):Builtin.List.listTooLong n=false:=by
 unfold Builtin.List.listTooLong;exact bL (by lia)
end
section
variable {X:Cx}
inductive XA (x:V)(vs:List V)(H:Hp)(k:Addr->List V->V->Prop):Prop
 |mk (l:Addr)(xs:List V)(y:V)(h1:x= .ref l)(h2:vs=[y])(h3:H l=some (.lst xs))(h4:xs.length < sizeLine)(q:k l xs y):XA x vs H k
def E5:V->List V->Hp->VK->Prop:=fun x vs H Q=>XA x vs H fun l xs y=>Q .eA (upd H l (.lst (xs ++ [y])))
def yj:MtM X "list.append" E5:=by
 intro pins s σ H x vs v us Q I rx rv h;obtain⟨l,xs,y,rfl,rfl,hH,hz,q⟩:=h;cases rx;obtain⟨u,rfl,ru⟩:=rv.one;obtain⟨z,b0,n,r,hl,e⟩:=I.Jf hH;refine call_meets F.slot_list_append ⟨_,e,rfl⟩ F.entry_list_append (F.args_list_append_2 _ _) (PySem.list_append l b0.toArray n u (by rw[bA]; lia)) ⟨e,?_⟩;refine⟨.eA,_,I.SE (qN:=b0 ++ [u]) hH e (by simp) (r.append (.cons ru .nil)) ?_,rfl,q⟩;rw[ax,List.length_singleton];lia
def XB:V->List V->Hp->VK->Prop:=fun x vs H Q=> ∃l xs y,x= .ref l/\vs=[]/\H l=some (.lst xs)/\xs[xs.length - 1]? =some y/\Q y (upd H l (.lst xs.dropLast))
def O4:MtM X "list.pop" XB:=by
 intro pins s σ H x vs v us Q I rx rv h;obtain⟨l,xs,y,rfl,rfl,hH,hy,q⟩:=h;cases rx;have XC:=rv.zero;subst XC;obtain⟨z,b0,n,r,hl,e⟩:=I.Jf hH;obtain⟨u,hu,ru⟩:=r.get hy;have hy':b0.toArray[b0.toArray.size - 1]? =some u:=by
  show b0.toArray[b0.length - 1]? =some u;rw[← Array.getElem?_toList,← hl];exact hu
 refine call_meets F.slot_list_pop ⟨_,e,rfl⟩ F.entry_list_pop (F.args_list_pop_1 _) (MeetsSeq.list_pop_last l b0.toArray n u hy' (by rw[bA]; lia)) ⟨e,?_⟩;refine⟨y,_,I.SE (qN:=b0.dropLast) hH e ?_ r.dropLast ?_,ru,q⟩
 ·show b0.toArray.eraseIdxIfInBounds (b0.toArray.size - 1)=b0.dropLast.toArray;rw[bA,List.eraseIdxIfInBounds_toArray,DP]
 ·rw[List.length_dropLast];lia
inductive EvK (x y:V)(H:Hp)(Q:VK):Prop
 |mk (l b:Addr)(xs zs:List V)(h1:x= .ref l)(h2:y= .ref b)(h3:H l=some (.lst xs))(h4:H b=some (.lst zs))(z:xs.length + zs.length<=sizeLine)(q: ∀p,H p=none->Q (.ref p) (upd H p (.lst (xs ++ zs)))):EvK x y H Q
def SG:R2:=EvK
def k8:oX X (binaryOp .Add) SG:=by
 intro pins s σ H x y v u Q I rx ry h;obtain⟨l,b,xs,zs,rfl,rfl,hH,hB,hz,q⟩:=h;cases rx;cases ry;obtain⟨z,b0,n,r,hl,e⟩:=I.Jf hH;obtain⟨z2,GC,n2,r2,V5,e2⟩:=I.Jf hB;refine PySem.P.add_list e e2 ?_ (by rw[bA,bA]; lia);have ea:b0.toArray ++ GC.toArray=(b0 ++ GC).toArray:=by simp
 rw[ea];exact⟨.ref _,_,I.O3 (t':=s.toks) (r.append r2) (by rw[ax]; lia),rfl,q _ I.fresh⟩
def SH:R2:=fun x y H Q=> ∃l k xs,x= .ref l/\y= .int k/\H l=some (.lst xs)/\ -(2 ^ 63)<=k/\k < 2 ^ 63/\xs.length * k.toNat<=sizeLine/\
 ∀p,H p=none->Q (.ref p) (upd H p (.lst (List.replicate k.toNat xs).flatten))
def len_rep {α:Type}(xs:List α)(k:Nat):(List.replicate k xs).flatten.length=k * xs.length:=by
 induction k with
 |zero=>simp
 |succ k ih=>rw[dv,iX,ax,ih,wO,Nat.add_comm]
def zh:oX X (binaryOp .Mult) SH:=by
 intro pins s σ H x y v u Q I rx ry h;obtain⟨l,k,xs,rfl,rfl,hH,h1,h2,hz,q⟩:=h;cases rx;obtain⟨t,rfl⟩:=ry;obtain⟨z,b0,n,r,hl,e⟩:=I.Jf hH;have hlen:b0.toArray.size * k.toNat<=sizeLine:=by rw[bA,← hl]; exact hz
 have XD: ¬ b0.toArray.size * k.toNat > (2 ^ 63 - 1) / 8:=by
  have:(sizeLine:Nat)<=(2 ^ 63 - 1) / 8:=by decide
  lia
 have XE: ¬ (!Builtin.List.listFitsIndex k)=true:=by
  rw[fitsIndex_both h1 h2];exact aX
 have SI: ¬ Builtin.List.listTooLong (b0.toArray.size * k.toNat)=true:=by
  rw[Jg hlen];exact aX
 have XF:List.foldl (fun x1 x2=>x1 ++ x2) #[] (List.replicate (if b0.toArray.isEmpty=true then 0 else k.toNat) b0.toArray)=(List.replicate k.toNat b0).flatten.toArray:=by
  have f0: ∀m:Nat,List.foldl (fun x1 x2=>x1 ++ x2) #[] (List.replicate m b0.toArray)=(List.replicate m b0).flatten.toArray:=fun m=>by
   have:=foldl_rep b0 m [];rw[Ly] at this;exact this
  rw[f0];cases b0 with
  |nil=>simp
  |cons a r'=>rw[if_neg (by simp)]
 refine wpAny_binaryOp_repeat_ref (T:="list") (U:="int") (by decide) ⟨_,e,rfl⟩ (fun s'=>typeIs_int s' k t) noFill_list_mul F.fills_int_mul F.slot_int_rmul repeat_list F.slot_int_index.lookup
  (call_meets F.slot_int_rmul (typeIs_int s k t) F.entry_int_rmul (F.args_int_rmul_2 _ _) (int___rmul___int_list k t l b0.toArray n)
   ⟨e,rfl,⟨_,e,rfl⟩,call_meets F.slot_list_mul ⟨_,e,rfl⟩ F.entry_list_mul (F.args_list_mul_2 _ _) (AutoListH.list___mul___list_int_3 l b0.toArray n k t XE XD SI) ⟨e,?_⟩⟩)
 rw[XF];exact⟨.ref _,_,I.O3 (t':=s.toks) (r.rep k.toNat) (by rw[len_rep,Nat.mul_comm]; exact hz),rfl,q _ I.fresh⟩
end
section
variable {prog:Program}{w:World}{A:Around}{E:Value->Shared->Prop}{s:Shared}
end
section
variable {X:Cx}
end
section
variable {κ:Type}[DecidableEq κ]
def gu (bh:List (κ×V))(k:κ):Option V:=(bh.find? fun kv=>decide (kv.1=k)).map (·.2)
def putK (bh:List (κ×V))(k:κ)(v:V):List (κ×V):=
 if(bh.any fun kv=>decide (kv.1=k))=true then bh.map (fun kv=>if kv.1=k then(kv.1,v) else kv) else bh ++ [(k,v)]
def lE (bh:List (κ×V))(k:κ):List (κ×V):=bh.filter fun kv=>decide (kv.1≠k)
def fO {p:κ×V}{r:List (κ×V)}{k:κ}(e:p.1=k):gu (p :: r) k=some p.2:=by simp[gu,List.find?_cons,e]
def fB {p:κ×V}{r:List (κ×V)}{k:κ}(e: ¬ p.1=k):gu (p :: r) k=gu r k:=by simp[gu,List.find?_cons,e]
def ny (k:κ): ∀bh:List (κ×V),(bh.any fun kv=>decide (kv.1=k))=(gu bh k).isSome
 |[]=>rfl
 |p :: r=>by
  rw[uc];by_cases e:p.1=k
  ·simp only[fO e,decide_eq_true e,Bool.true_or,Option.isSome_some]
  ·rw[fB e,bL e,Bool.false_or]; exact ny k r
def Bw (k j:κ)(y:V): ∀bh:List (κ×V),gu (bh.map fun kv=>if kv.1=k then(kv.1,y) else kv) j=(gu bh j).map fun x=>if j=k then y else x
 |[]=>rfl
 |p :: r=>by
  have ih:=Bw k j y r;rw[cL];by_cases h:p.1=k
  ·rw[aY h];by_cases e:p.1=j
   ·rw[fO (p:=(p.1,y)) e,fO e,oT,aY (e.symm.trans h)]
   ·rw[fB (p:=(p.1,y)) e,fB e,ih]
  ·rw[aN h];by_cases e:p.1=j
   ·rw[fO (p:=p) e,fO e,oT,aN (fun z=>h (e.trans z))]
   ·rw[fB (p:=p) e,fB e,ih]
def yk (k j:κ)(y:V): ∀bh:List (κ×V),gu bh k=none->gu (bh ++ [(k,y)]) j=if j=k then some y else gu bh j
 |[],_=>by
  by_cases e:k=j
  ·rw[aY e.symm]; exact fO (p:=(k,y)) e
  ·rw[aN (fun z=>e z.symm)]; exact fB (p:=(k,y)) e
 |p :: r,hn=>by
  rw[List.cons_append];have hk: ¬ p.1=k:=fun z=>by rw[fO z] at hn; cases hn
  rw[fB hk] at hn;have ih:=yk k j y r hn;by_cases e:p.1=j
  ·rw[fO e,fO e,aN (fun z=>hk (e.trans z))]
  ·rw[fB e,fB e,ih]
def Jh (bh:List (κ×V))(k j:κ)(y:V):gu (putK bh k y) j=if j=k then some y else gu bh j:=by
 unfold putK;by_cases a:(bh.any fun kv=>decide (kv.1=k))=true
 ·rw[aY a,Bw];rw[ny] at a;by_cases e:j=k
  ·obtain⟨x,hx⟩:=Ri.mp a;rw[aY e,e,hx,oT,aY rfl]
  ·rw[aN e];cases gu bh j with
   |none=>rfl
   |some x=>rw[oT,aN e]
 ·rw[aN a];refine yk k j y bh ?_;rw[ny] at a;cases q:gu bh k with
  |none=>rfl
  |some x=>rw[q] at a; exact(a rfl).elim
def kJ (bh:List (κ×V))(k:κ)(v:V):(putK bh k v).length<=bh.length + 1:=by
 unfold putK;split
 ·rw[ae]; lia
 ·rw[ax,bO,wQ]; lia
def Ji {bh:List (κ×V)}{k:κ}(v:V)(h:gu bh k=none):putK bh k v=bh ++ [(k,v)]:=by
 unfold putK;rw[ny,h];exact aN (by decide)
def lC.lF {o:Option V}{u:Option Value}(r:lC o u):o.isSome=u.isSome:=by
 cases o with
 |none=>cases u with
  |none=>rfl
  |some _=>exact(show False from r).elim
 |some _=>cases u with
  |none=>exact(show False from r).elim
  |some _=>rfl
def KV.val {bh:List (κ×V)}{vs:List (κ×Value)}(r:KV bh vs)(k:κ):lC (gu bh k) (valueAt vs k):=by
 unfold KV at r
 induction r with
 |nil=>exact True.intro
 | @cons p q ps qs h t ih=>
  obtain⟨h1,h2⟩:=h;by_cases e:p.1=k
  ·have e':q.1=k:=h1.symm.trans e;have b:valueAt (q :: qs) k=some q.2:=by simp[valueAt,List.find?_cons,e']
   rw[fO e,b]; exact h2
  ·have e': ¬ q.1=k:=fun z=>e (h1.trans z);have b:valueAt (q :: qs) k=valueAt qs k:=by simp[valueAt,List.find?_cons,e']
   rw[fB e,b]; exact ih
def KV.any {bh:List (κ×V)}{vs:List (κ×Value)}(r:KV bh vs)(k:κ):(bh.any fun kv=>decide (kv.1=k))=vs.any fun kv=>decide (kv.1=k):=by
 unfold KV at r
 induction r with
 |nil=>rfl
 |cons h t ih=>rw[uc,uc,ih,h.1]
def KV.O5 {bh:List (κ×V)}{vs:List (κ×Value)}(r:KV bh vs)(k:κ){y:V}{u:Value}(ry:RelV y u):
  KV (bh.map fun kv=>if kv.1=k then(kv.1,y) else kv) (vs.map fun kv=>if kv.1=k then(kv.1,u) else kv):=by
 unfold KV at r ⊢
 induction r with
 |nil=>exact .nil
 | @cons p q ps qs h t ih=>
  rw[cL,cL];refine .cons ?_ ih;obtain⟨h1,h2⟩:=h;by_cases e:p.1=k
  ·rw[aY e,aY (h1.symm.trans e)]; exact⟨h1,ry⟩
  ·rw[aN e,aN (fun z=>e (h1.trans z))]; exact⟨h1,h2⟩
def KV.put {bh:List (κ×V)}{vs:List (κ×Value)}(r:KV bh vs)(k:κ){y:V}{u:Value}(ry:RelV y u):KV (putK bh k y) (stored vs k u):=by
 unfold putK stored;rw[r.any k];by_cases e:(vs.any fun kv=>decide (kv.1=k))=true
 ·rw[aY e,aY e]; exact r.O5 k ry
 ·rw[aN e,aN e]; exact cu r ⟨rfl,ry⟩
def KV.drop {bh:List (κ×V)}{vs:List (κ×Value)}(r:KV bh vs)(k:κ):KV (lE bh k) (without vs k):=by
 unfold KV at r ⊢;unfold lE without
 induction r with
 |nil=>exact .nil
 | @cons p q ps qs h t ih=>
  obtain⟨h1,h2⟩:=h;rw[List.filter_cons,List.filter_cons];by_cases e:p.1=k
  ·have a: ¬ decide (p.1≠k)=true:=by simp[e]
   have b: ¬ decide (q.1≠k)=true:=by simp[h1.symm.trans e]
   rw[aN a,aN b]; exact ih
  ·have e': ¬ q.1=k:=fun z=>e (h1.trans z);have a:decide (p.1≠k)=true:=by simp[e]
   have b:decide (q.1≠k)=true:=by simp[e']
   rw[aY a,aY b]; exact .cons ⟨h1,h2⟩ ih
def KV.length {bh:List (κ×V)}{vs:List (κ×Value)}(r:KV bh vs):bh.length=vs.length:=aO r
def Jj (bh:List (κ×V))(k:κ):(lE bh k).length<=bh.length:=aW _ _
end
def uX {P:Program}{w:World}{k:Key}{u:Value}(r:RelV (kV k) u):(dW P w).is k u=true:=by
 cases k with
 |inl i=>obtain⟨t,e⟩:=(show ∃t,u=Value.int i t from r); subst e; exact Bc P w i t
 |inr x=>obtain⟨t,e⟩:=(show ∃t,u=Value.str x t from r); subst e; exact Bd P w x t
def yl {P:Program}{w:World}: ∀{ks:List Key} {us:List Value},Vals (ks.map kV) us->ItemsAre (dW P w) ks us
 |[],_,r=>by rw[qC] at r; cases r; exact .nil
 |k :: ks,_,r=>by
  rw[cL] at r;cases r with
  |cons h t=>exact .cons (uX h) (yl t)
abbrev KT (H:Hp):List (List Key×V)->List (List Key×Addr×Value)->Prop:=Paired fun p q=>p.1=q.1/\H q.2.1=some (.tup (p.1.map kV))/\RelV p.2 q.2.2
def KT.val {H:Hp}{bh:List (List Key×V)}{xs:List (List Key×Addr×Value)}(r:KT H bh xs)(k:List Key):lC (gu bh k) ((atKey xs k).map (·.2)):=by
 induction r with
 |nil=>exact True.intro
 | @cons p q ps qs h t ih=>
  obtain⟨h1,_,h2⟩:=h;by_cases e:p.1=k
  ·have e':q.1=k:=h1.symm.trans e;have b:atKey (q :: qs) k=some q.2:=by simp[atKey,List.find?_cons,e']
   rw[fO e,b]; exact h2
  ·have e': ¬ q.1=k:=fun z=>e (h1.trans z);have b:atKey (q :: qs) k=atKey qs k:=by simp[atKey,List.find?_cons,e']
   rw[fB e,b]; exact ih
def KT.O5 {H:Hp}{bh:List (List Key×V)}{xs:List (List Key×Addr×Value)}(r:KT H bh xs)(k:List Key){y:V}{u:Value}(ry:RelV y u):
  KT H (bh.map fun kv=>if kv.1=k then(kv.1,y) else kv) (xs.map (putAt k u)):=by
 induction r with
 |nil=>exact .nil
 | @cons p q ps qs h t ih=>
  rw[cL,cL];refine .cons ?_ ih;obtain⟨h1,h2,h3⟩:=h;unfold putAt;by_cases e:p.1=k
  ·rw[aY e,aY (h1.symm.trans e)]; exact⟨h1,h2,ry⟩
  ·rw[aN e,aN (fun z=>e (h1.trans z))]; exact⟨h1,h2,h3⟩
def KT.put {H:Hp}{bh:List (List Key×V)}{xs:List (List Key×Addr×Value)}(r:KT H bh xs)(k:List Key){b:Addr}{y:V}{u:Value}(hb:H b=some (.tup (k.map kV)))(ry:RelV y u):
  KT H (putK bh k y) (storedH xs k b u):=by
 have e:(bh.any fun kv=>decide (kv.1=k))=(atKey xs k).isSome:=by
  rw[ny,(r.val k).lF,Gf]
 unfold putK storedH;rw[e];by_cases q:(atKey xs k).isSome=true
 ·rw[aY q,aY q]; exact r.O5 k ry
 ·rw[aN q,aN q]; exact cu r ⟨rfl,hb,ry⟩
def KT.keeps {H H':Hp}{bh:List (List Key×V)}{xs:List (List Key×Addr×Value)}(r:KT H bh xs)(ht: ∀b ys,H b=some (.tup ys)->H' b=some (.tup ys)):KT H' bh xs:=
 Paired.gX r fun _ _ z=>⟨z.1,ht _ _ z.2.1,z.2.2⟩
section
variable {P:Program}{w:World}{H:Hp}{h:Heap}{a:Addr}
def NN {u:HO}(ok:oW P w H h)(e:Rd H a u):dE P w H h a u:=e.ok ok
def uY {bh:List (Key×V)}(ok:oW P w H h)(e:Rd H a (.dK bh)):bh.length<=sizeLine/\(a == sysModules)=false/\ ∃vs,KV bh vs/\h.DictOf (dW P w) a vs:=
 show dE P w H h a (.dK bh) from NN ok e
def E6 {bh:List (Key×V)}(ok:oW P w H h)(e:H a=some (.dK bh)):bh.length<=sizeLine/\(a == sysModules)=false/\ ∃vs,KV bh vs/\h.DictOf (dW P w) a vs:=uY ok (.inl e)
def uZ {ks:List Key}(ok:oW P w H h)(e:H a=some (.tup (ks.map kV))):(tupleKind (dW P w)).is h ks a:=by
 obtain⟨_,b0,r,o,h1,h2,n,h3⟩:=(show dE P w H h a (.tup (ks.map kV)) from ok a _ e);exact⟨o,b0.toArray,n,h1,h2,h3,by simpa using yl r⟩
def ym {bh:List (List Key×V)}(ok:oW P w H h)(e:Rd H a (.dT bh)):bh.length<=sizeLine/\(a == sysModules)=false/\
  ∃xs,KT H bh xs/\h.DictOfH (tupleKind (dW P w)) a xs:=by
 obtain⟨z,y,xs,r,o,es,ep,h1,h2,h3,h4,h5⟩:=(show dE P w H h a (.dT bh) from NN ok e);refine⟨z,y,xs,r,o,es,ep,h1,h2,h3,h4,fun x hx=>?_,h5⟩;have all: ∀{l:List (List Key×V)} {m:List (List Key×Addr×Value)},KT H l m-> ∀x∈m,(tupleKind (dW P w)).is h x.1 x.2.1:=by
  intro l m q
  induction q with
  |nil=>intro x hx; exact nomatch hx
  | @cons p q ps qs hq t ih=>
   intro x hx;rcases au.mp hx with e|hx
   ·subst e;exact uZ ok (by rw[← hq.1]; exact hq.2.1)
   ·exact ih x hx
 exact all r x hx
def SJ {bh:List (List Key×V)}(ok:oW P w H h)(e:H a=some (.dT bh)):bh.length<=sizeLine/\(a == sysModules)=false/\
  ∃xs,KT H bh xs/\h.DictOfH (tupleKind (dW P w)) a xs:=ym ok (.inl e)
end
def mS (H:Hp)(a:Addr)(y:V)(r:Option V):Prop:=
 (∃bh k,Rd H a (.dK bh)/\y=kV k/\r=gu bh k)∨ ∃bh k b,Rd H a (.dT bh)/\y= .ref b/\H b=some (.tup (k.map kV))/\r=gu bh k
def GD (H:Hp)(a:Addr)(y v:V)(H':Hp):Prop:=
 (∃bh k,H a=some (.dK bh)/\y=kV k/\bh.length < sizeLine/\H'=upd H a (.dK (putK bh k v)))∨
 ∃bh k b,H a=some (.dT bh)/\y= .ref b/\H b=some (.tup (k.map kV))/\bh.length < sizeLine/\H'=upd H a (.dT (putK bh k v))
def mS.k {H:Hp}{a:Addr}{bh:List (Key×V)}{k:Key}(e:H a=some (.dK bh)):mS H a (kV k) (gu bh k):= .inl ⟨bh,k,.inl e,rfl,rfl⟩
def GD.k {H:Hp}{a:Addr}{bh:List (Key×V)}{k:Key}{v:V}(e:H a=some (.dK bh))(hl:bh.length < sizeLine):GD H a (kV k) v (upd H a (.dK (putK bh k v))):= .inl ⟨bh,k,e,rfl,hl,rfl⟩
section
variable {X:Cx}{pins:List (Addr×Obj)}{σ:St}{H:Hp}{s:Shared}{a:Addr}{y v:V}{u r:Value}{o:Option V}{A:Around}{E:Value->Shared->Prop}
def Inv.big (I:Inv X pins σ H s):sysModules < s.heap.objs.size:=by
 have h:mainGlobals < s.heap.objs.size:=(I.mod.glob.keeps I.bk).lt;exact Nat.lt_trans (by decide) h
def GF {Q:Value->Shared->Prop}(hu:A.units + 1 < cLine)(I:Inv X pins σ H s)(g:mS H a y (some v))(ry:RelV y u)(h: ∀w' s',Inv X pins σ H s'->RelV v w'->Q w' s'):
  wpAny (model X.prog X.w) A (getItem (.ref a) u) Q E s:=by
 rcases g with⟨bh,k,e,ey,l⟩|⟨bh,k,b,e,ey,eb,l⟩
 ·subst ey;obtain⟨z,hd,vs,rel,dd⟩:=uY I.cB e;obtain⟨w',hw,GB⟩:=lC.some_of (v:=v) (o:=valueAt vs k) (by rw[l]; exact rel.val k);exact wpAny_getItem_of (uX ry) dd.mapOf hw (h w' _ (I.tok _) GB)
 ·subst ey;cases(show u=Value.ref b from ry);obtain⟨z,hd,xs,rel,dd⟩:=ym I.cB e;obtain⟨w',hw,GB⟩:=lC.some_of (v:=v) (o:=(atKey xs k).map (·.2)) (by rw[l]; exact rel.val k);obtain⟨p,hp,yn⟩:=a8.mp hw;refine wpAny_getItem_heap (uq hu) (uZ I.cB eb) dd hp ?_;rw[yn];exact h w' _ (I.tok _) GB
def XG {Q:Value->Shared->Prop}(hu:A.units + 1 < cLine)(I:Inv X pins σ H s)(g:mS H a y o)(ry:RelV y u)(h: ∀s',Inv X pins σ H s'->Q (.bool o.isSome) s'):
  wpAny (model X.prog X.w) A (compareOp .In u (.ref a)) Q E s:=by
 rcases g with⟨bh,k,e,ey,l⟩|⟨bh,k,b,e,ey,eb,l⟩
 ·subst ey;obtain⟨z,hd,vs,rel,dd⟩:=uY I.cB e;refine wpAny_in_of (uX ry) hd dd.mapOf ?_;rw[← (rel.val k).lF,← l];exact h _ (I.tok _)
 ·subst ey;cases(show u=Value.ref b from ry);obtain⟨z,hd,xs,rel,dd⟩:=ym I.cB e;refine wpAny_in_heap (uq hu) (uZ I.cB eb) hd dd ?_;have q:=(rel.val k).lF;rw[Gf] at q;rw[← q,← l];exact h _ (I.tok _)
def L3 {Q:Value->Shared->Prop}(hu:A.units + 1 < cLine)(I:Inv X pins σ H s)(g:mS H a y o)(ry:RelV y u)(h: ∀s',Inv X pins σ H s'->Q (.bool (!o.isSome)) s'):
  wpAny (model X.prog X.w) A (compareOp .NotIn u (.ref a)) Q E s:=by
 rcases g with⟨bh,k,e,ey,l⟩|⟨bh,k,b,e,ey,eb,l⟩
 ·subst ey;obtain⟨z,hd,vs,rel,dd⟩:=uY I.cB e;refine wpAny_notIn_of (uX ry) hd dd.mapOf ?_;rw[← (rel.val k).lF,← l];exact h _ (I.tok _)
 ·subst ey;cases(show u=Value.ref b from ry);obtain⟨z,hd,xs,rel,dd⟩:=ym I.cB e;refine wpAny_notIn_heap (uq hu) (uZ I.cB eb) hd dd ?_;have q:=(rel.val k).lF;rw[Gf] at q;rw[← q,← l];exact h _ (I.tok _)
def uw {h':Heap}{t':Nat}{ob:HO}(I:Inv X pins σ H s)(mu:R7 (H a))(hs:Heap.SameBut a s.heap h')(he: ∃q,h'.get? a=some q)(new:dE X.prog X.w (upd H a ob) h' a ob):
  Inv X pins σ (upd H a ob) {s with heap:=h',toks:=t'}:=
 I.write (x:=a) (e:=a) mu (.inl rfl) (fun b q hb z=>(hs.2 b hb).trans z) he new
def zi {P:Program}{w:World}{H':Hp}{h':Heap}{bh:List (Key×V)}{vs:List (Key×Value)}(z:bh.length<=sizeLine)(hd:(a == sysModules)=false)(rel:KV bh vs)(dd:h'.DictOf (dW P w) a vs):
  dE P w H' h' a (.dK bh):=⟨z,hd,vs,rel,dd⟩
def GG {H':Hp}{Q:Unit->Shared->Prop}(hu:A.units + 1 < cLine)(I:Inv X pins σ H s)(g:GD H a y v H')(ry:RelV y u)(rv:RelV v r)(h: ∀s',Inv X pins σ H' s'->Q () s'):
  wpAny (model X.prog X.w) A (setItem (.ref a) u r) Q E s:=by
 rcases g with⟨bh,k,e,ey,l,eH⟩|⟨bh,k,b,e,ey,eb,l,eH⟩
 ·subst ey eH;obtain⟨z,hd,vs,rel,dd⟩:=E6 I.cB e;have hz:vs.length<=sizeLine:=by rw[← rel.length]; exact z
  have hl:(putK bh k v).length<=sizeLine:=by have:=kJ bh k v; lia
  refine wpAny_setItem_pairs (hsz:=hz) (uX ry) dd fun h' E7 hs=>h _ ?_;have he: ∃q,h'.get? a=some q:=let⟨q,_,_,hq,_⟩:=E7; ⟨q,hq⟩
  exact uw I (by rw[e]; exact True.intro) hs he (zi hl hd (rel.put k rv) E7)
 ·subst ey eH;cases(show u=Value.ref b from ry);obtain⟨z,hd,xs,rel,dd⟩:=SJ I.cB e;have hz:xs.length<=sizeLine:=by rw[← aO rel]; exact z
  have hl:(putK bh k v).length<=sizeLine:=by have:=kJ bh k v; lia
  refine wpAny_setItem_heap (hsz:=hz) (uq hu) (uZ I.cB eb) dd fun h' E7 hs=>h _ ?_;obtain⟨q,es,ep,hq,h2,h3,h4,_,h5⟩:=E7;refine uw I (by rw[e]; exact True.intro) hs ⟨q,hq⟩ ⟨hl,hd,_,(rel.put k eb rv).keeps fun c ys ec=>?_,q,es,ep,hq,h2,h3,h4,h5⟩;rw[az (mH ec e (fun z=>nomatch z))];exact ec
end
section
variable {X:Cx}{pins:List (Addr×Obj)}{σ:St}{H:Hp}{s:Shared}{a:Addr}{bh:List (Key×V)}{k:Key}{u:Value}{A:Around}{E:Value->Shared->Prop}
def SK {v:V}{more:List Value}{Q:Value->Shared->Prop}(I:Inv X pins σ H s)(e:H a=some (.dK bh))(ry:RelV (kV k) u)(l:gu bh k=some v)(hm:more=[]∨ ∃x,more=[x])
  (h: ∀w' s',Inv X pins σ (upd H a (.dK (lE bh k))) s'->RelV v w'->Q w' s'):wpAny (model X.prog X.w) A (call (.builtin "dict.pop") (.ref a :: u :: more)) Q E s:=by
 obtain⟨z,hd,vs,rel,dd⟩:=E6 I.cB e;obtain⟨w',hw,GB⟩:=lC.some_of (v:=v) (o:=valueAt vs k) (by rw[← l]; exact rel.val k);have hp:(keyPart u).isSome=true:=by
  cases k with
  |inl i=>obtain⟨t,q⟩:=(show ∃t,u=Value.int i t from ry); subst q; rfl
  |inr x=>obtain⟨t,q⟩:=(show ∃t,u=Value.str x t from ry); subst q; rfl
 have ha:argsOk "dict.pop" ⟨.ref a :: u :: more,[]⟩:=by
  rcases hm with q|⟨x,q⟩
  ·subst q; exact PySem.F.args_dict_pop_2 _ _
  ·subst q; exact PySem.F.args_dict_pop_3 _ _ _
 refine call_meetsIn PySem.F.slot_dict_pop dd.typeIs PySem.F.entry_dict_pop ha (meets_dict_pop_there (dW X.prog X.w) a (uX ry) more hm hp)
  ⟨vs,w',dd,by rw[← rel.length]; exact z,hw,fun h' E7 hs=>h w' _ ?_ GB⟩
 have he: ∃q,h'.get? a=some q:=let⟨q,_,_,hq,_⟩:=E7; ⟨q,hq⟩
 exact uw I (by rw[e]; exact True.intro) hs he (zi (aV (Jj bh k) z) hd (rel.drop k) E7)
end
def SM (i:Expr):Prop:= ∀ov iv,subscripted i false ov iv=operate [ov,iv] (getItem ov iv)
def L4 {prog:Program}{w:World}{A:Around}{E:Value->Shared->Prop}{s:Shared}{env:Env}{value slice:Expr}{pos:Pos}{T id:String}{Q:Value->Shared->Prop}
  (hl:typeLookup (.type T) "__getitem__"=pure (some (.builtin id))) (hs:SM slice)
  (h:wpAny (model prog w) A (eval value env) (fun o s₁=>wpAny (model prog w) A (eval slice env) (fun i s₂=>s₂.TypeIs o T/\wpAny (model prog w) A (getItem o i) Q E s₂) E s₁) E s):
  wpAny (model prog w) A (eval (.Subscript value slice pos) env) Q E s:=by
 refine Subscript_ (ck h (fun o s₁ h₁=>ck h₁ (fun i s₂ h₂=>?_) fun _ _ x=>x) fun _ _ x=>x);obtain⟨hT,h₂⟩:=h₂;unfold subscriptTail;refine aB ?_;rw[getitemInPython_of_ne hT.not_modules];refine aB (wpAny_specialOf hT hl ?_);have fin:wpAny (model prog w) A (subscripted slice false o i) (fun r s₃=>wpAny (model prog w) A (letTemporaryGo value o r >>=fun _=>pure r) Q E s₃) E s₂:=by
  rw[hs o i];exact wpAny_operating (ck h₂ (fun r s₃ h₃=>aB (wpAny_letTemporaryGo (bF h₃))) fun _ _ x=>x)
 first
  |exact bF (aB fin)
  |exact aB (bF (aB fin))
  |exact aB fin
def Bx {X:Cx}{pins:List (Addr×Obj)}{σ:St}{H:Hp}{s:Shared}{a:Addr}{y:V}{o:Option V}(I:Inv X pins σ H s)(g:mS H a y o):s.TypeIs (.ref a) "dict":=by
 rcases g with⟨bh,k,e,_,_⟩|⟨bh,k,b,e,_,_,_⟩
 ·obtain⟨_,_,vs,_,dd⟩:=uY I.cB e;exact dd.typeIs
 ·obtain⟨_,_,xs,_,dd⟩:=ym I.cB e;exact dd.typeIs
inductive EvD (x y:V)(H:Hp)(k:V->Prop):Prop
 |mk (a:Addr)(v:V)(h1:x= .ref a)(h2:mS H a y (some v))(q:k v):EvD x y H k
def SN (td ty:TE):TE:=fun σ H Q=>td σ H fun x H1=>ty σ H1 fun y H2=>EvD x y H2 fun v=>Q v H2
def XH (ty td:TE):TE:=fun σ H Q=>ty σ H fun y H1=>td σ H1 fun x H2=> ∃a o,x= .ref a/\mS H2 a y o/\Q (.bl o.isSome) H2
def L5 (ty td:TE):TE:=fun σ H Q=>ty σ H fun y H1=>td σ H1 fun x H2=> ∃a o,x= .ref a/\mS H2 a y o/\Q (.bl (!o.isSome)) H2
def SO (td ty tv:TE):TS:=fun D σ H=>tv σ H fun v H1=>td σ H1 fun x H2=>ty σ H2 fun y H3=> ∃a H4,x= .ref a/\GD H3 a y v H4/\D.nx σ H4
section
variable {X:Cx}{o i e value:Expr}{pos pos' OU:Pos}{td ty tv:TE}
def cH (hu:X.A.units + 1 < cLine)(ho:PE X o td)(hi:PE X i ty)(hs:SM i):PE X (.Subscript o i pos) (SN td ty):=by
 intro pins s σ H Q I h;refine L4 PySem.F.slot_dict_getitem.lookup hs (dY (ho pins s σ H _ I h) fun u s1 ⟨x,H1,I1,rx,q1⟩=>dY (hi pins s1 σ H1 _ I1 q1) fun iv s2 ⟨y,H2,I2,ry,a,v,ex,g,q2⟩=>?_);subst ex;obtain rfl:u=Value.ref a:=rx;exact⟨Bx I2 g,GF hu I2 g ry fun w' s3 I3 GB=>⟨v,H2,I3,GB,q2⟩⟩
def O6 (hu:X.A.units + 1 < cLine)(hi:PE X i ty)(ho:PE X o td):PC X .In i o (XH ty td):=by
 intro pins s σ H Q I h;refine dY (hi pins s σ H _ I h) fun iv s1 ⟨y,H1,I1,ry,q1⟩=>dY (ho pins s1 σ H1 _ I1 q1) fun u s2 ⟨x,H2,I2,rx,a,ov,ex,g,q2⟩=>?_;subst ex;obtain rfl:u=Value.ref a:=rx;exact XG hu I2 g ry fun s3 I3=>⟨.bl ov.isSome,H2,I3,rfl,q2⟩
def GH (hu:X.A.units + 1 < cLine)(hi:PE X i ty)(ho:PE X o td):PC X .NotIn i o (L5 ty td):=by
 intro pins s σ H Q I h;refine dY (hi pins s σ H _ I h) fun iv s1 ⟨y,H1,I1,ry,q1⟩=>dY (ho pins s1 σ H1 _ I1 q1) fun u s2 ⟨x,H2,I2,rx,a,ov,ex,g,q2⟩=>?_;subst ex;obtain rfl:u=Value.ref a:=rx;exact L3 hu I2 g ry fun s3 I3=>⟨.bl (!ov.isSome),H2,I3,rfl,q2⟩
def E8 (hu:X.A.units + 1 < cLine)(ho:PE X o td)(hi:PE X i ty)(hv:PE X value tv)(hs:swapsWith value (some (.Subscript o i pos')) pos.line X.env=pure false):
  PS X (.Assign [.Subscript o i pos'] value pos) (SO td ty tv):=by
 intro pins s σ H D I h;refine wpAny_Assign_Subscript (dY (hv pins s σ H _ I h) fun r s1 ⟨v,H1,I1,rv,q1⟩=>dY (ho pins s1 σ H1 _ I1 q1) fun u s2 ⟨x,H2,I2,rx,q2⟩=>dY (hi pins s2 σ H2 _ I2 q2) fun iv s3 ⟨y,H3,I3,ry,a,H4,ex,g,q3⟩=>?_) hs;subst ex;obtain rfl:u=Value.ref a:=rx;exact GG hu I3 g ry rv fun s4 I4=>⟨σ,H4,I4,q3⟩
end
def By {P:Program}{w:World}{H:Hp}(h:Heap)(hb:sysModules < h.objs.size):dE P w H (h.push {cls:= .type "dict",data:= .dict #[]}) h.objs.size (.dK []):=
 ⟨bq _,g6.mpr (wM (a7 hb)),[],.nil,Heap.DictOf.new h⟩
def O7:TE:=fun _ H Q=> ∀p,H p=none->Q (.ref p) (upd H p (.dK []))
section
variable {X:Cx}{pos:Pos}
def Bz:PE X (.Dict [] [] pos) O7:=fun pins s σ H Q I h=>
 wpAny_Dict_empty ⟨.ref s.heap.objs.size,_,I.laid (a:=s.heap.objs.size) (o:= .dK []) (t':=s.toks) (fun _ _ q=>ay _ q) (aD _) (By s.heap I.big),rfl,h _ (I.cB.fresh (aD _))⟩
end
def DQ:List (TE×TE)->St->Hp->(List (V×V)->Hp->Prop)->Prop
 |[],_,H,Q=>Q [] H
 |(tk,tv) :: r,σ,H,Q=>tk σ H fun x H1=>tv σ H1 fun y H2=>DQ r σ H2 fun ps H3=>Q ((x,y) :: ps) H3
abbrev VV:List (V×V)->List (Value×Value)->Prop:=Paired fun p q=>RelV p.1 q.1/\RelV p.2 q.2
def L6 (X:Cx)(pos:Pos)(keys:List (Option Expr))(values:List Expr)(L8:List (TE×TE)):Prop:=
 ∀(pins:List (Addr×Obj)) (s:Shared) (σ:St) (H:Hp) (Q:List (V×V)->Hp->Prop),Inv X pins σ H s->DQ L8 σ H Q->
  wpAny (model X.prog X.w) X.A (evalPairs (pairTrees keys values X.env pos)) (fun vs s'=> ∃ps H',Inv X pins σ H' s'/\VV ps vs/\Q ps H') X.xe s
def L9 {X:Cx}{pos:Pos}:L6 X pos [] [] []:=fun pins s σ H Q I h=>pairTrees_nil_walk ⟨[],H,I,.nil,h⟩
def u0 {X:Cx}{pos:Pos}{k v:Expr}{ks:List (Option Expr)}{vs:List Expr}{tk tv:TE}{L8:List (TE×TE)}(hk:PE X k tk)(hv:PE X v tv)(hr:L6 X pos ks vs L8):
  L6 X pos (some k :: ks) (v :: vs) ((tk,tv) :: L8):=fun pins s σ H Q I h=>
 pairTrees_cons_walk (dY (hk pins s σ H _ I h) fun u s1 ⟨x,H1,I1,rx,q1⟩=>dY (hv pins s1 σ H1 _ I1 q1) fun w2 s2 ⟨y,H2,I2,ry,q2⟩=>
  dY (hr pins s2 σ H2 _ I2 q2) fun ws s3 ⟨ps,H3,I3,rel,q3⟩=>⟨(x,y) :: ps,H3,I3,.cons ⟨rx,ry⟩ rel,q3⟩)
def qb (bh more:List (Key×V)):List (Key×V):=more.foldl (fun acc kv=>putK acc kv.1 kv.2) bh
def KV.merge: ∀{more:List (Key×V)} {rs:List (Key×Value)} {bh:List (Key×V)} {vs:List (Key×Value)},KV more rs->KV bh vs->KV (qb bh more) (merged vs rs):=by
 intro more rs bh vs r;unfold KV at r
 induction r generalizing bh vs with
 |nil=>intro q; exact q
 | @cons p q ps qs h t ih=>
  intro r0;have e:KV (putK bh p.1 p.2) (stored vs q.1 q.2):=by
   have:=r0.put p.1 h.2;rw[← h.1]; exact this
  exact ih e
def px: ∀(more bh:List (Key×V)),(qb bh more).length<=bh.length + more.length
 |[],bh=>by show bh.length<=bh.length + 0; lia
 |p :: r,bh=>by
  have h1:=px r (putK bh p.1 p.2);have h2:=kJ bh p.1 p.2;show(qb (putK bh p.1 p.2) r).length<=_;rw[bO]; lia
def va {P:Program}{w:World}: ∀{bh:List (Key×V)} {ws:List (Value×Value)},VV (bh.map fun kv=>(kV kv.1,kv.2)) ws-> ∃rs,Carries (dW P w) ws rs/\KV bh rs
 |[],_,r=>by rw[qC] at r; cases r; exact⟨[],True.intro,.nil⟩
 |p :: bh,_,r=>by
  rw[cL] at r;cases r with
  | @cons a b as bs h t=>
   obtain⟨rs,c,q⟩:=va (P:=P) (w:=w) t;obtain⟨b1,b2⟩:=b;exact⟨(p.1,b2) :: rs,⟨uX h.1,rfl,c⟩,.cons ⟨rfl,h.2⟩ q⟩
def SQ (L8:List (TE×TE)):TE:=fun σ H Q=> ∀p,H p=none->DQ L8 σ (upd H p (.dK [])) fun ps H2=>H2 p=some (.dK [])/\ ∃bh:List (Key×V),ps=bh.map (fun kv=>(kV kv.1,kv.2))/\bh.length<=15/\Q (.ref p) (upd H2 p (.dK (qb [] bh)))
def Ma {X:Cx}{pos:Pos}{keys:List (Option Expr)}{values:List Expr}{L8:List (TE×TE)}(h:L6 X pos keys values L8)(O8:keys.all (·.isSome)=true)(hl:keys.length=values.length)(h0:keys≠[])
  (XI:keys.length<=15):PE X (.Dict keys values pos) (SQ L8):=by
 intro pins s σ H Q I q;have hn:=I.cB.fresh (aD s.heap.objs.size);have I1:=I.laid (a:=s.heap.objs.size) (o:= .dK []) (h':=s.heap.push {cls:= .type "dict",data:= .dict #[]}) (t':=s.toks) (fun _ _ q=>ay _ q) (aD _) (By s.heap I.big);refine wpAny_Dict_walk (knd:=dW X.prog X.w) O8 hl h0 XI (dY (h pins _ σ _ _ I1 (q _ hn)) fun ws s2 ⟨ps,H2,I2,rel,e,bh,ep,lk,q2⟩=>?_);subst ep;obtain⟨rs,c,rk⟩:=va (P:=X.prog) (w:=X.w) rel;obtain⟨z,hd,SR,r0,dd⟩:=E6 I2.cB e;cases r0;refine⟨rs,c,dd,fun h' E7 hs=>⟨.ref s.heap.objs.size,_,?_,rfl,q2⟩⟩;have hz:(qb [] bh).length<=sizeLine:=by
  have h1:=px bh [];rw[wQ] at h1;rw[eP]; lia
 have he: ∃q,h'.get? s.heap.objs.size=some q:=let⟨q,_,_,hq,_⟩:=E7; ⟨q,hq⟩
 exact uw I2 (by rw[e]; exact True.intro) hs he (zi hz hd (rk.merge .nil) E7)
structure M1 (X:Cx)(o:Expr)(m:Str)(apos:Pos)(e:Expr)(gI:Pos):Prop where
 base:attributeBase o m X.env (eval o X.env)=eval o X.env
 few:((backTo gI (starEach [e] X.env)).all (fun x=> !x.1) && (backToKw gI (keywordEach [] X.env)).all (fun x=>x.1.isSome)
  && decide (([e]:List Expr).length + ([]:List Keyword).length + (if([]:List Keyword).isEmpty then 0 else 1) < 30))=true
 line:(apos.endLine == gI.line)=true
 trees:backTo gI (starEach [e] X.env)=[(false,eval e X.env)]
def IsD (H:Hp)(a:Addr):Prop:=(∃bh,Rd H a (.dK bh))∨ ∃bh,Rd H a (.dT bh)
def O9 {X:Cx}{pins:List (Addr×Obj)}{σ:St}{H:Hp}{s:Shared}{a:Addr}(I:Inv X pins σ H s)(d:IsD H a):
  s.TypeIs (.ref a) "dict"/\(∀b,Value.ref a= .ref b-> ∃ob,s.heap.get? b=some ob/\ob.dict=none)/\(a == sysModules)=false:=by
 rcases d with⟨bh,e⟩|⟨bh,e⟩
 ·obtain⟨_,hd,vs,_,dd⟩:=uY I.cB e;refine⟨dd.typeIs,fun b q=>?_,hd⟩;cases q;obtain⟨ob,_,_,h1,h2,_⟩:=dd;exact⟨ob,h1,h2.2.1⟩
 ·obtain⟨_,hd,xs,_,dd⟩:=ym I.cB e;refine⟨dd.typeIs,fun b q=>?_,hd⟩;cases q;obtain⟨ob,_,_,h1,h2,_⟩:=dd;exact⟨ob,h1,h2.2.1⟩
section
variable {X:Cx}{pins:List (Addr×Obj)}{σ:St}{H:Hp}{s:Shared}{a:Addr}{y d:V}{u r:Value}{o:Option V}{A:Around}{E:Value->Shared->Prop}
end
def Pa (td ty:TE):TE:=fun σ H Q=>td σ H fun x H1=> ∃a,x= .ref a/\IsD H1 a/\ty σ H1 fun y H2=> ∃bh k v,H2 a=some (.dK bh)/\y=kV k/\gu bh k=some v/\Q v (upd H2 a (.dK (lE bh k)))
section
variable {X:Cx}{o e f:Expr}{apos gI:Pos}{td ty tx:TE}
def Jk (ho:PE X o td)(he:PE X e ty)(m:M1 X o "pop" apos e gI):PE X (.Call (.Attribute o "pop" apos) [e] [] gI) (Pa td ty):=by
 intro pins s σ H Q I h;refine wpAny_Call_method m.base m.few m.line PySem.F.plainAttrs_dict PySem.F.slot_dict_pop PySem.F.type_dict_pop (dY (ho pins s σ H _ I h) fun u s1 ⟨x,H1,I1,rx,a,ex,d,q1⟩=>?_);subst ex;obtain rfl:u=Value.ref a:=rx;obtain⟨t1,t2,_⟩:=O9 I1 d;refine⟨t1,t2,?_⟩;rw[m.trees];refine iW rfl (Ge (Calls.spliced_cons (dY (he pins s1 σ H1 _ I1 q1) fun iv s2 ⟨y,H2,I2,ry,bh,k,v,ea,ey,l,q2⟩=>Calls.spliced_nil ?_)));subst ey;exact SK I2 ea ry l (.inl rfl) fun w' s3 I3 GB=>⟨v,_,I3,GB,q2⟩
end
section
variable {X:Cx}{pins:List (Addr×Obj)}{σ:St}{H:Hp}{s:Shared}{a:Addr}{bh:List (Key×V)}{A:Around}{E:Value->Shared->Prop}
def Jl {Q:Value->Shared->Prop}(I:Inv X pins σ H s)(e:Rd H a (.dK bh))(h: ∀p s',H p=none->Inv X pins σ (upd H p (.dK bh)) s'->Q (.ref p) s'):wpAny (model X.prog X.w) A (call (.type "dict") [.ref a]) Q E s:=by
 obtain⟨z,hd,vs,rel,dd⟩:=uY I.cB e;refine kt_call_dict hd dd (by rw[← rel.length]; exact z) fun h' E7 hs=>?_;refine h _ _ (I.cB.fresh (aD _)) (I.laid (a:=s.heap.objs.size) (o:= .dK bh) (t':=s.toks) (fun b q hq=>?_) (aD _) (zi z (g6.mpr (wM (a7 I.big))) rel E7));exact(hs.2 b (a7 (aM hq))).trans (ay _ hq)
end
section
variable {X:Cx}{pins:List (Addr×Obj)}{σ:St}{H:Hp}{s:Shared}{a:Addr}{y:V}{u:Value}{A:Around}{E:Value->Shared->Prop}
end
end L2
namespace Att
open PySem PySem.W PySem.Calls PyProof.Rows
def ue {P:Params}{h:Heap}: ∀(ns:List Int) (vs:List Value),WellAll P h vs (ns.map WData.int)->IntsAre vs ns:=by
 intro ns
 induction ns with
 |nil=>
  intro vs w;rw[qC] at w;cases w;exact .nil
 |cons n ns ih=>
  intro vs w;rw[cL] at w;cases w with
  |cons a b=>
   cases a;exact .cons _ _ (ih _ b)
def GI {l:OpenLaw}{n:Nat}(hn:l.most=some n){P:Params}{h:Heap}{args:List WData}{vals:List Value}
  (Mb:l.row.toRowW.claim.pre args=true) (yo:WellAll P h vals args):
  ∃a vs ns,vals=[Value.ref a]/\args=[WData.list (ns.map WData.int)]/\h.get? a=some {cls:= .type "list",data:= .seq vs.toArray}/\IntsAre vs ns/\ns.length<=n:=by
 have hsh:WShape.hasAll [] args [.list .int]=true:=(pre_splitW Mb).1;have hc:l.pre.holds [] {args:=args}=true:=(pre_splitW Mb).2;obtain⟨d,r,rfl,h1,h2⟩:=hasAllW_cons hsh;obtain rfl:=hasAllW_nil h2;obtain⟨xs,rfl,h3⟩:=hasW_list h1;obtain⟨ns,rfl⟩:=items_int h3;have hlen:ns.length<=n:=by
  unfold OpenLaw.pre at hc;have h4:(WTm.not (.lt (.lit (.int (n:Int))) (.len (.arg 0)))).holds [] {args:=[.list (ns.map .int)]}=true:=by
   have h4:=(holds_andW hc).1;rw[hn] at h4;exact h4
  have h5:=condW_of h4 (w_not (w_lt w_lit (w_len_list (w_arg rfl))));rw[ae] at h5;refine Nat.le_of_not_lt fun q=>?_;have q':(n:Int) < ((ns.length:Nat):Int):=by lia
  first
   |(rw[aK q'] at h5; exact absurd h5 (by decide))
   |(simp at h5; lia)
 cases yo with
 |cons w1 w2=>
  cases w2;cases w1 with
  |list ho O8=>exact⟨_,_,ns,rfl,rfl,ho,ue ns _ O8,hlen⟩
def GJ (l:OpenLaw)(args:List WData):l.row.toRowW.claim.post args (.bool true) args=true:=
 postW_of (r:=l.row.toRowW) (X:=(true == true))
  (show WShape.has [] (.bool true) .bool=true by first|rfl|decide|simp[WShape.has,WShape.arms,WShape.armsAll])
  (show(WTm.eq .res (.lit (.bool true))).value [] {args:=args,res:=some (.bool true),after:=args}=some (.bool (true == true)) from w_eq_bool (w_res rfl) w_lit) rfl
def BA {l:OpenLaw}{n:Nat}{q:Program}{loose:List Str}{XP:(Str->Option Value)->Heap->Prop}{YP:World->Heap->Prop}{d:DefRec}
  (hn:l.most=some n) (XJ:d.params.defaults=[])
  (call: ∀(w:World) (s₀ s₁:Shared) (mg mb:Str->Option Value) (fa:Addr) (o:Obj) (pm cd doc:Value) (a:Addr) (vs:List Value) (ns:List Int),
   Ground q loose [] XP w s₀ mg mb s₁.heap->YP w s₁.heap->
   s₁.heap.get? fa=some o->o.data= .func (docDef d.name d.params d.body d.scope pm cd doc)->s₁.heap.CodeRec cd d.name->mg d.name=some (.ref fa)->
   s₁.heap.get? a=some {cls:= .type "list",data:= .seq vs.toArray}->IntsAre vs ns->ns.length<=n->s₁.gens= #[]->
   codeAny (model l.prog w) callerA (.call (.ref fa) ⟨[.ref a],[]⟩) (fun r s'=>r= .ok (.ret (.bool true))/\OldK s₁.heap s'.heap/\s'.os=s₁.os/\AllBare s'.gens) s₁):
  WalkO q loose XP YP l.row.toRowW d [] (fun f vs=>PySem.call f vs):=by
 intro w s₀ s₁ mg mb G Y fa o pm cd doc dV kV ho hd rZ hD SS hg args vals as Mb acJ hrd yo hlo;obtain rfl:dV= .none:=Dflts.none hD XJ;obtain rfl:kV= .none:=Dflts.noKw hD;obtain⟨a,vs,ns,rfl,rfl,Pb,hints,hlen⟩:=GI hn Mb yo;refine enter_call (Dw (call w s₀ s₁ mg mb fa o pm cd doc a vs ns G Y ho (fd_plain hd) rZ SS Pb hints hlen hg) fun r s' hq=>?_);obtain⟨rfl,h2,h3,h4⟩:=hq;exact⟨.inl ⟨.bool true,.bool true,[],rfl,fun _=>rfl,.bool true,GJ l _,fun _=>⟨List.Pairwise.nil,fun _ hm=>(nomatch hm)⟩⟩,h2,h3,h4⟩
section
variable {prog:Program}{w:World}{A:Around}{E:Value->Shared->Prop}{s:Shared}{K:Frag}
end
end Att
namespace L2
open PySem PySem.Spec PyProof.Rows
def yp: ∀{vs:List Value} {ns:List Int},IntsAre vs ns->Vals (ns.map V.int) vs
 |_,_,.nil=> .nil
 |_,_,.cons n t h=> .cons ⟨t,rfl⟩ (yp h)
def gJ (s:Stmt):Arguments:=match s with
 | .FunctionDef _ a _ _ _ _ _ _ _ _=>a
 |_=>{posonlyargs:=[],args:=[],vararg:=none,kwonlyargs:=[],kw_defaults:=[],kwarg:=none,defaults:=[]}
def dF (s:Stmt):List Stmt:=match s with
 | .FunctionDef _ _ b _ _ _ _ _ _ _=>b
 |_=>[]
def aA (s:Stmt):Scope:=match s with
 | .FunctionDef _ _ _ _ _ _ sc _ _ _=>sc
 |_=>{kind:= .function,names:=[],isGenerator:=false,isCoroutine:=false}
abbrev sD:EY:=fun _ _ _ _ _ _=>False
abbrev E0:XK:=fun _ _ _=>False
def nz {X:Cx}:Passes sD X E0:=fun _ _ _ _ _ _ _ h=>h.elim
structure gw (K:Frag)(x qual:Str)(st:Stmt)(f:Addr)(fd:FuncData):Prop where
 ex: ∃(oc:Value) (od:Option Addr) (kV doc pm:Value) (an:Option Addr) (cY ct:Value) (GA:Array (Option Value)),
  fd=fnOf x qual (gJ st) (dF st) (aA st) .none kV doc pm an cY ct/\K.lookup f=some ⟨oc,od,.func fd,GA⟩/\codeIn K cY qual=true
 kp:keepIn K (.ref f)=true
section
variable {P:Program}{w:World}{K:Frag}{mg:Str->Option Value}{base:Heap}
def gw.ok {x qual:Str}{st:Stmt}{f:Addr}{fd:FuncData}{N ps:List Str}{k:Nat}{sp:Sp}(F:gw K x qual st f fd)(S:aU N ps (aA st))(len: ∀vs H Q E,sp vs H Q E->vs.length=ps.length)
  (f7: ∀(cY:Value) (A:Around) (outer:List Env) (s:Shared) (H:Hp) (vs:List V) (Q:VK) (E:XK),fh k (A.deeper (envOfC qual (aA st) s.heap.objs.size f cY))->sp vs H Q E->
   ∃t,pj (k7 sD P w K mg base N qual (aA st) f cY A outer s H E).DE (dF st) t/\t {nx:=fun _ H'=>Q .eA H',rt:=Q} (start N vs) H):l7 P w K mg base sD (k + 1) f fd ps sp:=by
 obtain⟨oc,od,kV,doc,pm,an,cY,ct,GA,rfl,lk,rZ⟩:=F.ex;refine Jb lk rZ S len fun A outer s H vs Q E hr y3=>?_;obtain⟨t,h,q⟩:=f7 cY A outer s H vs Q E hr y3;exact⟨t,h.DE,q⟩
def gw.binds {x qual:Str}{st:Stmt}{f:Addr}{fd:FuncData}{ps:List Str}(F:gw K x qual st f fd)
  (h: ∀(kV doc pm:Value) (an:Option Addr) (cY ct:Value) (us:List Value),us.length=ps.length->bindArgs (fnOf x qual (gJ st) (dF st) (aA st) .none kV doc pm an cY ct) ⟨us,[]⟩=pure (ps.zip us)):Binds K fd ps []:=by
 obtain⟨oc,od,kV,doc,pm,an,cY,ct,GA,rfl,lk,rZ⟩:=F.ex;exact .all (h kV doc pm an cY ct)
def qc {x qual:Str}{st:Stmt}{f:Addr}{oc:Value}{od an:Option Addr}{GA:Array (Option Value)}{kV doc pm cY ct:Value}(l:K.lookup f=some ⟨oc,od,.func (fnOf x qual (gJ st) (dF st) (aA st) .none kV doc pm an cY ct),GA⟩)
  (c:codeIn K cY qual=true) (k:keepIn K (.ref f)=true):gw K x qual st f (fnOf x qual (gJ st) (dF st) (aA st) .none kV doc pm an cY ct):=⟨⟨oc,od,kV,doc,pm,an,cY,ct,GA,rfl,l,c⟩,k⟩
end
def kK {A:Around}{k:Nat}(hr:fh k A):A.units + 1 < cLine:=qD (Nat.add_le_add_left (by decide:1<=64) _) hr.units
def bf {n:Nat}(h:n<=1000):n < sizeLine:=qD h (by decide)
section
variable {X:Cx}
def pv (i:Nat){x:Str}{pos:Pos}(hN:X.N[i]? =some x:=by rfl)(hv:R9 X.env.scope x:=by first|exact Or.inl rfl|exact Or.inr (Or.inl rfl)|exact Or.inr (Or.inr rfl))(hd:(x == ("__debug__":Str))=false:=by decide)
  (rZ:(x == ("__classdict__":Str))=false:=by decide):PE X (.Name x pos) (Sd i):=DA hN hv hd rZ
end
def bX {A B:Prop}(h:B):if false=true then A else B:=by
 rw[aN aX];exact h
def fP {A B:Prop}(h:A):if true=true then A else B:=by
 rw[aY rfl];exact h
def cG {c A B:Prop}[Decidable c](h1:c->A)(h2: ¬ c->B):if c then A else B:=by
 by_cases h:c
 ·rw[aY h];exact h1 h
 ·rw[aN h];exact h2 h
def BB {c A B:Prop}[Decidable c](hc:c)(h:B):if(!decide c)=true then A else B:=by
 rw[aK hc];exact bX h
def aF (H H':Hp):Prop:= ∀b o,H b=some o->H' b=some o
def aF.refl (H:Hp):aF H H:=fun _ _ h=>h
def aF.trans {H H1 H2:Hp}(a:aF H H1)(b:aF H1 H2):aF H H2:=fun c o h=>b c o (a c o h)
def aF.free {H H':Hp}(e:aF H H'){l:Addr}(h:H' l=Option.none):H l=Option.none:=by
 cases q:H l with
 |none=>rfl
 |some o=>
  rw[e l o q] at h;cases h
def aF.seq {K:Frag}{H H':Hp}{a:Addr}{xs:List V}(e:aF H H')(h:bG K H a xs):bG K H' a xs:=by
 rcases h with(h|⟨o,h⟩)|h
 ·exact .inl (.inl (e _ _ h))
 ·exact .inl (.inr ⟨o,e _ _ h⟩)
 ·exact .inr h
section
variable {X:Cx}
end
section
variable {κ:Type}[DecidableEq κ]
end
def GK {prog:Program}{w:World}{A:Around}{R:Result->Shared->Prop}{s:Shared}{elt target iter:Expr}{ifs:List Expr}{scope:Scope}{pos:Pos}{it acc:Value}{env:Env}(I:Nat->Shared->Prop)
  (turn: ∀n s,I n s->wpAny (model prog w) A (pyNext it) (fun r s₁=>match r with
   |none=>R (.ok .next) s₁
   |some v=>wpAny (model prog w) A (letOwnedTupleGo target it v) (fun _ s₁'=>wpAny (model prog w) A (assign target env v) (fun _ s₂=>
     wpAny (model prog w) A (forIn ifs true fun c r=>if r=true then do let ok ← isTrue c env (eval c env); pure (ForInStep.yield ok) else pure (ForInStep.yield r)) (fun ok s₃=>
      if ok=true then wpAny (model prog w) A (eval elt env) (fun x s₄=>
       wpAny (model prog w) A (call (.builtin "list.append") [acc,x]) (fun _ s₅=> ∃m,m < n/\I m s₅) (fun _ _=>False) s₄) (fun _ _=>False) s₃
      else ∃m,m < n/\I m s₃) (fun _ _=>False) s₂) (fun _ _=>False) s₁') (fun _ _=>False) s₁) (fun _ _=>False) s)
  (n:Nat) (h:I n s):
  codeAny (model prog w) A (.compLoop (.ListComp elt [⟨target,iter,ifs,0⟩] scope pos) 0 it acc env) R s:=by
 refine codeAny_loop rfl I (fun n s hI=>?_) n h;show wpAny _ A ((compTurn (.ListComp elt [⟨target,iter,ifs,0⟩] scope pos) 0 it acc env).onRaise (fun x=>do noteFrame x env; theTreesLotGoes x)) _ _ s;refine wpAny_noted ?_;rw[compTurn_list];refine aB (iC (aB (ck (turn n s hI) (fun r s₁ h₁=>?_) fun _ _ h'=>h'.elim)));cases r with
 |none=>exact bF h₁
 |some v=>
  refine aB (ck h₁ (fun _ s₁' h₁'=>?_) fun _ _ h'=>h'.elim);refine aB (ck h₁' (fun _ s₂ h₂=>aB (ck h₂ (fun ok s₃ h₃=>?_) fun _ _ h'=>h'.elim)) fun _ _ h'=>h'.elim);cases ok with
  |false=>exact bF ⟨rfl,h₃⟩
  |true=>
   exact aB (aB (ck h₃ (fun x s₄ h₄=>aB (ck h₄ (fun _ s₅ h₅=>bF (bF ⟨rfl,h₅⟩)) fun _ _ h'=>h'.elim)) fun _ _ h'=>h'.elim))
def BC (X:Cx)(N:List Str)(scope:Scope)(cl:List (Str×Addr))(C:Addr)(s3:Shared)(H3:Hp)(fp:List Addr):Cx:=
 {X with N:=N,s₀:=s3,H₀:=H3,env:=compEnvC scope cl C X.env,outer:=X.stack,stack:=X.stack,ex:=fp,fn:=fun _=>false,pn:=[],xe:=fun _ _=>False}
def Lg (X:Cx)(ifs:List Expr)(t:TT):Prop:=
 ∀(pins:List (Addr×Obj)) (s:Shared) (σ:St) (H:Hp) (Q:Bool->Hp->Prop),Inv X pins σ H s->t σ H Q->
  wpAny (model X.prog X.w) X.A (forIn ifs true fun c r=>if r=true then do let ok ← isTrue c X.env (eval c X.env); pure (ForInStep.yield ok) else pure (ForInStep.yield r)) (TP X pins σ Q) X.xe s
def XM:TT:=fun _ H Q=>Q true H
def k9 {X:Cx}:Lg X [] XM:=fun pins s σ H Q I h=>wpAny_tests_nil ⟨H,I,h⟩
def qd {X:Cx}{c:Expr}{t:TT}(h:PT X c t):Lg X [c] t:=fun pins s σ H Q I hw=>wpAny_tests_one (h pins s σ H Q I hw)
def yq (J:It)(g:TG)(tc:TT)(te:TE)(σ0:St)(H2:Hp)(Q:VK):Prop:=
 ∀D,H2 D=none-> ∃W:Nat->Nat->St->Hp->Prop,(∃m,W 0 m σ0 (upd H2 D (.lst [])))/\ ∀i m σ' H',W i m σ' H'->
  (J.stop i H'/\Q (.ref D) H')∨(J.go i H'/\ ∃N:St->Hp->Prop,(∀Mc qe,N Mc qe-> ∃m',m' < m/\W (i + 1) m' Mc qe)/\
   ∀x qe,J.Rm i H' x qe->g x σ' qe fun σ2 H2=>tc σ2 H2 fun ok H3=>if ok=true then te σ2 H3 fun y H4=> ∃ys,H4 D=some (.lst ys)/\ys.length < sizeLine/\N σ2 (upd H4 D (.lst (ys ++ [y]))) else N σ2 H3)
structure sE (X:Cx)(scope:Scope)(cl:List (Str×Addr))(cn:List Str)(cj:List Nat):Prop where
 GL:closureFor scope X.env=pure cl
 cell: ∀y∈scope.names,y.2≠ .cell
 kind:scope.kind= .function
 names: ∀x∈scope.names,x.2= .local->scope.names.lookup x.1=some .local
 sub: ∀x c,cl.lookup x=some c->X.env.cells.lookup x=some c
 all: ∀x,((relabel scope X.env).names.lookup x=some .cell∨(relabel scope X.env).names.lookup x=some .free)-> ∃c,cl.lookup x=some c
 cap:Paired (fun x j=>X.N[j]? =some x/\(X.env.kindOf x=some .cell∨X.env.kindOf x=some .free)/\((relabel scope X.env).names.lookup x=some .cell∨(relabel scope X.env).names.lookup x=some .free)) cn cj
def bK {α β:Type}{F:α->β->Prop}: ∀{l₁:List α} {l₂:List β} {i:Nat} {a:α},Paired F l₁ l₂->l₁[i]? =some a-> ∃b,l₂[i]? =some b/\F a b
 |_,_,_,_,.nil,e=>by simp at e
 |_,_,0,_,.cons r _,e=>by simp at e; subst e; exact⟨_,rfl,r⟩
 |_,_,i + 1,a,.cons _ t,e=>by
  obtain⟨b,h1,h2⟩:=bK (i:=i) (a:=a) t (by simpa using e);exact⟨b,by simpa using h1,h2⟩
def vb (tn:List Str)(cj:List Nat)(σ:St):St:=tn.map (fun _=>none) ++ cj.map fun j=>(σ[j]?).join
def vc {X:Cx}{pins:List (Addr×Obj)}{σ:St}{H2:Hp}{s2:Shared}{elt tg iter:Expr}{ifs:List Expr}{scope:Scope}{pos:Pos}{cl:List (Str×Addr)}{tn cn:List Str}{cj:List Nat}{g:TG}{tc:TT}{te:TE}
  {it:Addr} {fp:List Addr} {Pc:Nat->Heap->Prop} {J:It} {RR:Value->Addr->Result->Shared->Prop} {E:Value->Shared->Prop} {Q:VK}
  (yr:X.calm=true) (S:sE X scope cl cn cj)
  (hg: ∀C s3 H3 fp,PG (BC X (tn ++ cn) scope cl C s3 H3 fp) tg g) (hc: ∀C s3 H3 fp,Lg (BC X (tn ++ cn) scope cl C s3 H3 fp) ifs tc) (he: ∀C s3 H3 fp,PE (BC X (tn ++ cn) scope cl C s3 H3 fp) elt te)
  (I2:Inv X pins σ H2 s2) (T:Turn X.prog X.w X.K tg J fp it Pc) (NJ:Pc 0 s2.heap) (f2: ∀b∈fp,uP X pins H2 b)
  (hw:yq J g tc te (vb tn cj σ) H2 Q)
  (hRR: ∀D C (s':Shared) H' m',Inv X pins σ H' s'->uP X pins H' C->s'.heap.Ns C m'->Q (.ref D) H'->RR (.ref D) C (.ok .next) s'):
  wpAny (model X.prog X.w) X.A (newList []) (fun acc s₃=>wpAny (model X.prog X.w) X.A (newFunctionEnv scope X.env.globals cl [] X.env.qual none .none (some X.env)) (fun SU s₄=>
   codeAny (model X.prog X.w) X.A (.compStart (.ListComp elt [⟨tg,iter,ifs,0⟩] scope pos) 0 (.ref it) acc {SU with scope:=relabel scope X.env}) (RR acc SU.locals) s₄) E s₃) E s2:=by
 have hD0:H2 s2.heap.objs.size=none:=I2.cB.fresh (aD _);obtain⟨W,⟨m0,w0⟩,turn⟩:=hw _ hD0;refine wpAny_newObj_type (wpAny_newFunctionEnv S.cell (by intro y hy; simp at hy) (fun h₁ Pd Pe=>?_) S.kind);dsimp only at Pd Pe ⊢;have I3:Inv X pins σ (upd H2 s2.heap.objs.size (.lst [])) {s2 with heap:=s2.heap.push {cls:= .type "list",dict:=none,data:= .seq ([]:List Value).toArray}}:=I2.O3 (t':=s2.toks) (ys:=[]) (b0:=[]) .nil (bq _);generalize V6:s2.heap.push {cls:= .type "list",dict:=none,data:= .seq ([]:List Value).toArray}=HH at Pd Pe I3 ⊢;have hC:HH.objs.size=s2.heap.objs.size + 1:=by rw[← V6,oB]
 have old: ∀b o,HH.get? b=some o->h₁.get? b=some o:=fun b o e=>Pe.extBut b o (a7 (aM e)) (ay _ e);have XN: ∀b o,s2.heap.get? b=some o->HH.get? b=some o:=fun b o e=>V6▸ay _ e;have SV: ∀b∈fp,b < s2.heap.objs.size:=fun b hb=>by
  obtain⟨o,e,_⟩:=T.obj 0 _ NJ b hb;exact aM e
 have V7:(BC X (tn ++ cn) scope cl HH.objs.size {s2 with heap:=HH} (upd H2 s2.heap.objs.size (.lst [])) fp).Ok:=by
  refine⟨I3.ok.mod,S.kind,I3.ok.glob,I3.ok.blt,aD _,fun x y c h1 h2=>I3.ok.inj x y c (S.sub x c h1) (S.sub y c h2),fun x hx=>S.all x hx,fun x c z=>absurd z aX,I3.ok.hd,I3.ok.frames,.inl rfl,fun b hb=>⟨?_,fun x c e z=>?_⟩,I3.bs,?_,fun b o e hb=>?_,fun b hb z=>?_,I3.stack,I3.qM⟩
  ·show b≠HH.objs.size;rw[hC];exact a7 (iY (SV b hb))
  ·exact(f2 b hb).2.2.2.2.1 x c (S.sub x c e) z
  ·exact aV I3.ok.Be I3.sz
  ·rcases(f2 b hb).2.2.2.1 with z|z
   ·exact I3.ok.wV b o e z
   ·have h1:b < X.base.objs.size:=aM e;exact absurd (bo h1 (aV I3.ok.Be z)) (iV _)
  ·rcases au.mp (I3.uM b z) with z|z
   ·exact(f2 b hb).2.1 z
   ·exact(f2 b hb).2.2.1 z
 have IY:Inv (BC X (tn ++ cn) scope cl HH.objs.size {s2 with heap:=HH} (upd H2 s2.heap.objs.size (.lst [])) fp) [] (vb tn cj σ) (upd H2 s2.heap.objs.size (.lst [])) {s2 with heap:=h₁,toks:=s2.toks + ([]:List (Str×Value)).length}:=by
  refine⟨V7,rfl,I3.bare,Un.kept old,⟨_,Pd,fun i x v e1 e2 e3=>?_⟩,fun x c e=>?_,?_,fun x c e=>I3.iU x c (S.sub x c e),fun p hp=>absurd hp (by intro z; exact nomatch z),I3.cB.kept old,?_⟩
  ·have e1':(tn ++ cn)[i]? =some x:=e1;by_cases hi:i < tn.length
   ·unfold vb at e2;rw[List.getElem?_append_left (by simpa using hi),List.getElem?_map] at e2;cases h:tn[i]? with
    |none=>rw[h] at e2; cases e2
    |some _=>rw[h] at e2; cases e2
   ·rw[fZ (by lia)] at e1';obtain⟨j,hj,hN,hk,NO⟩:=bK S.cap e1';unfold vb at e2;rw[List.getElem?_append_right (by simpa using hi),List.getElem?_map] at e2;simp only[List.length_map,hj,Option.map_some] at e2;have SW:σ[j]? =some (some v):=by
     cases h:σ[j]? with
     |none=>rw[h] at e2; cases e2
     |some q=>
      rw[h] at e2;have SW:q=some v:=aG e2;rw[SW]
    obtain⟨m,hn,hl⟩:=I3.loc;have hv:R9 X.env.scope x:=by
     rcases hk with hk|hk
     ·exact .inr (.inl hk)
     ·exact .inr (.inr hk)
    obtain⟨u,r,l⟩:=hl j x v hN SW hv;refine⟨u,r,?_⟩;rcases l with⟨k,_⟩|⟨_,c,hc,mI⟩
    ·rcases hk with hk|hk <;> (rw[k] at hk; cases hk)
    ·obtain⟨c',Bi⟩:=S.all x NO;have:=S.sub x c' Bi;rw[hc] at this;cases this;obtain⟨o,ho,hd⟩:=mI;exact .inr ⟨NO,c,Bi,⟨o,old _ _ ho,hd⟩⟩
  ·obtain⟨v,o,ho,hd⟩:=I3.cell x c (S.sub x c e);exact⟨v,o,old _ _ ho,hd⟩
  ·exact I3.cB.fresh (aD _)
  ·show(vb tn cj σ).length=(tn ++ cn).length;unfold vb;rw[ax,ax,ae,ae,S.cap.length]
 have st1:Pc 0 h₁:=T.keep 0 _ _ NJ fun b _ o e=>old b o (XN b o e);have ni: ∀{H':Hp},(∀b∈fp,H' b=none)-> ∀b∈fp,uP (BC X (tn ++ cn) scope cl HH.objs.size {s2 with heap:=HH} (upd H2 s2.heap.objs.size (.lst [])) fp) [] H' b:=fun hn b hb=>
  ⟨hn b hb,(V7.LJ b hb).1,V7.wW b hb,.inl hb,(V7.LJ b hb).2,fun p hp=>absurd hp (by intro z; exact nomatch z)⟩
 have fp1: ∀b∈fp,upd H2 s2.heap.objs.size (.lst []) b=none:=fun b hb=>by
  rw[az (a7 (SV b hb))];exact(f2 b hb).1
 have loop:codeAny (model X.prog X.w) X.A (.compLoop (.ListComp elt [⟨tg,iter,ifs,0⟩] scope pos) 0 (.ref it) (.ref s2.heap.objs.size) (compEnvC scope cl HH.objs.size X.env))
    (RR (.ref s2.heap.objs.size) HH.objs.size) {s2 with heap:=h₁,toks:=s2.toks + ([]:List (Str×Value)).length}:=by
  refine GK (fun n s'=> ∃i σ' H',Inv (BC X (tn ++ cn) scope cl HH.objs.size {s2 with heap:=HH} (upd H2 s2.heap.objs.size (.lst [])) fp) [] σ' H' s'/\Pc i s'.heap/\(∀b∈fp,H' b=none)/\W i n σ' H') ?_ m0 ⟨0,_,_,IY,st1,fp1,w0⟩;rintro n s3 ⟨i,σ3,H3,J3,Sq,LQ,w3⟩;rcases turn i n σ3 H3 w3 with⟨stop,qn⟩|⟨go,N,hN,step⟩
  ·refine dY (T.done (BC X (tn ++ cn) scope cl HH.objs.size {s2 with heap:=HH} (upd H2 s2.heap.objs.size (.lst [])) fp) rfl rfl rfl yr i [] s3 σ3 H3 _ J3 (ni LQ) Sq stop) fun r s4 ⟨hr,J4⟩=>?_;subst hr;obtain⟨m',W9,_⟩:=J4.loc;exact hRR _ _ s4 H3 m' (I3.EO (ch:=fp) J4.os J4.base J4.cB J4.bare fun b hb=>⟨(f2 b hb).2.2.2.1,(f2 b hb).2.1,(f2 b hb).2.2.2.2.1,(f2 b hb).2.2.2.2.2⟩) (I3.Gs (aD _) J4.free) W9 qn
  ·refine dY (T.item (BC X (tn ++ cn) scope cl HH.objs.size {s2 with heap:=HH} (upd H2 s2.heap.objs.size (.lst [])) fp) rfl rfl rfl yr i [] s3 σ3 H3 _ J3 (ni LQ) Sq go) fun r s4 ⟨u,hr,h4⟩=>?_;subst hr;refine dY h4 fun _ s5 ⟨x,H5,J5,r5,y5,OQ,Ro⟩=>?_;have J5':=J5.pinned (ni Ro) (T.obj _ _ OQ);refine dY (hg _ _ _ _ _ s5 σ3 H5 x u _ J5' r5 (step x H5 y5)) fun _ s6 ⟨σ6,H6,J6,q6⟩=>?_;have again: ∀{s7:Shared} {σ7:St} {H7:Hp},Inv (BC X (tn ++ cn) scope cl HH.objs.size {s2 with heap:=HH} (upd H2 s2.heap.objs.size (.lst [])) fp) ([] ++ pY fp s5.heap) σ7 H7 s7->N σ7 H7->
     ∃m,m < n/\ ∃i σ' H',Inv (BC X (tn ++ cn) scope cl HH.objs.size {s2 with heap:=HH} (upd H2 s2.heap.objs.size (.lst [])) fp) [] σ' H' s7/\Pc i s7.heap/\(∀b∈fp,H' b=none)/\W i m σ' H':=fun{s7 σ7 H7} I7 n7=>by
    obtain⟨m',hm,w7⟩:=hN σ7 H7 n7;refine⟨m',hm,i + 1,σ7,H7,I7.jg,T.keep _ _ _ OQ fun b hb o e=>(I7.pin (b,o) (bw _ (bw _ (jV hb e)))).1,fun b hb=>?_,w7⟩;obtain⟨o,e,d⟩:=T.obj _ _ OQ b hb;exact(I7.pin (b,o) (bw _ (bw _ (jV hb e)))).2.1
   refine dY (hc _ _ _ _ _ s6 σ6 H6 _ J6 q6) fun ok s7 ⟨H7,J7,q7⟩=>?_;cases ok with
   |false=>exact again J7 q7
   |true=>
    refine dY (he _ _ _ _ _ s7 σ6 H7 _ J7 q7) fun y s8 ⟨yv,H8,J8,r8,ys,hD,hz,q8⟩=>?_;refine dY (yj _ s8 σ6 H8 (.ref s2.heap.objs.size) [yv] (.ref s2.heap.objs.size) [y] (fun _ H'=>N σ6 H') J8 rfl (.cons r8 .nil) ⟨_,ys,yv,rfl,rfl,hD,hz,q8⟩) fun _ s9 ⟨_,H9,J9,_,q9⟩=>?_;exact again J9 q9
 exact codeAny_compStart_list loop (T.self _ 0 _ _ _ st1 loop)
def NP (wi:TI)(tn:List Str)(cj:List Nat)(g:TG)(tc:TT)(te:TE):TE:=fun σ H Q=>wi σ H fun J H2=>yq J g tc te (vb tn cj σ) H2 Q
def iF {X:Cx}{elt tg iter:Expr}{ifs:List Expr}{scope:Scope}{pos:Pos}{cl:List (Str×Addr)}{tn cn:List Str}{cj:List Nat}{wi:TI}{g:TG}{tc:TT}{te:TE}
  (yr:X.calm=true) (S:sE X scope cl cn cj) (hi:PI X tg iter wi)
  (hg: ∀C s3 H3 fp,PG (BC X (tn ++ cn) scope cl C s3 H3 fp) tg g) (hc: ∀C s3 H3 fp,Lg (BC X (tn ++ cn) scope cl C s3 H3 fp) ifs tc) (he: ∀C s3 H3 fp,PE (BC X (tn ++ cn) scope cl C s3 H3 fp) elt te)
  (hs: ∀x,foldedSetIterable iter X.env x=pure x:=by intro _; rfl):
  PE X (.ListComp elt [⟨tg,iter,ifs,0⟩] scope pos) (NP wi tn cj g tc te):=by
 intro pins s σ H Q I h;rw[eval_ListComp];refine wpAny_comprehension_free (use:=none) rfl hs S.GL S.kind S.names (dY (hi pins s σ H _ I h) fun v s1 h1=>dY h1 fun VY s2 h2=>?_);obtain⟨it,fp,Pc,J,H2,e,I2,T,NJ,f2,hw⟩:=h2;subst e;refine vc (RR:=fun acc C=>compPost (model X.prog X.w) X.A X.xe none (EP X pins σ Q) acc C) yr S hg hc he I2 T NJ f2 hw ?_;intro D C s' H' m' I' GN hn q;exact⟨m',hn,fun h' Md=>⟨.ref D,H',I'.turned (t':=s'.toks) (fun b o hb e=>(Md.2 b hb).trans e) GN.1 GN.2.1 GN.2.2.2.1 GN.2.2.2.2.1 GN.2.2.2.2.2,rfl,q⟩⟩
def ji {X:Cx}{i:Nat}{y:Str}{py SX:Pos}{elt tg iter:Expr}{ifs:List Expr}{scope:Scope}{pos:Pos}{cl:List (Str×Addr)}{tn cn:List Str}{cj:List Nat}{wi:TI}{g:TG}{tc:TT}{te:TE}
  (hN:X.N.Nodup) (hy:X.N[i]? =some y) (hx:Loc X.env.scope y)
  (yr:X.calm=true) (S:sE X scope cl cn cj) (hi:PI X tg iter wi)
  (hg: ∀C s3 H3 fp,PG (BC X (tn ++ cn) scope cl C s3 H3 fp) tg g) (hc: ∀C s3 H3 fp,Lg (BC X (tn ++ cn) scope cl C s3 H3 fp) ifs tc) (he: ∀C s3 H3 fp,PE (BC X (tn ++ cn) scope cl C s3 H3 fp) elt te)
  (XO:swapsWith (.ListComp elt [⟨tg,iter,ifs,0⟩] scope pos) (some (.Name y py)) SX.line X.env=pure true:=by rfl)
  (hs: ∀x,foldedSetIterable iter X.env x=pure x:=by intro _; rfl)
  (hf:X.fn y=true∨X.env.scope.names.lookup y=some .local:=by first|exact .inl rfl|exact .inr rfl|assumption):
  PS X (.Assign [.Name y py] (.ListComp elt [⟨tg,iter,ifs,0⟩] scope pos) SX) (LO (NP wi tn cj g tc te) (Bn i)):=by
 intro pins s σ H D I h;rw[exec_Assign_Name_used _ _ _ _ XO];refine aB (iC (aB ?_));show wpAny _ X.A (do let _ ← comprehension (.ListComp elt [⟨tg,iter,ifs,0⟩] scope pos) scope X.env _ (newList []) false (eval iter X.env) (some (assign (.Name y py) X.env))) _ _ s;refine aB (ck (wpAny_comprehension_free (use:=some (assign (.Name y py) X.env)) (Q:=fun _ s'=>SP X pins D .next s') rfl hs S.GL S.kind S.names
  (dY (hi pins s σ H _ I h) fun v s1 h1=>dY h1 fun VY s2 h2=>?_)) (fun _ s' hq=>bF (bF hq)) fun _ _ e=>e)
 obtain⟨it,fp,Pc,J,H2,e,I2,T,NJ,f2,hw⟩:=h2;subst e;refine vc (RR:=fun acc C=>compPost (model X.prog X.w) X.A X.xe (some (assign (.Name y py) X.env)) (fun _ s'=>SP X pins D .next s') acc C) yr S hg hc he I2 T NJ f2 hw ?_;intro D' C s' H' m' I' GN hn q;show wpAny _ X.A (assign (.Name y py) X.env (.ref D')) _ _ _;refine wpAny_assign_Name (yb I' hN hy hx (v:= .ref D') rfl (fun E2 I'' ⟨a,sb,ha⟩=>?_) hf);have hCa:C≠a:=by
  rcases ha with rfl|ha
  ·exact GN.2.1
  ·exact fun z=>GN.2.2.2.2.1 y a ha z.symm
 refine⟨m',hn.sameBut sb hCa,fun h3 Ru=>⟨_,H',I''.turned (t':=E2.toks) (fun b o hb e=>(Ru.2 b hb).trans e) GN.1 GN.2.1 GN.2.2.2.1 GN.2.2.2.2.1 GN.2.2.2.2.2,q⟩⟩
def dS {K:Frag}{a:Addr}{xs:List V}{g:TG}{tc:TT}{te:TE}{σ0:St}{H2:Hp}{Q:VK}(Pv:Addr->Nat->St->Hp->Prop)(h0: ∀D,H2 D=none->Pv D 0 σ0 (upd H2 D (.lst [])))
  (hl: ∀D i σ H,i<=xs.length->Pv D i σ H->bG K H a xs)
  (hs: ∀D i x σ H,xs[i]? =some x->Pv D i σ H->g x σ H fun σ2 H2=>tc σ2 H2 fun ok H3=>if ok=true then te σ2 H3 fun y H4=> ∃ys,H4 D=some (.lst ys)/\ys.length < sizeLine/\Pv D (i + 1) σ2 (upd H4 D (.lst (ys ++ [y]))) else Pv D (i + 1) σ2 H3)
  (hd: ∀D σ H,H2 D=none->Pv D xs.length σ H->Q (.ref D) H):yq (Rn K a) g tc te σ0 H2 Q:=by
 intro D hD;refine⟨fun i m σ H=>m=xs.length - i/\i<=xs.length/\Pv D i σ H,⟨xs.length,by simp,Nat.zero_le _,h0 D hD⟩,?_⟩;rintro i m σ H ⟨rfl,hi,p⟩;have q:=hl D i σ H hi p;by_cases iD:i < xs.length
 ·refine .inr ⟨⟨xs,xs[i],q,by simp[iD]⟩,Pv D (i + 1),fun σ' H' p'=>⟨xs.length - (i + 1),by lia,rfl,iD,p'⟩,fun x H' y=>?_⟩;obtain⟨e,y⟩:=y;subst e;exact hs D i x σ _ (y xs q) p
 ·have e:i=xs.length:=by lia
  subst e;exact .inl ⟨⟨xs,q,aD _⟩,hd D σ H hD p⟩
def Jm {K:Frag}{a:Addr}{xs:List V}{g:TG}{tc:TT}{te:TE}{σ0:St}{H2:Hp}{Q:VK}(Pv:Addr->Nat->St->Hp->Prop)(h0: ∀D,H2 D=none->Pv D 0 σ0 (upd H2 D (.lst [])))
  (hl: ∀D i σ H,i<=xs.length->Pv D i σ H->cE K H a xs)
  (hs: ∀D i x σ H,xs[i]? =some x->Pv D i σ H->g x σ H fun σ2 H2=>tc σ2 H2 fun ok H3=>if ok=true then te σ2 H3 fun y H4=> ∃ys,H4 D=some (.lst ys)/\ys.length < sizeLine/\Pv D (i + 1) σ2 (upd H4 D (.lst (ys ++ [y]))) else Pv D (i + 1) σ2 H3)
  (hd: ∀D σ H,H2 D=none->Pv D xs.length σ H->Q (.ref D) H):yq (Xl K a) g tc te σ0 H2 Q:=by
 intro D hD;refine⟨fun i m σ H=>m=xs.length - i/\i<=xs.length/\Pv D i σ H,⟨xs.length,by simp,Nat.zero_le _,h0 D hD⟩,?_⟩;rintro i m σ H ⟨rfl,hi,p⟩;have q:=hl D i σ H hi p;by_cases iD:i < xs.length
 ·refine .inr ⟨⟨xs,xs[i],q,by simp[iD]⟩,Pv D (i + 1),fun σ' H' p'=>⟨xs.length - (i + 1),by lia,rfl,iD,p'⟩,fun x H' y=>?_⟩;obtain⟨e,y⟩:=y;subst e;exact hs D i x σ _ (y xs q) p
 ·have e:i=xs.length:=by lia
  subst e;exact .inl ⟨⟨xs,q,aD _⟩,hd D σ H hD p⟩
def DR {lo:Int}{n:Nat}{g:TG}{tc:TT}{te:TE}{σ0:St}{H2:Hp}{Q:VK}(Pv:Addr->Nat->St->Hp->Prop)(h0: ∀D,H2 D=none->Pv D 0 σ0 (upd H2 D (.lst [])))
  (hs: ∀D i σ H,i < n->Pv D i σ H->g (.int (lo + i)) σ H fun σ2 H2=>tc σ2 H2 fun ok H3=>if ok=true then te σ2 H3 fun y H4=> ∃ys,H4 D=some (.lst ys)/\ys.length < sizeLine/\Pv D (i + 1) σ2 (upd H4 D (.lst (ys ++ [y]))) else Pv D (i + 1) σ2 H3)
  (hd: ∀D σ H,H2 D=none->Pv D n σ H->Q (.ref D) H):yq (NH lo n) g tc te σ0 H2 Q:=by
 intro D hD;refine⟨fun i m σ H=>m=n - i/\i<=n/\Pv D i σ H,⟨n,by simp,Nat.zero_le _,h0 D hD⟩,?_⟩;rintro i m σ H ⟨rfl,hi,p⟩;by_cases iD:i < n
 ·refine .inr ⟨iD,Pv D (i + 1),fun σ' H' p'=>⟨n - (i + 1),by lia,rfl,iD,p'⟩,fun x H' y=>?_⟩;obtain⟨e,y⟩:=y;subst e y;exact hs D i σ _ iD p
 ·have e:i=n:=by lia
  subst e;exact .inl ⟨aD _,hd D σ H hD p⟩
def Inv.DS {X:Cx}{pins:List (Addr×Obj)}{σ:St}{H:Hp}{s:Shared}{h':Heap}{a:Addr}{o:HO}{t':Nat}{ch:List Addr}(I:Inv X pins σ H s)(k: ∀b ob,b∉ch->s.heap.get? b=some ob->h'.get? b=some ob)
  (Bf: ∀b∈ch,uP X pins H b) (hp:s.heap.objs.size<=a) (new:dE X.prog X.w (upd H a o) h' a o):Inv X pins σ (upd H a o) {s with heap:=h',toks:=t'}:=by
 have hn:H a=none:=I.cB.fresh hp;have Sb: ∀b u,H b=some u->b∉ch:=fun b u e z=>by rw[(Bf b z).1] at e; cases e
 refine I.step (g':=s.gens) (d':=s.drawn) (ch:=ch) (fun b hb=>⟨(Bf b hb).2.2.2.1,(Bf b hb).2.1,(Bf b hb).2.2.2.2.1,(Bf b hb).2.2.2.2.2⟩) (fun b ob _ _ hc e _=>k b ob hc e) (fun b ob _ _ hc e _=>⟨ob.slots,k b ob hc e⟩)
  (fun b ob _ e n=>by rw[az (a7 (bo (aM e) hp))]; exact n)
  (fun b ob hc e=>⟨ob,k b ob hc e⟩) (fun b xs e=>by rw[az (aJ e hn)]; exact e) (fun b ob u e=>by rw[az (aJ e hn)]; exact e) (fun b ps e=>⟨#[],by rw[az (aJ e hn),e]; simp⟩) (fun m hm=>?_) (fun b u e=>?_) I.bare
 ·obtain⟨ob,es,ep,ho,r⟩:=hm;exact⟨ob,es,ep,k _ ob (fun z=>(Bf _ z).2.1 rfl) ho,r⟩
 ·by_cases hb:b=a
  ·subst hb;rw[ag] at e;cases e;exact new
  ·rw[az hb] at e;refine(I.cB b u e).ud (fun c v hc q=>k c v ?_ q) (fun c q=>by rw[az (aJ q hn)]; exact q) fun c xs q=>by rw[az (aJ q hn)]; exact q
   rcases hc with z|z
   ·rw[z]; exact Sb b u e
   ·exact Sb c _ z
def SY (K:Frag)(a:Addr):It:=
 ⟨fun i H=> ∃xs x,bG K H a xs/\xs[i]? =some x,fun i H x H'=> ∃p y,H p=none/\x= .ref p/\H'=upd H p (.tup [.int i,y])/\ ∀xs,bG K H a xs->xs[i]? =some y,fun i H=> ∃xs,bG K H a xs/\xs.length<=i⟩
def GO {P:Program}{w:World}{K:Frag}{elts:List Expr}{k1}{pos:Pos}(a e it:Addr)(jy:e≠it):Turn P w K (.Tuple elts k1 pos) (SY K a) [e,it] e (fun i h=>(∃old,IsEnum h e it i old)/\h.IsListIter it a i) where
 mem:=by simp
 obj:=fun i h st b hb=>by
  obtain⟨⟨old,he⟩,hit⟩:=st;have e1:b=e∨b=it:=by simpa using hb
  rcases e1 with rfl|rfl
  ·exact⟨_,he,fun v z=>by have z':Data.fields _ =Data.cell v:=z; cases z'⟩
  ·obtain⟨o,e,c,d⟩:=hit;exact⟨o,e,fun v z=>by rw[d] at z; cases z⟩
 keep:=fun i h h' st k=>by
  obtain⟨⟨old,he⟩,hit⟩:=st;exact⟨⟨old,k e (by simp) _ he⟩,hit.at fun o e=>k it (by simp) o e⟩
 item:=by
  intro X hP hw hK hc i pins s σ H E I hf st hg;subst hP hw hK;obtain⟨⟨old,he⟩,hit⟩:=st;obtain⟨xs,x,hq,hx⟩:=hg;obtain⟨b0,rv,p,hz⟩:=I.list hq;obtain⟨u,hu,ru⟩:=rv.get hx;refine wpAny_pyNext_enum_item he hit p.isList (x:=u) (by simpa using hu) jy fun h' ho XQ hT hsz hk=>⟨_,rfl,?_⟩;refine wpAny_letOwnedTupleGo_enum ho fun h2 XR Rt=>?_;have iD:e < s.heap.objs.size:=aM he;have DT:h2.get? s.heap.objs.size=some {cls:= .type "tuple",data:= .seq #[.int i s.toks,u]}:=(Rt.2 _ (qB iD)).trans hT;have hn:H s.heap.objs.size=none:=I.cB.fresh (aD _);have I2:Inv X pins σ (upd H s.heap.objs.size (.tup [.int i,x])) {s with heap:=h2,toks:=s.toks + 1}:=by
   refine I.DS (ch:=[e,it]) (fun b ob hb q=>?_) hf (aD _) ⟨by show 2<=sizeLine; decide,[.int i s.toks,u],.cons ⟨_,rfl⟩ (.cons ru .nil),⟨_,DT,rfl,_,rfl⟩⟩;have l8:b≠e/\b≠it:=⟨fun z=>hb (by simp[z]),fun z=>hb (by simp[z])⟩;exact(Rt.2 b l8.1).trans (hk b ob l8.1 l8.2 q)
  refine⟨.ref s.heap.objs.size,_,I2,rfl,⟨_,x,hn,rfl,rfl,fun ys hy=>by rw[I.Bm hy hq]; exact hx⟩,⟨⟨u,by simpa using XR⟩,XQ.at fun o q=>(Rt.2 it jy.symm).trans q⟩,fun b hb=>?_⟩;have V8:=hf b hb;rw[az]
  ·exact V8.1
  ·have e1:b=e∨b=it:=by simpa using hb
   rcases e1 with rfl|rfl
   ·exact a7 iD
   ·obtain⟨o,q,_⟩:=hit;exact a7 (aM q)
 done:=by
  intro X hP hw hK hc i pins s σ H E I hf st hg;subst hP hw hK;obtain⟨⟨old,he⟩,hit⟩:=st;obtain⟨xs,hq,hx⟩:=hg;obtain⟨b0,rv,p,hz⟩:=I.list hq;obtain⟨f0,f1,f2,f3,f4,f5⟩:=hf it (by simp);have hl:=rv.length;exact wpAny_pyNext_enum_end (I.ok.hd hc) he hit p.isList (by simp; lia) fun h' eb=>⟨rfl,I.turned (t':=s.toks) (fun b o hb e=>eb b o hb e) f0 f1 f3 f4 f5⟩
 self:=fun _ _ _ _ _ st h=>by
  obtain⟨⟨old,he⟩,hit⟩:=st;exact wpAny_pyIter_enum he h
def S4 (K:Frag)(ta:TA):TI:=fun σ H R=>ta σ H fun vs H1=> ∃a,vs=[.ref a]/\(∃xs,bG K H1 a xs)/\R (SY K a) H1
def qU {X:Cx}{elts:List Expr}{k1}{OU:Pos}{l:Expr}{ta:TA}{p pos:Pos}(hg:Gl X "enumerate")(hm:X.mg "enumerate"=none)(ha:PA X [l] ta)(hs:starEach [l] X.env=[(false,eval l X.env)]:=by rfl):
  PI X (.Tuple elts k1 OU) (.Call (.Name "enumerate" p) [l] [] pos) (S4 X.K ta):=by
 intro pins s σ H R I h;refine Call_ (pW I hg hm boot_enumerate (oQ (dY (ha pos pins s σ H _ I h) fun us s1 ⟨vs,H1,I1,r1,q1⟩=>?_) hs rfl));obtain⟨a,e,⟨xs,hq⟩,q⟩:=q1;subst e;obtain⟨u,rfl,ru⟩:=vals1 r1;cases ru;obtain⟨b0,rv,pl,hz⟩:=I1.list hq;refine call_enumerate_list pl.isList fun h' he hit hsz kp=>?_;have I2:Inv X pins σ H1 {s1 with heap:=h'}:=I1.kept (t':=s1.toks) kp;refine wpAny_pyIter_enum he ⟨s1.heap.objs.size + 1,[s1.heap.objs.size + 1,s1.heap.objs.size],_,_,H1,rfl,I2,GO a _ _ (Nat.succ_ne_self _),⟨⟨_,he⟩,hit⟩,fun b hb=>?_,q⟩;have e1:b=s1.heap.objs.size + 1∨b=s1.heap.objs.size:=by simpa using hb
 have l8:s1.heap.objs.size<=b:=by
  rcases e1 with rfl|rfl
  ·exact cM _
  ·exact aD _
 exact I1.Gs l8 (I1.cB.fresh l8)
def nA {K:Frag}{a:Addr}{xs:List V}{g:TG}{tb:TS}{D:Ends}{σ:St}{H:Hp}(Pv:Nat->St->Hp->Prop)(h0:Pv 0 σ H)(hl: ∀i σ H,i<=xs.length->Pv i σ H->bG K H a xs)
  (hs: ∀i x p σ H,xs[i]? =some x->H p=none->Pv i σ H->g (.ref p) σ (upd H p (.tup [.int i,x])) fun σ2 H2=>tb {D with nx:=Pv (i + 1),ct:=Pv (i + 1),bk:=D.nx} σ2 H2) (hd: ∀σ H,Pv xs.length σ H->D.nx σ H):
  ∃W:Nat->Nat->St->Hp->Prop,(∃m,W 0 m σ H)/\ ∀i m σ H,W i m σ H->
   ((SY K a).stop i H/\D.nx σ H)∨((SY K a).go i H/\ ∃N:St->Hp->Prop,(∀σ' H',N σ' H'-> ∃m',m' < m/\W (i + 1) m' σ' H')/\ ∀x H',(SY K a).Rm i H x H'->g x σ H' fun σ2 H2=>tb {D with nx:=N,ct:=N,bk:=D.nx} σ2 H2):=by
 refine⟨fun i m σ H=>m=xs.length - i/\i<=xs.length/\Pv i σ H,⟨xs.length,by simp,Nat.zero_le _,h0⟩,?_⟩;rintro i m σ H ⟨rfl,hi,p⟩;have q:=hl i σ H hi p;by_cases iD:i < xs.length
 ·refine .inr ⟨⟨xs,xs[i],q,by simp[iD]⟩,Pv (i + 1),fun σ' H' p'=>⟨xs.length - (i + 1),by lia,rfl,iD,p'⟩,fun x H' y=>?_⟩;obtain⟨pp,y,h1,e1,e2,h2⟩:=y;subst e1 e2;exact hs i y pp σ _ (h2 xs q) h1 p
 ·have e:i=xs.length:=by lia
  subst e;exact .inl ⟨⟨xs,q,aD _⟩,hd σ H p⟩
structure fu (P:Program)(w:World)(K:Frag)(mg:Str->Option Value)(base:Heap)(x:Str)(k:Nat)(ps:List Str)(sp:Sp):Prop where
 ex: ∃(f:Addr) (fd:FuncData),l7 P w K mg base sD k f fd ps sp/\mg x=some (.ref f)/\keepIn K (.ref f)=true/\Binds K fd ps []
section
variable {X:Cx}{x:Str}{k:Nat}{ps:List Str}{sp:Sp}{e:Expr}{es:List Expr}{t:TA}{p pos:Pos}
def S5 (C:fu X.prog X.w X.K X.mg X.base x k ps sp)(hr:fh k X.A)(hg:Gl X x)(ha:PA X (e :: es) t)(qR:(x == ("__debug__":Str))=false:=by decide)
  (he:starEach (e :: es) X.env=(false,eval e X.env) :: starEach es X.env:=by rfl) (iS:(backTo pos (starEach es X.env)).any (·.1)=false:=by rfl):PE X (.Call (.Name x p) (e :: es) [] pos) (uT sp [] E0 t):=by
 obtain⟨f,fd,F,hm,hk,hb⟩:=C.ex;exact E1 F hr hg hm hk hb .nil nz ha qR he iS
def Jn (C:fu X.prog X.w X.K X.mg X.base x k ps sp)(hr:fh k X.A)(hg:Gl X x)(qR:(x == ("__debug__":Str))=false:=by decide):PE X (.Call (.Name x p) [] [] pos) (uT sp [] E0 Bp):=by
 obtain⟨f,fd,F,hm,hk,hb⟩:=C.ex;exact I9 F hr hg hm hk hb .nil nz qR
end
structure Df (K:Frag)(mg:Str->Option Value)(x:Str)(st:Stmt):Prop where
 ex: ∃(f:Addr) (fd:FuncData),gw K x x st f fd/\mg x=some (.ref f)
def Df.cal {P:Program}{w:World}{K:Frag}{mg:Str->Option Value}{base:Heap}{x:Str}{st:Stmt}{N ps:List Str}{k:Nat}{sp:Sp}(D:Df K mg x st)(S:aU N ps (aA st))
  (hb: ∀(kV doc pm:Value) (an:Option Addr) (cY ct:Value) (us:List Value),us.length=ps.length->bindArgs (fnOf x x (gJ st) (dF st) (aA st) .none kV doc pm an cY ct) ⟨us,[]⟩=pure (ps.zip us))
  (len: ∀vs H Q E,sp vs H Q E->vs.length=ps.length)
  (f7: ∀(f:Addr) (cY:Value) (A:Around) (outer:List Env) (s:Shared) (H:Hp) (vs:List V) (Q:VK) (E:XK),fh k (A.deeper (envOfC x (aA st) s.heap.objs.size f cY))->sp vs H Q E->
   ∃t,pj (k7 sD P w K mg base N x (aA st) f cY A outer s H E).DE (dF st) t/\t {nx:=fun _ H'=>Q .eA H',rt:=Q} (start N vs) H):fu P w K mg base x (k + 1) ps sp:=by
 obtain⟨f,fd,F,hm⟩:=D.ex;exact⟨f,fd,F.ok S len (f7 f),hm,F.kp,F.binds hb⟩
def zj {X:Cx}{scope:Scope}(yc: ∀y∈scope.names,y.2≠ .free:=by decide +kernel)(mI: ∀y∈scope.names,y.2≠ .cell:=by decide +kernel)(nu:scope.kind= .function:=by rfl)(vd: ∀x∈scope.names,x.2= .local->scope.names.lookup x.1=some .local:=by decide +kernel):sE X scope [] [] []:=by
 have e:(relabel scope X.env).names=scope.names:=map_eq_self (l:=scope.names) (fun x hx=>by
  obtain⟨n,k⟩:=x;have:(k == NameKind.free)=false:=by simpa using yc _ hx
  simp[this])
 refine⟨closureFor_none yc,mI,nu,vd,fun x c h=>by simp at h,fun x h=>?_,.nil⟩;rw[e] at h;rcases h with h|h
 ·exact absurd rfl (mI _ (cg h))
 ·exact absurd rfl (yc _ (cg h))
def iG {X:Cx}{scope:Scope}{x:Str}{c:Addr}{j:Nat}(GL:closureFor scope X.env=pure [(x,c)]:=by rfl)(mI: ∀y∈scope.names,y.2≠ .cell:=by decide +kernel)(nu:scope.kind= .function:=by rfl)(vd: ∀x∈scope.names,x.2= .local->scope.names.lookup x.1=some .local:=by decide +kernel)
  (hx:X.env.cells.lookup x=some c:=by rfl) (zk:List (Str×NameKind)) (S6:(relabel scope X.env).names=zk:=by rfl) (Dk: ∀y∈zk,(y.2= .cell∨y.2= .free)->y.1=x:=by decide +kernel) (hN:X.N[j]? =some x:=by rfl) (hk:X.env.kindOf x=some .cell∨X.env.kindOf x=some .free:=by exact Or.inl rfl)
  (NO:(relabel scope X.env).names.lookup x=some .cell∨(relabel scope X.env).names.lookup x=some .free:=by exact Or.inl rfl):sE X scope [(x,c)] [x] [j]:=by
 refine⟨GL,mI,nu,vd,fun y c' h=>?_,fun y h=>?_,.cons ⟨hN,hk,NO⟩ .nil⟩
 ·have h':=cg h;have e:(y,c')=(x,c):=by simpa using h'
  cases e;exact hx
 ·have e:y=x:=by
   rcases h with h|h
   ·rw[S6] at h;exact Dk _ (cg h) (.inl rfl)
   ·rw[S6] at h;exact Dk _ (cg h) (.inr rfl)
  subst e;exact⟨c,by simp[List.lookup_cons]⟩
section
variable {X:Cx}
def S7 (i j:Int):Prop:=Builtin.Int.intBits i<=2 ^ 20/\Builtin.Int.intBits j<=2 ^ 20
def Me:oX X (binaryOp .Mult) (rI S7 fun i j=> .int (i * j)):=Sr fun _ _ _ _ _ _ _ hc q=>mul_int q (.of_bits hc.1 hc.2)
end
section
variable {prog:Program}{w:World}{A:Around}{E:Value->Shared->Prop}{s:Shared}
end
section
variable {X:Cx}
def DU:ip X (.builtin "isinstance") (fun xs H Q=> ∃x c t b,xs=[x,.ty c]/\mQ X.K H x t/\PySem.W.kitOne X.K t (.type c)=some b/\Q (.bl b) H):=by
 intro pins s σ H xs us Q I r h;obtain⟨x,c,t,b,rfl,ty,e,q⟩:=h;obtain⟨u,u2,rfl,r1,r2⟩:=vals2 r;obtain rfl:u2=Value.type c:=r2;exact Gz I r1 ty e fun tk=>⟨.bl b,H,I.tok _,rfl,q⟩
def E9: ∀{cs:List String} {us:List Value},Vals (cs.map V.ty) us->us=cs.map Value.type
 |[],_,r=>by rw[qC] at r; cases r; rfl
 |c :: cs,_,r=>by
  rw[cL] at r;cases r with
  |cons r1 r2=>
   have e1:_ =Value.type c:=r1;rw[e1,E9 r2,cL]
def DV {pins:List (Addr×Obj)}{σ:St}{H:Hp}{s:Shared}{A:Around}{E:Value->Shared->Prop}{Q:Value->Shared->Prop}{x:V}{u t:Value}{tp:Addr}{cs:List String}{b:Bool}(I:Inv X pins σ H s)(rx:RelV x u)(ty:mQ X.K H x t)
  (hp:H tp=some (.tup (cs.map V.ty))) (e:PySem.W.kitAny X.K t (cs.map Value.type)=some b) (h: ∀tk,Q (.bool b) {s with toks:=tk}):
  wpAny (model X.prog X.w) A (call (.builtin "isinstance") [u,.ref tp]) Q E s:=by
 obtain⟨_,b0,rv,⟨cl,dd,dt,sl⟩,hg,hc,n,hd⟩:=(show dE X.prog X.w H s.heap tp (.tup (cs.map V.ty)) from I.cB tp _ hp);have ei:=E9 rv;subst ei;simp only at hc hd;subst hc hd;cases ty with
 |eA=>cases(show u=Value.none from rx); exact ej PySem.W.kitx_none I.gW True.intro hg e (fun z=>nomatch z) h
 |bl y=>cases(show u=Value.bool y from rx); exact ej PySem.W.kitx_bool I.gW True.intro hg e (fun z=>nomatch z) h
 |int i=>obtain⟨t,q⟩:=(show ∃t,u=Value.int i t from rx); cases q; exact ej PySem.W.kitx_int I.gW True.intro hg e (fun z=>nomatch z) h
 |str y=>obtain⟨t,q⟩:=(show ∃t,u=Value.str y t from rx); cases q; exact ej PySem.W.kitx_str I.gW True.intro hg e (fun z=>nomatch z) h
 |LG y=>obtain⟨t,q⟩:=(show ∃t,u=Value.float y t from rx); cases q; exact ej PySem.W.kitx_float I.gW True.intro hg e (fun z=>nomatch z) h
 | @lst a xs ea=>
  cases(show u=Value.ref a from rx);obtain⟨_,_,n,_,h1⟩:=(show dE X.prog X.w H s.heap a (.lst xs) from I.cB a _ ea);exact ej sf I.gW ⟨_,h1,rfl⟩ hg e (fun z=>nomatch z) h
 | @Dj a ob xs ea=>
  cases(show u=Value.ref a from rx);obtain⟨_,_,_,n,_,h1⟩:=(show dE X.prog X.w H s.heap a (.Dj ob (.lst xs)) from I.cB a _ ea);exact ej sf I.gW ⟨_,h1,rfl⟩ hg e (fun z=>nomatch z) h
 | @tup a xs ea=>
  cases(show u=Value.ref a from rx);obtain⟨_,_,_,p⟩:=(show dE X.prog X.w H s.heap a (.tup xs) from I.cB a _ ea);obtain⟨o,h1,h2,_⟩:=p;exact ej PySem.W.kitx_tuple I.gW ⟨o,h1,h2⟩ hg e (fun z=>nomatch z) h
 | @dK a bh ea=>
  cases(show u=Value.ref a from rx);obtain⟨_,_,vs,_,p⟩:=(show dE X.prog X.w H s.heap a (.dK bh) from I.cB a _ ea);obtain⟨o,es,ep,h1,h2,_⟩:=p;exact ej sh I.gW ⟨o,h1,h2.1⟩ hg e (fun z=>nomatch z) h
 | @dT a bh ea=>
  cases(show u=Value.ref a from rx);obtain⟨_,_,xs,_,o,es,ep,h1,h2,_⟩:=(show dE X.prog X.w H s.heap a (.dT bh) from I.cB a _ ea);exact ej sh I.gW ⟨o,h1,h2.1⟩ hg e (fun z=>nomatch z) h
 | @ins a C dx fs ea cl ha hn pZ hm=>
  cases(show u=Value.ref a from rx);obtain⟨mA,O,_⟩:=qP I.cB ea;obtain⟨od,J,_⟩:=O.look;exact ej (PySem.W.kitx_own (cl.get _) cl.hd ha hn pZ hm) I.gW J hg e (fun z=>nomatch z) h
def DW:ip X (.builtin "isinstance") (fun xs H Q=> ∃(x:V) (tp:Addr) (cs:List String) (t:Value) (b:Bool),xs=[x,.ref tp]/\H tp=some (.tup (cs.map V.ty))/\mQ X.K H x t/\PySem.W.kitAny X.K t (cs.map Value.type)=some b/\Q (.bl b) H):=by
 intro pins s σ H xs us Q I r h;obtain⟨x,tp,cs,t,b,rfl,hp,ty,e,q⟩:=h;obtain⟨u,u2,rfl,r1,r2⟩:=vals2 r;obtain rfl:u2=Value.ref tp:=r2;exact DV I r1 ty hp e fun tk=>⟨.bl b,H,I.tok _,rfl,q⟩
def Pf (K:Frag):R2:=fun x y H Q=> ∃a b xs,x= .ref a/\y= .ref b/\bG K H a xs/\bG K H b []/\Q (.bl (!xs.isEmpty)) H
def Jo {n:Nat}(hu:X.A.units + n < cLine):oX X (compareOp .NotEq) (Pf X.K):=by
 intro pins s σ H x y v u Q I rx ry h;obtain⟨a,b,xs,rfl,rfl,ha,hb,q⟩:=h;cases rx;cases ry;obtain⟨b0,r1,p1,_⟩:=I.list ha;obtain⟨GC,r2,p2,_⟩:=I.list hb;have e2:GC=[]:=r2.zero;subst e2;cases xs with
 |nil=>
  have e1:b0=[]:=r1.zero;subst e1;exact SeqAt.RcNeAt.lists (e:=fun _=>true) p1.isList p2.isList rfl (by lia) (fun j h1 _=>absurd h1 (by simp)) X.prog X.w X.xe _ ⟨.bl false,H,I,rfl,q⟩
 |cons z zs=>
  have l1:=r1.length;exact SeqAt.RcNeAt.lists_lengths p1.isList p2.isList (by simp only[List.size_toArray,← l1]; simp) (by lia) X.prog X.w X.xe _ ⟨.bl true,H,I,rfl,q⟩
def XS (K:Frag):R2:=fun x y H Q=> ∃p xs i v,x= .ref p/\y= .int i/\(bG K H p xs∨cE K H p xs)/\uv xs i=some v/\Q v H
def NQ:Jc X (XS X.K):=by
 intro value slice pins s σ H x y v u Q I rx ry h hs;obtain⟨p,xs,i,z,e1,e2,hq|hq,he,q⟩:=h
 ·exact y6 value slice pins s σ H x y v u Q I rx ry ⟨p,xs,i,z,e1,e2,hq,he,q⟩ hs
 ·exact DM value slice pins s σ H x y v u Q I rx ry ⟨p,xs,i,z,e1,e2,hq,he,q⟩ hs
end
def aF.new {H:Hp}{p:Addr}{o:HO}(h:H p=none):aF H (upd H p o):=fun b u e=>by rw[az (aJ e h)]; exact e
def XT (t u:TS):TS:=fun D σ H=> ∃M:St->Hp->Prop,t {D with nx:=M} σ H/\ ∀σ' H',M σ' H'->u D σ' H'
def jH {X:Cx}{st:Stmt}{rest:List Stmt}{t u:TS}(h1:PS X st t)(h2:pj X rest u):pj X (st :: rest) (XT t u):=by
 intro pins s σ H D I ⟨M,h,hM⟩;refine wpAny_execs_cons (dY (h1 pins s σ H {D with nx:=M} I h) fun f s1 q=>?_);cases f with
 |next=>
  obtain⟨σ',H',I',q⟩:=q;exact h2 pins s1 σ' H' D I' (hM _ _ q)
 |ret v=>exact q
 |brk=>exact q
 |cont=>exact q
section
variable {X:Cx}{K:Frag}
def lG (h:X.K=K):Jc X (OX K):=by subst h; exact y6
def ux (h:X.K=K):Jc X (OY K):=by subst h; exact DM
end
inductive Dt where
 |eA|bl (b:Bool)|int (i:Int)|str (x:Str)|tup (ds:List Dt)|lst (ds:List Dt)
mutual
def Rp (H:Hp):Dt->V->Prop
 | .eA,v=>v= .eA
 | .bl b,v=>v= .bl b
 | .int i,v=>v= .int i
 | .str x,v=>v= .str x
 | .tup ds,v=> ∃a xs,v= .ref a/\H a=some (.tup xs)/\gY H ds xs
 | .lst ds,v=> ∃a xs,v= .ref a/\H a=some (.lst xs)/\gY H ds xs
def gY (H:Hp):List Dt->List V->Prop
 |[],vs=>vs=[]
 |d :: ds,vs=> ∃v r,vs=v :: r/\Rp H d v/\gY H ds r
end
mutual
def Dt.size:Dt->Nat
 | .tup ds=>1 + Dt.fC ds
 | .lst ds=>1 + Dt.fC ds
 | .eA=>1
 | .bl _=>1
 | .int _=>1
 | .str _=>1
def Dt.fC:List Dt->Nat
 |[]=>0
 |d :: ds=>d.size + Dt.fC ds
end
def Dt.size_pos (d:Dt):1<=d.size:=by cases d <;> simp[Dt.size]
def Dt.iH (a b:List Dt):Dt.fC (a ++ b)=Dt.fC a + Dt.fC b:=by
 induction a with
 |nil=>simp[Dt.fC]
 |cons d ds ih=>simp[Dt.fC,ih]; lia
def Dt.qV (a:List Dt):a.length<=Dt.fC a:=by
 induction a with
 |nil=>simp[Dt.fC]
 |cons d ds ih=>
  have:=d.size_pos;simp[Dt.fC]; lia
def ve {H:Hp}{v:V}:Rp H .eA v↔v= .eA:=by unfold Rp; exact Iff.rfl
def qW {H:Hp}{v:V}{b:Bool}:Rp H (.bl b) v↔v= .bl b:=by unfold Rp; exact Iff.rfl
def dA {H:Hp}{v:V}{i:Int}:Rp H (.int i) v↔v= .int i:=by unfold Rp; exact Iff.rfl
def fj {H:Hp}{v:V}{x:Str}:Rp H (.str x) v↔v= .str x:=by unfold Rp; exact Iff.rfl
def jW {H:Hp}{v:V}{ds:List Dt}:Rp H (.tup ds) v↔ ∃a xs,v= .ref a/\H a=some (.tup xs)/\gY H ds xs:=by unfold Rp; exact Iff.rfl
def jX {H:Hp}{v:V}{ds:List Dt}:Rp H (.lst ds) v↔ ∃a xs,v= .ref a/\H a=some (.lst xs)/\gY H ds xs:=by unfold Rp; exact Iff.rfl
def cq {H:Hp}{vs:List V}:gY H [] vs↔vs=[]:=by unfold gY; exact Iff.rfl
def br {H:Hp}{d:Dt}{ds:List Dt}{vs:List V}:gY H (d :: ds) vs↔ ∃v r,vs=v :: r/\Rp H d v/\gY H ds r:=by
 conv=>lhs; unfold gY
mutual
def Rp.mono {H H':Hp}(s:aF H H'): ∀(d:Dt) {v:V},Rp H d v->Rp H' d v
 | .eA,_,h=>ve.mpr (ve.mp h)
 | .bl _,_,h=>qW.mpr (qW.mp h)
 | .int _,_,h=>dA.mpr (dA.mp h)
 | .str _,_,h=>fj.mpr (fj.mp h)
 | .tup ds,_,h=>by
  obtain⟨a,xs,e,h1,h2⟩:=jW.mp h;exact jW.mpr ⟨a,xs,e,s _ _ h1,gY.mono s ds h2⟩
 | .lst ds,_,h=>by
  obtain⟨a,xs,e,h1,h2⟩:=jX.mp h;exact jX.mpr ⟨a,xs,e,s _ _ h1,gY.mono s ds h2⟩
def gY.mono {H H':Hp}(s:aF H H'): ∀(ds:List Dt) {vs:List V},gY H ds vs->gY H' ds vs
 |[],_,h=>cq.mpr (cq.mp h)
 |d :: ds,_,h=>by
  obtain⟨v,r,e,h1,h2⟩:=br.mp h;exact br.mpr ⟨v,r,e,Rp.mono s d h1,gY.mono s ds h2⟩
end
def gY.length {H:Hp}: ∀{ds:List Dt} {vs:List V},gY H ds vs->ds.length=vs.length
 |[],_,h=>by rw[cq.mp h]; rfl
 |d :: ds,_,h=>by
  obtain⟨v,r,e,_,h2⟩:=br.mp h;rw[e,bO,bO,gY.length h2]
def gY.get {H:Hp}: ∀{ds:List Dt} {vs:List V} {i:Nat} {d:Dt},gY H ds vs->ds[i]? =some d-> ∃v,vs[i]? =some v/\Rp H d v
 |[],_,_,_,_,e=>by simp at e
 |d :: ds,_,0,_,h,e=>by
  obtain⟨v,r,rfl,h1,_⟩:=br.mp h;simp at e; subst e;exact⟨v,rfl,h1⟩
 |d :: ds,_,i + 1,_,h,e=>by
  obtain⟨v,r,rfl,_,h2⟩:=br.mp h;obtain⟨u,h3,h4⟩:=gY.get (i:=i) h2 (by simpa using e);exact⟨u,by simpa using h3,h4⟩
def gY.append {H:Hp}: ∀{ds es:List Dt} {vs us:List V},gY H ds vs->gY H es us->gY H (ds ++ es) (vs ++ us)
 |[],_,_,_,h,h'=>by rw[cq.mp h]; exact h'
 |d :: ds,_,_,_,h,h'=>by
  obtain⟨v,r,rfl,h1,h2⟩:=br.mp h;exact br.mpr ⟨v,r ++ _,rfl,h1,gY.append h2 h'⟩
def gY.one {H:Hp}{d:Dt}{v:V}(h:Rp H d v):gY H [d] [v]:=br.mpr ⟨v,[],rfl,h,cq.mpr rfl⟩
def gY.ints {H:Hp}: ∀(ns:List Int),gY H (ns.map Dt.int) (ns.map V.int)
 |[]=>cq.mpr rfl
 |n :: ns=>br.mpr ⟨_,_,rfl,dA.mpr rfl,gY.ints ns⟩
def fb {H:Hp}{a:Addr}{xs:List V}{ds:List Dt}(h:H a=some (.lst xs))(r:gY H ds xs):Rp H (.lst ds) (.ref a):=jX.mpr ⟨a,xs,rfl,h,r⟩
def eL {H:Hp}{a:Addr}{xs:List V}{ds:List Dt}(h:H a=some (.tup xs))(r:gY H ds xs):Rp H (.tup ds) (.ref a):=jW.mpr ⟨a,xs,rfl,h,r⟩
def Pg:Dt->String
 | .eA=>"NoneType"| .bl _=>"bool"| .int _=>"int"| .str _=>"str"| .tup _=>"tuple"| .lst _=>"list"
def Rp.ty {K:Frag}{H:Hp}{d:Dt}{v:V}(h:Rp H d v):mQ K H v (.type (Pg d)):=by
 cases d with
 |eA=>rw[ve.mp h]; exact .eA
 |bl b=>rw[qW.mp h]; exact .bl b
 |int i=>rw[dA.mp h]; exact .int i
 |str x=>rw[fj.mp h]; exact .str x
 |tup ds=>obtain⟨a,xs,e,h1,_⟩:=jW.mp h; rw[e]; exact .tup h1
 |lst ds=>obtain⟨a,xs,e,h1,_⟩:=jX.mp h; rw[e]; exact .lst h1
def XU:Dt->Bool| .lst _=>true|_=>false
def XW:Dt->Bool| .tup _=>true|_=>false
def isLT:Dt->Bool| .lst _=>true| .tup _=>true|_=>false
def V9:Dt->Bool| .str _=>true|_=>false
def isB:Dt->Bool| .bl _=>true|_=>false
def isI:Dt->Bool| .int _=>true| .bl _=>true|_=>false
def isW:Dt->Bool| .int _=>true|_=>false
def Fb {K:Frag}(d:Dt):PySem.W.kitOne K (.type (Pg d)) (.type "list")=some (XU d):=by cases d <;> (first|rfl|decide +kernel)
def Jp {K:Frag}(d:Dt):PySem.W.kitOne K (.type (Pg d)) (.type "tuple")=some (XW d):=by cases d <;> (first|rfl|decide +kernel)
def yt {K:Frag}(d:Dt):PySem.W.kitOne K (.type (Pg d)) (.type "str")=some (V9 d):=by cases d <;> (first|rfl|decide +kernel)
def NR {K:Frag}(d:Dt):PySem.W.kitOne K (.type (Pg d)) (.type "bool")=some (isB d):=by cases d <;> (first|rfl|decide +kernel)
def S8 {K:Frag}(d:Dt):PySem.W.kitOne K (.type (Pg d)) (.type "int")=some (isI d):=by cases d <;> (first|rfl|decide +kernel)
def Ph {K:Frag}(d:Dt):PySem.W.kitAny K (.type (Pg d)) [.type "list",.type "tuple"]=some (isLT d):=by
 unfold PySem.W.kitAny;rw[Fb];cases d <;> (first|rfl|(show PySem.W.kitAny K _ [.type "tuple"]=_; unfold PySem.W.kitAny; rw[Jp]; rfl))
def tG {α β:Type}{F:α->β->Prop}: ∀{l₁:List α} {l₂:List β} {y:β},Paired F l₁ l₂->l₂[l₂.length - 1]? =some y-> ∃l d,l₁=l ++ [d]/\F d y/\Paired F l l₂.dropLast
 |_,_,_,.nil,e=>by simp at e
 |a :: l₁,b :: l₂,y,.cons r t,e=>by
  cases t with
  |nil=>
   simp at e; subst e;exact⟨[],a,rfl,r,.nil⟩
  |cons r' t'=>
   rename_i a' b' m₁ m₂;have e':(b' :: m₂)[(b' :: m₂).length - 1]? =some y:=by
    have h1:(b :: b' :: m₂).length - 1=((b' :: m₂).length - 1) + 1:=by simp
    rw[h1] at e;simpa using e
   obtain⟨l,d,e1,h1,h2⟩:=tG (.cons r' t') e';refine⟨a :: l,d,by rw[e1]; rfl,h1,?_⟩;rw[List.dropLast_cons_of_ne_nil (by simp)];exact .cons r h2
def l9 (H H':Hp)(d:Dt)(v:V):Prop:= ∃t u1 u2,v= .ref t/\H' t=some (.tup [u1,u2])/\Rp H d u1/\Rp H d u2
def l9.mono {H H' H2:Hp}{d:Dt}{v:V}(h:l9 H H' d v)(k: ∀b xs,H' b=some (.tup xs)->H2 b=some (.tup xs)):l9 H H2 d v:=by
 obtain⟨t,u1,u2,e,h1,h2⟩:=h;exact⟨t,u1,u2,e,k _ _ h1,h2⟩
def Jq {H:Hp}{p:Addr}{o:HO}(h:H p=none): ∀b xs,H b=some (.tup xs)->upd H p o b=some (.tup xs):=fun b xs e=>aF.new h b _ e
def dQ {H:Hp}{p:Addr}{o:HO}{ys:List V}(h:H p=some (.lst ys)): ∀b xs,H b=some (.tup xs)->upd H p o b=some (.tup xs):=fun b xs e=>by
 rw[az (mH e h (by intro z; cases z))]; exact e
def aF.dk {H0 H:Hp}{p:Addr}{o:HO}(s:aF H0 H)(h:H0 p=none):aF H0 (upd H p o):=fun b u e=>by
 rw[az (aJ e h)]; exact s b u e
def kids:Dt->List Dt
 | .tup ds=>ds
 | .lst ds=>ds
 |_=>[]
def Fc {H:Hp}{d:Dt}{v:V}(h:Rp H d v)(hd:isLT d=true): ∃a xs,v= .ref a/\(∀(K:Frag) (H':Hp),aF H H'->bG K H' a xs∨cE K H' a xs)/\gY H (kids d) xs:=by
 cases d with
 |tup ds=>
  obtain⟨a,xs,e,h1,h2⟩:=jW.mp h;exact⟨a,xs,e,fun K H' s=> .inr (cE.of (s _ _ h1)),h2⟩
 |lst ds=>
  obtain⟨a,xs,e,h1,h2⟩:=jX.mp h;exact⟨a,xs,e,fun K H' s=> .inl (bG.of (s _ _ h1)),h2⟩
 |_=>cases hd
def GQ {d:Dt}(hd:isLT d=true):d.size=1 + Dt.fC (kids d):=by
 cases d with
 |tup ds=>simp[Dt.size,kids]
 |lst ds=>simp[Dt.size,kids]
 |_=>cases hd
mutual
def Dt.plain:Dt->Bool
 | .int _=>true
 | .str _=>true
 | .tup ds=>Dt.nE ds
 | .lst ds=>Dt.nE ds
 | .eA=>false
 | .bl _=>false
def Dt.nE:List Dt->Bool
 |[]=>true
 |d :: ds=>d.plain && Dt.nE ds
end
def Dt.qf {ds:List Dt}:Dt.nE ds=true↔ ∀d∈ds,d.plain=true:=by
 induction ds with
 |nil=>simp[Dt.nE]
 |cons d ds ih=>simp[Dt.nE,ih]
def DX {d:Dt}(h:d.plain=true): ∀c∈kids d,c.plain=true:=by
 cases d with
 |tup ds=>exact Dt.qf.mp (by simpa[Dt.plain,kids] using h)
 |lst ds=>exact Dt.qf.mp (by simpa[Dt.plain,kids] using h)
 |_=>intro c hc; cases hc
def uf {ds:List Dt}{i:Nat}{d:Dt}(h:ds[i]? =some d):ds.take (i + 1)=ds.take i ++ [d]:=by rw[Gg,h]; rfl
def w9 (ds:List Dt)(i:Nat):Dt.fC (ds.take i)<=Dt.fC ds:=by
 have:=Dt.iH (ds.take i) (ds.drop i);rw[List.take_append_drop] at this;lia
def jc {n:Nat}(h:n<=1000000):n < sizeLine:=qD h (by rw[eP]; decide)
open PySem.W
def jY {α:Type}(key:Nat->Int)(n:Nat)(Po:α->Prop):KasT α->Prop
 | .ret a=>Po a
 | .ask i j k=>i < n/\j < n/\jY key n Po (k (decide (key i < key j)))
def hX {α:Type}{key:Nat->Int}{n:Nat}{Po Po':α->Prop}(h: ∀a,Po a->Po' a): ∀(t:KasT α),jY key n Po t->jY key n Po' t
 | .ret a,q=>h a q
 | .ask i j k,q=>⟨q.1,q.2.1,hX h _ q.2.2⟩
def i6 {α β:Type}{key:Nat->Int}{n:Nat}{Po:β->Prop}{f:α->KasT β}: ∀(t:KasT α),jY key n (fun a=>jY key n Po (f a)) t->jY key n Po (t.bind f)
 | .ret a,q=>q
 | .ask i j k,q=>⟨q.1,q.2.1,i6 _ q.2.2⟩
def vf {α:Type}{key:Nat->Int}{n:Nat}{Po:α->Prop}{cmp:Nat->Nat->(Bool->Shared->Prop)->Shared->Prop}{s:Shared}{Q:α->Shared->Prop}
  (hc: ∀i j (C:Bool->Shared->Prop),i < n->j < n->C (decide (key i < key j)) s->cmp i j C s) (hq: ∀a,Po a->Q a s): ∀(t:KasT α),jY key n Po t->t.kasWp cmp Q s
 | .ret a,q=>hq a q
 | .ask i j k,q=>hc i j _ q.1 q.2.1 (vf hc hq _ q.2.2)
def kf (key:Nat->Int)(p:Array Nat)(i:Nat):Int:=key (p.getD i 0)
def qX (n:Nat)(p:Array Nat):Prop:=p.Perm (List.toArray (List.range n))
def qX.size {n:Nat}{p:Array Nat}(h:qX n p):p.size=n:=by
 have:=Array.Perm.size_eq h;simpa using this
def qX.lt {n:Nat}{p:Array Nat}(h:qX n p)(h0:0 < n)(i:Nat):p.getD i 0 < n:=by
 by_cases hi:i < p.size
 ·have e:p.getD i 0=p[i]:=by simp[Array.getD,hi]
  rw[e];have hm:p[i]∈p:=Array.getElem_mem hi;have:=(Array.Perm.mem_iff h).mp hm;simpa using this
 ·have e:p.getD i 0=0:=by simp[Array.getD,hi]
  rw[e]; exact h0
def qY {p q:Array Nat}{i j:Nat}(h:p[i]? =q[j]?):p.getD i 0=q.getD j 0:=by
 rw[Lz,Lz,h]
def qg {key:Nat->Int}{p:Array Nat}{i j:Nat}(hj:j<=p.size)(a:Nat):kf key (kas_rev p i j) a=if i<=a/\a < j then kf key p (i + j - 1 - a) else kf key p a:=by
 have:=getElem?_mirror_all (xs:=p) (i:=i) hj a;by_cases h:i<=a/\a < j
 ·rw[aY h] at this ⊢;exact cU key (qY this)
 ·rw[aN h] at this ⊢;exact cU key (qY this)
def qX.rev {n:Nat}{p:Array Nat}(h:qX n p)(i j:Nat):qX n (kas_rev p i j):=(mirror_perm p i j _).trans h
def Jr {key:Nat->Int}{p:Array Nat}{src d:Nat}(hs:src < p.size)(hd:d<=src)(k:Nat):kf key (bubble p src d) k=if k=src - d then kf key p src else if src - d < k/\k<=src then kf key p (k - 1) else kf key p k:=by
 have:=getElem?_bubble (xs:=p) hs d hd k;by_cases h:k=src - d
 ·rw[aY h] at this ⊢;exact cU key (qY this)
 ·rw[aN h] at this ⊢;by_cases h2:src - d < k/\k<=src
  ·rw[aY h2] at this ⊢;exact cU key (qY this)
  ·rw[aN h2] at this ⊢;exact cU key (qY this)
def lH (key:Nat->Int)(p:Array Nat)(m:Nat):Prop:= ∀a b,a<=b->b < m->kf key p a<=kf key p b
def Js (key:Nat->Int)(p:Array Nat)(m:Nat):Prop:= ∀a b,a<=b->b < m->kf key p b<=kf key p a
section
variable {key:Nat->Int}{n:Nat}
def Jt {p:Array Nat}(hp:qX n p)(h0:0 < n): ∀(f m:Nat),1<=m->lH key p m->jY key n (fun r=>m<=r/\r<=m + f/\lH key p r/\(r=m + f∨kf key p r < kf key p (r - 1))) (kas_asc p f m)
 |0,m,h1,hs=>⟨aD _,aD _,hs,.inl rfl⟩
 |f + 1,m,h1,hs=>by
  unfold kas_asc;refine⟨hp.lt h0 _,hp.lt h0 _,?_⟩;by_cases c:key (p.getD m 0) < key (p.getD (m - 1) 0)
  ·rw[decide_eq_true c]; dsimp only; rw[if_pos rfl];exact⟨aD _,by lia,hs,.inr c⟩
  ·rw[decide_eq_false c]; dsimp only; rw[if_neg Bool.false_ne_true];have Md:lH key p (m + 1):=by
    intro a b Iw hb;by_cases Mf:b < m
    ·exact hs a b Iw Mf
    ·have e:b=m:=by lia
     subst e;by_cases Pj:a=b
     ·rw[Pj]; exact fS _
     ·have h2:=hs a (b - 1) (by lia) (by lia);have h3:kf key p (b - 1)<=kf key p b:=by unfold kf; lia
      lia
   refine hX (fun r ⟨q1,q2,q3,q4⟩=>⟨by lia,by lia,q3,?_⟩) _ (Jt hp h0 f (m + 1) (by lia) Md);rcases q4 with q4|q4
   ·exact .inl (by lia)
   ·exact .inr q4
def zl (h0:0 < n): ∀(f:Nat) (p:Array Nat) (m q:Nat),qX n p->m + f<=n->q + 1<=m->Js key p m->(∀a,m - (q + 1)<=a->a < m->kf key p a=kf key p (m - 1))->
  jY key n (fun r=>qX n r.1/\1<=r.2.1/\r.2.1<=n/\r.2.2 + 1<=r.2.1/\Js key r.1 r.2.1/\ ∀a,r.2.1 - (r.2.2 + 1)<=a->a < r.2.1->kf key r.1 a=kf key r.1 (r.2.1 - 1)) (kas_desc f p m q)
 |0,p,m,q,hp,hm,hq,hs,he=>⟨hp,(by show 1<=m; lia),(by show m<=n; lia),hq,hs,he⟩
 |f + 1,p,m,q,hp,hm,hq,hs,he=>by
  unfold kas_desc;have dn: ∀{r:Array Nat},(∀a,a < m->kf key r a=kf key p a)->kf key r m=kf key p m->kf key p m<=kf key p (m - 1)->Js key r (m + 1):=by
   intro r hr S9 c a b Iw hb;by_cases Mf:b < m
   ·rw[hr a (by lia),hr b Mf]; exact hs a b Iw Mf
   ·have e:b=m:=by lia
    subst e;by_cases Pj:a=b
    ·rw[Pj]; exact fS _
    ·rw[S9,hr a (by lia)];have h2:=hs a (b - 1) (by lia) (by lia);lia
  refine⟨hp.lt h0 _,hp.lt h0 _,?_⟩;by_cases c:key (p.getD m 0) < key (p.getD (m - 1) 0)
  ·rw[decide_eq_true c]; dsimp only; rw[if_pos rfl];have c':kf key p m<=kf key p (m - 1):=by unfold kf; lia
   have last: ∀{r:Array Nat} (a:Nat),m + 1 - (0 + 1)<=a->a < m + 1->kf key r a=kf key r (m + 1 - 1):=fun{r} a h1 h2=>by
    have e:a=m + 1 - 1:=by lia
    rw[e]
   by_cases hq0:q > 0
   ·rw[aY hq0];have hz:m<=p.size:=by rw[hp.size]; lia
    have hr: ∀a,a < m->kf key (kas_rev p (m - (q + 1)) m) a=kf key p a:=fun a ha=>by
     rw[qg hz];split
     ·rename_i h;rw[he a h.1 h.2,he _ (by lia) (by lia)]
     ·rfl
    have S9:kf key (kas_rev p (m - (q + 1)) m) m=kf key p m:=by rw[qg hz,aN (by lia)]
    exact zl h0 f _ (m + 1) 0 (hp.rev _ _) (by lia) (by lia) (dn hr S9 c') last
   ·rw[aN hq0];exact zl h0 f p (m + 1) 0 hp (by lia) (by lia) (dn (fun _ _=>rfl) rfl c') last
  ·rw[decide_eq_false c]; dsimp only; rw[if_neg Bool.false_ne_true];refine⟨hp.lt h0 _,hp.lt h0 _,?_⟩;by_cases d:key (p.getD (m - 1) 0) < key (p.getD m 0)
   ·rw[decide_eq_true d]; dsimp only; rw[if_pos rfl];exact⟨hp,(by show 1<=m; lia),(by show m<=n; lia),hq,hs,he⟩
   ·rw[decide_eq_false d]; dsimp only; rw[if_neg Bool.false_ne_true];have e0:kf key p m=kf key p (m - 1):=by unfold kf; lia
    refine zl h0 f p (m + 1) (q + 1) hp (by lia) (by lia) (dn (fun _ _=>rfl) rfl (by lia)) (fun a h1 h2=>?_);have e1:m + 1 - 1=m:=by lia
    rw[e1];by_cases Pj:a=m
    ·rw[Pj]
    ·rw[e0]; exact he a (by lia) (by lia)
def Fd (h0:0 < n){p:Array Nat}{m:Nat}(hp:qX n p)(h1:1<=m)(hm:m<=n)(hs:Js key p m):jY key n (fun r=>qX n r.2/\1<=r.1/\r.1<=n/\lH key r.2 r.1) (kas_tail3 m n p):=by
 unfold kas_tail3;have hz:m<=p.size:=by rw[hp.size]; lia
 have hu:lH key (kas_rev p 0 m) m:=by
  intro a b Iw hb;rw[qg hz,qg hz,aY ⟨bq _,by lia⟩,aY ⟨bq _,hb⟩];exact hs _ _ (by lia) (by lia)
 refine i6 _ (hX (fun r ⟨q1,q2,q3,_⟩=>?_) _ (Jt (hp.rev 0 m) h0 (n - m) m h1 hu));exact⟨hp.rev 0 m,by lia,by lia,q3⟩
def vg (h0:0 < n){p:Array Nat}{m:Nat}(hp:qX n p)(hm:m + 1<=n)(hs:Js key p (m + 1)):jY key n (fun r=>qX n r.2/\1<=r.1/\r.1<=n/\lH key r.2 r.1) (kas_descPart m n p):=by
 unfold kas_descPart;refine i6 _ (hX (fun r ⟨q1,q2,q3,q4,q5,q6⟩=>?_) _ (zl h0 (n - (m + 1)) p (m + 1) 0 hp (by lia) (by lia) hs fun a h1 h2=>by
  have e:a=m + 1 - 1:=by lia
  rw[e]))
 by_cases hq:r.2.2 > 0
 ·rw[aY hq];have hz:r.2.1<=r.1.size:=by rw[q1.size]; lia
  refine Fd h0 (q1.rev _ _) q2 q3 fun a b Iw hb=>?_;have hr: ∀a,a < r.2.1->kf key (kas_rev r.1 (r.2.1 - (r.2.2 + 1)) r.2.1) a=kf key r.1 a:=fun a ha=>by
   rw[qg hz];split
   ·rename_i h;rw[q6 a h.1 h.2,q6 _ (by lia) (by lia)]
   ·rfl
  rw[hr a (by lia),hr b hb];exact q5 a b Iw hb
 ·rw[aN hq];exact Fd h0 q1 q2 q3 q5
def Mg (h0:0 < n){p:Array Nat}(hp:qX n p):jY key n (fun r=>qX n r.2/\1<=r.1/\r.1<=n/\lH key r.2 r.1) (kas_count n p):=by
 unfold kas_count;have hs1:lH key p 1:=fun a b Iw hb=>by
  have e:a=b:=by lia
  rw[e]; exact fS _
 refine i6 _ (hX (fun m ⟨q1,q2,q3,q4⟩=>?_) _ (Jt hp h0 (n - 1) 1 (aD _) hs1));by_cases Ta:(m == n)=true
 ·rw[aY Ta];exact⟨hp,q1,by lia,q3⟩
 ·rw[aN Ta];have jy:m≠n:=fun z=>Ta (by simp[z]);have iD:kf key p m < kf key p (m - 1):=by
   rcases q4 with q4|q4
   ·exact absurd q4 (by lia)
   ·exact q4
  by_cases hm1:m > 1
  ·rw[aY hm1];refine⟨hp.lt h0 _,hp.lt h0 _,?_⟩;by_cases c:key (p.getD 0 0) < key (p.getD (m - 1) 0)
   ·rw[decide_eq_true c]; dsimp only; rw[if_pos rfl];exact⟨hp,q1,by lia,q3⟩
   ·rw[decide_eq_false c]; dsimp only; rw[if_neg Bool.false_ne_true];have hz:m<=p.size:=by rw[hp.size]; lia
    have heq: ∀a,a < m->kf key p a=kf key p (m - 1):=fun a ha=>by
     have h1:=q3 0 a (bq _) ha;have h2:=q3 a (m - 1) (by lia) (by lia);have h3:kf key p (m - 1)<=kf key p 0:=by unfold kf; lia
     lia
    have hr: ∀a,a < m->kf key (kas_rev p 0 m) a=kf key p (m - 1):=fun a ha=>by
     rw[qg hz,aY ⟨bq _,ha⟩];exact heq _ (by lia)
    refine vg h0 (hp.rev _ _) (by lia) fun a b Iw hb=>?_;by_cases Mf:b < m
    ·rw[hr a (by lia),hr b Mf]; exact fS _
    ·have e:b=m:=by lia
     subst e;by_cases Pj:a=b
     ·rw[Pj]; exact fS _
     ·rw[hr a (by lia),qg hz,aN (by lia)];lia
  ·rw[aN hm1];have e:m=1:=by lia
   subst e;refine vg h0 hp (by lia) fun a b Iw hb=>?_;by_cases XX:a=b
   ·rw[XX]; exact fS _
   ·have e1:a=0:=by lia
    have e2:b=1:=by lia
    subst e1 e2;have e3:(1:Nat) - 1=0:=rfl;rw[e3] at iD;lia
def zo (h0:0 < n){p:Array Nat}{k:Nat}(hp:qX n p)(hs:lH key p k): ∀(f l r:Nat),l<=r->r<=k->r - l<=f->(∀i,i < l->kf key p i<=kf key p k)->(∀i,r<=i->i < k->kf key p k < kf key p i)->
  jY key n (fun m=>m<=k/\(∀i,i < m->kf key p i<=kf key p k)/\ ∀i,m<=i->i < k->kf key p k < kf key p i) (kas_place p k f l r)
 |0,l,r,hlr,Wa,hf,h1,h2=>by
  have e:l=r:=by lia
  subst e;exact⟨Wa,h1,h2⟩
 |f + 1,l,r,hlr,Wa,hf,h1,h2=>by
  unfold kas_place;by_cases Pk:l≥r
  ·rw[aY Pk];have e:l=r:=by lia
   subst e;exact⟨Wa,h1,h2⟩
  ·rw[aN Pk];refine⟨hp.lt h0 _,hp.lt h0 _,?_⟩;by_cases c:key (p.getD k 0) < key (p.getD ((l + r) / 2) 0)
   ·rw[decide_eq_true c]; dsimp only; rw[if_pos rfl];refine zo h0 hp hs f l ((l + r) / 2) (by lia) (by lia) (by lia) h1 fun i hi XY=>?_;have:=hs ((l + r) / 2) i hi XY;have c':kf key p k < kf key p ((l + r) / 2):=c;lia
   ·rw[decide_eq_false c]; dsimp only; rw[if_neg Bool.false_ne_true];refine zo h0 hp hs f ((l + r) / 2 + 1) r (by lia) Wa (by lia) (fun i hi=>?_) h2;have:=hs i ((l + r) / 2) (by lia) (by lia);have c': ¬ kf key p k < kf key p ((l + r) / 2):=c;lia
def NS (h0:0 < n): ∀(f:Nat) (p:Array Nat) (k:Nat),qX n p->k + f=n->lH key p k->jY key n (fun r=>qX n r/\lH key r n) (kas_bin f p k)
 |0,p,k,hp,hk,hs=>⟨hp,by rw[← hk]; exact hs⟩
 |f + 1,p,k,hp,hk,hs=>by
  unfold kas_bin;refine i6 _ (hX (fun l ⟨q1,q2,q3⟩=>?_) _ (zo h0 hp hs k 0 k (bq _) (aD _) (by lia) (fun i hi=>absurd hi (en _)) fun i h1 h2=>by lia));have hz:k < p.size:=by rw[hp.size]; lia
  refine NS h0 f _ (k + 1) ((bubble_perm p k _).trans hp) (by lia) fun a b Iw hb=>?_;rw[Jr hz (by lia),Jr hz (by lia)];have el:k - (k - l)=l:=by lia
  rw[el];by_cases ha:a=l
  ·rw[aY ha];by_cases l8:b=l
   ·rw[aY l8]; exact fS _
   ·rw[aN l8,aY ⟨by lia,by lia⟩];have:=q3 (b - 1) (by lia) (by lia);lia
  ·rw[aN ha];by_cases ha2:l < a/\a<=k
   ·rw[aY ha2,aN (by lia),aY ⟨by lia,by lia⟩];exact hs _ _ (by lia) (by lia)
   ·rw[aN ha2];have Rv:a < l:=by lia
    by_cases l8:b=l
    ·rw[aY l8]; exact q2 a Rv
    ·rw[aN l8];by_cases V8:l < b/\b<=k
     ·rw[aY V8];exact hs _ _ (by lia) (by lia)
     ·rw[aN V8];exact hs _ _ Iw (by lia)
def Ju (h0:0 < n):jY key n (fun r=>qX n r/\lH key r n) (kas_sort n):=by
 unfold kas_sort;refine i6 _ (hX (fun r ⟨q1,q2,q3,q4⟩=>?_) _ (Mg h0 (LA _)));by_cases h:r.1 < n
 ·rw[aY h];have e:max r.1 1=r.1:=by lia
  rw[e];exact NS h0 _ _ _ q1 (by lia) q4
 ·rw[aN h];have e:r.1=n:=by lia
  rw[e] at q4;exact⟨q1,q4⟩
end
section
variable {prog:Program}{w:World}{A:Around}{E:Value->Shared->Prop}{s:Shared}
def zp {a:Addr}{vs:List Value}{n:Nat}{P:PySem.Fin->Shared->Prop}{key:Nat->Int}{κ:SortKind}(ho:s.heap.get? a=some (seqObj "list" vs.toArray n))(Dl:vs.length < 64)
  (hk:2<=vs.length-> ∀(s':Shared) (Q:SortKind->Shared->Prop),(∀b o,b≠a->s.heap.get? b=some o->s'.heap.get? b=some o)->Q κ s'->wpAny (model prog w) A (keyKind' vs.toArray) Q (fun _ _=>False) s')
  (hc: ∀(s':Shared) (i j:Nat) (C:Bool->Shared->Prop),(∀b o,b≠a->s.heap.get? b=some o->s'.heap.get? b=some o)->i < vs.length->j < vs.length->C (decide (key i < key j)) s'->
   wpAny (model prog w) A (keyLt' κ (vs.getD i Value.none) (vs.getD j Value.none)) C (fun _ _=>False) s')
  (h: ∀p:Array Nat,qX vs.length p->lH key p vs.length->P (.done (.ret .none)) {s with heap:=sortedHeap s.heap a vs (p.toList.map fun i=>vs.getD i Value.none).toArray}):
  wpAny (model prog w) A (Builtin.«list.sort» ⟨[.ref a],[]⟩) P E s:=by
 rw[list_sort_plain];have ha:a < s.heap.objs.size:=aM ho;have hl:sizeLine=16777216:=eP;refine aB (listItems_at ho rfl ?_);refine aB (wK ho rfl ?_ (by rw[bA]; lia) (bq _));obtain⟨e1,GR⟩: ∃e1,(s.heap.update a (Obj.mapSeq fun _=>(#[]:Array Value))).get? a=some (seqObj "list" #[] e1):=⟨_,NF ho (fun _=> #[])⟩;refine aB (seqEpoch_at GR rfl ?_);refine aB (wpAny_newTuple ?_ (by show vs.length<=_; lia));refine aB (LB ?_ (bq _));refine iB ?_;have Wb:(((s.heap.update a (Obj.mapSeq fun _=>(#[]:Array Value))).push (seqObj "tuple" vs.toArray 0)).push (seqObj "list" #[] 0)).get? a=some (seqObj "list" #[] e1):=by
  rw[m8 _ _ _ (by rw[size_push',pT]; exact a7 (iY ha)),m8 _ _ _ (by rw[pT]; exact a7 ha)];exact GR
 show wpAny (model prog w) A _ P E {s with heap:=((s.heap.update a (Obj.mapSeq fun _=>(#[]:Array Value))).push (seqObj "tuple" vs.toArray 0)).push (seqObj "list" #[] 0)};dsimp only;have keep: ∀b o,b≠a->s.heap.get? b=some o->(((s.heap.update a (Obj.mapSeq fun _=>(#[]:Array Value))).push (seqObj "tuple" vs.toArray 0)).push (seqObj "list" #[] 0)).get? b=some o:=fun b o hb e=>
  ay _ (ay _ ((mX s.heap _ (wM hb)).trans e))
 have hsz:vs.toArray.size=vs.length:=by simp
 by_cases h2:vs.toArray.size < 2
 ·rw[aY h2,aY h2];refine aB (bF ?_);rw[StateT.run_pure];refine aB (bF ?_);dsimp only;have DY:(arrOf (SortSt.mk' general' (vs.toArray.zip vs.toArray) #[] 7 none)).map (·.2)=((List.toArray (List.range vs.length)).toList.map fun i=>vs.getD i Value.none).toArray:=by
   show(vs.toArray.zip vs.toArray).map (·.2)=_;apply Array.toList_inj.mp;apply List.ext_getElem?;intro i;simp only[Array.toList_map,Array.toList_zip,List.getElem?_map,List.getElem?_zip_eq_some,List.getElem?_range];by_cases hi:i < vs.length
   ·simp[hi,List.getElem?_zip_eq_some,List.zip]
   ·simp[hi]
  refine aB (seqEpoch_at Wb rfl ?_);rw[DY];refine wpAny_bind (listUpdate_at Wb rfl ?_ (Nat.zero_le _) (by simp; lia));simp only[bne_self_eq_false,Bool.false_eq_true,if_false];refine bF (h _ (LA _) ?_);intro i j hij hj;have:i=j:=by lia
  subst this; exact fS _
 ·rw[aN h2,aN h2];have Tc:2<=vs.length:=by lia
  refine aB (ck (hk Tc _ (fun κ' s'=>κ'=κ/\s'={s with heap:=((s.heap.update a (Obj.mapSeq fun _=>(#[]:Array Value))).push (seqObj "tuple" vs.toArray 0)).push (seqObj "list" #[] 0)}) keep ⟨rfl,rfl⟩) (fun κ' s' Lh=>?_) fun _ _ x=>x.elim);obtain⟨rfl,rfl⟩:=Lh;refine aB (ck (kat_run (Q:=fun A4 s'=>s'={s with heap:=((s.heap.update a (Obj.mapSeq fun _=>(#[]:Array Value))).push (seqObj "tuple" vs.toArray 0)).push (seqObj "list" #[] 0)}/\ ∃p:Array Nat,p.size=vs.length/\arrOf A4=p.map (kas_item (vs.toArray.zip vs.toArray))/\failedOf A4=none/\qX vs.length p/\lH key p vs.length)
   (G:=fun p s'=>s'={s with heap:=((s.heap.update a (Obj.mapSeq fun _=>(#[]:Array Value))).push (seqObj "tuple" vs.toArray 0)).push (seqObj "list" #[] 0)}/\qX vs.length p/\lH key p vs.length)
   (κ:=κ') rfl Tc Dl (fun p' A4 s' a1 a2 a3 a4=>⟨a4.1,p',a1,a2,a3,a4.2⟩) (vf (fun i j C hi hj q=>hc _ i j C keep hi hj q) (fun p q=>⟨rfl,q⟩) _ (Ju (by lia)))) ?_ fun _ _ e=>e)
  rintro⟨⟨⟩,A4⟩ s' ⟨rfl,p,hp,XZ,hf,q1,q2⟩;dsimp only;have DY:=kat_snds (ks:=vs) (vs:=vs) rfl XZ;rw[DY];refine aB (seqEpoch_at Wb rfl ?_);refine aB (wK Wb rfl ?_ (bq _) (by rw[bA,ae,oU,hp]; lia));rw[hf];simp only[bne_self_eq_false,Bool.false_eq_true,if_false];exact bF (h p q1 q2)
def GS {l:Addr}{vs:List Value}{Q:Value->Shared->Prop}{key:Nat->Int}{κ:SortKind}(hl:s.heap.IsList l vs.toArray)(Dl:vs.length < 64)
  (hk:2<=vs.length-> ∀(s':Shared) (Q:SortKind->Shared->Prop),(∀b o,s.heap.get? b=some o->s'.heap.get? b=some o)->Q κ s'->wpAny (model prog w) A.in1.in1 (keyKind' vs.toArray) Q (fun _ _=>False) s')
  (hc: ∀(s':Shared) (i j:Nat) (C:Bool->Shared->Prop),(∀b o,s.heap.get? b=some o->s'.heap.get? b=some o)->i < vs.length->j < vs.length->C (decide (key i < key j)) s'->
   wpAny (model prog w) A.in1.in1 (keyLt' κ (vs.getD i Value.none) (vs.getD j Value.none)) C (fun _ _=>False) s')
  (h: ∀p:Array Nat,qX vs.length p->lH key p vs.length->Q (.ref (s.heap.objs.size + 1)) {s with heap:=sortedAll s.heap vs (p.toList.map fun i=>vs.getD i Value.none).toArray}):
  wpAny (model prog w) A (call (.builtin "sorted") [.ref l]) Q E s:=by
 have Wc:sizeLine=16777216:=eP;refine Calls.call_function_entry kind_sorted plain_sorted entry_sorted (args_sorted1 _) ?_;unfold Builtin.«sorted»;refine aB (m:=checkCount "sorted" 1 1 _) (bF ?_);refine aB (collect_list hl ?_ (by lia));refine aB (LB ?_ (by show vs.length<=_; lia));have hsz:((s.heap.push (seqObj "list" #[] 0)).update s.heap.objs.size (Obj.mapSeq (· ++ vs.toArray))).objs.size=s.heap.objs.size + 1:=by
  rw[pT,size_push']
 have OI:(((s.heap.push (seqObj "list" #[] 0)).update s.heap.objs.size (Obj.mapSeq (· ++ vs.toArray))).push (seqObj "list" vs.toArray 0)).get? (s.heap.objs.size + 1)=some (seqObj "list" vs.toArray 0):=by
  rw[← hsz]; exact bR _ rfl
 have keep: ∀b o,s.heap.get? b=some o->b≠s.heap.objs.size + 1/\(((s.heap.push (seqObj "list" #[] 0)).update s.heap.objs.size (Obj.mapSeq (· ++ vs.toArray))).push (seqObj "list" vs.toArray 0)).get? b=some o:=fun b o q=>by
  have iD:b < s.heap.objs.size:=aM q;refine⟨a7 (iY iD),?_⟩;rw[m8 _ _ _ (by rw[hsz]; exact a7 (iY iD)),IE _ _ _ _ (a7 iD),m8 _ _ _ (a7 iD)];exact q
 show wpAny _ _ _ _ _ {s with heap:=((s.heap.push (seqObj "list" #[] 0)).update s.heap.objs.size (Obj.mapSeq (· ++ vs.toArray))).push (seqObj "list" vs.toArray 0)};rw[hsz];refine aB (iB (wpAny_call_entry slot_list_sort ⟨_,OI,rfl⟩ entry_list_sort (zp (key:=key) (κ:=κ) OI Dl
  (fun h2 s' Q' kp q=>hk h2 s' Q' (fun b o e=>kp b o (keep b o e).1 (keep b o e).2) q) (fun s' i j C kp hi hj q=>hc s' i j C (fun b o e=>kp b o (keep b o e).1 (keep b o e).2) hi hj q) fun p a1 a2=>⟨_,rfl,?_⟩) (args_list_sort _)))
 exact bF ⟨_,rfl,h p a1 a2⟩
def nF {b:Bool}{Q:Bool->Shared->Prop}: ∀{ts us:List Int} {vs ws:List Value} (i:Nat),IntsAre vs ts->IntsAre ws us->Q (HT.lexLt ts us) s->
  KatLex prog w A b (decide (ts.length < us.length)) Q (vs.zip ws) i s
 |_,_,_,_,i,.nil,.nil,q=>q
 |_,_,_,_,i,.nil,.cons _ _ _,q=>by
  show Q (decide _) s;rw[decide_eq_true (by simp)]; exact q
 |_,_,_,_,i,.cons _ _ _,.nil,q=>by
  show Q (decide _) s;rw[decide_eq_false (by simp)]; exact q
 |_,_,_,_,i,.cons x t r,.cons y u r',q=>by
  refine kat_cons ?_;have he:=SeqAt.EqAt.int_int (A:=A) (s:=s) x t y u;refine he prog w _ _ ?_;rw[HT.qa] at q;by_cases e:x=y
  ·rw[aY e] at q;have eb:(x == y)=true:=by simp[e]
   rw[eb];refine kat_yes ?_;have hd: ∀(a b:Nat),decide (a + 1 < b + 1)=decide (a < b):=fun a b=>by
    rw[Bool.eq_iff_iff]; simp
   rw[bO,bO,hd];exact nF (i + 1) r r' q
  ·rw[aN e] at q;have eb:(x == y)=false:=by simpa using e
   rw[eb];refine kat_no ?_;cases hb:(b && i == 0) with
   |true=>exact oneLt_int q
   |false=>exact kat_one _ _ (PyProof.Rows.lt_int q)
end
def ir (H:Hp)(ts:List (List Int))(xs:List V):Prop:=Paired (fun(t:List Int) v=> ∃p,v= .ref p/\H p=some (.tup (t.map V.int))) ts xs
def ir.mono {H H':Hp}{ts:List (List Int)}{xs:List V}(h:ir H ts xs)(k: ∀b xs,H b=some (.tup xs)->H' b=some (.tup xs)):ir H' ts xs:=
 Paired.gX h fun _ _ ⟨p,e,q⟩=>⟨p,e,k _ _ q⟩
def ir.get {H:Hp}{ts:List (List Int)}{xs:List V}(h:ir H ts xs){i:Nat}(hi:i < ts.length): ∃p,xs.getD i .eA= .ref p/\H p=some (.tup ((ts.getD i []).map V.int)):=by
 have g:ts[i]? =some ts[i]:=af hi;obtain⟨v,hv,p,e,q⟩:=bK h g;refine⟨p,?_,?_⟩
 ·rw[ak,hv,e]; rfl
 ·rw[ak,g]; exact q
def jP {xs:List V}{us:List Value}(r:Vals xs us)(i:Nat):RelV (xs.getD i .eA) (us.getD i .none):=by
 by_cases hi:i < xs.length
 ·have g:xs[i]? =some xs[i]:=af hi;obtain⟨u,h1,h2⟩:=r.get g;rw[ak,ak,g,h1];exact h2
 ·have h1:xs[i]? =none:=l4 (by lia);rw[ak,ak,h1,r.none_of h1];rfl
def sF {xs:List V}{us:List Value}(r:Vals xs us): ∀l:List Nat,Vals (l.map fun i=>xs.getD i .eA) (l.map fun i=>us.getD i .none)
 |[]=> .nil
 |i :: l=> .cons (jP r i) (sF r l)
def yu {H:Hp}{ts:List (List Int)}{xs:List V}(h:ir H ts xs): ∀l:List Nat,(∀i∈l,i < ts.length)->ir H (l.map fun i=>ts.getD i []) (l.map fun i=>xs.getD i .eA)
 |[],_=> .nil
 |i :: l,hl=> .cons (by
   obtain⟨p,e,q⟩:=h.get (hl i aS);exact⟨p,e,q⟩) (yu h l fun j hj=>hl j (aI _ hj))
def range_getD {α:Type}(ts:List α)(d:α):(List.range ts.length).map (fun i=>ts.getD i d)=ts:=by
 apply List.ext_getElem?;intro i;rw[aC];by_cases hi:i < ts.length
 ·rw[List.getElem?_range hi,oT,ak,af hi]; rfl
 ·rw[List.getElem?_eq_none (by simpa using hi),List.getElem?_eq_none (by lia)]; rfl
def qX.list {n:Nat}{p:Array Nat}(h:qX n p):p.toList.Perm (List.range n):=by
 have:=Array.perm_iff_toList_perm.mp h;simpa using this
def tH {p:Array Nat}{n:Nat}{key:Nat->Int}(hp:p.size=n)(h:lH key p n):p.toList.Pairwise (fun i j=>key i<=key j):=by
 rw[List.pairwise_iff_getElem];intro i j hi hj hij;have zq:i < p.size:=by simpa using hi
 have Wd:j < p.size:=by simpa using hj
 have:=h i j (by lia) (by lia);unfold kf at this;have e1:p.getD i 0=p.toList[i]:=by simp[Array.getD,zq]
 have e2:p.getD j 0=p.toList[j]:=by simp[Array.getD,Wd]
 rw[e1,e2] at this;exact this
section
variable {X:Cx}
def Inv.tupI {pins:List (Addr×Obj)}{σ:St}{H:Hp}{s:Shared}(I:Inv X pins σ H s){p:Addr}{t:List Int}(h:H p=some (.tup (t.map V.int))):
  ∃(o:Obj) (b0:List Value) (n:Nat),s.heap.get? p=some o/\o.cls= .type "tuple"/\o.data= .seq b0.toArray n/\IntsAre b0 t:=by
 obtain⟨_,b0,rv,o,ho,hc,n,hd⟩:=(show dE X.prog X.w H s.heap p (.tup (t.map V.int)) from I.cB p _ h);exact⟨o,b0,n,ho,hc,hd,intsAre_of rv⟩
def sG {pins:List (Addr×Obj)}{σ:St}{H:Hp}{s:Shared}(I:Inv X pins σ H s){h':Heap}(kp: ∀b o,s.heap.get? b=some o->h'.get? b=some o): ∀{ts:List (List Int)} {xs:List V} {us:List Value},ir H ts xs->Vals xs us->(∀t∈ts,t≠[])->
  ∃fs:List Value,KatTups h' us fs/\fs.length=us.length/\ ∀v∈fs,∃n t,v= .int n t
 |[],_,us,.nil,r,_=>by
  have e:us=[]:=r.zero;subst e;exact⟨[],trivial,rfl,fun v hv=>by cases hv⟩
 |t :: ts,_,_,.cons ⟨p,e,q⟩ rest,.cons r1 r2,jy=>by
  subst e;obtain⟨fs,h1,h2,h3⟩:=sG I kp rest r2 fun t ht=>jy t (aI _ ht);obtain⟨o,b0,n,ho,hc,hd,hi⟩:=I.tupI q;have ht:t≠[]:=jy t aS;cases hi with
  |nil=>exact absurd rfl ht
  |cons z tk zq=>
   cases r1;refine⟨.int z tk :: fs,⟨⟨p,o,_,n,rfl,kp _ _ ho,hc,hd,by simp⟩,h1⟩,by rw[List.length_cons,List.length_cons,h2],fun v hv=>?_⟩;rcases au.mp hv with rfl|hv
   ·exact⟨z,tk,rfl⟩
   ·exact h3 v hv
def Pl (K:Frag):List V->Hp->VK->Prop:=fun vs H Q=> ∃a xs ts,∃key:List Int->Int,vs=[V.ref a]/\bG K H a xs/\xs.length < 64/\ir H ts xs/\(∀t∈ts,t≠[])/\(∀t∈ts,∀u∈ts,HT.lexLt t u=decide (key t < key u))/\
 ∀D ys us,H D=none->ir H us ys->us.Perm ts->us.Pairwise (fun t u=>key t<=key u)->Q (V.ref D) (upd H D (.lst ys))
def zr:ip X (.builtin "sorted") (Pl X.K):=by
 intro pins s σ H xs us Q I r h;obtain⟨a,xs,ts,key,rfl,hq,Dl,hT,jy,IU,q⟩:=h;obtain⟨u,rfl,ru⟩:=vals1 r;cases ru;obtain⟨b0,rv,pl,hz⟩:=I.list hq;have hl:=rv.length;have iD:ts.length=xs.length:=hT.length;refine GS (κ:=tuples' true) (key:=fun i=>key (ts.getD i [])) pl.isList (by lia) (fun h2 s' Q' kp q'=>?_) (fun s' i j C kp hi hj q'=>?_) fun p hp hup=>?_
 ·obtain⟨fs,f1,f2,f3⟩:=sG I kp hT rv jy;refine kat_kind (T:= .type "int") f1 (by lia) (fun v hv=>?_) rfl q';obtain⟨n,t,rfl⟩:=f3 v hv;exact Looks.of_pure rfl
 ·obtain⟨p1,e1,g1⟩:=hT.get (i:=i) (by lia);obtain⟨p2,e2,g2⟩:=hT.get (i:=j) (by lia);have w1:=jP rv i;have w2:=jP rv j;rw[e1] at w1;rw[e2] at w2;have w1':b0.getD i Value.none= .ref p1:=w1;have w2':b0.getD j Value.none= .ref p2:=w2;rw[w1',w2'];obtain⟨o1,X0,n1,GR,hc1,ma,Td⟩:=I.tupI g1;obtain⟨o2,GC,n2,Rx,Mh,hd2,Te⟩:=I.tupI g2;refine kat_lt (kp _ _ GR) ma (kp _ _ Rx) hd2 ?_;have l1:=Td.length;have l2:=Te.length;have m1:ts.getD i []∈ts:=by rw[ak,af (show i < ts.length by lia)]; exact bH _
  have m2:ts.getD j []∈ts:=by rw[ak,af (show j < ts.length by lia)]; exact bH _
  have k:=nF (prog:=X.prog) (w:=X.w) (A:=X.A.in1.in1) (b:=true) (Q:=C) (s:=s') 0 Td Te (by rw[IU _ m1 _ m2]; exact q');rw[bA,bA,l1,l2];exact k
 ·have mZ:=hp.size;have hD:H (s.heap.objs.size + 1)=none:=I.cB.fresh (cM _);obtain⟨e,he⟩:=sortedAll_at s.heap b0 (p.toList.map fun i=>b0.getD i Value.none).toArray;refine⟨.ref (s.heap.objs.size + 1),_,I.laid (t':=s.toks) (a:=s.heap.objs.size + 1) (o:= .lst (p.toList.map fun i=>xs.getD i .eA)) (fun b o q=>sortedAll_old q) (cM _) ⟨?_,_,e,sF rv p.toList,he⟩,rfl,q _ _ (p.toList.map fun i=>ts.getD i []) hD ?_ ?_ ?_⟩
  ·rw[ae,oU,mZ];exact aV (iQ hl.symm) hz
  ·refine yu hT p.toList fun i hi=>?_;have:=(hp.list.mem_iff).mp hi;rw[dJ] at this;lia
  ·have e1:=hp.list.map (fun i=>ts.getD i []);rw[← hl,← iD,range_getD] at e1;exact e1
  ·rw[sj];exact tH mZ hup
def tI (ns:List Int): ∀n,n<=ns.length->preSum (fun i=>ns.getD i 0) n=(ns.take n).sum
 |0,_=>by simp[preSum]
 |n + 1,h=>by
  rw[preSum,tI ns n (by lia),A3,LC,af (by lia),ak,af (by lia)];simp
def Tf (K:Frag):List V->Hp->VK->Prop:=fun xs H Q=> ∃(p:Addr) (ns:List Int),xs=[V.ref p]/\bG K H p (ns.map V.int)/\Q (.int ns.sum) H
def sH (hc:X.calm=true):ip X (.builtin "sum") (Tf X.K):=by
 intro pins s σ H xs us Q I r h;obtain⟨p,ns,rfl,hq,q⟩:=h;obtain⟨u,rfl,ru⟩:=vals1 r;cases ru;obtain⟨b0,rv,pl,hz⟩:=I.list hq;have hI:IntsAre b0 ns:=intsAre_of rv;have hl:=hI.length;have hh:=I.ok.hd hc;have hT:s.heap.IsList p b0.toArray:=pl.isList;have hp:p < s.heap.objs.size:=by
  obtain⟨o,ho,_⟩:=hT;exact aM ho
 have X1:p≠s.heap.objs.size:=a7 hp;refine call_sum_walkG (wpAny_pyIter_list hT ?_);refine⟨_,[_,p],[_],_,_,_,fun i=>ns.getD i 0,rfl,Walks.list (A:=X.A.in1) hh _ p X1 b0.toArray,
  ⟨⟨_,Heap.get?_push_size _ rfl,rfl,rfl⟩,hT.push _⟩,fun c hc=>?_,(fun i v hv=>IntsAre.int_at hI i v (by simpa using hv)),fun h' tk t' hk=>?_⟩
 ·show c < (s.heap.push _).objs.size;rw[oB];rcases au.mp hc with rfl|hc
  ·exact gg _
  ·rcases au.mp hc with rfl|hc
   ·exact iY hp
   ·cases hc
 ·refine⟨.int _,H,I.kept (t':=tk) (fun b o e=>hk b o (fun hm=>?_) (ay _ e)),⟨_,rfl⟩,?_⟩
  ·rw[ao] at hm;exact absurd hm (a7 (aM e))
  ·rw[bA,hl,tI ns ns.length (aD _),aZ];exact q
def yw (a:Array Nat): ∀(n:Nat) (acc:Array Nat),((List.replicate n a).foldl (· ++ ·) acc).size=acc.size + n * a.size
 |0,acc=>by simp
 |n + 1,acc=>by
  rw[dv,cz,yw a n,Array.size_append,wO];lia
def Tg:R2:=fun x y H Q=> ∃(z:Str) (n:Int),x= .str z/\y= .int n/\z.length=1/\0<=n/\n<=1000/\ ∀z':Str,z'.length<=1000->Q (.str z') H
def zt:oX X (binaryOp .Mult) Tg:=by
 intro pins s σ H x y v u Q I rx ry h;obtain⟨z,n,rfl,rfl,hz,h0,h1,q⟩:=h;obtain⟨t,rfl⟩:=rx;obtain⟨t',rfl⟩:=ry;refine P.mul_str ?_ (fun _ _=>?_) (fun _ _=>?_) ?_
 ·rw[bL (by lia),bL (by lia)]; rfl
 ·rw[hz];intro Mi;have:(2 ^ 63 - 1:Int) / n≥1:=by
   have hn:0 < n:=by
    by_cases c:0 < n
    ·exact c
    ·have e:n=0:=by lia
     subst e;simp at Mi;lia
   exact Int.le_ediv_of_mul_le hn (by lia)
  lia
 ·rw[hz];unfold Builtin.Str.tooLong;simp;rw[eP];lia
 ·by_cases c:n < 1
  ·rw[aY c];exact⟨by decide,⟨.str Str.empty,H,I.tok _,⟨_,rfl⟩,q _ (by show 0<=1000; lia)⟩⟩
  ·rw[aN c];by_cases c2:(n == 1 || z.length == 0)=true
   ·rw[aY c2];exact⟨.str z,H,I,⟨_,rfl⟩,q _ (by lia)⟩
   ·rw[aN c2];have hsz:((List.replicate n.toNat z.cps).foldl (· ++ ·) #[]).size<=1000:=by
     rw[yw];have:z.cps.size=1:=hz;rw[this];simp;lia
    refine⟨?_,⟨.str _,H,I.tok _,⟨_,rfl⟩,q _ hsz⟩⟩;show _<=_;refine aV hsz ?_;rw[eP]; lia
end
inductive bg where
 |dM (aH:Str) (day A5 dP:Int)
 |pz (aH:Str) (day dP:Int)
 |note (b day dP:Int)
 |set (c b dP:Int)
 |bU (aH:Str)
 |gK (n:Int)
 |ask (bD:Bool) (aH:Str) (day:Int)
 |hZ (aH:Str) (day:Int) (di:List Int)
structure Rw where
 aH:Str
 a:Int
 b:Int
 c:Int
 d:Int
instance:Inhabited Rw:=⟨⟨"",0,0,0,0⟩⟩
structure Bk where
 aE:List Rw
 credits:List Rw
 made:List (Nat×Nat×Int)
def Bk.new:Bk:=⟨[],[],[]⟩
def Bk.cr (S:Bk)(c:Nat):Rw:=S.credits.getD c default
def Bk.bl (S:Bk)(b:Nat):Rw:=S.aE.getD b default
def Bk.de (S:Bk)(c b:Nat):Bool:=decide ((S.cr c).aH=(S.bl b).aH) && (decide ((S.cr c).c= -1) || decide ((S.cr c).c=(b:Int)))
def Rw.less (r:Rw)(x:Int):Rw:={r with d:=r.d - x}
def Bk.put (S:Bk)(c b:Nat)(x:Int):Bk:=⟨S.aE.set b ((S.bl b).less x),S.credits.set c ((S.cr c).less x),S.made ++ [(c,b,x)]⟩
def eR (a b:Int):Int:=if b < a then b else a
def ug (x:Int×Nat):Int:=x.1 * 1000 + (x.2:Int)
def ins (x:Int×Nat):List (Int×Nat)->List (Int×Nat)
 |[]=>[x]
 |y :: l=>if ug x<=ug y then x :: y :: l else y :: ins x l
def fI:List (Int×Nat)->List (Int×Nat)
 |[]=>[]
 |x :: l=>ins x (fI l)
def BD (x y:Int×Nat)(l:List (Int×Nat)):ins x (y :: l)=if ug x<=ug y then x :: y :: l else y :: ins x l:=rfl
def vh (x:Int×Nat): ∀l,(ins x l).Perm (x :: l)
 |[]=>Oy _
 |y :: l=>by
  unfold ins;split
  ·exact Oy _
  ·exact(List.Perm.cons y (vh x l)).trans (List.Perm.swap x y l)
def dB: ∀l,(fI l).Perm l
 |[]=>Oy _
 |x :: l=>(vh x (fI l)).trans (List.Perm.cons x (dB l))
def Jv (x:Int×Nat): ∀l,l.Pairwise (fun a b=>ug a<=ug b)->(ins x l).Pairwise (fun a b=>ug a<=ug b)
 |[],_=>List.pairwise_singleton _ _
 |y :: l,h=>by
  rw[fq] at h;unfold ins;split
  ·rename_i c;rw[fq];refine⟨fun z hz=>?_,fq.mpr h⟩;rcases au.mp hz with rfl|hz
   ·exact c
   ·exact l5 c (h.1 z hz)
  ·rename_i c;rw[fq];refine⟨fun z hz=>?_,Jv x l h.2⟩;rcases au.mp ((vh x l).mem_iff.mp hz) with rfl|hz
   ·lia
   ·exact h.1 z hz
def vi: ∀l,(fI l).Pairwise (fun a b=>ug a<=ug b)
 |[]=>List.Pairwise.nil
 |x :: l=>Jv x _ (vi l)
def GU (x:Int×Nat): ∀l,(∀y∈l,ug x<=ug y)->ins x l=x :: l
 |[],_=>rfl
 |y :: l,h=>by
  unfold ins;rw[aY (h y aS)]
def vj (p:Int×Nat->Bool)(x:Int×Nat): ∀l,l.Pairwise (fun a b=>ug a<=ug b)->(ins x l).filter p=if p x then ins x (l.filter p) else l.filter p
 |[],_=>by
  unfold ins;cases h:p x <;> simp[h,ins]
 |y :: l,hs=>by
  rw[fq] at hs;rw[BD];by_cases c:ug x<=ug y
  ·rw[aY c];cases h:p x
   ·rw[List.filter_cons_of_neg (by simp[h])];simp
   ·rw[cO h];simp only[if_true];rw[GU x];intro z hz;rcases au.mp (ee.mp hz).1 with rfl|hz'
    ·exact c
    ·exact l5 c (hs.1 z hz')
  ·rw[aN c];have ih:=vj p x l hs.2;cases hy:p y
   ·rw[List.filter_cons_of_neg (by simp[hy]),ih,List.filter_cons_of_neg (by simp[hy])]
   ·rw[cO hy,ih,cO hy];cases h:p x
    ·simp
    ·simp only[if_true];rw[BD,aN c]
def md (p:Int×Nat->Bool): ∀l,fI (l.filter p)=(fI l).filter p
 |[]=>rfl
 |x :: l=>by
  show _ =(ins x (fI l)).filter p;rw[vj p x _ (vi l),← md p l];cases h:p x
  ·rw[List.filter_cons_of_neg (by simp[h])];simp
  ·rw[cO h];simp[fI]
def gx (rows:List Rw)(aH:Str)(key:Rw->Int):List (Int×Nat):=((List.range rows.length).filter fun k=>decide ((rows.getD k default).aH=aH)).map fun k=>(key (rows.getD k default),k)
def inOrder (rows:List Rw)(aH:Str)(key:Rw->Int):List Nat:=(fI (gx rows aH key)).map (·.2)
def vk (rows:List Rw)(aH:Str)(key:Rw->Int):List (Int×Nat):=
 ((List.range rows.length).filter fun k=>decide ((rows.getD k default).aH=aH) && decide (0 < (rows.getD k default).d)).map fun k=>(key (rows.getD k default),k)
def inTurn (rows:List Rw)(aH:Str)(key:Rw->Int):List Nat:=(fI (vk rows aH key)).map (·.2)
def BE (rows:List Rw)(aH:Str)(key:Rw->Int):vk rows aH key=(gx rows aH key).filter fun x=>decide (0 < (rows.getD x.2 default).d):=by
 unfold vk gx;rw[LD,qE]
 congr 1
 apply iZ;intro k _;simp[Bool.and_comm]
def tJ {α β:Type}(f:α->β)(p:β->Bool)(l:List α):(l.filter fun x=>p (f x)).map f=(l.map f).filter p:=by
 rw[LD]; rfl
def gN (rows:List Rw)(aH:Str)(key:Rw->Int):inTurn rows aH key=(inOrder rows aH key).filter fun k=>decide (0 < (rows.getD k default).d):=by
 unfold inTurn inOrder;rw[BE,md];exact tJ (fun x:Int×Nat=>x.2) (fun k=>decide (0 < (rows.getD k default).d)) _
def jj {rows:List Rw}{aH:Str}{key:Rw->Int}{k:Nat}:k∈inOrder rows aH key↔k < rows.length/\(rows.getD k default).aH=aH:=by
 unfold inOrder gx;rw[bJ];constructor
 ·rintro⟨x,hx,rfl⟩;obtain⟨j,hj,rfl⟩:=bJ.mp ((dB _).mem_iff.mp hx);simpa using hj
 ·rintro⟨h1,h2⟩;refine⟨(key (rows.getD k default),k),(dB _).mem_iff.mpr (bJ.mpr ⟨k,?_,rfl⟩),rfl⟩;exact List.mem_filter.mpr ⟨List.mem_range.mpr h1,by simpa using h2⟩
def bP {rows:List Rw}{aH:Str}{key:Rw->Int}{k:Nat}:k∈inTurn rows aH key↔k < rows.length/\(rows.getD k default).aH=aH/\0 < (rows.getD k default).d:=by
 rw[gN,ee,jj];simp[and_assoc]
def xa (rows:List Rw)(aH:Str)(key:Rw->Int):(inOrder rows aH key).Nodup:=by
 have h:((fI (gx rows aH key)).map (·.2)).Perm ((gx rows aH key).map (·.2)):=(dB _).map _;refine h.nodup_iff.mpr ?_;unfold gx;rw[ff];have e:((fun x:Int×Nat=>x.2) ∘ fun k=>(key (rows.getD k default),k))=id:=rfl;rw[e,LF];exact ur.filter _
def gO (rows:List Rw)(aH:Str)(key:Rw->Int):(inTurn rows aH key).Nodup:=by
 rw[gN];exact(xa rows aH key).filter _
def oY (r r':Rw):Prop:=r'.aH=r.aH/\r'.a=r.a/\r'.b=r.b/\r'.c=r.c
def oY.refl (r:Rw):oY r r:=⟨rfl,rfl,rfl,rfl⟩
def oY.trans {r s t:Rw}(h:oY r s)(k:oY s t):oY r t:=⟨k.1.trans h.1,k.2.1.trans h.2.1,k.2.2.1.trans h.2.2.1,k.2.2.2.trans h.2.2.2⟩
def BF {rows iI:List Rw}{aH:Str}{key:Rw->Int}(hk: ∀r r',oY r r'->key r'=key r)(hl:iI.length=rows.length)(h: ∀k,oY (rows.getD k default) (iI.getD k default)):gx iI aH key=gx rows aH key:=by
 unfold gx;rw[hl];have e:(fun k=>decide ((iI.getD k default).aH=aH))=fun k=>decide ((rows.getD k default).aH=aH):=by
  funext k
  rw[(h k).1]
 rw[e];apply fT;intro k _;rw[hk _ _ (h k)]
def zu {rows iI:List Rw}{aH:Str}{key:Rw->Int}(hk: ∀r r',oY r r'->key r'=key r)(hl:iI.length=rows.length)(h: ∀k,oY (rows.getD k default) (iI.getD k default)):inOrder iI aH key=inOrder rows aH key:=by
 unfold inOrder;rw[BF hk hl h]
def zv {rows iI:List Rw}{aH:Str}{key:Rw->Int}(hk: ∀r r',oY r r'->key r'=key r)(hl:iI.length=rows.length)(h: ∀k,oY (rows.getD k default) (iI.getD k default))(hd: ∀k,(iI.getD k default).d<=(rows.getD k default).d):
  inTurn iI aH key=(inTurn rows aH key).filter fun k=>decide (0 < (iI.getD k default).d):=by
 rw[gN,gN,zu hk hl h,qE];apply iZ;intro k _;have:=hd k;by_cases c:0 < (iI.getD k default).d
 ·have c2:0 < (rows.getD k default).d:=by lia
  rw[aK c,aK c2];rfl
 ·rw[bL c];rfl
def bu (exact:Bool)(c:Nat)(S:Bk)(b:Nat):Bk:=
 if 0 < (S.cr c).d/\S.de c b=true/\((S.cr c).d=(S.bl b).d∨exact=false) then S.put c b (eR (S.cr c).d (S.bl b).d) else S
def bC (aH:Str)(exact:Bool)(S:Bk)(c:Nat):Bk:=(inTurn S.aE aH (·.b)).foldl (bu exact c) S
def bN (aH:Str)(S:Bk)(exact:Bool):Bk:=(inTurn S.credits aH (·.a)).foldl (bC aH exact) S
def Bk.dm (S:Bk)(aH:Str):Bk:=bN aH (bN aH S true) false
def BG {α:Type}{l:List α}{i k:Nat}{v d:α}(h:i < l.length):(l.set i v).getD k d=if k=i then v else l.getD k d:=by
 rw[ak,ak];by_cases c:k=i
 ·subst c;rw[aY rfl,lz h];rfl
 ·rw[aN c,mW (fun z=>c z.symm)]
def lg {S:Bk}{c b k:Nat}{x:Int}(h:b < S.aE.length):(S.put c b x).bl k=if k=b then(S.bl b).less x else S.bl k:=BG h
def nG {S:Bk}{c b k:Nat}{x:Int}(h:c < S.credits.length):(S.put c b x).cr k=if k=c then(S.cr c).less x else S.cr k:=BG h
def kC (S:Bk)(l:List (Nat×Nat×Int)):Bk:=l.foldl (fun S t=>S.put t.1 t.2.1 t.2.2) S
def nH (S:Bk)(l m:List (Nat×Nat×Int)):kC S (l ++ m)=kC (kC S l) m:=by
 unfold kC; rw[List.foldl_append]
def jQ (S:Bk): ∀l,(kC S l).made=S.made ++ l
 |[]=>by simp[kC]
 |t :: l=>by
  show(kC (S.put t.1 t.2.1 t.2.2) l).made=_;rw[jQ _ l];simp[Bk.put]
structure Later (S S':Bk):Prop where
 bl:S'.aE.length=S.aE.length
 cl:S'.credits.length=S.credits.length
 b: ∀k,oY (S.bl k) (S'.bl k)/\(S'.bl k).d<=(S.bl k).d
 c: ∀k,oY (S.cr k) (S'.cr k)/\(S'.cr k).d<=(S.cr k).d
def Later.refl (S:Bk):Later S S:=⟨rfl,rfl,fun k=>⟨oY.refl _,fS _⟩,fun k=>⟨oY.refl _,fS _⟩⟩
def Later.trans {S T U:Bk}(h:Later S T)(k:Later T U):Later S U:=
 ⟨k.bl.trans h.bl,k.cl.trans h.cl,fun i=>⟨(h.b i).1.trans (k.b i).1,l5 (k.b i).2 (h.b i).2⟩,fun i=>⟨(h.c i).1.trans (k.c i).1,l5 (k.c i).2 (h.c i).2⟩⟩
def Later.put {S:Bk}{c b:Nat}{x:Int}(hb:b < S.aE.length)(hc:c < S.credits.length)(hx:0<=x):Later S (S.put c b x):=by
 refine⟨fe,fe,fun k=>?_,fun k=>?_⟩
 ·rw[lg hb];split
  ·rename_i e;subst e;exact⟨oY.refl _,by show(S.bl k).d - x<=_; lia⟩
  ·exact⟨oY.refl _,fS _⟩
 ·rw[nG hc];split
  ·rename_i e;subst e;exact⟨oY.refl _,by show(S.cr k).d - x<=_; lia⟩
  ·exact⟨oY.refl _,fS _⟩
def Later.de {S T:Bk}(h:Later S T)(c b:Nat):T.de c b=S.de c b:=by
 unfold Bk.de;rw[(h.c c).1.1,(h.b b).1.1,(h.c c).1.2.2.2]
def Later.NT {S T:Bk}(h:Later S T)(aH:Str):inTurn T.aE aH (·.b)=(inTurn S.aE aH (·.b)).filter fun k=>decide (0 < (T.bl k).d):=
 zv (fun r r' z=>z.2.2.1) h.bl (fun k=>(h.b k).1) (fun k=>(h.b k).2)
def ie (f:Int)(ls:List Int)(row:List Bool)(tk:Nat->Bool):Option Nat:=(List.range ls.length).find? fun j=>row.getD j false && decide (ls.getD j 0=f) && !tk j
def bV (fs ls:List Int)(al:List (List Bool)):Nat->(Nat->Bool)×List (Nat×Nat×Int)
 |0=>(fun _=>false,[])
 |i + 1=>match ie (fs.getD i 0) ls (al.getD i []) (bV fs ls al i).1 with
  |none=>bV fs ls al i
  |some j=>(fun x=>x == j || (bV fs ls al i).1 x,(bV fs ls al i).2 ++ [(i,j,fs.getD i 0)])
def me (gs ts:List Nat)(t:Nat×Nat×Int):Nat×Nat×Int:=(gs.getD t.1 0,ts.getD t.2.1 0,t.2.2)
def yx {α:Type}(l:List α)(d:α):(List.range l.length).map (fun j=>l.getD j d)=l:=by
 apply List.ext_getElem
 ·rw[ae,dC]
 ·intro i h1 h2;rw[List.getElem_map,List.getElem_range,ak,af h2];rfl
def DZ {α:Type}(l:List α)(d:α)(p:α->Bool):l.find? p=((List.range l.length).find? fun j=>p (l.getD j d)).map fun j=>l.getD j d:=by
 have e:l.find? p=((List.range l.length).map (fun j=>l.getD j d)).find? p:=by rw[yx]
 rw[e,List.find?_map];rfl
def jZ {l:List Nat}{i:Nat}(h:i < l.length):l.getD i 0∈l:=by
 rw[ak,af h];exact bH _
def getD_map {α β:Type}(f:α->β)(l:List α)(i:Nat)(d:α)(e:β)(h:i < l.length):(l.map f).getD i e=f (l.getD i d):=by
 rw[ak,ak,aC,af h];rfl
def getD_inj {l:List Nat}(nd:l.Nodup){i j:Nat}(hi:i < l.length)(hj:j < l.length)(h:l.getD i 0=l.getD j 0):i=j:=by
 rw[ak,ak,af hi,af hj] at h;exact(List.getElem_inj nd).mp h
def idle {ex:Bool}{c:Nat}: ∀{l:List Nat} {S:Bk},(S.cr c).d<=0->l.foldl (bu ex c) S=S
 |[],_,_=>rfl
 |b :: l,S,h=>by
  rw[cz];have e:bu ex c S b=S:=by
   unfold bu;rw[aN (fun z=>by lia)]
  rw[e];exact idle h
def Fe {c:Nat}{S:Bk}(hc:c < S.credits.length): ∀{l:List Nat},(∀b∈l,b < S.aE.length)->0 < (S.cr c).d->l.foldl (bu true c) S=match l.find? (fun b=>S.de c b && decide ((S.bl b).d=(S.cr c).d)) with
  |none=>S
  |some b=>S.put c b (S.cr c).d
 |[],_,_=>rfl
 |b :: l,hl,h=>by
  rw[cz];by_cases z:(S.de c b && decide ((S.bl b).d=(S.cr c).d))=true
  ·rw[List.find?_cons_of_pos (p:=fun b=>S.de c b && decide ((S.bl b).d=(S.cr c).d)) z];have z':S.de c b=true/\(S.bl b).d=(S.cr c).d:=by simpa using z
   have e:bu true c S b=S.put c b (S.cr c).d:=by
    unfold bu;rw[aY ⟨h,z'.1,.inl z'.2.symm⟩,z'.2]
    congr 1
    unfold eR;split <;> rfl
   rw[e];refine idle ?_;rw[nG hc,aY rfl];show(S.cr c).d - (S.cr c).d<=0;lia
  ·rw[List.find?_cons_of_neg (p:=fun b=>S.de c b && decide ((S.bl b).d=(S.cr c).d)) z];have e:bu true c S b=S:=by
    unfold bu;rw[aN];rintro⟨_,z1,z2⟩;rcases z2 with z2|z2
    ·exact z (by simp[z1,z2])
    ·cases z2
   rw[e];exact Fe hc (fun x hx=>hl x (aI _ hx)) h
structure vm (S:Bk)(aH:Str)(gs ts:List Nat)(fs ls:List Int)(al:List (List Bool)):Prop where
 eg:gs=inTurn S.credits aH (·.a)
 et:ts=inTurn S.aE aH (·.b)
 ef:fs=gs.map fun g=>(S.cr g).d
 el:ls=ts.map fun t=>(S.bl t).d
 ea:al=gs.map fun g=>ts.map fun t=>S.de g t
section
variable {S:Bk}{aH:Str}{gs ts:List Nat}{fs ls:List Int}{al:List (List Bool)}
def vm.g (R:vm S aH gs ts fs ls al){i:Nat}(h:i < gs.length):gs.getD i 0 < S.credits.length/\0 < (S.cr (gs.getD i 0)).d/\fs.getD i 0=(S.cr (gs.getD i 0)).d:=by
 have m:=jZ h;rw[R.eg] at m;obtain⟨m1,_,m3⟩:=bP.mp m;rw[← R.eg] at m1 m3;exact⟨m1,m3,by rw[R.ef,getD_map _ gs i 0 0 h]⟩
def vm.t (R:vm S aH gs ts fs ls al){i:Nat}(h:i < ts.length):ts.getD i 0 < S.aE.length/\0 < (S.bl (ts.getD i 0)).d/\ls.getD i 0=(S.bl (ts.getD i 0)).d:=by
 have m:=jZ h;rw[R.et] at m;obtain⟨m1,_,m3⟩:=bP.mp m;rw[← R.et] at m1 m3;exact⟨m1,m3,by rw[R.el,getD_map _ ts i 0 0 h]⟩
def vm.a (R:vm S aH gs ts fs ls al){i j:Nat}(hi:i < gs.length)(hj:j < ts.length):(al.getD i []).getD j false=S.de (gs.getD i 0) (ts.getD j 0):=by
 rw[R.ea,getD_map _ gs i 0 [] hi,getD_map _ ts j 0 false hj]
def vm.gn (R:vm S aH gs ts fs ls al):gs.Nodup:=by rw[R.eg]; exact gO _ _ _
def vm.tn (R:vm S aH gs ts fs ls al):ts.Nodup:=by rw[R.et]; exact gO _ _ _
def vm.ll (R:vm S aH gs ts fs ls al):ls.length=ts.length:=by rw[R.el,ae]
def vm.tm (R:vm S aH gs ts fs ls al){b:Nat}(h:b∈ts):b < S.aE.length:=by
 rw[R.et] at h;exact(bP.mp h).1
def qh {l:List Nat}{i:Nat}(h:i < l.length):l.take (i + 1)=l.take i ++ [l.getD i 0]:=by
 rw[A3,af h,ak,af h];rfl
structure X2 (S:Bk)(aH:Str)(gs ts:List Nat)(fs ls:List Int)(i:Nat)(st:(Nat->Bool)×List (Nat×Nat×Int))(Si:Bk):Prop where
 run:(gs.take i).foldl (bC aH true) S=Si
 eq:Si=kC S (st.2.map (me gs ts))
 later:Later S Si
 b: ∀j,j < ts.length->(Si.bl (ts.getD j 0)).d=if st.1 j=true then 0 else ls.getD j 0
 c: ∀k,i<=k->k < gs.length->(Si.cr (gs.getD k 0)).d=fs.getD k 0
def BH (R:vm S aH gs ts fs ls al){i:Nat}{Si:Bk}(hi:i < gs.length)(J:X2 S aH gs ts fs ls i (bV fs ls al i) Si): ∃S',X2 S aH gs ts fs ls (i + 1) (bV fs ls al (i + 1)) S':=by
 obtain⟨g1,g2,g3⟩:=R.g hi;have gc:gs.getD i 0 < Si.credits.length:=by rw[J.later.cl]; exact g1
 have fr:(Si.cr (gs.getD i 0)).d=fs.getD i 0:=J.c i (aD _) hi;have fp:0 < (Si.cr (gs.getD i 0)).d:=by rw[fr,g3]; exact g2
 have find:((inTurn Si.aE aH (·.b)).find? fun b=>Si.de (gs.getD i 0) b && decide ((Si.bl b).d=(Si.cr (gs.getD i 0)).d))=(ie (fs.getD i 0) ls (al.getD i []) (bV fs ls al i).1).map fun j=>ts.getD j 0:=by
  rw[J.later.NT,← R.et,List.find?_filter,DZ ts 0];unfold ie;rw[R.ll]
  congr 1
  have q: ∀j∈List.range ts.length,(decide (0 < (Si.bl (ts.getD j 0)).d) && (Si.de (gs.getD i 0) (ts.getD j 0) && decide ((Si.bl (ts.getD j 0)).d=(Si.cr (gs.getD i 0)).d)))=((al.getD i []).getD j false && decide (ls.getD j 0=fs.getD i 0) && !(bV fs ls al i).1 j):=by
   intro j hj;have hj:=dJ.mp hj;rw[R.a hi hj,J.later.de,J.b j hj,fr];obtain⟨_,t2,t3⟩:=R.t hj;cases h:(bV fs ls al i).1 j
   ·simp only[Bool.false_eq_true,if_false,Bool.not_false,Bool.and_true];rw[t3,aK t2];simp
   ·simp
  have key: ∀(l:List Nat) (p q:Nat->Bool),(∀j∈l,p j=q j)->l.find? p=l.find? q:=by
   intro l p q h
   induction l with
   |nil=>rfl
   |cons x l ih=>
    rw[List.find?_cons,List.find?_cons,h x aS,ih fun j hj=>h j (aI _ hj)]
  refine key _ _ _ fun j hj=>?_;rw[← q j hj];simp
 have run:(gs.take (i + 1)).foldl (bC aH true) S=match(ie (fs.getD i 0) ls (al.getD i []) (bV fs ls al i).1).map (fun j=>ts.getD j 0) with
   |none=>Si
   |some b=>Si.put (gs.getD i 0) b (Si.cr (gs.getD i 0)).d:=by
  rw[qh hi,lB,J.run];show bC aH true Si (gs.getD i 0)=_;unfold bC;rw[Fe gc (fun b hb=>(bP.mp hb).1) fp,find]
 cases h:ie (fs.getD i 0) ls (al.getD i []) (bV fs ls al i).1 with
 |none=>
  rw[h] at run;have e:bV fs ls al (i + 1)=bV fs ls al i:=by rw[bV,h]
  rw[e];exact⟨Si,run,J.eq,J.later,J.b,fun k h1 h2=>J.c k (by lia) h2⟩
 |some j=>
  rw[h] at run;have e:bV fs ls al (i + 1)=(fun x=>x == j || (bV fs ls al i).1 x,(bV fs ls al i).2 ++ [(i,j,fs.getD i 0)]):=by rw[bV,h]
  have hj:j < ts.length:=by
   unfold ie at h;have:=Oz h;rw[R.ll] at this;exact dJ.mp this
  have hj2:(al.getD i []).getD j false=true/\ls.getD j 0=fs.getD i 0/\(bV fs ls al i).1 j=false:=by
   unfold ie at h;have:=List.find?_some h;simpa[and_assoc] using this
  obtain⟨t1,t2,t3⟩:=R.t hj;have tb:ts.getD j 0 < Si.aE.length:=by rw[J.later.bl]; exact t1
  have f0:0<=fs.getD i 0:=by rw[g3]; lia
  have run':(gs.take (i + 1)).foldl (bC aH true) S=Si.put (gs.getD i 0) (ts.getD j 0) (fs.getD i 0):=by
   rw[run,← fr];rfl
  rw[e];refine⟨Si.put (gs.getD i 0) (ts.getD j 0) (fs.getD i 0),run',?_,J.later.trans (Later.put tb gc f0),fun j' Wd=>?_,fun k h1 h2=>?_⟩
  ·rw[aL,nH,← J.eq];rfl
  ·rw[lg tb];by_cases q:j'=j
   ·subst q;rw[aY rfl];simp only[beq_self_eq_true,Bool.true_or,if_true];show(Si.bl (ts.getD j' 0)).d - fs.getD i 0=0;rw[J.b j' hj,hj2.2.2,aN (by decide),hj2.2.1];lia
   ·rw[aN fun z=>q (getD_inj R.tn Wd hj z),J.b j' Wd];have:(j' == j)=false:=by simpa using q
    show _ =if(j' == j || (bV fs ls al i).1 j')=true then 0 else _;rw[this,Bool.false_or]
  ·rw[nG gc,aN fun z=>by have:=getD_inj R.gn h2 hi z; lia];exact J.c k (by lia) h2
def vn (R:vm S aH gs ts fs ls al): ∀i,i<=gs.length-> ∃Si,X2 S aH gs ts fs ls i (bV fs ls al i) Si
 |0,_=>⟨S,rfl,rfl,Later.refl S,fun j hj=>by
   obtain⟨_,_,t3⟩:=R.t hj;show _ =if false=true then 0 else _;rw[aN (by decide),t3],fun k _ h2=>by
   obtain⟨_,_,g3⟩:=R.g h2;exact g3.symm⟩
 |i + 1,h=>by
  obtain⟨Si,J⟩:=vn R i (by lia);exact BH R (by lia) J
def Jw (R:vm S aH gs ts fs ls al):bN aH S true=kC S ((bV fs ls al gs.length).2.map (me gs ts))/\Later S (bN aH S true):=by
 obtain⟨Si,J⟩:=vn R gs.length (aD _);have e:bN aH S true=Si:=by
  unfold bN;rw[← R.eg,← J.run,aZ]
 rw[e];exact⟨J.eq,J.later⟩
end
def Ff {l:List Int}{i j:Nat}{v:Int}(h:i≠j):(l.set i v).getD j 0=l.getD j 0:=by
 rw[ak,ak,mW h]
def Mj {l:List Int}{i:Nat}{v:Int}(h:i < l.length):(l.set i v).getD i 0=v:=by
 rw[ak,lz h]; rfl
def dO (l:List Int)(ps:List (Nat×Int)):List Int:=ps.foldl (fun l x=>l.set x.1 (l.getD x.1 0 - x.2)) l
def tK (l:List Int)(ps:List (Nat×Int))(x:Nat×Int):dO l (ps ++ [x])=(dO l ps).set x.1 ((dO l ps).getD x.1 0 - x.2):=by
 unfold dO; rw[List.foldl_append]; rfl
def qj (ps:List (Nat×Int)): ∀l:List Int,(dO l ps).length=l.length:=by
 induction ps with
 |nil=>intro l; rfl
 |cons x ps ih=>
  intro l;show(dO (l.set x.1 _) ps).length=_;rw[ih,fe]
def bE (f:Int)(l:List Int)(row:List Bool):Nat->Int×List (Nat×Int)
 |0=>(f,[])
 |j + 1=>if row.getD j false=true/\0 < eR (bE f l row j).1 (l.getD j 0) then((bE f l row j).1 - eR (bE f l row j).1 (l.getD j 0),(bE f l row j).2 ++ [(j,eR (bE f l row j).1 (l.getD j 0))]) else bE f l row j
def cv (fs ls:List Int)(al:List (List Bool)):Nat->List Int×List (Nat×Nat×Int)
 |0=>(ls,[])
 |i + 1=>(dO (cv fs ls al i).1 (bE (fs.getD i 0) (cv fs ls al i).1 (al.getD i []) (cv fs ls al i).1.length).2,
   (cv fs ls al i).2 ++ (bE (fs.getD i 0) (cv fs ls al i).1 (al.getD i []) (cv fs ls al i).1.length).2.map fun x=>(i,x.1,x.2))
def jR (fs ls:List Int)(al:List (List Bool)): ∀i,(cv fs ls al i).1.length=ls.length
 |0=>rfl
 |i + 1=>by
  show(dO _ _).length=_;rw[qj,jR fs ls al i]
def gr (c:Nat)(S:Bk)(b:Nat):Bk:=if 0 < (S.bl b).d then bu false c S b else S
def Jx {c b:Nat}{S:Bk}(hc:c < S.credits.length)(hb:b < S.aE.length):Later S (gr c S b)/\ ∀k,k≠b->((gr c S b).bl k).d=(S.bl k).d:=by
 unfold gr bu;split
 ·rename_i h1;split
  ·rename_i h2;refine⟨Later.put hb hc ?_,fun k hk=>by rw[lg hb,aN hk]⟩;unfold eR;split <;> lia
  ·exact⟨Later.refl S,fun _ _=>rfl⟩
 ·exact⟨Later.refl S,fun _ _=>rfl⟩
def Fg {c:Nat}{S0:Bk}: ∀{l:List Nat} {S:Bk},l.Nodup->c < S.credits.length->(∀b∈l,b < S.aE.length)->(∀b∈l,(S.bl b).d=(S0.bl b).d)->
  (l.filter fun b=>decide (0 < (S0.bl b).d)).foldl (bu false c) S=l.foldl (gr c) S
 |[],_,_,_,_,_=>rfl
 |b :: l,S,nd,hc,hl,hd=>by
  rw[dI] at nd;obtain⟨lt,ot⟩:=Jx (S:=S) hc (hl b aS);have ih:=Fg (S:=gr c S b) (S0:=S0) (l:=l) nd.2 (by rw[lt.cl]; exact hc) (fun x hx=>by rw[lt.bl]; exact hl x (aI _ hx)) (fun x hx=>by
   rw[ot x (fun z=>nd.1 (z▸hx))];exact hd x (aI _ hx))
  rw[cz,← ih];have e:=hd b aS;by_cases z:0 < (S0.bl b).d
  ·rw[List.filter_cons_of_pos (by simpa using z),List.foldl_cons]
   congr 1
   unfold gr;rw[aY (by lia)]
  ·rw[List.filter_cons_of_neg (by simpa using z)]
   congr 1
   unfold gr;rw[aN (by lia)]
section
variable {S:Bk}{aH:Str}{gs ts:List Nat}{fs ls:List Int}{al:List (List Bool)}
structure Pm (S:Bk)(ts:List Nat)(c:Nat)(L:List Int)(j:Nat)(st:Int×List (Nat×Int))(Sj:Bk):Prop where
 run:(ts.take j).foldl (gr c) S=Sj
 eq:Sj=kC S (st.2.map fun x=>(c,ts.getD x.1 0,x.2))
 later:Later S Sj
 f:(Sj.cr c).d=st.1
 b: ∀k,k < ts.length->(Sj.bl (ts.getD k 0)).d=(dO L st.2).getD k 0
 lt: ∀x∈st.2,x.1 < j
 oc: ∀k,k≠c->Sj.cr k=S.cr k
def zw {c:Nat}{L:List Int}{row:List Bool}(nd:ts.Nodup)(hc:c < S.credits.length)(ht: ∀b∈ts,b < S.aE.length)(hL:L.length=ts.length)(hb: ∀k,k < ts.length->(S.bl (ts.getD k 0)).d=L.getD k 0)
  (hr: ∀k,k < ts.length->row.getD k false=S.de c (ts.getD k 0)) {j:Nat} (hj:j < ts.length) {Sj:Bk} (J:Pm S ts c L j (bE (S.cr c).d L row j) Sj): ∃S',Pm S ts c L (j + 1) (bE (S.cr c).d L row (j + 1)) S':=by
 have ap:(dO L (bE (S.cr c).d L row j).2).getD j 0=L.getD j 0:=by
  have other: ∀(ps:List (Nat×Int)) (l:List Int),(∀x∈ps,x.1≠j)->(dO l ps).getD j 0=l.getD j 0:=by
   intro ps
   induction ps with
   |nil=>intro l h; rfl
   |cons x ps ih=>
    intro l h;show(dO (l.set x.1 _) ps).getD j 0=_;rw[ih _ fun y hy=>h y (aI _ hy),Ff (h x aS)]
  exact other _ _ fun x hx=>a7 (J.lt x hx)
 have bd:(Sj.bl (ts.getD j 0)).d=L.getD j 0:=by rw[J.b j hj,ap]
 have cj:c < Sj.credits.length:=by rw[J.later.cl]; exact hc
 have bj:ts.getD j 0 < Sj.aE.length:=by rw[J.later.bl]; exact ht _ (jZ hj)
 have run:(ts.take (j + 1)).foldl (gr c) S=gr c Sj (ts.getD j 0):=by
  rw[qh hj,lB,J.run];rfl
 have g:Sj.de c (ts.getD j 0)=row.getD j false:=by rw[J.later.de,hr j hj]
 by_cases z:row.getD j false=true/\0 < eR (bE (S.cr c).d L row j).1 (L.getD j 0)
 ·have e:bE (S.cr c).d L row (j + 1)=((bE (S.cr c).d L row j).1 - eR (bE (S.cr c).d L row j).1 (L.getD j 0),(bE (S.cr c).d L row j).2 ++ [(j,eR (bE (S.cr c).d L row j).1 (L.getD j 0))]):=by
   rw[bE,aY z]
  have z1:0 < (Sj.bl (ts.getD j 0)).d/\0 < (Sj.cr c).d:=by
   rw[bd,J.f];have:=z.2;unfold eR at this;split at this <;> lia
  have e2:gr c Sj (ts.getD j 0)=Sj.put c (ts.getD j 0) (eR (bE (S.cr c).d L row j).1 (L.getD j 0)):=by
   unfold gr bu;rw[aY z1.1,aY ⟨z1.2,by rw[g]; exact z.1,.inr rfl⟩,J.f,bd]
  rw[e];refine⟨_,run.trans e2,?_,J.later.trans (Later.put bj cj (by lia)),?_,fun k hk=>?_,fun x hx=>?_,fun k hk=>?_⟩
  ·rw[aL,nH,← J.eq];rfl
  ·rw[nG cj,aY rfl];show(Sj.cr c).d - _ =_;rw[J.f]
  ·rw[lg bj,tK];have len:(dO L (bE (S.cr c).d L row j).2).length=ts.length:=by rw[qj,hL]
   by_cases q:k=j
   ·subst q;rw[aY rfl,Mj (by rw[len]; exact hk)];show(Sj.bl (ts.getD k 0)).d - _ =(dO L _).getD k 0 - _;rw[J.b k hk]
   ·rw[aN fun w=>q (getD_inj nd hk hj w),J.b k hk,Ff (wM q)]
  ·rcases bc.mp hx with hx|hx
   ·have:=J.lt x hx;lia
   ·rw[ao.mp hx];exact gg _
  ·rw[nG cj,aN hk];exact J.oc k hk
 ·have e:bE (S.cr c).d L row (j + 1)=bE (S.cr c).d L row j:=by rw[bE,aN z]
  have e2:gr c Sj (ts.getD j 0)=Sj:=by
   unfold gr bu;split
   ·rename_i h1;rw[aN];rintro⟨h2,h3,_⟩;refine z ⟨by rw[← g]; exact h3,?_⟩;rw[bd] at h1;rw[J.f] at h2;unfold eR;split <;> assumption
   ·rfl
  rw[e];exact⟨Sj,run.trans e2,J.eq,J.later,J.f,J.b,fun x hx=>by have:=J.lt x hx; lia,J.oc⟩
def Fh {c:Nat}{L:List Int}{row:List Bool}(nd:ts.Nodup)(hc:c < S.credits.length)(ht: ∀b∈ts,b < S.aE.length)(hL:L.length=ts.length)(hb: ∀k,k < ts.length->(S.bl (ts.getD k 0)).d=L.getD k 0)
  (hr: ∀k,k < ts.length->row.getD k false=S.de c (ts.getD k 0)): ∀j,j<=ts.length-> ∃Sj,Pm S ts c L j (bE (S.cr c).d L row j) Sj
 |0,_=>⟨S,rfl,rfl,Later.refl S,rfl,hb,(fun _ h=>by cases h),fun _ _=>rfl⟩
 |j + 1,h=>by
  obtain⟨Sj,J⟩:=Fh nd hc ht hL hb hr j (by lia);exact zw nd hc ht hL hb hr (by lia) J
structure X3 (S:Bk)(aH:Str)(gs ts:List Nat)(fs:List Int)(i:Nat)(st:List Int×List (Nat×Nat×Int))(Si:Bk):Prop where
 run:(gs.take i).foldl (bC aH false) S=Si
 eq:Si=kC S (st.2.map (me gs ts))
 later:Later S Si
 b: ∀j,j < ts.length->(Si.bl (ts.getD j 0)).d=st.1.getD j 0
 c: ∀k,i<=k->k < gs.length->(Si.cr (gs.getD k 0)).d=fs.getD k 0
def BI (R:vm S aH gs ts fs ls al){i:Nat}{Si:Bk}(hi:i < gs.length)(J:X3 S aH gs ts fs i (cv fs ls al i) Si): ∃S',X3 S aH gs ts fs (i + 1) (cv fs ls al (i + 1)) S':=by
 obtain⟨g1,g2,g3⟩:=R.g hi;have gc:gs.getD i 0 < Si.credits.length:=by rw[J.later.cl]; exact g1
 have fr:(Si.cr (gs.getD i 0)).d=fs.getD i 0:=J.c i (aD _) hi;have tl:(cv fs ls al i).1.length=ts.length:=by rw[jR,R.ll]
 have tb: ∀b∈ts,b < Si.aE.length:=fun b hb=>by rw[J.later.bl]; exact R.tm hb
 obtain⟨S',K⟩:=Fh (S:=Si) (ts:=ts) (c:=gs.getD i 0) (L:=(cv fs ls al i).1) (row:=al.getD i []) R.tn gc tb tl J.b (fun k hk=>by rw[R.a hi hk,J.later.de]) ts.length (aD _);have e:(gs.take (i + 1)).foldl (bC aH false) S=S':=by
  rw[qh hi,lB,J.run];show bC aH false Si (gs.getD i 0)=_;unfold bC;rw[J.later.NT,← R.et,Fg R.tn gc tb (fun _ _=>rfl),← K.run,aZ]
 rw[fr] at K;have pe:bE (fs.getD i 0) (cv fs ls al i).1 (al.getD i []) ts.length=bE (fs.getD i 0) (cv fs ls al i).1 (al.getD i []) (cv fs ls al i).1.length:=by rw[tl]
 rw[pe] at K;refine⟨S',e,?_,J.later.trans K.later,K.b,fun k h1 h2=>?_⟩
 ·show S'=kC S (((cv fs ls al i).2 ++ _).map (me gs ts));rw[aL,nH,← J.eq,K.eq,ff];rfl
 ·rw[K.oc _ fun z=>by have:=getD_inj R.gn h2 hi z; lia];exact J.c k (by lia) h2
def vo (R:vm S aH gs ts fs ls al): ∀i,i<=gs.length-> ∃Si,X3 S aH gs ts fs i (cv fs ls al i) Si
 |0,_=>⟨S,rfl,rfl,Later.refl S,fun j hj=>by
   obtain⟨_,_,t3⟩:=R.t hj;exact t3.symm,fun k _ h2=>by
   obtain⟨_,_,g3⟩:=R.g h2;exact g3.symm⟩
 |i + 1,h=>by
  obtain⟨Si,J⟩:=vo R i (by lia);exact BI R (by lia) J
def Jy (R:vm S aH gs ts fs ls al):bN aH S false=kC S ((cv fs ls al gs.length).2.map (me gs ts))/\Later S (bN aH S false):=by
 obtain⟨Si,J⟩:=vo R gs.length (aD _);have e:bN aH S false=Si:=by
  unfold bN;rw[← R.eg,← J.run,aZ]
 rw[e];exact⟨J.eq,J.later⟩
end
inductive mT where
 |int (i:Int)
 |txt (s:Str)
 |sets (l:List (Nat×Nat×Int))
 |pairs (l:List (Nat×Int))
 |ints (l:List Int)
def bg.isSet:bg->Bool
 | .set _ _ _=>true
 | .bU _=>true
 |_=>false
def bg.tells:bg->Bool
 | .dM _ _ _ _=>true
 | .pz _ _ _=>true
 | .note _ _ _=>true
 | .set _ _ _=>true
 | .bU _=>true
 |_=>false
def qG (x:Int)(n:Nat):Prop:=0<=x/\x < (n:Int)
instance (x:Int) (n:Nat):Decidable (qG x n):=inferInstanceAs (Decidable (_/\_))
def Bk.bar (S:Bk):bg->Str
 | .dM _ day A5 dP=>if dP < 1 then "no amount" else if A5 < day then "too early" else ""
 | .pz _ _ dP=>if dP < 1 then "no amount" else ""
 | .note b _ dP=>if ¬ qG b S.aE.length then "no bill" else if dP < 1 then "no amount" else ""
 | .set c b dP=>if ¬ qG c S.credits.length then "no credit" else if ¬ qG b S.aE.length then "no bill" else if S.de c.toNat b.toNat=false then "not theirs" else
   if dP < 1 then "no amount" else if eR (S.cr c.toNat).d (S.bl b.toNat).d < dP then "too much" else ""
 |_=>""
def vp (S:Bk)(b d a:Int):S.bar (.note b d a)=(if ¬ qG b S.aE.length then("no bill":Str) else if a < 1 then("no amount":Str) else("":Str)):=rfl
def zx (S:Bk)(c b a:Int):S.bar (.set c b a)=(if ¬ qG c S.credits.length then("no credit":Str) else if ¬ qG b S.aE.length then("no bill":Str) else if S.de c.toNat b.toNat=false then("not theirs":Str) else
   if a < 1 then("no amount":Str) else if eR (S.cr c.toNat).d (S.bl b.toNat).d < a then("too much":Str) else("":Str)):=rfl
def n1:("no credit":Str)≠"":=by decide +kernel
def n2:("no bill":Str)≠"":=by decide +kernel
def n3:("not theirs":Str)≠"":=by decide +kernel
def n4:("no amount":Str)≠"":=by decide +kernel
def n6:("too much":Str)≠"":=by decide +kernel
def oG {S:Bk}{b d a:Int}(h:S.bar (.note b d a)=""):qG b S.aE.length/\1<=a:=by
 rw[vp] at h;split at h
 ·exact absurd h n2
 ·rename_i q;split at h
  ·exact absurd h n4
  ·exact⟨Gh.mp q,by lia⟩
def lI {S:Bk}{c b a:Int}(h:S.bar (.set c b a)=""):qG c S.credits.length/\qG b S.aE.length/\S.de c.toNat b.toNat=true/\1<=a/\a<=(S.cr c.toNat).d/\a<=(S.bl b.toNat).d:=by
 rw[zx] at h;split at h
 ·exact absurd h n1
 rename_i q1;split at h
 ·exact absurd h n2
 rename_i q2;split at h
 ·exact absurd h n3
 rename_i q3;split at h
 ·exact absurd h n4
 rename_i q4;split at h
 ·exact absurd h n6
 rename_i q5;refine⟨Classical.not_not.mp q1,Classical.not_not.mp q2,by simpa using q3,by lia,?_⟩;unfold eR at q5;split at q5 <;> lia
def Bk.iz (S:Bk)(r:Rw):Bk:={S with aE:=S.aE ++ [r]}
def Bk.fU (S:Bk)(r:Rw):Bk:={S with credits:=S.credits ++ [r]}
def Bk.enter (S:Bk):bg->Bk
 | .dM w d u a=>S.iz ⟨w,d,u,a,a⟩
 | .pz w d a=>S.fU ⟨w,d,a,-1,a⟩
 | .note b d a=>S.fU ⟨(S.bl b.toNat).aH,d,a,b,a⟩
 | .set c b a=>S.put c.toNat b.toNat a
 | .bU w=>S.dm w
 |_=>S
def Bk.Jz (S:Bk):bg->mT
 | .dM _ _ _ _=> .int S.aE.length
 | .pz _ _ _=> .int S.credits.length
 | .note _ _ _=> .int S.credits.length
 | .set _ _ a=> .int a
 | .bU w=> .sets ((S.dm w).made.drop S.made.length)
 |_=> .int 0
def cy:List (Int×bg)->Bk->Option Bk
 |[],S=>some S
 |(_,d) :: l,S=>if S.bar d="" then cy l (S.enter d) else none
def iJ:List (Int×bg)->Bk->Str
 |[],_=>""
 |(_,d) :: l,S=>if S.bar d="" then iJ l (S.enter d) else S.bar d
def Bk.gp (S:Bk)(t:Nat×Nat×Int):Int:=if(S.bl t.2.1).a > (S.cr t.1).a then(S.bl t.2.1).a else(S.cr t.1).a
def spotOf (bD:Bool)(t:Nat×Nat×Int):Nat:=if bD then t.2.1 else t.1
def Bk.cnt (S:Bk)(bD:Bool)(k:Nat)(day:Int)(t:Nat×Nat×Int):Bool:=decide (spotOf bD t=k) && decide (S.gp t<=day)
def Bk.rows (S:Bk)(bD:Bool):List Rw:=if bD then S.aE else S.credits
def JA (bD:Bool)(r:Rw):Int:=if bD then r.c else r.b
def keyOf (bD:Bool)(r:Rw):Int:=if bD then r.b else r.a
def Bk.rest (S:Bk)(bD:Bool)(k:Nat)(day:Int):Int:=JA bD ((S.rows bD).getD k default) - ((S.made.filter (S.cnt bD k day)).map (·.2.2)).sum
def Bk.eM (S:Bk)(bD:Bool)(aH:Str)(day:Int):List (Nat×Int):=
 ((inOrder (S.rows bD) aH (keyOf bD)).filter fun k=>decide (((S.rows bD).getD k default).a<=day) && decide (0 < S.rest bD k day)).map fun k=>(k,S.rest bD k day)
def placeOf (gp:Int)(di:List Int):Nat:=if gp<=0 then 0 else 1 + (di.filter fun l=>decide (l < gp)).length
def tL (l:List Int)(i:Nat)(x:Int):List Int:=l.set i (l.getD i 0 + x)
def Bk.Pn (S:Bk)(aH:Str)(day:Int)(di:List Int):List Int:=
 (S.eM true aH day).foldl (fun l t=>tL l (placeOf (day - (S.bl t.1).b) di) t.2) (List.replicate (di.length + 2) 0)
structure gZ where
 steps:List (Int×bg)
 bk:Bk
def gZ.new:gZ:=⟨[],Bk.new⟩
def cD (m:Int)(st:Int×bg):Bool:= !(decide (st.1=m) && st.2.isSet)
def cV (T:gZ)(n:Int):bg->mT×gZ
 | .gK m=>if(T.steps.filter (cD m)).length=T.steps.length then(.txt "no setting",T) else
   match cy (T.steps.filter (cD m)) Bk.new with
   |none=>(.txt "needed",T)
   |some S=>(.txt "undone",⟨T.steps.filter (cD m),S⟩)
 | .ask o w d=>(.pairs (T.bk.eM o w d),T)
 | .hZ w d l=>(.ints (T.bk.Pn w d l),T)
 |d=>if T.bk.bar d="" then(T.bk.Jz d,⟨T.steps ++ [(n,d)],T.bk.enter d⟩) else(.txt (T.bk.bar d),T)
def dN:List bg->gZ->Nat->List mT×gZ
 |[],T,_=>([],T)
 |d :: l,T,n=>((cV T n d).1 :: (dN l (cV T n d).2 (n + 1)).1,(dN l (cV T n d).2 (n + 1)).2)
structure WF (S:Bk)(n:Nat):Prop where
 m: ∀t∈S.made,t.1 < S.credits.length/\t.2.1 < S.aE.length
 o: ∀c,c < S.credits.length->(S.cr c).c= -1∨ ∃b:Nat,(S.cr c).c=(b:Int)/\b < S.aE.length/\(S.cr c).aH=(S.bl b).aH
 lb:S.aE.length<=n
 lc:S.credits.length<=n
 lm:S.made.length<=8000 * n
def WF.new:WF Bk.new 0:=⟨(fun t h=>by cases h),fun c h=>absurd h (en _),aD _,aD _,aD _⟩
def WF.mono {S:Bk}{n m:Nat}(h:WF S n)(k:n<=m):WF S m:=⟨h.m,h.o,aV h.lb k,aV h.lc k,aV h.lm (Nat.mul_le_mul_left _ k)⟩
def getD_snoc {α:Type}{l:List α}{x d:α}{k:Nat}(h:k < l.length):(l ++ [x]).getD k d=l.getD k d:=by
 rw[ak,ak,ju h]
def getD_last {α:Type}{l:List α}{x d:α}:(l ++ [x]).getD l.length d=x:=by
 rw[ak,fZ (aD _)];simp
def WF.iz {S:Bk}{n:Nat}(h:WF S n)(r:Rw):WF (S.iz r) (n + 1):=by
 have len:(S.iz r).aE.length=S.aE.length + 1:=by simp[Bk.iz]
 refine⟨fun t ht=>⟨(h.m t ht).1,by rw[len]; have:=(h.m t ht).2; lia⟩,fun c hc=>?_,by rw[len]; have:=h.lb; lia,by have:=h.lc; exact sk this,by have:=h.lm; show S.made.length<=_; lia⟩;rcases h.o c hc with z|⟨b,z1,z2,z3⟩
 ·exact .inl z
 ·refine .inr ⟨b,z1,by rw[len]; lia,?_⟩;show(S.cr c).aH=((S.aE ++ [r]).getD b default).aH;rw[getD_snoc z2];exact z3
def WF.fU {S:Bk}{n:Nat}(h:WF S n)(r:Rw)(hr:r.c= -1∨ ∃b:Nat,r.c=(b:Int)/\b < S.aE.length/\r.aH=(S.bl b).aH):WF (S.fU r) (n + 1):=by
 have len:(S.fU r).credits.length=S.credits.length + 1:=by simp[Bk.fU]
 refine⟨fun t ht=>⟨by rw[len]; have:=(h.m t ht).1; lia,(h.m t ht).2⟩,fun c hc=>?_,by have:=h.lb; exact sk this,by rw[len]; have:=h.lc; lia,by have:=h.lm; show S.made.length<=_; lia⟩;by_cases q:c < S.credits.length
 ·have e:(S.fU r).cr c=S.cr c:=getD_snoc q;rw[e];exact h.o c q
 ·have q':c=S.credits.length:=by lia
  have e:(S.fU r).cr c=r:=by rw[q']; exact getD_last
  rw[e];exact hr
def WF.later {S S':Bk}{n m:Nat}(h:WF S n)(l:Later S S')(hm: ∀t∈S'.made,t.1 < S.credits.length/\t.2.1 < S.aE.length)(hn:n<=m)(hl:S'.made.length<=8000 * m):WF S' m:=by
 refine⟨fun t ht=>by rw[l.cl,l.bl]; exact hm t ht,fun c hc=>?_,by rw[l.bl]; exact aV h.lb hn,by rw[l.cl]; exact aV h.lc hn,hl⟩;rw[l.cl] at hc;rw[(l.c c).1.2.2.2,(l.c c).1.1];rcases h.o c hc with z|⟨b,z1,z2,z3⟩
 ·exact .inl z
 ·exact .inr ⟨b,z1,by rw[l.bl]; exact z2,by rw[(l.b b).1.1]; exact z3⟩
def vq: ∀{n:Nat} {l:List Nat},l.Nodup->(∀x∈l,x < n)->l.length<=n
 |0,l,_,h=>by
  cases l with
  |nil=>exact aD _
  |cons x l=>exact absurd (h x aS) (en _)
 |n + 1,l,nd,h=>by
  by_cases q:n∈l
  ·have h1:=vq (n:=n) (l:=l.erase n) (nd.erase n) (fun x hx=>by
    have h2:=h x (List.mem_of_mem_erase hx);have h3:x≠n:=fun z=>(List.Nodup.mem_erase_iff nd).mp hx |>.1 z;lia)
   rw[List.length_erase_of_mem q] at h1;lia
  ·have:=vq (n:=n) nd (fun x hx=>by
    have h2:=h x hx;have h3:x≠n:=fun z=>q (z▸hx);lia)
   lia
def ig (rows:List Rw)(aH:Str)(key:Rw->Int):(inTurn rows aH key).length<=rows.length:=vq (gO _ _ _) fun _ h=>(bP.mp h).1
def iu (fs ls:List Int)(al:List (List Bool)): ∀i,(bV fs ls al i).2.length<=i
 |0=>aD _
 |i + 1=>by
  have:=iu fs ls al i;unfold bV;split
  ·lia
  ·rw[ax];show _ + 1<=_;lia
def gy (f:Int)(l:List Int)(row:List Bool): ∀j,(bE f l row j).2.length<=j
 |0=>aD _
 |j + 1=>by
  have:=gy f l row j;rw[bE];split
  ·rw[ax];show _ + 1<=_;lia
  ·lia
def qk (fs ls:List Int)(al:List (List Bool)): ∀i,(cv fs ls al i).2.length<=i * ls.length
 |0=>by simp[cv]
 |i + 1=>by
  have h1:=qk fs ls al i;have h2:=gy (fs.getD i 0) (cv fs ls al i).1 (al.getD i []) (cv fs ls al i).1.length;show((cv fs ls al i).2 ++ _).length<=_;rw[ax,ae,wO];rw[jR] at h2 ⊢;lia
def mf (fs ls:List Int)(al:List (List Bool)): ∀i,∀t∈(bV fs ls al i).2,t.1 < i/\t.2.1 < ls.length
 |0,t,h=>by cases h
 |i + 1,t,h=>by
  rw[bV] at h;split at h
  ·have:=mf fs ls al i t h;lia
  ·rename_i j hj;rcases bc.mp h with h|h
   ·have:=mf fs ls al i t h;lia
   ·rw[ao.mp h];unfold ie at hj;have:=dJ.mp (Oz hj);exact⟨gg _,this⟩
def ql (f:Int)(l:List Int)(row:List Bool): ∀j,∀x∈(bE f l row j).2,x.1 < j
 |0,x,h=>by cases h
 |j + 1,x,h=>by
  rw[bE] at h;split at h
  ·rcases bc.mp h with h|h
   ·have:=ql f l row j x h;lia
   ·rw[ao.mp h];exact gg _
  ·have:=ql f l row j x h;lia
def vt (fs ls:List Int)(al:List (List Bool)): ∀i,∀t∈(cv fs ls al i).2,t.1 < i/\t.2.1 < ls.length
 |0,t,h=>by cases h
 |i + 1,t,h=>by
  rcases bc.mp (show t∈(cv fs ls al i).2 ++ _ from h) with h|h
  ·have:=vt fs ls al i t h;lia
  ·obtain⟨x,hx,rfl⟩:=bJ.mp h;have:=ql _ _ _ _ x hx;rw[jR] at this;exact⟨gg _,this⟩
def rnd (S:Bk)(aH:Str):vm S aH (inTurn S.credits aH (·.a)) (inTurn S.aE aH (·.b)) ((inTurn S.credits aH (·.a)).map fun g=>(S.cr g).d) ((inTurn S.aE aH (·.b)).map fun t=>(S.bl t).d)
  ((inTurn S.credits aH (·.a)).map fun g=>(inTurn S.aE aH (·.b)).map fun t=>S.de g t):=⟨rfl,rfl,rfl,rfl,rfl⟩
def Fj {S:Bk}{gs ts:List Nat}{l:List (Nat×Nat×Int)}(hl: ∀t∈l,t.1 < gs.length/\t.2.1 < ts.length)(hg: ∀g∈gs,g < S.credits.length)(ht: ∀t∈ts,t < S.aE.length): ∀t∈l.map (me gs ts),t.1 < S.credits.length/\t.2.1 < S.aE.length:=by
 intro t h;obtain⟨x,hx,rfl⟩:=bJ.mp h;obtain⟨h1,h2⟩:=hl x hx;exact⟨hg _ (jZ h1),ht _ (jZ h2)⟩
def qZ (S:Bk)(aH:Str)(ex:Bool):Later S (bN aH S ex)/\ ∃l,(bN aH S ex).made=S.made ++ l/\(∀t∈l,t.1 < S.credits.length/\t.2.1 < S.aE.length)/\l.length<=S.credits.length + S.credits.length * S.aE.length:=by
 have gl:=ig S.credits aH (·.a);have tl:=ig S.aE aH (·.b);have hg: ∀g∈inTurn S.credits aH (·.a),g < S.credits.length:=fun g h=>(bP.mp h).1;have ht: ∀t∈inTurn S.aE aH (·.b),t < S.aE.length:=fun g h=>(bP.mp h).1;have mul:(inTurn S.credits aH (·.a)).length * (inTurn S.aE aH (·.b)).length<=S.credits.length * S.aE.length:=qK gl tl;cases ex with
 |true=>
  obtain⟨e,l⟩:=Jw (rnd S aH);refine⟨l,_,by rw[e]; exact jQ _ _,Fj (fun t h=>?_) hg ht,?_⟩
  ·have:=mf _ _ _ _ t h;rwa [ae] at this
  ·rw[ae];have:=iu ((inTurn S.credits aH (·.a)).map fun g=>(S.cr g).d) ((inTurn S.aE aH (·.b)).map fun t=>(S.bl t).d) ((inTurn S.credits aH (·.a)).map fun g=>(inTurn S.aE aH (·.b)).map fun t=>S.de g t) (inTurn S.credits aH (·.a)).length;lia
 |false=>
  obtain⟨e,l⟩:=Jy (rnd S aH);refine⟨l,_,by rw[e]; exact jQ _ _,Fj (fun t h=>?_) hg ht,?_⟩
  ·have:=vt _ _ _ _ t h;rwa [ae] at this
  ·rw[ae];have:=qk ((inTurn S.credits aH (·.a)).map fun g=>(S.cr g).d) ((inTurn S.aE aH (·.b)).map fun t=>(S.bl t).d) ((inTurn S.credits aH (·.a)).map fun g=>(inTurn S.aE aH (·.b)).map fun t=>S.de g t) (inTurn S.credits aH (·.a)).length;rw[ae] at this;lia
def nI (S:Bk)(aH:Str):Later S (S.dm aH)/\ ∃l,(S.dm aH).made=S.made ++ l/\(∀t∈l,t.1 < S.credits.length/\t.2.1 < S.aE.length)/\l.length<=2 * (S.credits.length + S.credits.length * S.aE.length):=by
 obtain⟨l1,m1,e1,h1,n1⟩:=qZ S aH true;obtain⟨l2,m2,e2,h2,n2⟩:=qZ (bN aH S true) aH false;refine⟨l1.trans l2,m1 ++ m2,by show(bN aH (bN aH S true) false).made=_; rw[e2,e1,bZ],fun t ht=>?_,?_⟩
 ·rcases bc.mp ht with ht|ht
  ·exact h1 t ht
  ·have:=h2 t ht;rwa [l1.cl,l1.bl] at this
 ·rw[l1.cl,l1.bl] at n2;rw[ax];lia
def WF.enter {S:Bk}{n:Nat}{d:bg}(h:WF S n)(hn:n < 60)(hb:S.bar d=""):WF (S.enter d) (n + 1):=by
 cases d with
 |dM w d u a=>exact h.iz _
 |pz w d a=>exact h.fU _ (.inl rfl)
 |note b d a=>
  refine h.fU _ (.inr ⟨b.toNat,?_⟩);have z:=(oG hb).1;obtain⟨z1,z2⟩:=z;refine⟨?_,?_,rfl⟩
  ·show b=(b.toNat:Int);lia
  ·lia
 |set c b a=>
  obtain⟨zc,zb,_,za,_⟩:=lI hb;obtain⟨c1,c2⟩:=zc;obtain⟨b1,b2⟩:=zb;have l:Later S (S.put c.toNat b.toNat a):=Later.put (by lia) (by lia) (by lia);refine h.later l (fun t ht=>?_) (cM _) ?_
  ·rcases bc.mp ht with ht|ht
   ·exact h.m t ht
   ·rw[ao.mp ht];show c.toNat < _/\b.toNat < _;lia
  ·show(S.made ++ [_]).length<=_;rw[ax];have:=h.lm;show _ + 1<=_;lia
 |bU w=>
  obtain⟨l,m,e,h1,h2⟩:=nI S w;refine h.later l (fun t ht=>?_) (cM _) ?_
  ·rw[show(S.enter (.bU w)).made=S.made ++ m from e] at ht;rcases bc.mp ht with ht|ht
   ·exact h.m t ht
   ·exact h1 t ht
  ·show(S.dm w).made.length<=_;rw[e,ax];have h3:=h.lm;have h4:=h.lb;have h5:=h.lc;have:S.credits.length * S.aE.length<=60 * 60:=qK (by lia) (by lia);lia
 |gK m=>exact h.mono (cM _)
 |ask o w d=>exact h.mono (cM _)
 |hZ w d l=>exact h.mono (cM _)
structure nJ (S T:Bk):Prop where
 bl:T.aE.length=S.aE.length
 cl:T.credits.length=S.credits.length
 b: ∀k,oY (S.bl k) (T.bl k)
 c: ∀k,oY (S.cr k) (T.cr k)
def oY.symm {r s:Rw}(h:oY r s):oY s r:=⟨h.1.symm,h.2.1.symm,h.2.2.1.symm,h.2.2.2.symm⟩
def nJ.refl (S:Bk):nJ S S:=⟨rfl,rfl,fun _=>oY.refl _,fun _=>oY.refl _⟩
def nJ.symm {S T:Bk}(h:nJ S T):nJ T S:=⟨h.bl.symm,h.cl.symm,fun k=>(h.b k).symm,fun k=>(h.c k).symm⟩
def nJ.trans {S T U:Bk}(h:nJ S T)(k:nJ T U):nJ S U:=⟨k.bl.trans h.bl,k.cl.trans h.cl,fun i=>(h.b i).trans (k.b i),fun i=>(h.c i).trans (k.c i)⟩
def Later.ni {S T:Bk}(h:Later S T):nJ S T:=⟨h.bl,h.cl,fun k=>(h.b k).1,fun k=>(h.c k).1⟩
def nJ.de {S T:Bk}(h:nJ S T)(c b:Nat):T.de c b=S.de c b:=by
 unfold Bk.de;rw[(h.c c).1,(h.b b).1,(h.c c).2.2.2]
def sI {l m:List Rw}{r s:Rw}(hl:m.length=l.length)(h: ∀k,oY (l.getD k default) (m.getD k default))(hr:oY r s)(k:Nat):oY ((l ++ [r]).getD k default) ((m ++ [s]).getD k default):=by
 by_cases q:k < l.length
 ·rw[getD_snoc q,getD_snoc (by rw[hl]; exact q)];exact h k
 ·by_cases e:k=l.length
  ·subst e;rw[getD_last,← hl,getD_last];exact hr
  ·have o1:(l ++ [r]).getD k default=default:=by
    rw[ak,l4 (by rw[ax]; show l.length + 1<=k; lia)];rfl
   have o2:(m ++ [s]).getD k default=default:=by
    rw[ak,l4 (by rw[ax]; show m.length + 1<=k; lia)];rfl
   rw[o1,o2];exact oY.refl _
def JB {S T:Bk}(h:nJ S T){d:bg}(hb:S.bar d=""):T.bar d=""∨T.bar d="too much":=by
 cases d with
 |note b d a=>
  obtain⟨z1,z2⟩:=oG hb;left;rw[vp,h.bl,aN (fun z=>z z1),aN (by lia)]
 |set c b a=>
  obtain⟨z1,z2,z3,z4,_⟩:=lI hb;rw[zx,h.bl,h.cl,h.de,aN (fun z=>z z1),aN (fun z=>z z2),aN (by rw[z3]; decide),aN (by lia)];split
  ·exact .inr rfl
  ·exact .inl rfl
 |dM w d u a=>exact .inl hb
 |pz w d a=>exact .inl hb
 |bU w=>exact .inl rfl
 |gK m=>exact .inl rfl
 |ask o w d=>exact .inl rfl
 |hZ w d l=>exact .inl rfl
def i7 {S:Bk}{d:bg}(hs:d.isSet=true)(hb:S.bar d=""):Later S (S.enter d):=by
 cases d with
 |set c b a=>
  obtain⟨⟨_,_⟩,⟨_,_⟩,_,_,_⟩:=lI hb;exact Later.put (by lia) (by lia) (by lia)
 |bU w=>exact(nI S w).1
 |dM w d u a=>cases hs
 |pz w d a=>cases hs
 |note b d a=>cases hs
 |gK m=>cases hs
 |ask o w d=>cases hs
 |hZ w d l=>cases hs
def D0 {S T:Bk}(h:nJ S T){d:bg}(hs:S.bar d="")(ht:T.bar d=""):nJ (S.enter d) (T.enter d):=by
 cases d with
 |dM w d u a=>exact⟨by simp[Bk.enter,Bk.iz,h.bl],h.cl,sI h.bl h.b (oY.refl _),h.c⟩
 |pz w d a=>exact⟨h.bl,by simp[Bk.enter,Bk.fU,h.cl],h.b,sI h.cl h.c (oY.refl _)⟩
 |note b d a=>exact⟨h.bl,by simp[Bk.enter,Bk.fU,h.cl],h.b,sI h.cl h.c ⟨(h.b _).1,rfl,rfl,rfl⟩⟩
 |set c b a=>exact(i7 rfl hs).ni.symm.trans (h.trans (i7 rfl ht).ni)
 |bU w=>exact(i7 (d:= .bU w) rfl hs).ni.symm.trans (h.trans (i7 (d:= .bU w) rfl ht).ni)
 |gK m=>exact h
 |ask o w d=>exact h
 |hZ w d l=>exact h
def Pp (m:Int): ∀(l:List (Int×bg)) {S T:Bk},nJ S T->(cy l S).isSome=true->iJ (l.filter (cD m)) T=""∨iJ (l.filter (cD m)) T="too much"
 |[],_,_,_,_=> .inl rfl
 |(n,d) :: l,S,T,h,hw=>by
  unfold cy at hw;split at hw
  ·rename_i hb;by_cases k:cD m (n,d)=true
   ·rw[cO k];unfold iJ;split
    ·rename_i ht;exact Pp m l (D0 h hb ht) hw
    ·rename_i ht;exact .inr ((JB h hb).resolve_left ht)
   ·rw[kA k];have ds:d.isSet=true:=by
     unfold cD at k;simp at k;exact k.2
    exact Pp m l ((i7 ds hb).ni.symm.trans h) hw
  ·cases hw
def sJ: ∀(l:List (Int×bg)) {S T:Bk} {n:Nat},WF S n->cy l S=some T->n + l.length<=60->WF T (n + l.length)
 |[],S,T,n,h,e,_=>by
  cases e;exact h
 |(k,d) :: l,S,T,n,h,e,hl=>by
  unfold cy at e;split at e
  ·rename_i hb;have len:((k,d) :: l).length=l.length + 1:=rfl;rw[len] at hl ⊢;have:=sJ l (h.enter (by lia) hb) e (by lia);rwa [show n + (l.length + 1)=n + 1 + l.length by lia]
  ·cases e
def lh: ∀(l m:List (Int×bg)) (S:Bk),cy (l ++ m) S=(cy l S).bind (cy m)
 |[],m,S=>rfl
 |(k,d) :: l,m,S=>by
  show(if S.bar d="" then cy (l ++ m) (S.enter d) else none)=(if S.bar d="" then cy l (S.enter d) else none).bind (cy m);split
  ·exact lh l m _
  ·rfl
structure Good (T:gZ)(n:Nat):Prop where
 w:cy T.steps Bk.new=some T.bk
 lt: ∀st∈T.steps,0<=st.1/\st.1 < (n:Int)
 inc:T.steps.Pairwise fun a b=>a.1 < b.1
 tl: ∀st∈T.steps,st.2.tells=true
 len:T.steps.length<=n
def Good.new:Good gZ.new 0:=⟨rfl,(fun _ h=>by cases h),List.Pairwise.nil,(fun _ h=>by cases h),aD _⟩
def Good.mono {T:gZ}{n m:Nat}(h:Good T n)(k:n<=m):Good T m:=⟨h.w,fun st hs=>⟨(h.lt st hs).1,by have:=(h.lt st hs).2; lia⟩,h.inc,h.tl,aV h.len k⟩
def Good.wf {T:gZ}{n:Nat}(h:Good T n)(hn:n<=60):WF T.bk n:=by
 have z:=sJ T.steps WF.new h.w (by have:=h.len; lia);rw[Nat.zero_add] at z;exact z.mono h.len
def Good.add {T:gZ}{n:Nat}(h:Good T n){d:bg}(ht:d.tells=true)(hb:T.bk.bar d=""):Good ⟨T.steps ++ [((n:Int),d)],T.bk.enter d⟩ (n + 1):=by
 refine⟨?_,fun st hs=>?_,?_,fun st hs=>?_,?_⟩
 ·show cy (T.steps ++ [((n:Int),d)]) Bk.new=_;rw[lh,h.w];show(if T.bk.bar d="" then some (T.bk.enter d) else none)=_;rw[aY hb]
 ·rcases bc.mp hs with hs|hs
  ·have:=h.lt st hs;lia
  ·rw[ao.mp hs];show(0:Int)<=(n:Int)/\(n:Int) < _;lia
 ·rw[List.pairwise_append];refine⟨h.inc,List.pairwise_singleton _ _,fun a ha b hb=>?_⟩;rw[ao.mp hb];exact(h.lt a ha).2
 ·rcases bc.mp hs with hs|hs
  ·exact h.tl st hs
  ·rw[ao.mp hs];exact ht
 ·show(T.steps ++ [_]).length<=_;rw[ax];have:=h.len;show _ + 1<=_;lia
def Good.gK {T:gZ}{n:Nat}(h:Good T n)(m k:Int):Good (cV T k (.gK m)).2 n/\ ∃s,(cV T k (.gK m)).1= .txt s:=by
 rw[cV];split
 ·exact⟨h,_,rfl⟩
 ·cases e:cy (T.steps.filter (cD m)) Bk.new with
  |none=>exact⟨h,_,rfl⟩
  |some S=>exact⟨⟨e,fun st hs=>h.lt st (ee.mp hs).1,h.inc.filter _,fun st hs=>h.tl st (ee.mp hs).1,aV (aW _ _) h.len⟩,_,rfl⟩
def Good.step {T:gZ}{n:Nat}(h:Good T n)(d:bg):Good (cV T n d).2 (n + 1):=by
 have keep:=h.mono (cM n);have dflt: ∀d:bg,d.tells=true->Good (if T.bk.bar d="" then(T.bk.Jz d,(⟨T.steps ++ [((n:Int),d)],T.bk.enter d⟩:gZ)) else(.txt (T.bk.bar d),T)).2 (n + 1):=fun d ht=>by
  split
  ·rename_i hb;exact h.add ht hb
  ·exact keep
 cases d with
 |gK m=>exact(h.gK m n).1.mono (cM n)
 |ask o w d=>exact keep
 |hZ w d l=>exact keep
 |dM w d u a=>exact dflt _ rfl
 |pz w d a=>exact dflt _ rfl
 |note b d a=>exact dflt _ rfl
 |set c b a=>exact dflt _ rfl
 |bU w=>exact dflt _ rfl
def jk: ∀(l:List bg) (T:gZ) (n:Nat),(dN l T n).1.length=l.length
 |[],_,_=>rfl
 |d :: l,T,n=>by
  show(dN l _ _).1.length + 1=_;rw[jk l];rfl
def bg.dt:bg->Dt
 | .dM w d u a=> .tup [.str "bill",.str w,.int d,.int u,.int a]
 | .pz w d a=> .tup [.str "pay",.str w,.int d,.int a]
 | .note b d a=> .tup [.str "note",.int b,.int d,.int a]
 | .set c b a=> .tup [.str "set",.int c,.int b,.int a]
 | .bU w=> .tup [.str "sweep",.str w]
 | .gK n=> .tup [.str "undo",.int n]
 | .ask o w d=> .tup [.str (if o then "owed" else "free"),.str w,.int d]
 | .hZ w d l=> .tup [.str "ages",.str w,.int d,.tup (l.map Dt.int)]
def eu:Int:=10 ^ 62
def Fl {x:Int}(h:x<=10 ^ 60):x<=eu:=l5 h (by decide +kernel)
def bg.ok:bg->Prop
 | .dM _ d _ _=>d<=eu
 | .pz _ d _=>d<=eu
 | .note _ d _=>d<=eu
 | .hZ _ _ l=>l.length<=11/\l.Pairwise (· < ·)/\ ∀x∈l,1<=x
 |_=>True
mutual
def Dt.Li:Dt->Bool
 | .lst _=>false
 | .tup ds=>Dt.xc ds
 | .eA=>true
 | .bl _=>true
 | .int _=>true
 | .str _=>true
def Dt.xc:List Dt->Bool
 |[]=>true
 |d :: ds=>d.Li && Dt.xc ds
end
def cI (H H':Hp):Prop:= ∀b xs,H b=some (.tup xs)->H' b=some (.tup xs)
def cI.trans {H1 H2 H3:Hp}(a:cI H1 H2)(b:cI H2 H3):cI H1 H3:=fun x xs e=>b x xs (a x xs e)
def aF.tk {H H':Hp}(s:aF H H'):cI H H':=fun b xs e=>s _ _ e
def dU {H:Hp}{p:Addr}{o:HO}{ys:List V}(h:H p=some (.lst ys)):cI H (upd H p o):=dQ h
mutual
def Rp.BJ {H H':Hp}(k:cI H H'): ∀(d:Dt) {v:V},d.Li=true->Rp H d v->Rp H' d v
 | .eA,_,_,h=>ve.mpr (ve.mp h)
 | .bl _,_,_,h=>qW.mpr (qW.mp h)
 | .int _,_,_,h=>dA.mpr (dA.mp h)
 | .str _,_,_,h=>fj.mpr (fj.mp h)
 | .tup ds,_,n,h=>by
  obtain⟨a,xs,e,h1,h2⟩:=jW.mp h;exact jW.mpr ⟨a,xs,e,k _ _ h1,gY.BJ k ds (by simpa[Dt.Li] using n) h2⟩
 | .lst ds,_,n,h=>by simp[Dt.Li] at n
def gY.BJ {H H':Hp}(k:cI H H'): ∀(ds:List Dt) {vs:List V},Dt.xc ds=true->gY H ds vs->gY H' ds vs
 |[],_,_,h=>cq.mpr (cq.mp h)
 |d :: ds,_,n,h=>by
  obtain⟨v,r,e,h1,h2⟩:=br.mp h;have n':d.Li=true/\Dt.xc ds=true:=by simpa[Dt.xc] using n
  exact br.mpr ⟨v,r,e,Rp.BJ k d n'.1 h1,gY.BJ k ds n'.2 h2⟩
end
def GV (l:List Int):Dt.xc (l.map Dt.int)=true:=by
 induction l with
 |nil=>rfl
 |cons x l ih=>simp[Dt.xc,Dt.Li,ih]
def bg.Li (d:bg):d.dt.Li=true:=by
 cases d <;> simp[bg.dt,Dt.Li,Dt.xc,GV]
def GW (ds:List bg):Dt.xc (ds.map bg.dt)=true:=by
 induction ds with
 |nil=>rfl
 |cons d ds ih=>simp[Dt.xc,bg.Li,ih]
def eD (H:Hp)(ds:List bg)(ms:List V):Prop:=gY H (ds.map bg.dt) ms
def eD.mono {H H':Hp}{ds:List bg}{ms:List V}(h:eD H ds ms)(k:cI H H'):eD H' ds ms:=gY.BJ k _ (GW ds) h
def eD.snoc {H:Hp}{ds:List bg}{ms:List V}{d:bg}{v:V}(h:eD H ds ms)(hd:Rp H d.dt v):eD H (ds ++ [d]) (ms ++ [v]):=by
 unfold eD;rw[aL];exact gY.append h (gY.one hd)
def eD.length {H:Hp}{ds:List bg}{ms:List V}(h:eD H ds ms):ds.length=ms.length:=by
 have:=gY.length h;rwa [ae] at this
def Ml (n:Nat)(b:Str):(List.replicate n [V.str b]).flatten=(List.replicate n b).map V.str:=by
 induction n with
 |zero=>rfl
 |succ n ih=>rw[dv,iX,ih,dv]; rfl
def Rw.vs (r:Rw):List V:=[.str r.aH,.int r.a,.int r.b,.int r.c,.int r.d]
structure fJ where
 pb:Addr
 pc:Addr
 pm:Addr
 iK:List Addr
 cps:List Addr
def fJ.fp (f:fJ):List Addr:=f.pb :: f.pc :: f.pm :: (f.iK ++ f.cps)
def bk3 (f:fJ):List (Key×V):=[(Sum.inr "bills",.ref f.pb),(Sum.inr "credits",.ref f.pc),(Sum.inr "made",.ref f.pm)]
def eW (H:Hp)(rs:List Rw)(ps:List Addr):Prop:=Paired (fun(r:Rw) p=>H p=some (.lst r.vs)) rs ps
def iw (H:Hp)(ms:List (Nat×Nat×Int))(vs:List V):Prop:=Paired (fun(t:Nat×Nat×Int) v=> ∃p,v= .ref p/\H p=some (.tup [.int t.1,.int t.2.1,.int t.2.2])) ms vs
def iw.mono {H H':Hp}{ms:List (Nat×Nat×Int)}{vs:List V}(h:iw H ms vs)(k:cI H H'):iw H' ms vs:=
 Paired.gX h fun _ _ ⟨p,e,q⟩=>⟨p,e,k _ _ q⟩
structure dr (H:Hp)(sd:Addr)(S:Bk)(f:fJ):Prop where
 dict:H sd=some (.dK (bk3 f))
 hb:H f.pb=some (.lst (f.iK.map V.ref))
 hc:H f.pc=some (.lst (f.cps.map V.ref))
 hm: ∃ms,H f.pm=some (.lst ms)/\iw H S.made ms
 rb:eW H S.aE f.iK
 rc:eW H S.credits f.cps
 nd:f.fp.Nodup
 ns:sd∉f.fp
def eW.keep {H H':Hp}{rs:List Rw}{ps:List Addr}(h:eW H rs ps)(k: ∀p∈ps,∀o,H p=some o->H' p=some o):eW H' rs ps:=by
 induction h with
 |nil=>exact .nil
 | @cons r p rs ps hr t ih=>exact .cons (k p aS _ hr) (ih fun q hq=>k q (aI _ hq))
def dr.keep {H H':Hp}{sd:Addr}{S:Bk}{f:fJ}(h:dr H sd S f)(k: ∀b o,(b=sd∨b∈f.fp)->H b=some o->H' b=some o)(t:cI H H'):dr H' sd S f:=by
 obtain⟨ms,m1,m2⟩:=h.hm;refine⟨k _ _ (.inl rfl) h.dict,k _ _ (.inr (by simp[fJ.fp])) h.hb,k _ _ (.inr (by simp[fJ.fp])) h.hc,⟨ms,k _ _ (.inr (by simp[fJ.fp])) m1,m2.mono t⟩,h.rb.keep fun p hp o e=>k p o (.inr (by simp[fJ.fp,hp])) e,h.rc.keep fun p hp o e=>k p o (.inr (by simp[fJ.fp,hp])) e,h.nd,h.ns⟩
def dr.same {H H':Hp}{sd:Addr}{S:Bk}{f:fJ}(h:dr H sd S f)(s:aF H H'):dr H' sd S f:=h.keep (fun b o _ e=>s _ _ e) s.tk
def Frame (fp:List Addr)(H H':Hp):Prop:= ∀b o,b∉fp->H b=some o->H' b=some o
def Frame.refl {fp:List Addr}{H:Hp}:Frame fp H H:=fun _ _ _ e=>e
def Frame.trans {fp Th:List Addr}{H1 H2 H3:Hp}(a:Frame fp H1 H2)(b:Frame Th H2 H3)(h: ∀x∈Th,x∈fp∨H1 x=none):Frame fp H1 H3:=fun x o hx e=>
 b x o (fun hx'=>by
  rcases h x hx' with h|h
  ·exact hx h
  ·rw[h] at e; cases e) (a x o hx e)
def aF.frame {fp:List Addr}{H H':Hp}(s:aF H H'):Frame fp H H':=fun b o _ e=>s _ _ e
def Frame.upd {fp:List Addr}{H:Hp}{p:Addr}{o:HO}(h:p∈fp):Frame fp H (upd H p o):=fun b u hb e=>by
 have jy:b≠p:=fun z=>hb (by rw[z]; exact h);rw[az jy]; exact e
def Frame.same {fp:List Addr}{H0 H H':Hp}(a:Frame fp H H')(s:aF H0 H)(h: ∀x∈fp,H0 x=none):aF H0 H':=fun b o e=>a b o (fun hb=>by rw[h b hb] at e; cases e) (s b o e)
def eW.length {H:Hp}{rs:List Rw}{ps:List Addr}(h:eW H rs ps):rs.length=ps.length:=aO h
def eW.at {H:Hp}{rs:List Rw}{ps:List Addr}(h:eW H rs ps){i:Nat}(hi:i < rs.length): ∃p,ps[i]? =some p/\H p=some (.lst (rs.getD i default).vs):=by
 obtain⟨p,e,q⟩:=bK h (af hi);refine⟨p,e,?_⟩;rw[ak,af hi];exact q
def eW.set {H:Hp}: ∀{rs:List Rw} {ps:List Addr} {i:Nat} {p:Addr} {r:Rw},eW H rs ps->ps.Nodup->ps[i]? =some p->eW (upd H p (.lst r.vs)) (rs.set i r) ps
 |_,_,i,p,r,.nil,_,h=>by simp at h
 |_,_,0,p,r,.cons (b:=q) hr t,nd,h=>by
  injection h with h;subst h;rw[dI] at nd;refine .cons ag (eW.keep t fun x hx o e=>?_);have jy:x≠q:=fun z=>nd.1 (by rw[← z]; exact hx);rw[az jy]; exact e
 |_,_,i + 1,p,r,.cons (b:=q) hr t,nd,h=>by
  rw[dI] at nd;rw[List.getElem?_cons_succ] at h;have jy:q≠p:=fun z=>nd.1 (by rw[z]; exact ez h);refine .cons ?_ (eW.set t nd.2 h);rw[az jy]; exact hr
def eW.ix {H:Hp}{rs:List Rw}{ps:List Addr}{p:Addr}{o:HO}(h:eW H rs ps)(hp:p∉ps):eW (upd H p o) rs ps:=
 h.keep fun q hq u e=>by
  have jy:q≠p:=fun z=>hp (by rw[← z]; exact hq);rw[az jy]; exact e
def fJ.Ti {f:fJ}(h:f.fp.Nodup):f.pb≠f.pc/\f.pb≠f.pm/\f.pc≠f.pm/\(∀p∈f.iK,p≠f.pb/\p≠f.pc/\p≠f.pm/\p∉f.cps)/\(∀p∈f.cps,p≠f.pb/\p≠f.pc/\p≠f.pm/\p∉f.iK)/\f.iK.Nodup/\f.cps.Nodup:=by
 unfold fJ.fp at h;simp only[List.nodup_cons,List.mem_cons,List.mem_append,not_or,List.nodup_append] at h;obtain⟨⟨h1,h2,h3,h4⟩,⟨h5,h6,h7⟩,⟨h8,h9⟩,Lj,X4,We⟩:=h;refine⟨h1,h2,h5,fun p hp=>⟨fun e=>h3 (e▸hp),fun e=>h6 (e▸hp),fun e=>h8 (e▸hp),fun hc=>We p hp p hc rfl⟩,fun p hp=>⟨fun e=>h4 (e▸hp),fun e=>h7 (e▸hp),fun e=>h9 (e▸hp),fun hb=>We p hb p hp rfl⟩,Lj,X4⟩
def dr.setB {H:Hp}{sd:Addr}{S:Bk}{f:fJ}(h:dr H sd S f){i:Nat}{p:Addr}{r:Rw}(hp:f.iK[i]? =some p)(hl: ∃xs,H p=some (.lst xs)):dr (upd H p (.lst r.vs)) sd {S with aE:=S.aE.set i r} f:=by
 obtain⟨d1,d2,d3,d4,d5,d6,d7⟩:=fJ.Ti h.nd;have hm:=ez hp;obtain⟨e1,e2,e3,e4⟩:=d4 p hm;obtain⟨ms,m1,m2⟩:=h.hm;obtain⟨xs,hx⟩:=hl;have es:sd≠p:=fun z=>h.ns (by rw[z]; simp[fJ.fp,hm]);exact⟨by rw[az es]; exact h.dict,by rw[az e1.symm]; exact h.hb,by rw[az e2.symm]; exact h.hc,⟨ms,by rw[az e3.symm]; exact m1,m2.mono (dU hx)⟩,h.rb.set d6 hp,h.rc.ix e4,h.nd,h.ns⟩
def dr.setC {H:Hp}{sd:Addr}{S:Bk}{f:fJ}(h:dr H sd S f){i:Nat}{p:Addr}{r:Rw}(hp:f.cps[i]? =some p)(hl: ∃xs,H p=some (.lst xs)):dr (upd H p (.lst r.vs)) sd {S with credits:=S.credits.set i r} f:=by
 obtain⟨d1,d2,d3,d4,d5,d6,d7⟩:=fJ.Ti h.nd;have hm:=ez hp;obtain⟨e1,e2,e3,e4⟩:=d5 p hm;obtain⟨ms,m1,m2⟩:=h.hm;obtain⟨xs,hx⟩:=hl;have es:sd≠p:=fun z=>h.ns (by rw[z]; simp[fJ.fp,hm]);exact⟨by rw[az es]; exact h.dict,by rw[az e1.symm]; exact h.hb,by rw[az e2.symm]; exact h.hc,⟨ms,by rw[az e3.symm]; exact m1,m2.mono (dU hx)⟩,h.rb.ix e4,h.rc.set d7 hp,h.nd,h.ns⟩
def dr.X5 {H:Hp}{sd:Addr}{S:Bk}{f:fJ}(h:dr H sd S f){ms:List V}{t:Nat×Nat×Int}{p:Addr}(hm:H f.pm=some (.lst ms))(hms:iw H S.made ms)(hp:H p=some (.tup [.int t.1,.int t.2.1,.int t.2.2])):
  dr (upd H f.pm (.lst (ms ++ [.ref p]))) sd {S with made:=S.made ++ [t]} f:=by
 obtain⟨d1,d2,d3,d4,d5,d6,d7⟩:=fJ.Ti h.nd;have es:sd≠f.pm:=fun z=>h.ns (by rw[z]; simp[fJ.fp]);exact⟨by rw[az es]; exact h.dict,by rw[az d2]; exact h.hb,by rw[az d3]; exact h.hc,⟨_,ag,cu (hms.mono (dU hm)) ⟨p,rfl,dQ hm _ _ hp⟩⟩,h.rb.ix fun z=>(d4 _ z).2.2.1 rfl,h.rc.ix fun z=>(d5 _ z).2.2.1 rfl,h.nd,h.ns⟩
def Tj:("bills":Str)≠"credits":=by decide +kernel
def Tn:("bills":Str)≠"made":=by decide +kernel
def To:("credits":Str)≠"made":=by decide +kernel
def Tp (a b c:V):gu [((Sum.inr "bills":Key),a),(Sum.inr "credits",b),(Sum.inr "made",c)] (Sum.inr "bills")=some a:=by
 unfold gu;rw[List.find?_cons_of_pos (by simp)]; rfl
def Tq (a b c:V):gu [((Sum.inr "bills":Key),a),(Sum.inr "credits",b),(Sum.inr "made",c)] (Sum.inr "credits")=some b:=by
 unfold gu;rw[List.find?_cons_of_neg (by simpa using Tj),List.find?_cons_of_pos (by simp)]; rfl
def Tr (a b c:V):gu [((Sum.inr "bills":Key),a),(Sum.inr "credits",b),(Sum.inr "made",c)] (Sum.inr "made")=some c:=by
 unfold gu;rw[List.find?_cons_of_neg (by simpa using Tn),List.find?_cons_of_neg (by simpa using To),List.find?_cons_of_pos (by simp)]; rfl
def Pq (a b c:V):qb [] [((Sum.inr "bills":Key),a),(Sum.inr "credits",b),(Sum.inr "made",c)]=[((Sum.inr "bills":Key),a),(Sum.inr "credits",b),(Sum.inr "made",c)]:=by
 unfold qb;rw[cz,cz,cz,List.foldl_nil];have h1:putK ([]:List (Key×V)) (Sum.inr "bills") a=[((Sum.inr "bills":Key),a)]:=by
  unfold putK; rw[if_neg (by simp)]; rfl
 have h2:putK [((Sum.inr "bills":Key),a)] (Sum.inr "credits") b=[((Sum.inr "bills":Key),a),(Sum.inr "credits",b)]:=by
  unfold putK; rw[if_neg (by simpa using Tj)]; rfl
 have h3:putK [((Sum.inr "bills":Key),a),(Sum.inr "credits",b)] (Sum.inr "made") c=[((Sum.inr "bills":Key),a),(Sum.inr "credits",b),(Sum.inr "made",c)]:=by
  unfold putK; rw[if_neg (by simpa using⟨Tn,To⟩)]; rfl
 dsimp only;rw[h1,h2,h3]
def dr.gB {H:Hp}{sd:Addr}{S:Bk}{f:fJ}(h:dr H sd S f):mS H sd (.str "bills") (some (.ref f.pb)):=Tp (.ref f.pb) (.ref f.pc) (.ref f.pm)▸mS.k (k:=Sum.inr "bills") h.dict
def dr.gC {H:Hp}{sd:Addr}{S:Bk}{f:fJ}(h:dr H sd S f):mS H sd (.str "credits") (some (.ref f.pc)):=Tq (.ref f.pb) (.ref f.pc) (.ref f.pm)▸mS.k (k:=Sum.inr "credits") h.dict
def dr.gM {H:Hp}{sd:Addr}{S:Bk}{f:fJ}(h:dr H sd S f):mS H sd (.str "made") (some (.ref f.pm)):=Tr (.ref f.pb) (.ref f.pc) (.ref f.pm)▸mS.k (k:=Sum.inr "made") h.dict
def dr.lb {H:Hp}{sd:Addr}{S:Bk}{f:fJ}(h:dr H sd S f){b:Nat}(hb:b < S.aE.length): ∃p,f.iK[b]? =some p/\uv (f.iK.map V.ref) (b:Int)=some (.ref p)/\H p=some (.lst (S.bl b).vs):=by
 obtain⟨p,e,q⟩:=h.rb.at hb;exact⟨p,e,cw (by rw[aC,e]; rfl),q⟩
def dr.lc {H:Hp}{sd:Addr}{S:Bk}{f:fJ}(h:dr H sd S f){b:Nat}(hb:b < S.credits.length): ∃p,f.cps[b]? =some p/\uv (f.cps.map V.ref) (b:Int)=some (.ref p)/\H p=some (.lst (S.cr b).vs):=by
 obtain⟨p,e,q⟩:=h.rc.at hb;exact⟨p,e,cw (by rw[aC,e]; rfl),q⟩
section
variable {prog:Program}{w:World}{A:Around}{E:Value->Shared->Prop}
def tM (prog:Program)(w:World)(A:Around)(kS:Addr)(f:Value)(Fi:List Value->Shared->Prop):List Value->List Value->Shared->Prop
 |[],ks,s=>Fi ks s
 |v :: r,ks,s=>wpAny (model prog w) A (call f [v]) (fun k s'=> ∃e,s'.heap.get? kS=some (seqObj "list" ks.toArray e)/\ ∀h' c,Heap.SameBut kS s'.heap h'->h'.get? kS=some (seqObj "list" (ks ++ [k]).toArray c)->tM prog w A kS f Fi r (ks ++ [k]) {s' with heap:=h'}) (fun _ _=>False) s
def GX (prog:Program)(w:World)(A:Around)(D kS:Addr)(e1:Nat)(vs:List Value)(Q:Shared->Prop)(ks:List Value)(s:Shared):Prop:=
 ∃(κ:SortKind) (key:Nat->Int),D≠kS/\s.heap.get? D=some (seqObj "list" #[] e1)/\(2<=vs.length-> ∀Q':SortKind->Shared->Prop,Q' κ s->wpAny (model prog w) A (keyKind' ks.toArray) Q' (fun _ _=>False) s)/\
  (∀(i j:Nat) (C:Bool->Shared->Prop),i < vs.length->j < vs.length->C (decide (key i < key j)) s->wpAny (model prog w) A (keyLt' κ (ks.getD i Value.none) (ks.getD j Value.none)) C (fun _ _=>False) s)/\
  ∀(p:Array Nat) (h':Heap) (n:Nat),qX vs.length p->lH key p vs.length->h'.objs.size=s.heap.objs.size->h'.get? D=some (seqObj "list" (p.toList.map fun i=>vs.getD i Value.none).toArray n)->(∀b,b≠D->b≠kS->h'.get? b=s.heap.get? b)->Q {s with heap:=h'}
def Fm {f:Value}{kS:Addr}{Fi:List Value->Shared->Prop}{n:Nat}{body:Value->PUnit->Sem (ForInStep PUnit)}(hn:n < 64)
  (hb: ∀x ks (s:Shared) (C:Value->Shared->Prop),List.length ks < 64->wpAny (model prog w) A (call f [x]) (fun k s'=> ∃e,s'.heap.get? kS=some (seqObj "list" ks.toArray e)/\ ∀h' c,Heap.SameBut kS s'.heap h'->h'.get? kS=some (seqObj "list" (ks ++ [k]).toArray c)->C k {s' with heap:=h'}) (fun _ _=>False) s->
   wpAny (model prog w) A (body x ⟨⟩) (fun r s'=>r= .yield ⟨⟩/\ ∃k c,s'.heap.get? kS=some (seqObj "list" (ks ++ [k]).toArray c)/\C k s') E s): ∀(r ks:List Value) (e:Nat) (s:Shared),ks.length + r.length=n->
   s.heap.get? kS=some (seqObj "list" ks.toArray e)->tM prog w A kS f Fi r ks s->
   wpAny (model prog w) A (forIn r PUnit.unit body) (fun _ s'=> ∃ks e,s'.heap.get? kS=some (seqObj "list" ks.toArray e)/\ks.length=n/\Fi ks s') E s
 |[],ks,e,s,hl,hk,h=>by
  rw[List.forIn_nil];exact wpAny_pure ⟨ks,e,hk,by simpa using hl,h⟩
 |x :: r,ks,e,s,hl,hk,h=>by
  rw[bO] at hl;rw[List.forIn_cons];refine aB (ck (hb x ks s (fun k s'=>tM prog w A kS f Fi r (ks ++ [k]) s') (by lia) h) (fun q s' hq=>?_) fun _ _ x=>x);obtain⟨rfl,k,c,Lh,h2⟩:=hq;show wpAny (model prog w) A (forIn r PUnit.unit body) _ E s';exact Fm hn hb r (ks ++ [k]) c s' (by rw[ax,List.length_singleton]; lia) Lh h2
variable {s:Shared}
def Fn {D kS:Addr}{e e1:Nat}{ks out:List Value}{st:SortSt}{P:PySem.Fin->Shared->Prop}(hD:s.heap.get? D=some (seqObj "list" #[] e1))(hk:s.heap.get? kS=some (seqObj "list" ks.toArray e))(ne:D≠kS)
  (DY:(arrOf st).map (·.2)=out.toArray) (hz:out.length < 64) (hkz:ks.length < 64) (hf:failedOf st=none)
  (h: ∀(h':Heap) (n:Nat),h'.objs.size=s.heap.objs.size->h'.get? D=some (seqObj "list" out.toArray n)->(∀b,b≠D->b≠kS->h'.get? b=s.heap.get? b)->P (.done (.ret .none)) {s with heap:=h'}):
  wpAny (model prog w) A (ksk_tail D false e1 (.ref kS) st) P E s:=by
 have hl:sizeLine=16777216:=eP;unfold ksk_tail
 try dsimp only
 rw[DY];have s1:=sm s.heap kS (Obj.mapSeq fun _=>(#[]:Array Value));have d1:(s.heap.update kS (Obj.mapSeq fun _=>(#[]:Array Value))).get? D=some (seqObj "list" #[] e1):=(s1.2 D ne).trans hD;have s2:=sm (s.heap.update kS (Obj.mapSeq fun _=>(#[]:Array Value))) D (Obj.mapSeq fun _=>out.toArray);obtain⟨c2,Mh⟩: ∃c2,((s.heap.update kS (Obj.mapSeq fun _=>(#[]:Array Value))).update D (Obj.mapSeq fun _=>out.toArray)).get? D=some (seqObj "list" out.toArray c2):=⟨_,NF d1 fun _=>out.toArray⟩;refine aB (wK hk rfl ?_ (by rw[bA]; lia) (bq _));refine aB (wpAny_letGo ?_);refine aB (seqEpoch_at d1 rfl ?_);simp only[Bool.false_eq_true,if_false];refine aB (wK d1 rfl ?_ (bq _) (by rw[bA]; lia));rw[hf];simp only[bne_self_eq_false,Bool.false_eq_true,if_false];refine bF (h _ c2 (s2.1.trans s1.1) Mh fun b n1 n2=>(s2.2 b n1).trans (s1.2 b n2))
def Pr {D kS:Addr}{e e1:Nat}{ks vs:List Value}{P:PySem.Fin->Shared->Prop}(hk:s.heap.get? kS=some (seqObj "list" ks.toArray e))(hl:ks.length=vs.length)(Dl:vs.length < 64)
  (h:GX prog w A D kS e1 vs (fun s'=>P (.done (.ret .none)) s') ks s):wpAny (model prog w) A (ksk_end D false vs.toArray e1 (.ref kS) ks.toArray) P E s:=by
 obtain⟨κ,key,ne,hD,kind,cmp,fin⟩:=h;have hsz:vs.toArray.size=vs.length:=by simp
 unfold ksk_end
 try dsimp only
 simp only[Bool.false_eq_true,if_false];by_cases h2:vs.toArray.size < 2
 ·rw[aY h2,aY h2];refine aB (bF ?_);rw[StateT.run_pure];refine aB (bF ?_);dsimp only;have DY:(arrOf (SortSt.mk' general' (ks.toArray.zip vs.toArray) #[] 7 none)).map (·.2)=((List.toArray (List.range vs.length)).toList.map fun i=>vs.getD i Value.none).toArray:=by
   show(ks.toArray.zip vs.toArray).map (·.2)=_;apply Array.toList_inj.mp;have e1:((ks.toArray.zip vs.toArray).map (·.2)).toList=vs:=by
    rw[Array.toList_map,Array.toList_zip];exact List.map_snd_zip (by rw[Bb,Bb]; lia)
   rw[e1];show vs=(List.range vs.length).map fun i=>vs.getD i Value.none;exact(range_getD vs Value.none).symm
  refine Fn hD hk ne DY (by rw[ae,Bb,dC]; exact Dl) (by lia) rfl fun h' n z1 z2 z3=>?_;refine fin (List.toArray (List.range vs.length)) h' n (LA _) (fun i j hij hj=>?_) z1 z2 z3;have:i=j:=by lia
  subst this;exact fS _
 ·rw[aN h2,aN h2];have Tc:2<=vs.length:=by lia
  refine aB (ck (kind Tc (fun κ' s'=>κ'=κ/\s'=s) ⟨rfl,rfl⟩) (fun κ' s' Lh=>?_) fun _ _ x=>x.elim);obtain⟨rfl,rfl⟩:=Lh;refine aB (ck (kat_run (Q:=fun A4 E2=>E2=s'/\ ∃p:Array Nat,p.size=vs.length/\arrOf A4=p.map (kas_item (ks.toArray.zip vs.toArray))/\failedOf A4=none/\qX vs.length p/\lH key p vs.length)
   (G:=fun p E2=>E2=s'/\qX vs.length p/\lH key p vs.length) (κ:=κ') hl Tc Dl (fun p' A4 E2 a1 a2 a3 a4=>⟨a4.1,p',a1,a2,a3,a4.2⟩) (vf (fun i j C hi hj q=>cmp i j C hi hj q) (fun p q=>⟨rfl,q⟩) _ (Ju (by lia)))) ?_ fun _ _ e=>e)
  rintro⟨⟨⟩,A4⟩ E2 ⟨rfl,p,hp,XZ,hf,q1,q2⟩;dsimp only;exact Fn hD hk ne (kat_snds hl XZ) (by rw[ae,oU,hp]; exact Dl) (by lia) hf fun h' n z1 z2 z3=>fin p h' n q1 q2 z1 z2 z3
def Mm {D:Addr}{n:Nat}{vs:List Value}{f:Value}{P:PySem.Fin->Shared->Prop}(ho:s.heap.get? D=some (seqObj "list" vs.toArray n))(Dl:vs.length < 64)
  (h: ∀(kS:Addr) (e1:Nat) (h':Heap),(∀b o,b≠D->s.heap.get? b=some o->h'.get? b=some o)->h'.get? D=some (seqObj "list" #[] e1)->h'.get? kS=some (seqObj "list" #[] 0)->D≠kS->s.heap.objs.size<=kS->
   tM prog w A kS f (GX prog w A D kS e1 vs (fun s'=>P (.done (.ret .none)) s')) vs [] {s with heap:=h'}):wpAny (model prog w) A (ksk_tree D f false) P E s:=by
 have ha:D < s.heap.objs.size:=aM ho;have hl:sizeLine=16777216:=eP;have s1:=sm s.heap D (Obj.mapSeq fun _=>(#[]:Array Value));obtain⟨e1,GR⟩: ∃e1,(s.heap.update D (Obj.mapSeq fun _=>(#[]:Array Value))).get? D=some (seqObj "list" #[] e1):=⟨_,NF ho fun _=> #[]⟩;have X6:((s.heap.update D (Obj.mapSeq fun _=>(#[]:Array Value))).push (seqObj "tuple" vs.toArray 0)).objs.size=s.heap.objs.size + 1:=by rw[size_push',pT]
 unfold ksk_tree;refine aB (listItems_at ho rfl ?_);refine aB (wK ho rfl ?_ (by rw[bA]; lia) (bq _));refine aB (seqEpoch_at GR rfl ?_);refine aB (wpAny_newTuple ?_ (by show vs.length<=_; lia));refine aB (LB ?_ (bq _));refine iB ?_;generalize hU:((s.heap.update D (Obj.mapSeq fun _=>(#[]:Array Value))).push (seqObj "tuple" vs.toArray 0))=U at X6;have kU: ∀b o,(s.heap.update D (Obj.mapSeq fun _=>(#[]:Array Value))).get? b=some o->U.get? b=some o:=fun b o z=>by
  rw[← hU];exact ay _ z
 have Ry:(U.push (seqObj "list" #[] 0)).get? U.objs.size=some (seqObj "list" #[] 0):=bR _ rfl;have start:=h U.objs.size e1 (U.push (seqObj "list" #[] 0)) (fun b o n z=>ay _ (kU b o ((s1.2 b n).trans z))) (ay _ (kU D _ GR)) Ry (by rw[X6]; exact a7 (iY ha)) (by rw[X6]; exact cM _);show wpAny (model prog w) A (ksk_rest D f false vs.toArray e1 (.ref U.objs.size)) P E {s with heap:=U.push (seqObj "list" #[] 0)};unfold ksk_rest;refine aB (wpAny_rule ?_)
 first
  |rw[List.forIn_toArray]
  |(rw[← Array.forIn_toList]; simp only[List.toList_toArray])
 refine wpAny_bind (wpAny_mono (Fm Dl (fun x ks s' C hz hx=>?_) vs [] 0 _ (by simp) Ry start) (fun _ s' hd=>?_) fun _ _ x=>x)
 ·refine aB (wpAny_attempt (ck hx (fun k E2 hk=>?_) fun _ _ hF=>hF.elim));obtain⟨e,nk,c⟩:=hk;have s2:=sm E2.heap U.objs.size (Obj.mapSeq (·.push k));have ea:ks.toArray.push k=(ks ++ [k]).toArray:=by simp
  obtain⟨c2,Mh⟩: ∃c2,(E2.heap.update U.objs.size (Obj.mapSeq (·.push k))).get? U.objs.size=some (seqObj "list" (ks ++ [k]).toArray c2):=⟨_,by rw[← ea]; exact NF nk (·.push k)⟩
  try dsimp only
  refine aB (wK nk rfl ?_ (by rw[bA]; lia) (aV (iQ (Array.size_push ..)) (by rw[bA]; lia)));exact bF ⟨rfl,k,c2,Mh,c _ c2 s2 Mh⟩
 ·obtain⟨ks,e,Lh,hl',fin⟩:=hd
  try dsimp only
  refine aB (listItems_at Lh rfl ?_);exact Pr Lh hl' Dl fin
def sortedK {l q:Addr}{vs:List Value}{Q:Value->Shared->Prop}(hl:s.heap.IsList l vs.toArray)(Dl:vs.length < 64)
  (h: ∀(D kS:Addr) (e1:Nat) (h':Heap),(∀b o,s.heap.get? b=some o->h'.get? b=some o)->h'.get? D=some (seqObj "list" #[] e1)->h'.get? kS=some (seqObj "list" #[] 0)->D≠kS->s.heap.objs.size<=D->s.heap.objs.size<=kS->
   tM prog w A.in1.in1 kS (.ref q) (GX prog w A.in1.in1 D kS e1 vs (fun s'=>Q (.ref D) s')) vs [] {s with heap:=h'}):
  wpAny (model prog w) A (call (.builtin "sorted") [.ref l] [(Str.ofString "key",.ref q)]) Q E s:=by
 have Wc:sizeLine=16777216:=eP;refine call_function_entry_kw kind_sorted plain_sorted entry_sorted (ksk_s1 _ _) ?_;unfold Builtin.«sorted»;refine aB (m:=checkCount "sorted" 1 1 _) (bF ?_);refine aB (collect_list hl ?_ (by lia));refine aB (LB ?_ (by show vs.length<=_; lia));have hsz:((s.heap.push (seqObj "list" #[] 0)).update s.heap.objs.size (Obj.mapSeq (· ++ vs.toArray))).objs.size=s.heap.objs.size + 1:=by
  rw[pT,size_push']
 generalize hU:((s.heap.push (seqObj "list" #[] 0)).update s.heap.objs.size (Obj.mapSeq (· ++ vs.toArray)))=U at hsz;have keep: ∀b o,s.heap.get? b=some o->U.get? b=some o:=fun b o z=>by
  have lt:b < s.heap.objs.size:=aM z;rw[← hU,IE _ _ _ _ (a7 lt),m8 _ _ _ (a7 lt)];exact z
 have OI:(U.push (seqObj "list" vs.toArray 0)).get? U.objs.size=some (seqObj "list" vs.toArray 0):=bR _ rfl;show wpAny _ _ _ _ _ {s with heap:=U.push (seqObj "list" vs.toArray 0)};refine aB (iB (wpAny_call_entry_kw slot_list_sort ⟨_,OI,rfl⟩ entry_list_sort ?body (ksk_l1 _ _)))
 case body=>
  show wpAny (model prog w) A.in1.in1 (Builtin.«list.sort» ⟨[.ref U.objs.size],[(Str.ofString "key",.ref q)]⟩) _ _ _;rw[ksk_t1];refine Mm (s:={s with heap:=U.push (seqObj "list" vs.toArray 0)}) OI Dl fun kS e1 h' kp d1 k1 ne le=>?_;have z:=h U.objs.size kS e1 h' (fun b o w=>kp b o (fun w2=>by rw[w2] at w; exact absurd (aM w) (by rw[hsz]; exact xZ.mpr (cM _))) (ay _ (keep b o w))) d1 k1 ne (by rw[hsz]; exact cM _) (by
   have le':(U.push (seqObj "list" vs.toArray 0)).objs.size<=kS:=le;rw[size_push',hsz] at le';exact aV (sk (cM _)) le')
  have mono: ∀(r ks:List Value) (s':Shared),tM prog w A.in1.in1 kS (.ref q) (GX prog w A.in1.in1 U.objs.size kS e1 vs (fun s'=>Q (.ref U.objs.size) s')) r ks s'->
    tM prog w A.in1.in1 kS (.ref q) (GX prog w A.in1.in1 U.objs.size kS e1 vs (fun s'=> ∃v,PySem.Fin.done (.ret .none)= .done (.ret v)/\wpAny (model prog w) A.in1 (ret (.ref U.objs.size)) (fun fin s'=> ∃v,fin=PySem.Fin.done (Flow.ret v)/\Q v s') E s')) r ks s':=by
   intro r
   induction r with
   |nil=>
    rintro ks s' ⟨κ,key,a1,a2,a3,a4,a5⟩;exact⟨κ,key,a1,a2,a3,a4,fun p h2 n b1 b2 b3 b4 b5=>⟨_,rfl,bF ⟨_,rfl,a5 p h2 n b1 b2 b3 b4 b5⟩⟩⟩
   |cons v r ih=>
    intro ks s' hh;exact ck hh (fun k s2 ⟨e,z1,z2⟩=>⟨e,z1,fun h2 c w1 w2=>ih _ _ (z2 h2 c w1 w2)⟩) fun _ _ x=>x
  exact mono vs [] _ z
end
end L2
namespace Lk
open PySem
def GY (f:Array Value->Array Value)(o:Obj):(Obj.mapFields f o).dict=o.dict:=by
 obtain⟨c,d,dt,sl⟩:=o;cases dt <;> rfl
def i8 (h:Heap)(e:Addr)(cls:Value)(iT:Option Addr)(vs:Array Value):Prop:= ∃oe,h.get? e=some oe/\oe.cls=cls/\oe.dict=iT/\oe.data= .fields vs
def i8.set {h:Heap}{e:Addr}{cls:Value}{iT:Option Addr}{vs:Array Value}(x:i8 h e cls iT vs)(i:Nat)(v:Value):
  i8 (h.update e (Obj.mapFields (·.setIfInBounds i v))) e cls iT (vs.setIfInBounds i v):=by
 obtain⟨oe,he,hc,hd,hv⟩:=x;have q:=Obj.data_mapFields hv (·.setIfInBounds i v);exact⟨_,Dx _ he (Obj.isFreed_of_fields q),(Obj.cls_mapFields _ _).trans hc,(GY _ _).trans hd,q⟩
def i8.same {h h':Heap}{e:Addr}{cls:Value}{iT:Option Addr}{vs:Array Value}(x:i8 h e cls iT vs)(k: ∀o,h.get? e=some o->h'.get? e=some o):i8 h' e cls iT vs:=
 let⟨oe,he,r⟩:=x
 ⟨oe,k _ he,r⟩
def nK (fr own:List Addr)(h h':Heap):Prop:= ∀b o,h.get? b=some o->b∉own->(b∉fr->h'.get? b=some o)/\ ∃sl,h'.get? b=some {o with slots:=sl}
def nK.trans {fr o1 o2:List Addr}{h h1 h2:Heap}(a:nK fr o1 h h1)(b:nK fr o2 h1 h2):nK fr (o1 ++ o2) h h2:=fun c ob q n=>by
 obtain⟨k,sl,e⟩:=a c ob q (fun z=>n (cZ _ z));obtain⟨_,Wf,e2⟩:=b c _ e (fun z=>n (bw _ z));exact⟨fun hn=>(b c ob (k hn) (fun z=>n (bw _ z))).1 hn,Wf,e2⟩
def nK.mono {fr Rz o1 o2:List Addr}{h h1:Heap}(a:nK fr o1 h h1)(hf: ∀b∈fr,b∈Rz)(ho: ∀b∈o1,b∈o2):nK Rz o2 h h1:=fun c ob q n=>
 let⟨k,sl,e⟩:=a c ob q (fun z=>n (ho c z))
 ⟨fun hn=>k (fun z=>hn (hf c z)),sl,e⟩
def zy {fr:List Addr}{h:Heap}{a:Addr}(f:Obj->Obj):nK fr [a] h (h.update a f):=fun b o q n=>by
 have z:(h.update a f).get? b=some o:=(mX _ _ (fun(e:a=b)=>n (ao.mpr e.symm))).trans q;exact⟨fun _=>z,o.slots,z⟩
def vv {fr own:List Addr}{h:Heap}(o':Obj):nK fr own h (h.push o'):=fun b o q _=>⟨fun _=>ay _ q,o.slots,ay _ q⟩
def i8.but {fr own:List Addr}{h h':Heap}{e:Addr}{cls:Value}{iT:Option Addr}{vs:Array Value}(x:i8 h e cls iT vs)(b:nK fr own h h')(n:e∉own):i8 h' e cls iT vs:=by
 obtain⟨oe,he,hc,hd,hv⟩:=x;obtain⟨_,sl,q⟩:=b e oe he n;exact⟨_,q,hc,hd,hv⟩
def Ll (h:Heap)(T:Addr)(fl:Value):Prop:= ∃c d ts,i8 h T c d ts/\ts[3]? =some fl
def fv {ts:Array Value}{i:Nat}{v:Value}(h:ts[i]? =some v):i < ts.size:=(Array.getElem?_eq_some_iff.mp h).1
def qm {ts:Array Value}{i:Nat}{v:Value}(h:i < ts.size):(ts.setIfInBounds i v)[i]? =some v:=by
 rw[Array.getElem?_setIfInBounds_self_of_lt h]
def q0 {ts:Array Value}{i j:Nat}{v:Value}(h:i≠j):(ts.setIfInBounds i v)[j]? =ts[j]? :=by
 rw[Array.getElem?_setIfInBounds_ne h]
section
variable {M:Model}{A:Around}{E:Value->Shared->Prop}{s:Shared}{env:Env}{outer:List Env}{base:Heap}{L e T:Addr}{cls:Value}{iT:Option Addr}{vs:Array Value}{Q:Unit->Shared->Prop}
def ra {a:Addr}{i:Nat}{v:Value}{R:Value->Shared->Prop}(x:i8 s.heap a cls iT vs)(h:vs[i]? =some v)(q:R v s):wpAny M A (field (.ref a) i) R E s:=by
 obtain⟨oe,he,_,_,hv⟩:=x;exact IF he hv h q
def oH {a:Addr}{i:Nat}{v:Value}(x:i8 s.heap a cls iT vs)(h:i < vs.size)
  (q: ∀h',nK [] [a] s.heap h'->i8 h' a cls iT (vs.setIfInBounds i v)->h'.objs.size=s.heap.objs.size->Q () {s with heap:=h'}):wpAny M A (setField (.ref a) i v) Q E s:=by
 obtain⟨oe,he,hc,hd,hv⟩:=id x;exact wpAny_setField he hv h (q _ (zy _) (x.set i v) (Heap.size_after_update ..))
def vw {fl:Value}(x:i8 s.heap e cls iT vs)(h1:vs[1]? =some (.ref T))(ht:Ll s.heap T fl)
  (q: ∀h',nK [] [T] s.heap h'->Ll h' T .none->h'.objs.size=s.heap.objs.size->Q () {s with heap:=h'}):wpAny M A (setFlight (.ref e) none) Q E s:=by
 obtain⟨c,d,ts,xt,h3⟩:=ht;unfold setFlight;refine aB (ra x h1 ?_);rw[if_pos (show(Value.ref T != Value.none)=true from by simp)];exact oH xt (fv h3) fun h' b x' z=>q h' b ⟨c,d,_,x',qm (fv h3)⟩ z
def entry {head:Value}{had:Bool}(Dm:A.frames=some (env :: outer))(hl:s.heap.FunFrames base (env :: outer))(hf:env.frame=some L)(x:i8 s.heap e cls iT vs)(hsz:1 < vs.size)
  (q: ∀h' T,nK ((env :: outer).filterMap (·.frame)) [e] s.heap h'->i8 h' e cls iT (vs.setIfInBounds 1 (.ref T))->T=s.heap.objs.size->Ll h' T (rawInt L)->Q () {s with heap:=h'}):
  wpAny M A (do let a ← frameOf env; let pl ← entryPlaceOf L had; let b ← EntryCells.newEntry head a .none (rawInt L) .none pl; setField (.ref e) 1 b) Q E s:=by
 refine aB (wpAny_frameOf_fun Dm hl hf fun h1 so=>?_);refine aB (wpAny_entryPlaceOf fun pl iS=>?_);unfold EntryCells.newEntry newFields;refine aB (wpAny_newObj_type ?_ (iS.sizeOk5 _ _ _ _ _));have b1:nK ((env :: outer).filterMap (·.frame)) [] s.heap h1:=fun b o z _=>⟨fun n=>(so.2.1 b n).trans z,so.2.2 b o z⟩;have x1:i8 h1 e cls iT vs:=x.but b1 (by simp);generalize Wg:({cls:= .type "traceback",dict:=none,data:= .fields ([head,.ref L,.none,rawInt L,.none] ++ (if pl.isEmpty then List.replicate 6 Value.none else pl)).toArray}:Obj)=ob;have x2:i8 (h1.push ob) e cls iT vs:=x1.same fun o z=>ay _ z;have ne:h1.objs.size≠e:=by
  obtain⟨_,z,_⟩:=x1;exact qB (aM z)
 have xt:i8 (h1.push ob) h1.objs.size ob.cls ob.dict ([head,.ref L,.none,rawInt L,.none] ++ (if pl.isEmpty then List.replicate 6 Value.none else pl)).toArray:=by
  subst Wg;exact⟨_,bR _ rfl,rfl,rfl,rfl⟩
 refine oH (s:={s with heap:=h1.push ob}) x2 hsz fun h' b x' _=>q h' h1.objs.size ?_ x' so.1 ⟨_,_,_,xt.but b (by simpa using ne),?_⟩
 ·exact((b1.trans (vv ob (own:=[]))).trans (b.mono (by simp) (fun _ z=>z))).mono (fun _ z=>z) (by simp)
 ·simp
def Pt (Dm:A.frames=some (env :: outer))(hl:s.heap.FunFrames base (env :: outer))(hf:env.frame=some L)(x:i8 s.heap e cls iT vs)(h1:vs[1]? =some .none)
  (q: ∀h' T,nK ((env :: outer).filterMap (·.frame)) [e] s.heap h'->i8 h' e cls iT (vs.setIfInBounds 1 (.ref T))->T=s.heap.objs.size->Ll h' T .none->Q () {s with heap:=h'}):
  wpAny M A (leaving env (.ref e)) Q E s:=by
 have ne:s.heap.objs.size≠e:=by
  obtain⟨_,z,_⟩:=x;exact qB (aM z)
 unfold leaving noteFrame;simp only[hf];refine aB (aB (ra x h1 ?_));rw[aN (by decide)];refine entry Dm hl hf x (fv h1) fun h' T b x' hT t=>?_;refine vw x' (qm (fv h1)) t fun h2 b2 t2 _=>q h2 T ?_ (x'.but b2 (by rw[hT]; simpa using ne.symm)) hT t2;intro c o z n;have hc:c≠T:=fun w=>by rw[w,hT] at z; exact absurd (aM z) (iV _)
 exact(b.trans (b2.mono (by simp) (fun _ z=>z))) c o z (by simpa using⟨by simpa using n,hc⟩)
def NU (Dm:A.frames=some (env :: outer))(hl:s.heap.FunFrames base (env :: outer))(hf:env.frame=some L)(x:i8 s.heap e cls iT vs)(h1:vs[1]? =some (.ref T))(ht:Ll s.heap T .none)(X7:T≠e)
  (q: ∀h' T',nK ((env :: outer).filterMap (·.frame)) [T,e] s.heap h'->i8 h' e cls iT (vs.setIfInBounds 1 (.ref T'))->T'=s.heap.objs.size->Ll h' T' (rawInt L)->Q () {s with heap:=h'}):
  wpAny M A (noteFrame (.ref e) env) Q E s:=by
 obtain⟨c,d,ts,xt,h3⟩:=ht;unfold noteFrame;simp only[hf];refine aB (ra x h1 ?_);rw[if_pos (show(Value.ref T != Value.none)=true from by simp)];refine aB (ra xt h3 ?_);rw[if_neg (show ¬ ((Value.none == rawInt L)=true) from by simp[rawInt])];refine aB (oH xt (fv h3) fun h' b xt' sz=>?_);refine entry (s:={s with heap:=h'}) Dm (hl.of_keeps fun a o z nf=>?_) hf (x.but b (by simpa using X7.symm)) (fv h1) fun h2 T' b2 x2 hT t2=>q h2 T' ?_ x2 (hT.trans sz) t2
 ·have na:a≠T:=fun w=>by
   obtain⟨_,z',_,_,hd⟩:=xt;rw[w,z'] at z;cases z;exact nf _ hd
  obtain⟨_,sl,z'⟩:=b a o z (by simpa using na);exact⟨_,z',rfl⟩
 ·exact((b.mono (fun _ z=>absurd z (by simp)) (fun _ z=>z)).trans b2).mono (fun _ z=>z) (by simp)
def Pu (Dm:A.frames=some (env :: outer))(hl:s.heap.FunFrames base (env :: outer))(hf:env.frame=some L)(x:i8 s.heap e cls iT vs)(h1:vs[1]? =some (.ref T))(ht:Ll s.heap T .none)(X7:T≠e)
  (q: ∀h' T',nK ((env :: outer).filterMap (·.frame)) [T,e] s.heap h'->i8 h' e cls iT (vs.setIfInBounds 1 (.ref T'))->T'=s.heap.objs.size->Ll h' T' .none->Q () {s with heap:=h'}):
  wpAny M A (leaving env (.ref e)) Q E s:=by
 have ne:s.heap.objs.size≠e:=by
  obtain⟨_,z,_⟩:=x;exact qB (aM z)
 unfold leaving;refine aB (NU Dm hl hf x h1 ht X7 fun h' T' b x' hT t=>?_);refine vw (s:={s with heap:=h'}) x' (qm (fv h1)) t fun h2 b2 t2 _=>q h2 T' ?_ (x'.but b2 (by rw[hT]; simpa using ne.symm)) hT t2;intro c o z n;have hc:c≠T':=fun w=>by rw[w,hT] at z; exact absurd (aM z) (iV _)
 have n': ¬ (c=T∨c=e):=by simpa using n
 exact(b.trans (b2.mono (by simp) (fun _ z=>z))) c o z (by simp; exact⟨fun w=>n' (.inl w),fun w=>n' (.inr w),hc⟩)
end
def Lm {α:Type}(M:Model)(h:Heap)(t:Sem α)(r:α):Prop:=
 ∀(A:Around) (Q:α->Shared->Prop) (E:Value->Shared->Prop) (s:Shared),(∀b o,h.get? b=some o->s.heap.get? b=some o)->Q r s->wpAny M A t Q E s
section
variable {M:Model}{A:Around}{E:Value->Shared->Prop}{h:Heap}{g:Array GenState}{d:Drawn}{t:Nat}{os:OsState}
variable {nm q:Str}{C N:Addr}{bs bm Fo:List Value}{oZ:Bool}{sn:List Str}{sub:List Value}{ab:Bool}{col:Option Bool}{dd:Option Addr}{k0 k1 k2 k3 k5:Option Value}{B newId lj:String}
def iL {X:String}{r:Bool}(hb:bm.contains (.type X)=r):(Value.ref C :: bm).contains (.type X)=r:=by
 rw[List.contains_cons,hb];rfl
def Mn (F:ExcBaseFacts B newId lj Fo)(hB:bm.contains (.type B)=true){rest:List Value}{Q:Unit->Shared->Prop}
  (hC:h.get? C=some (excClassObj nm q C N bs bm oZ sn sub ab col dd k0 k1 k2 k3 k5 newId)) (hq:Q () ⟨h,g,d,t,os⟩):wpAny M A (checkBuiltinCall newId ⟨.ref C :: rest,[]⟩) Q E ⟨h,g,d,t,os⟩:=by
 have kM:=iL (C:=C) hB; have st:=F.noStar;simp only[checkBuiltinCall,F.newKind,F.newSplit,F.newRow]
 repeat (first
  |refine bz hC ?_
  |(refine cX hC ?_; rw[kM])
  |refine wpAny_staticBase_exc hC ?_
  |refine wpAny_madeBy_exc hC ?_
  |simp only[bne_self_eq_false,Bool.false_eq_true,if_false]
  |wp_step)
 exact hq
end
section
variable {prog:Program}{w:World}{A:Around}{E:Value->Shared->Prop}{R:Result->Shared->Prop}{h:Heap}{g:Array GenState}{d:Drawn}{t:Nat}{os:OsState}
variable {nm q:Str}{C N f:Addr}{bs bm Fo:List Value}{oZ:Bool}{sn:List Str}{sub:List Value}{ab:Bool}{col:Option Bool}{dd:Option Addr}{k0 k1 k2 k3 k5:Option Value}{B newId lj:String}
abbrev mh (C t:Addr):Obj:={cls:= .ref C,data:= .fields #[.ref t,.none,.none,.none,.bool false,.none]}
abbrev jz (l:List Value):Obj:={cls:= .type "tuple",data:= .seq l.toArray}
def Mo (F:ExcBaseFacts B newId lj Fo)(hB:bm.contains (.type B)=true)(hA:bm.contains (.type "AttributeError")=false)(hN:bm.contains (.type "NameError")=false)
  (hC:h.get? C=some (excClassObj nm q C N bs bm oZ sn sub ab col dd k0 k1 k2 k3 k5 newId)) (hq:R (.ok (.ret (.ref (h.objs.size + 1)))) ⟨(h.push (jz [])).push (mh C h.objs.size),g,d,t,os⟩):
  codeAny (model prog w) A (.builtin newId ⟨[.ref C],[]⟩) R ⟨h,g,d,t,os⟩:=by
 have he:=F.ends;have h1:=iL (C:=C) hB; have h2:=iL (C:=C) hA; have h3:=iL (C:=C) hN;refine codeAny_builtinAt F.entry ?_;unfold Builtin.«BaseException.__new__»;refine wpAt_bind ?_;show wpAt _ _ _ (stack >>=_) _ _ _;refine wpAt_bind (wpAt_stack fun p below=>wpAt_of_wpAny ?_)
 wp_walk
 refine wpAt_of_wpAny ?_;rw[F.owner]
 repeat (first
  |with_reducible refine wpAny_madeHere_exc F.canon hC ?_
  |with_reducible refine bz hC ?_
  |(with_reducible refine cX hC ?_; first|rw[h1]|rw[h2]|rw[h3])
  |wp_step)
 show R _ _;rw[oB];exact hq
def GZ (F:ExcBaseFacts B newId lj Fo)(hB:bm.contains (.type B)=true)(hA:bm.contains (.type "AttributeError")=false)(hN:bm.contains (.type "NameError")=false){oI:Obj}{Q:Fin->Shared->Prop}
  (hC:h.get? C=some (excClassObj nm q C N bs bm oZ sn sub ab col dd k0 k1 k2 k3 k5 newId)) (hi:Lm (model prog w) h (typeLookup (.ref C) "__init__") (some (.ref f))) (hf:h.get? f=some oI) (Ts:oI.cls= .type "function")
  (hq:wpAny (model prog w) A (call (.ref f) [.ref (h.objs.size + 1)]) (fun r s'=>r= .none/\Q (.done (.ret (.ref (h.objs.size + 1)))) s') E ⟨(h.push (jz [])).push (mh C h.objs.size),g,d,t,os⟩):
  wpAny (model prog w) A (Builtin.«type.__call__» ⟨[.ref C],[]⟩) Q E ⟨h,g,d,t,os⟩:=by
 repeat (first
  |with_reducible refine bz hC ?_
  |with_reducible refine wpAny_madeBy_exc hC ?_
  |wp_step)
 refine codeAny_call_builtin_code (Code.quiet_builtin _ F.quiet) (Mn F hB hC ?_);refine Mo F hB hA hN hC ?_;show wpAny _ _ _ _ _ _;have kp: ∀b o,h.get? b=some o->((h.push (jz [])).push (mh C h.objs.size)).get? b=some o:=fun b o z=>ay _ (ay _ z);have JC:=kp _ _ hC;have hg:((h.push (jz [])).push (mh C h.objs.size)).get? (h.objs.size + 1)=some (mh C h.objs.size):=by heap_get
 have Tt:(Value.ref C :: bm).contains (.ref C)=true:=by simp
 unfold isInstance
 repeat (first
  |with_reducible refine bz hg ?_
  |(with_reducible refine cX JC ?_; rw[Tt])
  |wp_step)
 show wpAny _ _ (typeLookup (.ref C) _) _ _ _;refine hi _ _ _ _ kp ?_;refine iB (aB ?_);unfold bindSpecial;refine aB (wpAny_typeOf (T:="function") ⟨_,kp _ _ hf,Ts⟩ ?_);rw[aY (by decide)];refine bF (aB (ck hq (fun r s' hr=>?_) fun _ _ x=>x));obtain⟨rfl,z⟩:=hr
 wp_walk
 exact z
def call_exc (F:ExcBaseFacts B newId lj Fo)(hB:bm.contains (.type B)=true)(hA:bm.contains (.type "AttributeError")=false)(hN:bm.contains (.type "NameError")=false){oI:Obj}{Q:Value->Shared->Prop}
  (hC:h.get? C=some (excClassObj nm q C N bs bm oZ sn sub ab col dd k0 k1 k2 k3 k5 newId)) (hi:Lm (model prog w) h (typeLookup (.ref C) "__init__") (some (.ref f))) (hf:h.get? f=some oI) (Ts:oI.cls= .type "function")
  (hq:wpAny (model prog w) (A.under (.builtin "type.__call__" ⟨[.ref C],[]⟩)) (call (.ref f) [.ref (h.objs.size + 1)]) (fun r s'=>r= .none/\Q (.ref (h.objs.size + 1)) s') E ⟨(h.push (jz [])).push (mh C h.objs.size),g,d,t,os⟩):
  wpAny (model prog w) A (call (.ref C) []) Q E ⟨h,g,d,t,os⟩:=by
 have f1:=tc_lookup; have f2:=tc_bind (.ref C);have hT:(⟨h,g,d,t,os⟩:Shared).TypeIs (.ref C) "type":=⟨_,hC,rfl⟩;refine EM (codeAny_of_tree ?_);show wpAny _ _ (callAny (.ref C) _) _ _ _
 repeat (any_goals (first
  |assumption
  |with_reducible refine bz hC ?_
  |wp_step))
 refine⟨rfl,?_⟩;exact codeAny_call_builtin_at (Code.quiet_builtin _ (by decide +kernel)) entry_typeCall (wpAny_check_type_call_sub hC (GZ F hB hA hN hC hi hf Ts hq))
end
def Stop (P:Prop):Prop:=P
def Stop.out {P:Prop}(h:Stop P):P:=h
def Stop.in {P:Prop}(h:P):Stop P:=h
section
variable {prog:Program}{w:World}{A:Around}{E:Value->Shared->Prop}{R:Result->Shared->Prop}{h:Heap}{g:Array GenState}{d:Drawn}{t:Nat}{os:OsState}
variable {nm q:Str}{C N e:Addr}{bs bm Fo:List Value}{oZ:Bool}{sn:List Str}{sub:List Value}{ab:Bool}{col:Option Bool}{dd iT:Option Addr}{k0 k1 k2 k3 k5:Option Value}{B newId nid lj:String}{vs:Array Value}
def JD {M:Model}(F:ExcBaseFacts B nid lj Fo)(hB:bm.contains (.type B)=true){oe:Obj}{rest:List Value}{Q:Unit->Shared->Prop}
  (hC:h.get? C=some (excClassObj nm q C N bs bm oZ sn sub ab col dd k0 k1 k2 k3 k5 newId)) (he:h.get? e=some oe) (hc:oe.cls= .ref C) (hq:Q () ⟨h,g,d,t,os⟩):
  wpAny M A (checkBuiltinCall lj ⟨.ref e :: rest,[]⟩) Q E ⟨h,g,d,t,os⟩:=by
 have h1:=iL (C:=C) hB; have h2:=F.noStar;simp only[checkBuiltinCall,F.initKind,F.initSplit,F.initRow]
 repeat (first
  |(with_reducible refine bz he ?_; rw[hc])
  |with_reducible refine bz hC ?_
  |(with_reducible refine cX hC ?_; rw[h1])
  |wp_step)
 refine wpAny_onRaise ?_;rw[show ∀(a b:String) (n:Nat),Bind.check ⟨.positional,"*",B,.self,[⟨"args",.varPos,false⟩]⟩ a b n (List.map (fun x=>x.fst) ({pos:=Value.ref e :: rest}:Args).kw)=pure () from fun a b n=>
  check_star_args _ _ _ _ _ _]
 exact bF hq
def G0 (F:ExcBaseFacts B nid lj Fo)(hB:bm.contains (.type B)=true){v:Value}{Q:Value->Shared->Prop}
  (hC:h.get? C=some (excClassObj nm q C N bs bm oZ sn sub ab col dd k0 k1 k2 k3 k5 newId)) (x:i8 h e (.ref C) iT vs) {t0:Addr} (h0:vs[0]? =some (.ref t0))
  (hq: ∀h',nK [] [e] h h'->i8 h' e (.ref C) iT (vs.setIfInBounds 0 (.ref h.objs.size))->Q .none ⟨h',g,d,t,os⟩):
  wpAny (model prog w) A (call (.builtin lj) [.ref e,v]) Q E ⟨h,g,d,t,os⟩:=by
 obtain⟨oe,he,hc,X8,hv⟩:=id x;refine EM (Gi F.init.plain F.initEntry (JD F hB hC he hc ?_));unfold Builtin.«BaseException.__init__»;have X9:(h.push (jz [v])).get? e=some oe:=ay _ he;have x1:i8 (h.push (jz [v])) e (.ref C) iT vs:=⟨oe,X9,hc,X8,hv⟩;have hs:=fv h0
 repeat (first
  |with_reducible refine IF X9 hv h0 ?_
  |with_reducible refine wpAny_setField X9 hv hs ?_
  |wp_step)
 have bt:nK [] [e] h ((h.push (jz [v])).update e (Obj.mapFields (·.setIfInBounds 0 (Value.ref h.objs.size)))):=(vv (fr:=[]) (own:=[]) (jz [v])).trans (zy _);exact hq _ bt (x1.set 0 _)
end
section
variable {M:Model}{A:Around}{E:Value->Shared->Prop}{s:Shared}{env:Env}
variable {nm q:Str}{C N e:Addr}{bs bm Fo:List Value}{oZ:Bool}{sn:List Str}{sub:List Value}{ab:Bool}{col:Option Bool}{dd iT:Option Addr}{k0 k1 k2 k3 k5:Option Value}{newId:String}{vs:Array Value}
def D3 {x:Sem Value}{Q:Flow->Shared->Prop}(hB:bm.contains (.type "BaseException")=true)(hh:A.handled=none)
  (h:wpAny M A x (fun v s1=> ∃e iT vs,v= .ref e/\s1.heap.get? C=some (excClassObj nm q C N bs bm oZ sn sub ab col dd k0 k1 k2 k3 k5 newId)/\i8 s1.heap e (.ref C) iT vs/\vs[1]? =some .none/\E (.ref e) s1) E s):
  wpAny M A (raiseStmt env (some x) none) Q E s:=by
 have h1:=iL (C:=C) hB;unfold raiseStmt;refine aB (ck h (fun v s1 z=>?_) fun _ _ x=>x);obtain⟨e,iT,vs,rfl,hC,⟨oe,he,hc,X8,hv⟩,v1,hE⟩:=z;obtain⟨hp,g,d,tk,os⟩:=s1
 repeat (first
  |(with_reducible refine bz he ?_; rw[hc])
  |with_reducible refine bz hC ?_
  |(with_reducible refine cX hC ?_; rw[h1])
  |with_reducible refine IF he hv v1 ?_
  |wp_step)
 exact wpAny_raiseNew_none hh hE
def Mp {a:Addr}{cls:Value}{i:Nat}{v:Value}{Q:Unit->Shared->Prop}(x:i8 s.heap a cls iT vs)(h:i < vs.size)
  (q: ∀h',nK [] [a] s.heap h'->i8 h' a cls iT (vs.setIfInBounds i v)->Q () {s with heap:=h'}):wpAny M A (updateField a i v) Q E s:=
 oH (i:=i) (v:=v) x h fun h' b x' _=>q h' b x'
def xg:entryFor table "proto.unchain"=some Builtin.«proto.unchain»:=entryFor_of_tree (by kernel_rfl)
end
section
variable {prog:Program}{w:World}{A:Around}{E:Value->Shared->Prop}{s:Shared}{env:Env}
variable {nm q:Str}{C N e:Addr}{bs bm Fo:List Value}{oZ:Bool}{sn:List Str}{sub:List Value}{ab:Bool}{col:Option Bool}{dd iT:Option Addr}{k0 k1 k2 k3 k5:Option Value}{newId:String}{vs:Array Value}
def D4 {x c:Sem Value}{Q:Flow->Shared->Prop}{e0:Addr}(hB:bm.contains (.type "BaseException")=true)(hh:A.handled=some (.ref e0))(hc: ∀(R:Value->Shared->Prop) (s:Shared),R .none s->wpAny (model prog w) A c R E s)
  (h:wpAny (model prog w) A x (fun v s1=> ∃e iT vs c0 d0 SR,v= .ref e/\e≠e0/\s1.heap.get? C=some (excClassObj nm q C N bs bm oZ sn sub ab col dd k0 k1 k2 k3 k5 newId)/\i8 s1.heap e (.ref C) iT vs/\vs[1]? =some .none/\vs.size=6/\
   i8 s1.heap e0 c0 d0 SR/\SR[2]? =some .none/\ ∀h',nK [] [e] s1.heap h'->i8 h' e (.ref C) iT (((vs.setIfInBounds 3 .none).setIfInBounds 4 (.bool true)).setIfInBounds 2 (.ref e0))->E (.ref e) {s1 with heap:=h'}) E s):
  wpAny (model prog w) A (raiseStmt env (some x) (some c)) Q E s:=by
 have h1:=iL (C:=C) hB;unfold raiseStmt;refine aB (ck h (fun v s1 z=>?_) fun _ _ x=>x);obtain⟨e,iT,vs,c0,d0,SR,rfl,ne,hC,xe,v1,sz,x0,c2,hE⟩:=z;obtain⟨oe,he,rg,X8,hv⟩:=id xe;obtain⟨hp,g,d,tk,os⟩:=s1;have eC:e≠C:=fun q=>by
  rw[q] at he;rw[hC] at he;cases he;cases hv
 repeat (first
  |(with_reducible refine bz he ?_; rw[rg])
  |with_reducible refine bz hC ?_
  |(with_reducible refine cX hC ?_; rw[h1])
  |with_reducible refine oH xe (by rw[sz]; decide) fun h2 b2 x2 _=>Stop.out ?_
  |with_reducible refine hc _ _ ?_
  |wp_step)
 have b2':nK [] [e] hp h2:=b2;refine Stop.in ?_;refine aB (oH (s:=⟨h2,g,d,tk,os⟩) x2 (by rw[sq,sz]; decide) fun h3 b3 x3 _=>?_);have b3':nK [] [e] h2 h3:=b3;have Ya:nK [] [e] hp h3:=(b2'.trans b3').mono (fun _ z=>z) (by simp);have hC3:h3.get? C=_:=(Ya C _ hC (by simpa using eC.symm)).1 (by simp);have x03:i8 h3 e0 c0 d0 SR:=i8.but x0 Ya (by simpa using ne.symm);obtain⟨o3,he3,hc3,_,hv3⟩:=id x3;obtain⟨o0,he0,_,_,Yb⟩:=id x03;have v31:((vs.setIfInBounds 3 Value.none).setIfInBounds 4 (Value.bool true))[1]? =some Value.none:=by rw[q0 (by decide),q0 (by decide)]; exact v1
 repeat (first
  |(with_reducible refine bz he3 ?_; rw[hc3])
  |with_reducible refine bz hC3 ?_
  |(with_reducible refine cX hC3 ?_; rw[h1])
  |with_reducible refine IF he3 hv3 v31 ?_
  |wp_step)
 have sz3:((vs.setIfInBounds 3 Value.none).setIfInBounds 4 (Value.bool true)).size=6:=by rw[sq,sq,sz]
 unfold raiseNew;refine aB (wpAny_handled ?_);rw[hh];dsimp only;rw[if_pos (show(Value.ref e0 != Value.ref e)=true from by simpa using ne.symm)];refine aB (iB (wpAny_runValue (codeAny_builtin xg ?_)));unfold Builtin.«proto.unchain»
 repeat (first
  |with_reducible refine IF he0 Yb c2 ?_
  |with_reducible refine aB (Mp (s:=⟨h3,g,d,tk,os⟩) x3 (by rw[sz3]; decide) fun h4 b4 x4=>Stop.out ?_)
  |wp_step)
 refine Stop.in ?_;refine wpAny_throw (hE h4 ?_ x4);have b4':nK [] [e] h3 h4:=b4;exact(Ya.trans b4').mono (fun _ z=>z) (by simp)
end
open PySem.Builtin PySem.Builtin.ObjectAttr
section
variable {prog:Program}{w:World}{A:Around}{E:Value->Shared->Prop}{h:Heap}{g:Array GenState}{d:Drawn}{t:Nat}{os:OsState}
variable {nm q:Str}{C N e:Addr}{bs bm:List Value}{sn:List Str}{sub:List Value}{ab:Bool}{col:Option Bool}{dd:Option Addr}{k0 k1 k2 k3 k5:Option Value}{newId:String}{vs:Array Value}{name:Str}{v:Value}
def G1 {tk:Tok}{Q:Fin->Shared->Prop}(hC:h.get? C=some (excClassObj nm q C N bs bm true sn sub ab col dd k0 k1 k2 k3 k5 newId))(hp: ∀self:Value,refuseLoop self "__setattr__" (.ref C :: bm)=pure ())
  (tx:Lm (model prog w) h (typeLookup (.ref C) name) none) (x:i8 h e (.ref C) none vs)
  (hq: ∀h' Pw,nK [] [e] h h'->i8 h' e (.ref C) (some h.objs.size) vs->h'.Ns1 h.objs.size (fun y=>if y=name then some v else none)->Q (.done (.ret .none)) ⟨h',g,d,Pw,os⟩):
  wpAny (model prog w) A (Builtin.«object.__setattr__» ⟨[.ref e,.str name tk,v],[]⟩) Q E ⟨h,g,d,t,os⟩:=by
 obtain⟨o,hx,hc,Yc,hv⟩:=id x;have Tu:=hp (.ref e);have Yd: ∀{A':Around} {Q':Option Value->Shared->Prop} {E':Value->Shared->Prop},Q' none ⟨h,g,d,t,os⟩->wpAny (model prog w) A' (typeLookup (.ref C) name) Q' E' ⟨h,g,d,t,os⟩:=fun z=>tx _ _ _ _ (fun _ _ y=>y) z;have hnc: ∀c,o.data≠ .cls c:=fun c z=>by rw[hv] at z; cases z
 unfold Builtin.«object.__setattr__»
 repeat (first
  |rw[refuse_eq]
  |rw[Tu]
  |(with_reducible refine bz hx ?_; rw[hc])
  |with_reducible refine wpAny_mroOf_exc hC ?_
  |with_reducible refine Yd ?_
  |wp_step)
 rw[Yc,if_neg (by simp[typeHasDict])];rw[hv];dsimp only;have lt:=aM hx;have ne:e≠h.objs.size:=a7 lt;generalize hD:({cls:= .type "dict",data:= .dict #[]}:Obj)=D;have BK:(h.push D).get? e=some o:=ay _ hx;refine aB (wpAny_alloc' (aB (wpAny_update' BK (bF ?_))));generalize hU:(h.push D).update e (fun o=>{cls:=o.cls,dict:=some h.objs.size,data:=o.data,slots:=o.slots})=U;have b1:nK [] [e] h U:=by
  rw[← hU];exact(vv (fr:=[]) (own:=[]) D).trans (zy _)
 have x1:i8 U e (.ref C) (some h.objs.size) vs:=by
  refine⟨{cls:=o.cls,dict:=some h.objs.size,data:=o.data,slots:=o.slots},?_,hc,rfl,hv⟩;rw[← hU];exact Dx _ BK (Obj.isFreed_of_fields (vs:=vs) hv)
 have gd:U.get? h.objs.size=some {cls:= .type "dict",data:= .dict #[]}:=by
  rw[← hU,← hD];exact(IE _ _ _ _ ne.symm).trans (Heap.get?_push_at rfl rfl)
 have nd:U.Ns h.objs.size (fun _=>none):=⟨_,#[],_,gd,rfl,fun _ he=>absurd he (by simp),fun _=>rfl⟩;show wpAny _ _ (storeInDict h.objs.size (.str name tk) name v) _ _ _;unfold storeInDict newKeyGuard;refine aB (bF (aB (wpAny_nsSet1 (s:=⟨U,g,d,t,os⟩) (Heap.Ns1.of_empty nd) fun h' hn hs=>?_)));obtain⟨oD,esD,epD,Xr,Xs,Xt⟩:=hn.count (Within.cons name v Within.nil);refine aB (wpAny_lookBehind Xr (by rw[Xs]; exact pastItsLine_dict (aV Xt (by rw[bO,wQ,eP]; lia))) ?_)
 wp_walk
 have lt': ∀b o',h.get? b=some o'->h'.get? b=U.get? b:=fun b o' z=>hs.2 b (a7 (aM z));refine hq h' _ (fun b ob z n=>?_) (x1.same fun ob z=>(hs.2 e ne).trans z) hn;obtain⟨z1,sl,z2⟩:=b1 b ob z n;exact⟨fun n'=>(lt' b ob z).trans (z1 n'),sl,(lt' b ob z).trans z2⟩
def Px {M:Model}{B sa owner:String}{Fo:List Value}{o:Obj}{vx:Value}{Q:Unit->Shared->Prop}(SF:StoreFacts B Fo sa owner)(ho:bm.contains (.type owner)=true)
  (hC:h.get? C=some (excClassObj nm q C N bs bm true sn sub ab col dd k0 k1 k2 k3 k5 newId)) (hx:h.get? e=some o) (hc:o.cls= .ref C) (hq:Q () ⟨h,g,d,t,os⟩):
  wpAny M A (checkBuiltinCall sa ⟨[.ref e,vx,v],[]⟩) Q E ⟨h,g,d,t,os⟩:=by
 have h1:=iL (C:=C) ho; have ha:=SF.args (.ref e) vx v;simp only[checkBuiltinCall,SF.kind,SF.split];refine aB ?_;unfold isInstance
 repeat (first
  |(with_reducible refine bz hx ?_; rw[hc])
  |(with_reducible refine cX hC ?_; rw[h1])
  |wp_step)
 cases hs:Manifest.signature? sa with
 |none=>exact bF hq
 |some sg=>
  simp only[argsOk,hs] at ha;have h2:Bind.checkArgs sa sg ⟨[.ref e,vx,v],[]⟩=pure ():=ha;show wpAny M A (Bind.checkArgs sa sg ⟨[.ref e,vx,v],[]⟩) Q E _;rw[h2];exact bF hq
def Mq {B sa owner:String}{Fo:List Value}{Q:Unit->Shared->Prop}(SF:StoreFacts B Fo sa owner)(ho:bm.contains (.type owner)=true)(hC:h.get? C=some (excClassObj nm q C N bs bm true sn sub ab col dd k0 k1 k2 k3 k5 newId))
  (hp: ∀self:Value,refuseLoop self "__setattr__" (.ref C :: bm)=pure ()) (sL:Lm (model prog w) h (typeLookup (.ref C) "__setattr__") (some (.builtin sa))) (tx:Lm (model prog w) h (typeLookup (.ref C) name) none) (x:i8 h e (.ref C) none vs)
  (hq: ∀h' Pw,nK [] [e] h h'->i8 h' e (.ref C) (some h.objs.size) vs->h'.Ns1 h.objs.size (fun y=>if y=name then some v else none)->Q () ⟨h',g,d,Pw,os⟩):
  wpAny (model prog w) A (setAttr (.ref e) name v) Q E ⟨h,g,d,t,os⟩:=by
 obtain⟨o,hx,hc,_⟩:=id x;have f3:=SF.slot.bind (.ref e);have sL': ∀{tk:Nat} {A':Around} {Q':Option Value->Shared->Prop} {E':Value->Shared->Prop},Q' (some (.builtin sa)) ⟨h,g,d,tk,os⟩->wpAny (model prog w) A' (typeLookup (.ref C) "__setattr__") Q' E' ⟨h,g,d,tk,os⟩:=fun z=>sL _ _ _ _ (fun _ _ y=>y) z;unfold setAttr callSpecial? specialOf
 repeat (any_goals (first
  |assumption
  |(with_reducible refine bz hx ?_; rw[hc])
  |with_reducible refine sL' ?_
  |wp_step))
 refine Gi SF.slot.plain SF.entry (Px SF ho hC hx hc (G1 hC hp tx x fun h' Pw b x' n=>?_))
 repeat (any_goals (first
  |assumption
  |wp_step))
 exact hq h' Pw b x' n
end
section
variable {prog:Program}{w:World}{A:Around}{E:Value->Shared->Prop}{h:Heap}{g:Array GenState}{d:Drawn}{t:Nat}{os:OsState}
variable {nm q:Str}{C N e dx:Addr}{bs bm:List Value}{sn:List Str}{sub:List Value}{ab:Bool}{col:Option Bool}{dd:Option Addr}{k0 k1 k2 k3 k5:Option Value}{newId:String}{vs:Array Value}{name:Str}{v:Value}{mA:Str->Option Value}
def G2 {tk:Tok}{Q:Fin->Shared->Prop}(hC:h.get? C=some (excClassObj nm q C N bs bm true sn sub ab col dd k0 k1 k2 k3 k5 newId))(tx:Lm (model prog w) h (typeLookup (.ref C) name) none)(x:i8 h e (.ref C) (some dx) vs)
  (n:h.Ns dx mA) (hm:mA name=some v) (hq:Q (.done (.ret v)) ⟨h,g,d,t,os⟩):wpAny (model prog w) A (Builtin.«object.__getattribute__» ⟨[.ref e,.str name tk],[]⟩) Q E ⟨h,g,d,t,os⟩:=by
 obtain⟨o,hx,hc,Yc,hv⟩:=id x;have Yd: ∀{A':Around} {Q':Option Value->Shared->Prop} {E':Value->Shared->Prop},Q' none ⟨h,g,d,t,os⟩->wpAny (model prog w) A' (typeLookup (.ref C) name) Q' E' ⟨h,g,d,t,os⟩:=fun z=>tx _ _ _ _ (fun _ _ y=>y) z
 repeat (any_goals (first
  |assumption
  |(with_reducible refine bz hx ?_; rw[hc])
  |with_reducible refine Yd ?_
  |wp_step))
 rw[hv];show wpAny _ _ (instanceDict e false) _ _ _;unfold instanceDict;refine aB (bz hx ?_);rw[hc];dsimp only;unfold classData;refine aB (aB (bz hC (bF ?_)));rw[if_neg (by simp)];rw[Yc];refine bF ?_;show wpAny _ _ (nsGet dx name) _ _ _;refine wpAny_nsGet n ?_;rw[hm]
 repeat (first
  |exact hq
  |wp_step)
def Py {M:Model}{vx:Value}{o:Obj}{Q:Unit->Shared->Prop}(hB:bm.contains (.type "BaseException")=true)(hC:h.get? C=some (excClassObj nm q C N bs bm true sn sub ab col dd k0 k1 k2 k3 k5 newId))
  (hx:h.get? e=some o) (hc:o.cls= .ref C) (hq:Q () ⟨h,g,d,t,os⟩):wpAny M A (checkBuiltinCall "BaseException.__getattribute__" ⟨[.ref e,vx],[]⟩) Q E ⟨h,g,d,t,os⟩:=by
 have hk:builtinKind "BaseException.__getattribute__"=some .slot:=by decide +kernel
 have hs:splitId "BaseException.__getattribute__"=some ("BaseException","__getattribute__"):=by decide +kernel
 have h1:=iL (C:=C) hB; have ha:=F.args_bexc_ga (.ref e) vx;simp only[checkBuiltinCall,hk,hs];refine aB ?_;unfold isInstance
 repeat (first
  |(with_reducible refine bz hx ?_; rw[hc])
  |(with_reducible refine cX hC ?_; rw[h1])
  |wp_step)
 exact hq
def Mr {T:String}{expr:Bool}{Q:Value->Shared->Prop}(FB:Slot T "__getattribute__" "BaseException.__getattribute__")(hB:bm.contains (.type "BaseException")=true)(hC:h.get? C=some (excClassObj nm q C N bs bm true sn sub ab col dd k0 k1 k2 k3 k5 newId))
  (gL:Lm (model prog w) h (typeLookup (.ref C) "__getattribute__") (some (.builtin "BaseException.__getattribute__"))) (kL:Lm (model prog w) h (typeLookup (.ref C) "__getattr__") none) (tx:Lm (model prog w) h (typeLookup (.ref C) name) none)
  (x:i8 h e (.ref C) (some dx) vs) (n:h.Ns dx mA) (hm:mA name=some v) (hv:handedOut v=pure v) (hq:Q v ⟨h,g,d,t + 1,os⟩):wpAny (model prog w) A (getAttr (.ref e) name expr) Q E ⟨h,g,d,t,os⟩:=by
 obtain⟨o,hx,hc,_⟩:=id x;have f3:=FB.bind (.ref e);have x0:(expr && onTheHeap (Value.builtin "BaseException.__getattribute__"))=false:=by cases expr <;> rfl
 have x2:(Value.builtin "BaseException.__getattribute__" == Value.builtin "object.__getattribute__")=false:=by decide +kernel
 have x1:(onTheHeap (Value.ref C) && Value.builtin "BaseException.__getattribute__" == Value.builtin "object.__getattribute__")=false:=by rw[x2]; rfl
 have gL': ∀{tk:Nat} {A':Around} {Q':Option Value->Shared->Prop} {E':Value->Shared->Prop},Q' (some (.builtin "BaseException.__getattribute__")) ⟨h,g,d,tk,os⟩->wpAny (model prog w) A' (typeLookup (.ref C) "__getattribute__") Q' E' ⟨h,g,d,tk,os⟩:=
  fun z=>gL _ _ _ _ (fun _ _ y=>y) z
 have kL': ∀{tk:Nat} {A':Around} {Q':Option Value->Shared->Prop} {E':Value->Shared->Prop},Q' none ⟨h,g,d,tk,os⟩->wpAny (model prog w) A' (typeLookup (.ref C) "__getattr__") Q' E' ⟨h,g,d,tk,os⟩:=fun z=>kL _ _ _ _ (fun _ _ y=>y) z;unfold getAttr
 repeat (any_goals (first
  |assumption
  |(with_reducible refine bz hx ?_; rw[hc])
  |with_reducible refine gL' ?_
  |with_reducible refine kL' ?_
  |wp_step))
 refine Gi FB.plain F.entry_bexc_ga (Py hB hC hx hc (G2 hC tx x n hm ?_))
 repeat (any_goals (first
  |assumption
  |wp_step))
end
section
variable {M:Model}{A:Around}{E:Value->Shared->Prop}
variable {nm q:Str}{C N:Addr}{bs bm:List Value}{oZ:Bool}{sn:List Str}{sub:List Value}{ab:Bool}{col:Option Bool}{dd:Option Addr}{k0 k1 k2 k3 k5:Option Value}{newId:String}
variable {nm' q':Str}{R N':Addr}{bs' Ye:List Value}{Tv:Bool}{sn':List Str}{Yf:List Value}{ab':Bool}{Yg:Option Bool}{E7:Option Addr}{j0 j1 j2 j3 j5:Option Value}{Pz:String}
def yy {h:Heap}{g:Array GenState}{d:Drawn}{t:Nat}{os:OsState}{e:Addr}{iT:Option Addr}{vs:Array Value}{b:Bool}{Q:Bool->Shared->Prop}
  (hC:h.get? C=some (excClassObj nm q C N bs bm oZ sn sub ab col dd k0 k1 k2 k3 k5 newId)) (hR:h.get? R=some (excClassObj nm' q' R N' bs' Ye Tv sn' Yf ab' Yg E7 j0 j1 j2 j3 j5 Pz))
  (x:i8 h e (.ref C) iT vs) (qT:Ye.contains (.type "BaseException")=true) (up:(Value.ref C :: bm).contains (.ref R)=b)
  (hq:Q b ⟨h,g,d,t,os⟩):wpAny M A (excMatches (.ref e) (.ref R)) Q E ⟨h,g,d,t,os⟩:=by
 obtain⟨oe,he,OH,_⟩:=x;have Yh:(Value.ref R :: Ye).contains (.type "BaseException")=true:=by rw[List.contains_cons,qT,Bool.or_true]
 have f:=tc_notTuple;unfold excMatches
 repeat (first|(with_reducible refine cX hR ?_; rw[Yh])|(with_reducible refine cX hC ?_; rw[up])|(with_reducible refine bz he ?_; rw[OH])|with_reducible refine bz hR ?_|wp_step)
 cases b <;> (wp_walk; exact hq)
end
end Lk
namespace L2
open PySem PySem.Spec PyProof.Rows Lk
structure g8 (K:Frag)(C R:Addr):Prop where
 obj: ∃(nm q:Str) (N:Addr) (bs bm:List Value) (sn:List Str) (sub:List Value) (ab:Bool) (col:Option Bool) (dd:Option Addr) (k0 k1 k2 k3 k5:Option Value),
  K.lookup C=some (excClassObj nm q C N bs bm true sn sub ab col dd k0 k1 k2 k3 k5 "Exception.__new__")/\
   (bm=[.type "Exception",.type "BaseException",.type "object"]/\C=R∨bm=[.ref R,.type "Exception",.type "BaseException",.type "object"])
 sa:findIn K (.ref C) "__setattr__"=some (some (.builtin "object.__setattr__"))
 ga:findIn K (.ref C) "__getattribute__"=some (some (.builtin "BaseException.__getattribute__"))
 gk:findIn K (.ref C) "__getattr__"=some none
 tx:findIn K (.ref C) "text"=some none
structure Yi (h:Heap)(C R:Addr)(nm q:Str)(N:Addr)(bs bm:List Value)(sn:List Str)(sub:List Value)(ab:Bool)(col:Option Bool)(dd:Option Addr)(k0 k1 k2 k3 k5:Option Value):Prop where
 at_:h.get? C=some (excClassObj nm q C N bs bm true sn sub ab col dd k0 k1 k2 k3 k5 "Exception.__new__")
 e:bm.contains (.type "Exception")=true
 b:bm.contains (.type "BaseException")=true
 o:bm.contains (.type "object")=true
 na:bm.contains (.type "AttributeError")=false
 nn:bm.contains (.type "NameError")=false
 rf: ∀self:Value,refuseLoop self "__setattr__" (.ref C :: bm)=pure ()
 up:(Value.ref C :: bm).contains (.ref R)=true
def g8.on {K:Frag}{C R:Addr}(k:g8 K C R): ∃nm q N bs bm sn sub ab col dd k0 k1 k2 k3 k5,∀h:Heap,K.In h->Yi h C R nm q N bs bm sn sub ab col dd k0 k1 k2 k3 k5:=by
 obtain⟨nm,q,N,bs,bm,sn,sub,ab,col,dd,k0,k1,k2,k3,k5,l,hb⟩:=k.obj;have pass: ∀self:Value,refuseLoop self "__setattr__" [.type "Exception",.type "BaseException",.type "object"]=pure ():=F.store_Exception.passes;refine⟨nm,q,N,bs,bm,sn,sub,ab,col,dd,k0,k1,k2,k3,k5,fun h X=>?_⟩;rcases hb with⟨rfl,rfl⟩|rfl
 ·exact⟨X _ _ l,by decide +kernel,by decide +kernel,by decide +kernel,by decide +kernel,by decide +kernel,fun self=>by rw[refuseLoop_ref]; exact pass self,by simp⟩
 ·exact⟨X _ _ l,iL (by decide +kernel),iL (by decide +kernel),iL (by decide +kernel),iL (by decide +kernel),iL (by decide +kernel),fun self=>by rw[refuseLoop_ref,refuseLoop_ref]; exact pass self,by simp⟩
def lJ {K:Frag}{M:Model}{h:Heap}(X:K.In h){t:Value}{name:Str}{r:Option Value}(e:findIn K t name=some r):Lm M h (typeLookup t name) r:=PySem.W.looks_findIn X e
abbrev xo (e C:Addr)(iT:Option Addr)(vs:Array Value):HO:= .ext fun h=>i8 h e (.ref C) iT vs
def JE {P:Program}{w:World}{H:Hp}{h:Heap}{e C:Addr}{iT:Option Addr}{vs:Array Value}(x:i8 h e (.ref C) iT vs):dE P w H h e (xo e C iT vs):=by
 refine⟨x,?_,fun h1 h2 z k=>i8.same z k⟩;obtain⟨o,z,_⟩:=x;exact⟨o,z⟩
abbrev v0 (t:Addr):Array Value:= #[.ref t,.none,.none,.none,.bool false,.none]
section
variable {X:Cx}{pins:List (Addr×Obj)}{σ:St}{H:Hp}{s:Shared}{e C R dx:Addr}{iT:Option Addr}{vs Yj:Array Value}{h':Heap}{t':Nat}
def Inv.D5 (I:Inv X pins σ H s)(h:H e=some (xo e C iT vs)):i8 s.heap e (.ref C) iT vs:=(I.cB e _ h).1
def Inv.PB (I:Inv X pins σ H s)(h:H e=some (xo e C iT vs))(b:nK [] [e] s.heap h')(x:i8 h' e (.ref C) iT Yj):Inv X pins σ (upd H e (xo e C iT Yj)) {s with heap:=h',toks:=t'}:=by
 refine I.write (x:=e) (e:=e) (by rw[h]; exact True.intro) (.inl rfl) (fun c u n z=>(b c u z (by simpa using n)).1 (by simp)) ?_ (JE x);obtain⟨o,z,_⟩:=x;exact⟨o,z⟩
def Inv.Ms {f:Str}{y:V}{u:Value}(I:Inv X pins σ H s)(h:H e=some (xo e C none vs))(b:nK [] [e] s.heap h')(x:i8 h' e (.ref C) (some s.heap.objs.size) vs)(n:h'.Ns1 s.heap.objs.size (fun z=>if z=f then some u else none))(r:RelV y u):
  Inv X pins σ (upd (upd H s.heap.objs.size (.xd [(f,y)])) e (xo e C (some s.heap.objs.size) vs)) {s with heap:=h',toks:=t'}:=by
 have hn:H s.heap.objs.size=none:=I.cB.fresh (aD _);have ne:e≠s.heap.objs.size:=aJ h hn;have off: ∀c u,H c=some u->c≠s.heap.objs.size:=fun c u z=>aJ z hn;have kp: ∀c o,c≠e->s.heap.get? c=some o->h'.get? c=some o:=fun c o n z=>(b c o z (by simpa using n)).1 (by simp);have low: ∀c o,s.heap.get? c=some o->c≠s.heap.objs.size:=fun c o z=>a7 (aM z);have same: ∀c,c≠e->c≠s.heap.objs.size->upd (upd H s.heap.objs.size (.xd [(f,y)])) e (xo e C (some s.heap.objs.size) vs) c=H c:=fun c n1 n2=>by rw[az n1,az n2]
 refine I.un ⟨fun c o z hc _ _=>kp c o (fun w=>by rw[w,h] at hc; cases hc) z,fun c o z hc _ _=>⟨o.slots,kp c o (fun w=>by rw[w,h] at hc; cases hc) z⟩,fun c o z hc _=>?_,fun c o z _=>?_,fun c xs z=>?_,fun c o u z=>?_,fun c ps z=>?_⟩ fun c u z=>?_
 ·rw[same c (fun w=>by rw[w,h] at hc; cases hc) (low c o z)];exact hc
 ·by_cases q:c=e
  ·rw[q];obtain⟨oe,w,_⟩:=x;exact⟨oe,w⟩
  ·exact⟨o,kp c o q z⟩
 ·rw[same c (fun w=>by rw[w,h] at z; cases z) (off c _ z)];exact z
 ·rw[same c (fun w=>by rw[w,h] at z; cases z) (off c _ z)];exact z
 ·refine⟨#[],?_⟩;rw[same c (fun w=>by rw[w,h] at z; cases z) (off c _ z),z];simp
 ·by_cases q:c=e
  ·subst q;rw[ag] at z;cases z;exact JE x
  ·rw[az q] at z;by_cases q2:c=s.heap.objs.size
   ·subst q2;rw[ag] at z;cases z;refine⟨_,n,fun g=>?_⟩;show lC (List.lookup g [(f,y)]) (if g=f then some u else none);by_cases w:g=f
    ·subst w;rw[aY rfl];simpa[List.lookup,lC] using r
    ·rw[aN w];have:(g == f)=false:=by simpa using w
     simp[List.lookup,this,lC]
   ·rw[az q2] at z;refine(I.cB c u z).ud (fun d o hd w=>?_) (fun d w=>?_) fun d xs w=>?_
    ·refine kp d o (fun w2=>?_) w;rcases hd with hd|hd
     ·exact q (hd▸w2)
     ·rw[w2,h] at hd;cases hd
    ·rw[same d (fun w2=>by rw[w2,h] at w; cases w) (off d _ w)];exact w
    ·rw[same d (fun w2=>by rw[w2,h] at w; cases w) (off d _ w)];exact w
def gone (H:Hp)(a:Addr):Hp:=fun b=>if b=a then none else H b
def yz {a:Addr}:gone H a a=none:=by unfold gone; rw[if_pos rfl]
def iM {a b:Addr}(h:b≠a):gone H a b=H b:=by unfold gone; rw[if_neg h]
def Inv.drop {H0:Hp}{s0:Shared}{φ:Heap->Prop}(I0:Inv X pins σ H0 s0)(h0:H0 e=none)(I:Inv X pins σ H s)(h:H e=some (.ext φ)):Inv X pins σ (gone H e) s:=by
 have off: ∀c u,H c=some u->u≠ .ext φ->c≠e:=fun c u z n w=>by
  rw[w,h] at z;cases z;exact n rfl
 refine⟨I.ok,I.os,I.bare,⟨I.base.keep,I.base.slot,fun c o z hc hx=>?_,I.base.there,fun c xs z=>?_,fun c o u z=>?_,fun c ps z=>?_⟩,I.loc,I.cell,?_,fun x c z=>?_,fun p hp=>?_,fun c u z=>?_,I.len⟩
 ·have w:=I.base.free c o z hc hx;rw[iM (fun q=>by rw[q,h] at w; cases w)];exact w
 ·rw[iM (aJ (I0.base.qL c xs z) h0)];exact I.base.qL c xs z
 ·rw[iM (aJ (I0.base.pU c o u z) h0)];exact I.base.pU c o u z
 ·obtain⟨m,w⟩:=I0.base.pV c ps z;obtain⟨m',w'⟩:=I.base.pV c ps z;exact⟨m',by rw[iM (aJ w h0)]; exact w'⟩
 ·rw[iM (fun q=>by have w:=I.free; rw[q,h] at w; cases w)];exact I.free
 ·have w:=I.iU x c z;rw[iM (fun q=>by rw[q,h] at w; cases w)];exact w
 ·obtain⟨w1,w2,w3⟩:=I.pin p hp;refine⟨w1,?_,w3⟩;rw[iM (fun q=>by rw[q,h] at w2; cases w2)];exact w2
 ·by_cases q:c=e
  ·rw[q,yz] at z;cases z
  ·rw[iM q] at z;refine(I.cB c u z).ud (fun d o _ w=>w) (fun d w=>?_) fun d xs w=>?_
   ·rw[iM (off d _ w (by intro z; cases z))];exact w
   ·rw[iM (off d _ w (by intro z; cases z))];exact w
end
structure iy (k:Nat)(A:Around):Prop where
 dp:A.depth + 3 * k + 5 < recursionLimit
 un:A.units + 16 * k + 200 < cLine
def fh.h {k:Nat}{A:Around}(r:fh k A):iy k A:=⟨r.dp,r.un⟩
def iy.mono {j k:Nat}{A:Around}(r:iy k A)(h:j<=k):iy j A:=⟨by have:=r.dp; lia,by have:=r.un; lia⟩
def iy.deeper {k:Nat}{A:Around}(r:iy (k + 1) A)(env:Env):iy k (A.deeper env):=
 ⟨by have:=r.dp; show A.depth + 1 + 3 * k + 5 < _; lia,by have:=r.un; show A.units + 3 + 16 * k + 200 < _; lia⟩
def iy.make {k:Nat}{A:Around}(r:iy (k + 1) A)(C:Addr)(us:List Value)(kw:List (Str×Value)):iy k (A.under (.builtin "type.__call__" ⟨.ref C :: us,kw⟩)):=
 ⟨by have:=r.dp; rw[uR]; lia,by have:=r.un; rw[uS]; lia⟩
def iy.mark {k:Nat}{A:Around}(r:iy k A)(e:Option Value):iy k (A.mark e):=⟨r.dp,r.un⟩
structure Tw (P:Program)(w:World)(K:Frag)(mg:Str->Option Value)(base:Heap)(k:Nat)(f:Addr)(fd:FuncData)(ps:List Str)(sp:Sp):Prop where
 len: ∀vs H Q E,sp vs H Q E->vs.length=ps.length
 run: ∀(A:Around) (outer:List Env) (s:Shared) (H:Hp) (args:Args) (us:List Value) (vs:List V) (Q:VK) (E:XK),iy k A->qQ P w K mg base A outer s H->BindsTo s fd args (ps.zip us)->Vals vs us->sp vs H Q E->
  codeAny (model P w) A (.call (.ref f) args) (CR sD outer P w H s Q E) s
abbrev vy (P:Program)(w:World)(K:Frag)(mg:Str->Option Value)(base:Heap)(N:List Str)(qual:Str)(scope:Scope)(f:Addr)(cd:Value)(A:Around)(outer:List Env)(s:Shared)(H:Hp)(E:XK):Cx:=
 {k7 sD P w K mg base N qual scope f cd A outer s H E with calm:=false}
def vz {P:Program}{w:World}{K:Frag}{mg:Str->Option Value}{base:Heap}{N ps:List Str}{qual:Str}{scope:Scope}{f:Addr}{cd:Value}{A:Around}{outer:List Env}{s s1:Shared}{H:Hp}{E:XK}{us:List Value}{vs:List V}
  (S:aU N ps scope) (e0:qQ P w K mg base A outer s H) (hl:vs.length=ps.length) (r:Vals vs us)
  (x:InCallC s s.heap.objs.size (bindL (envOfC qual scope s.heap.objs.size f cd).kindOf (ps.zip us) fun _=>none) (cellsFrom (s.heap.objs.size + 1) scope.names []) (bindC (envOfC qual scope s.heap.objs.size f cd).kindOf (ps.zip us) fun _=>none) s1):
  Inv (vy P w K mg base N qual scope f cd A outer s H E) [] (start N vs) H s1:=by
 have I:=yi (CX:=sD) (E:=E) (A:={A with handled:=none}) (K:=K) (base:=base) (P:=P) (w:=w) (mg:=mg) (N:=N) S rfl ⟨e0.frames,e0.mod,e0.bs,e0.Be,e0.l6,e0.EN,e0.cB,e0.bare⟩ hl r x;have ok:=I.ok;exact⟨⟨ok.mod,ok.kind,ok.glob,ok.blt,ok.above,ok.inj,ok.has,ok.Le,(fun z=>by cases z),Around.frames_deeper e0.frames,ok.Iv,ok.LJ,ok.bs,ok.Be,ok.wV,ok.wW,ok.l6,ok.EN⟩,I.os,I.bare,I.base,I.loc,I.cell,I.free,I.iU,I.pin,I.cB,I.len⟩
def mi {P:Program}{w:World}{K:Frag}{mg:Str->Option Value}{base:Heap}{k:Nat}{f:Addr}{x qual:Str}{st:Stmt}{fd:FuncData}{N ps:List Str}{sp:Sp}(F:gw K x qual st f fd)(S:aU N ps (aA st))
  (len: ∀vs H Q E,sp vs H Q E->vs.length=ps.length)
  (f7: ∀(cY:Value) (A:Around) (outer:List Env) (s:Shared) (H:Hp) (vs:List V) (Q:VK) (E:XK),iy k (A.deeper (envOfC qual (aA st) s.heap.objs.size f cY))->sp vs H Q E->
   ∃t,pj (vy P w K mg base N qual (aA st) f cY A outer s H E).DE (dF st) t/\t {nx:=fun _ H'=>Q .eA H',rt:=Q} (start N vs) H):Tw P w K mg base (k + 1) f fd ps sp:=by
 obtain⟨oc,od,kV,doc,pm,an,cY,ct,GA,rfl,lk,rZ⟩:=F.ex;refine⟨len,fun A outer s H args us vs Q E hr e0 hb r y3=>?_⟩;have hl:=len _ _ _ _ y3;have KX:K.In s.heap:=e0.mod.LI.keeps fun b o e=>(e0.bs b o e).1;have lim:s.heap.NoLimit:=e0.mod.nolimit.keeps fun b o e=>(e0.bs b o e).1;have nu: ∀y∈ps.zip us,(aA st).names.lookup y.1=some .local∨((aA st).names.lookup y.1=some .cell/\((cellsFrom (s.heap.objs.size + 1) (aA st).names []).lookup y.1).isSome=true):=fun⟨n,v⟩ hy=>by
  rcases S.par n (oS hy).1 with q|q
  ·exact .inl q
  ·exact .inr ⟨q,lA _ _ _ (.inl q)⟩
 have dp:A.depth < recursionLimit:=by have:=hr.dp; lia
 refine codeAny_call_function dp (KX _ _ lk) rfl S.co S.gen rfl (PySem.W.codeRec_of KX rZ) (hb _ _ _ _ ?_);refine ub S.kind nu fun env he s1 y=>?_;subst he;refine⟨lim.keeps y.toInCall.keep,codeAny_func ?_⟩;obtain⟨t,ht,hq⟩:=f7 cY A outer s H vs Q E (hr.deeper _) y3;have I:Inv (vy P w K mg base N qual (aA st) f cY A outer s H E) [] (start N vs) H s1:=vz S e0 hl r y;refine ck (ht.DE [] s1 (start N vs) H _ I hq) (fun fl s' hs=>?_) fun e s' hs=>hs;have fin: ∀{σ':St} {H':Hp} {v:V} {u:Value},Inv (vy P w K mg base N qual (aA st) f cY A outer s H E) [] σ' H' s'->RelV v u->Q v H'->CE outer P w H s Q u s':=
  fun{σ' H' v u} J rv q=>⟨v,H',J.os,J.bare,J.base,J.cB,rv,q⟩
 cases fl with
 |ret u=>
  obtain⟨v,σ',H',J,rv,q⟩:=hs;exact fin J rv q
 |next=>
  obtain⟨σ',H',J,q⟩:=hs;exact fin (v:=V.eA) (u:=Value.none) J rfl q
 |brk=>
  obtain⟨_,_,_,q⟩:=hs;exact False.elim q
 |cont=>
  obtain⟨_,_,_,q⟩:=hs;exact False.elim q
section
variable {X:Cx}{k:Nat}{f C R:Addr}{fd:FuncData}{ps:List Str}{sp:Sp}{x:Str}{p pos apos pos':Pos}{a b o value e:Expr}{es:List Expr}{ta tb tv:TE}{t:TA}
def Fp {A:Around}{xe:Value->Shared->Prop}{pins:List (Addr×Obj)}{σ:St}{H:Hp}{s:Shared}{Q:VK}{us:List Value}{vs:List V}(F:Tw X.prog X.w X.K X.mg X.base k f fd ps sp)(hr:iy k A)(e0:qQ X.prog X.w X.K X.mg X.base A X.stack s H)(hb:Binds X.K fd ps [])
  (I:Inv X pins σ H s) (r:Vals vs us) (h:sp vs H Q E0):wpAny (model X.prog X.w) A (call (.ref f) us) (EP X pins σ Q) xe s:=by
 have hl:(us ++ []).length=ps.length:=by rw[cf,← r.length]; exact F.len _ _ _ _ h
 have bd:=hb s us I.gW hl;rw[cf] at bd;refine EM (Dw (F.run A X.stack s H ⟨us,[]⟩ us vs Q E0 hr e0 bd r h) fun r s' hq=>?_);cases r with
 |error e=>exact False.elim hq
 |ok fl=>
  cases fl with
  |ret u=>exact I.after hq
  |next=>exact False.elim hq
  |brk=>exact False.elim hq
  |cont=>exact False.elim hq
def PD (K:Frag)(t:TA):TE:=fun σ H Q=>t σ H fun xs H2=> ∃(e C R t0:Addr) (iT:Option Addr) (vs:Array Value) (y:V),xs=[.ref e,y]/\H2 e=some (xo e C iT vs)/\g8 K C R/\vs[0]? =some (.ref t0)/\ ∀t',Q .eA (upd H2 e (xo e C iT (vs.setIfInBounds 0 (.ref t'))))
def JF {pl:Sem Bool}(hg:Gl X "Exception")(hm:X.mg "Exception"=none)(ha:PA X (e :: es) t)
  (hs:starEach (e :: es) X.env=(false,eval e X.env) :: starEach es X.env:=by rfl) (iS:(backTo pos (starEach es X.env)).any (·.1)=false:=by rfl)
  (ht:eval (.Call (.Attribute (.Name "Exception" p) "__init__" apos) (e :: es) [] pos) X.env=(do
   let ov ← eval (.Name "Exception" p) X.env
   standAt apos.atName
   let(f,first) ← holding [ov] (getMethod ov "__init__" pl)
   callWith pos f first (backTo pos (starEach (e :: es) X.env)) (backToKw pos (keywordEach [] X.env))):=by rfl):
  PE X (.Call (.Attribute (.Name "Exception" p) "__init__" apos) (e :: es) [] pos) (PD X.K t):=by
 intro pins s σ H Q I h;obtain⟨m,F⟩:=I.fr;refine wN (pl:=pl) (pW I hg hm (u:= .type "Exception") (by rfl) ?_) ht;refine PySem.W.method_type (v:= .builtin "Exception.__init__") F I.mod.LI (by rfl) (by decide +kernel) (by rfl) (by rfl) ?_;have hA:=ha pos pins {s with toks:=s.toks + 1} σ H _ (I.tok _) h;rw[hs] at hA ⊢;refine iW (by show(false || (backTo pos (starEach es X.env)).any (·.1))=false; rw[iS] <;> rfl) (Ge ?_);refine dY hA fun us s2 ⟨vs,H2,I2,r2,e,C,R,t0,iT,ws,y,e1,e2,k,e3,q⟩=>?_;subst e1;obtain⟨u1,u2,rfl,ru,_⟩:=vals2 r2;obtain rfl:u1=Value.ref e:=ru;obtain⟨nm,qn,N,bs,bm,sn,sub,ab,col,dd,k0,k1,k2,k3,k5,c⟩:=k.on;have c:=c _ I2.gW;obtain⟨hp,g,d,tk,os⟩:=s2;exact G0 OA c.e c.at_ (I2.D5 e2) e3 fun h' b x'=>⟨.eA,_,I2.PB (t':=tk) e2 b x',rfl,q _⟩
def Tx (K:Frag)(ta tv:TE):TS:=fun D σ H=>tv σ H fun y H1=>ta σ H1 fun x H2=> ∃(e C R:Addr) (vs:Array Value),x= .ref e/\H2 e=some (xo e C none vs)/\g8 K C R/\
 ∀dx,H2 dx=none->D.nx σ (upd (upd H2 dx (.xd [("text",y)])) e (xo e C (some dx) vs))
def Mt (ha:PE X o ta)(hv:PE X value tv)(hs:swapsWith value (some (.Attribute o "text" pos')) pos.line X.env=pure false):PS X (.Assign [.Attribute o "text" pos'] value pos) (Tx X.K ta tv):=by
 intro pins s σ H D I h;refine Ox (dY (hv pins s σ H _ I h) fun u s1 ⟨y,H1,I1,ry,q⟩=>dY (ha pins s1 σ H1 _ I1 q) fun ov s2 ⟨x,H2,I2,rx,e,C,R,vs,e1,e2,k,q2⟩=>?_) hs;subst e1;obtain rfl:ov=Value.ref e:=rx;obtain⟨nm,qn,N,bs,bm,sn,sub,ab,col,dd,k0,k1,k2,k3,k5,c⟩:=k.on;have c:=c _ I2.gW;have hn:=I2.cB.fresh (aD s2.heap.objs.size);obtain⟨hp,g,d,tk,os⟩:=s2;refine Mq PySem.F.store_Exception c.o c.at_ c.rf (lJ I2.gW k.sa) (lJ I2.gW k.tx) (I2.D5 e2) fun h' Pw b x' n=>?_;exact⟨σ,_,I2.Ms (t':=Pw) e2 b x' n ry,q2 _ hn⟩
structure Fq (K:Frag)(R f:Addr):Prop where
 rd:readsIn K R (.type "type")=true
 sp:specialIn K (.ref R) "__getattribute__"=some (some (.builtin "type.__getattribute__"))
 fd:findCls K (.ref R) (.type "type") "__init__"=some (.val (.ref f))
 kp:keepIn K (.ref f)=true
def jl {pl:Sem Bool}(i:Fq X.K R f)(F:Tw X.prog X.w X.K X.mg X.base k f fd ps sp)(hr:iy k X.A)(hb:Binds X.K fd ps [])(hg:Gl X x)(hm:X.mg x=some (.ref R))(ha:PA X (e :: es) t)(qR:(x == ("__debug__":Str))=false:=by decide)
  (hs:starEach (e :: es) X.env=(false,eval e X.env) :: starEach es X.env:=by rfl) (iS:(backTo pos (starEach es X.env)).any (·.1)=false:=by rfl)
  (ht:eval (.Call (.Attribute (.Name x p) "__init__" apos) (e :: es) [] pos) X.env=(do
   let ov ← eval (.Name x p) X.env
   standAt apos.atName
   let(f,first) ← holding [ov] (getMethod ov "__init__" pl)
   callWith pos f first (backTo pos (starEach (e :: es) X.env)) (backToKw pos (keywordEach [] X.env))):=by rfl):
  PE X (.Call (.Attribute (.Name x p) "__init__" apos) (e :: es) [] pos) (uT sp [] E0 t):=by
 intro pins s σ H Q I h;refine wN (pl:=pl) (jF I hg hm ?_ qR) ht;refine PySem.W.method_cls I.gW i.sp (PySem.W.cls_value I.gW i.rd i.fd rfl ?_);refine kz (h₀:=X.base) I.ok.mod.LI i.kp (dY (ha pos pins _ σ H _ (I.tok _) h) fun us s1 ⟨vs,H1,I1,r,q⟩=>⟨I1.gW,?_⟩) hs iS;have q2:sp (vs ++ []) H1 Q E0:=q;rw[cf] at q2;exact Fp F hr I1.IZ hb I1 r q2
end
def Fly (mg:Str->Option Value)(n0:Nat)(H:Hp)(h:Heap)(a C dx:Addr):Prop:=
 ∃(vs:Array Value) (T:Addr),i8 h a (.ref C) (some dx) vs/\vs[1]? =some (.ref T)/\Ll h T .none/\T≠a/\n0<=a/\n0<=T/\H a=none/\H T=none/\(vs[2]? =some .none∨mg "Needed"=some (.ref C))
def mU (P:Program)(w:World)(mg:Str->Option Value):EY:=fun outer H s E e s'=>
 ∃(a C dx:Addr) (H':Hp),e= .ref a/\s'.os=s.os/\AllBare s'.gens/\Un (Dz outer) [] H H' s.heap s'.heap/\oW P w H' s'.heap/\Fly mg s.heap.objs.size H' s'.heap a C dx/\E (.ref C) (some dx) H'
def Fs {fs fr own:List Addr}{H H2:Hp}{h h2 h3:Heap}(u:Un fs [] H H2 h h2)(b:nK fr own h2 h3)(ho: ∀c∈own,h.objs.size<=c)(hf: ∀c∈fr,c∈fs∨h.objs.size<=c):Un fs [] H H2 h h3 where
 keep:=fun c o z n hc hx=>(b c o (u.keep c o z n hc hx) (fun w=>absurd (aM z) (xZ.mpr (ho c w)))).1 (fun w=>(hf c w).elim hc (fun q=>absurd (aM z) (xZ.mpr q)))
 slot:=fun c o z n hc hx=>by
  obtain⟨sl,e⟩:=u.slot c o z n hc hx;obtain⟨_,Wf,e2⟩:=b c _ e (fun w=>absurd (aM z) (xZ.mpr (ho c w)));exact⟨Wf,e2⟩
 free:=u.free
 there:=fun c o z hx=>by
  obtain⟨o',e⟩:=u.there c o z hx;obtain⟨_,Wf,e2⟩:=b c _ e (fun w=>absurd (aM z) (xZ.mpr (ho c w)));exact⟨_,e2⟩
 qL:=u.qL
 pU:=u.pU
 pV:=u.pV
def zz {P:Program}{w:World}{fr own:List Addr}{H:Hp}{h h':Heap}(k:oW P w H h)(b:nK fr own h h')(hf: ∀c∈fr,H c=none)(ho: ∀c∈own,H c=none):oW P w H h':=fun c u z=>by
 refine(k c u z).ud (fun d o hd w=>?_) (fun _ q=>q) fun _ _ q=>q;have t: ∃u',H d=some u':=hd.elim (fun q=>⟨u,by rw[q]; exact z⟩) (fun q=>⟨_,q⟩);obtain⟨u',y⟩:=t;exact(b d o w (fun q=>by rw[ho d q] at y; cases y)).1 (fun q=>by rw[hf d q] at y; cases y)
section
variable {X:Cx}{pins:List (Addr×Obj)}{σ:St}{H:Hp}{s:Shared}{h':Heap}{own:List Addr}
def Inv.j7 {c:Addr}(I:Inv X pins σ H s)(h:s.heap.objs.size<=c):(c∈X.ex∨X.s₀.heap.objs.size<=c)/\c≠X.env.locals/\(∀x k,X.env.cells.lookup x=some k->k≠c)/\ ∀p∈X.pn ++ pins,p.1≠c:=by
 refine⟨.inr (aV I.sz h),(a7 (bo I.lt h)).symm,fun x k z=>?_,fun p hp=>?_⟩
 ·obtain⟨v,w⟩:=I.cell x k z;exact a7 (bo w.lt h)
 ·exact a7 (bo (aM (I.pin p hp).1) h)
def Inv.but (I:Inv X pins σ H s)(b:nK (Dz X.stack) own s.heap h')
  (ho: ∀c∈own,H c=none/\(c∈X.ex∨X.s₀.heap.objs.size<=c)/\c≠X.env.locals/\(∀x k,X.env.cells.lookup x=some k->k≠c)/\ ∀p∈X.pn ++ pins,p.1≠c):Inv X pins σ H {s with heap:=h'}:=by
 refine I.EO (s':={s with heap:=h'}) (ch:=own) rfl ⟨fun c o z n hc hx=>(b c o z hx).1 hc,fun c o z n hc hx=>(b c o z hx).2,fun c o z n hx=>n,fun c o z hx=>?_,fun _ _ z=>z,fun _ _ _ z=>z,fun c ps z=>⟨#[],by rw[z]; simp⟩⟩ ?_ I.bare fun c hc=>(ho c hc).2
 ·obtain⟨_,sl,e⟩:=b c o z hx;exact⟨_,e⟩
 ·exact zz I.cB b I.qM fun c hc=>(ho c hc).1
end
structure RA (X:Cx)(E:XK):Prop where
 pass:Passes (mU X.prog X.w X.mg) X E
 mJ: ∀{pins:List (Addr×Obj)} {σ:St} {H:Hp} {s:Shared} {a C dx:Addr} {vs:Array Value},Inv X pins σ H s->i8 s.heap a (.ref C) (some dx) vs->vs[1]? =some .none->(vs[2]? =some .none∨X.mg "Needed"=some (.ref C))->
  X.s₀.heap.objs.size<=a->H a=none->E (.ref C) (some dx) H->X.xe (.ref a) s
 own:PassesOwn (model X.prog X.w) X.A X.env X.xe
 ownAt: ∀hd:Option Value,PassesOwnAt (model X.prog X.w) (X.A.mark hd) X.A X.env X.xe
 Iv:X.stack=X.env :: X.outer
 frm:X.env.frame=some X.env.locals
section
variable {P:Program}{w:World}{K:Frag}{mg:Str->Option Value}{base:Heap}{N:List Str}{qual:Str}{scope:Scope}{f:Addr}{cd:Value}{A:Around}{outer:List Env}{s:Shared}{H:Hp}{E:XK}
def Tz:Passes (mU P w mg) (k7 (mU P w mg) P w K mg base N qual scope f cd A outer s H E) E:=by
 rintro pins σ H1 s1 e s2 I ⟨a,C,dx,H2,rfl,ho,hg,u,cB,⟨vs,T,x,h1,ft,ne,na,nT,Ha,HT,h2⟩,q⟩;have I2:=I.EO (ch:=[]) ho u cB hg (fun b z=>absurd z (by simp));have sz:s.heap.objs.size<=s1.heap.objs.size:=I.sz;have RB:a < s2.heap.objs.size:=by
  obtain⟨o,z,_⟩:=x;exact aM z
 show wpAny _ _ (leaving (envOfC qual scope s.heap.objs.size f cd) (.ref a)) _ _ s2;refine Pu (base:=base) (outer:=outer) (L:=s.heap.objs.size) I.ok.frames I2.stack rfl x h1 ft ne fun h3 T' b x' hT t'=>?_;have RC:T'≠a:=by
  rw[hT];exact(a7 RB).symm
 refine⟨a,C,dx,H2,rfl,I2.os,I2.bare,Fs I2.base b ?_ ?_,zz cB b I2.qM ?_,⟨_,T',x',qm (fv h1),t',RC,aV sz na,?_,Ha,I2.cB.fresh (iQ hT.symm),?_⟩,q⟩
 ·intro c hc;rcases au.mp hc with rfl|hc
  ·exact aV sz nT
  ·rw[ao.mp hc];exact aV sz na
 ·intro c hc;rcases au.mp (I2.uM c hc) with hc|hc
  ·rw[hc];exact .inr (aD _)
  ·exact .inl hc
 ·intro c hc;rcases au.mp hc with rfl|hc
  ·exact HT
  ·rw[ao.mp hc];exact Ha
 ·rw[hT];exact I2.sz
 ·rw[q0 (by decide)];exact h2
def PF:RA (k7 (mU P w mg) P w K mg base N qual scope f cd A outer s H E) E where
 pass:=Tz
 mJ:=by
  intro pins σ H1 s1 a C dx vs I x h1 h2 na Ha q;have RB:a < s1.heap.objs.size:=by
   obtain⟨o,z,_⟩:=x;exact aM z
  show wpAny _ _ (leaving (envOfC qual scope s.heap.objs.size f cd) (.ref a)) _ _ s1;refine Pt (base:=base) (outer:=outer) (L:=s.heap.objs.size) I.ok.frames I.stack rfl x h1 fun h3 T' b x' hT t'=>?_;have RC:T'≠a:=by
   rw[hT];exact(a7 RB).symm
  refine⟨a,C,dx,H1,rfl,I.os,I.bare,Fs I.base b ?_ ?_,zz I.cB b I.qM ?_,⟨_,T',x',qm (fv h1),t',RC,na,?_,Ha,I.cB.fresh (iQ hT.symm),?_⟩,q⟩
  ·intro c hc;rw[ao.mp hc];exact na
  ·intro c hc;rcases au.mp (I.uM c hc) with hc|hc
   ·rw[hc];exact .inr (aD _)
   ·exact .inl hc
  ·intro c hc;rw[ao.mp hc];exact Ha
  ·rw[hT];exact I.sz
  ·rw[q0 (by decide)];exact h2
 own:=PassesOwn.leaving
 ownAt:=fun _=>PassesOwnAt.leaving
 Iv:=rfl
 frm:=rfl
def gw.okX {x qual:Str}{st:Stmt}{f:Addr}{fd:FuncData}{N ps:List Str}{k:Nat}{sp:Sp}(F:gw K x qual st f fd)(S:aU N ps (aA st))(len: ∀vs H Q E,sp vs H Q E->vs.length=ps.length)
  (f7: ∀(cY:Value) (A:Around) (outer:List Env) (s:Shared) (H:Hp) (vs:List V) (Q:VK) (E:XK),fh k (A.deeper (envOfC qual (aA st) s.heap.objs.size f cY))->RA (k7 (mU P w mg) P w K mg base N qual (aA st) f cY A outer s H E) E->sp vs H Q E->
   ∃t,pj (k7 (mU P w mg) P w K mg base N qual (aA st) f cY A outer s H E) (dF st) t/\t {nx:=fun _ H'=>Q .eA H',rt:=Q} (start N vs) H):l7 P w K mg base (mU P w mg) (k + 1) f fd ps sp:=by
 obtain⟨oc,od,kV,doc,pm,an,cY,ct,GA,rfl,lk,rZ⟩:=F.ex;exact Jb lk rZ S len fun A outer s H vs Q E hr y3=>f7 cY A outer s H vs Q E hr PF y3
end
def PH (K:Frag)(txt:Str):Sp:=fun vs H Q _=> ∃(e C R t0:Addr),vs=[.ref e]/\H e=some (xo e C none (v0 t0))/\g8 K C R/\ ∀dx t',H dx=none->Q .eA (upd (upd H dx (.xd [("text",.str txt)])) e (xo e C (some dx) (v0 t')))
def PJ (E:XK)(C:Addr)(txt:Str):TS:=fun _ _ H=> ∀dx,H dx=none->E (.ref C) (some dx) (upd H dx (.xd [("text",.str txt)]))
structure JG (P:Program)(w:World)(K:Frag)(mg:Str->Option Value)(base:Heap)(k:Nat)(x:Str)(C R:Addr)(txt:Str):Prop where
 mgC:mg x=some (.ref C)
 ek:g8 K C R
 kp:keepIn K (.ref C)=true
 init: ∃(f:Addr) (fd:FuncData),findIn K (.ref C) "__init__"=some (some (.ref f))/\typeIn K (.ref f)=some (.type "function")/\Tw P w K mg base k f fd ["self"] (PH K txt)/\Binds K fd ["self"] []
section
variable {X:Cx}{k:Nat}{C R:Addr}{x txt:Str}{p pos gI:Pos}{E:XK}
def JH (M:JG X.prog X.w X.K X.mg X.base k x C R txt)(hr:iy (k + 1) X.A)(hg:Gl X x)(qR:(x == ("__debug__":Str))=false){pins:List (Addr×Obj)}{σ:St}{H:Hp}{s:Shared}{Q:Value->Shared->Prop}{xe:Value->Shared->Prop}(I:Inv X pins σ H s)
  (q: ∀(s2:Shared) (e dx t':Addr),s.heap.objs.size<=e->H dx=none->H e=none->dx≠e->Inv X pins σ (upd H dx (.xd [("text",.str txt)])) s2->i8 s2.heap e (.ref C) (some dx) (v0 t')->Q (.ref e) s2):
  wpAny (model X.prog X.w) X.A (eval (.Call (.Name x p) [] [] gI) X.env) Q xe s:=by
 obtain⟨f,fd,hi,hf,F,hb⟩:=M.init;refine eQ (jF I hg M.mgC ?_ qR);refine Ba I.gW M.kp ?_;obtain⟨nm,qn,N,bs,bm,sn,sub,ab,col,dd,k0,k1,k2,k3,k5,c⟩:=M.ek.on;have c:=c _ I.gW;have hz:=I.cB.fresh (cM s.heap.objs.size);have I1:=I.kept (t':=s.toks) (h':=s.heap.push (jz [])) (fun b u z=>ay _ z);have ex:i8 ((s.heap.push (jz [])).push (mh C s.heap.objs.size)) (s.heap.objs.size + 1) (.ref C) none (v0 s.heap.objs.size):=⟨mh C s.heap.objs.size,by heap_get,rfl,rfl,rfl⟩;have I2:=I1.laid (a:=s.heap.objs.size + 1) (o:=xo (s.heap.objs.size + 1) C none (v0 s.heap.objs.size)) (t':=s.toks) (h':=(s.heap.push (jz [])).push (mh C s.heap.objs.size)) (fun b u z=>ay _ z) (iQ (oB _ _)) (JE ex);have V4:=PySem.W.looks_typeIn (M:=model X.prog X.w) I.gW hf;have PL: ∃oI,s.heap.get? f=some oI/\oI.cls= .type "function":=by
  have z:=hf;unfold typeIn at z;dsimp only at z;cases w:X.K.lookup f with
  |none=>rw[w] at z; cases z
  |some o=>
   rw[w] at z;exact⟨o,I.gW _ _ w,aG z⟩
 obtain⟨oI,PL,Ts⟩:=PL;have e0:=I2.IZ.make C [] [];obtain⟨hp,g,d,tk,os⟩:=s;refine call_exc OA c.e c.na c.nn c.at_ (lJ I.gW hi) PL Ts ?_;refine dY (Fp (X:=X) F (hr.make C [] []) e0 hb I2 (us:=[.ref (hp.objs.size + 1)]) (vs:=[.ref (hp.objs.size + 1)]) (Q:=fun v H'=>v= .eA/\ ∃dx t',H dx=none/\dx≠hp.objs.size + 1/\H'=upd (upd (upd H (hp.objs.size + 1) (xo (hp.objs.size + 1) C none (v0 hp.objs.size))) dx (.xd [("text",.str txt)])) (hp.objs.size + 1) (xo (hp.objs.size + 1) C (some dx) (v0 t'))) (.cons rfl .nil) ?_) fun u s2 h2=>?_
 ·refine⟨_,C,R,_,rfl,ag,M.ek,fun dx t' Dn=>⟨rfl,dx,t',?_⟩⟩;have ne:dx≠hp.objs.size + 1:=fun z=>by
   rw[z,ag] at Dn;cases Dn
  rw[az ne] at Dn;exact⟨Dn,ne,rfl⟩
 ·obtain⟨v,H',I3,rv,rfl,dx,t',Dn,ne,rfl⟩:=h2;refine⟨rv,?_⟩;have I4:=Inv.drop I hz I3 ag;have eH:gone (upd (upd (upd H (hp.objs.size + 1) (xo (hp.objs.size + 1) C none (v0 hp.objs.size))) dx (.xd [("text",.str txt)])) (hp.objs.size + 1) (xo (hp.objs.size + 1) C (some dx) (v0 t'))) (hp.objs.size + 1)=upd H dx (.xd [("text",.str txt)]):=by
   funext b
   by_cases h1:b=hp.objs.size + 1
   ·rw[h1,yz,az ne.symm,hz]
   ·rw[iM h1,az h1];by_cases h2:b=dx
    ·rw[h2,ag,ag]
    ·rw[az h2,az h2,az h1]
  rw[eH] at I4;exact q s2 _ dx t' (cM _) Dn hz ne I4 (I3.D5 ag)
def j8 (T:RA X E)(M:JG X.prog X.w X.K X.mg X.base k x C R txt)(hr:iy (k + 1) X.A)(hg:Gl X x)(hc:X.calm=true)(qR:(x == ("__debug__":Str))=false:=by decide):
  PS X (.Raise (some (.Call (.Name x p) [] [] gI)) none pos) (PJ E C txt):=by
 intro pins s σ H D I h;rw[arm_exec_Raise];obtain⟨nm,qn,N,bs,bm,sn,sub,ab,col,dd,k0,k1,k2,k3,k5,c⟩:=M.ek.on;refine aB (iC (D3 (C:=C) (nm:=nm) (q:=qn) (N:=N) (bs:=bs) (bm:=bm) (oZ:=true) (sn:=sn) (sub:=sub) (ab:=ab) (col:=col) (dd:=dd) (k0:=k0) (k1:=k1) (k2:=k2) (k3:=k3) (k5:=k5) (newId:="Exception.__new__") (c _ I.gW).b (I.ok.hd hc) (aB (JH M hr hg qR I fun s2 e dx t' he Dn hz ne I2 x2=>aB (iC (bF ?_))))));exact⟨e,some dx,v0 t',rfl,(c _ I2.gW).at_,x2,rfl,T.mJ I2 x2 rfl (.inl rfl) (aV I.sz he) (by rw[az ne.symm]; exact hz) (h dx Dn)⟩
end
abbrev Cx.xh (X:Cx)(xe:Value->Shared->Prop)(pn:List (Addr×Obj)):Cx:={X with xe:=xe,pn:=pn}
abbrev Cx.Ln (X:Cx)(e:Value)(pn:List (Addr×Obj))(xe:Value->Shared->Prop):Cx:={X with A:=X.A.mark (some e),calm:=false,pn:=pn,xe:=xe}
section
variable {X:Cx}{pins Bg l:List (Addr×Obj)}{σ:St}{H:Hp}{s:Shared}{xe:Value->Shared->Prop}{E:XK}
def Inv.xh (I:Inv X pins σ H s)(xe:Value->Shared->Prop):Inv (X.xh xe (X.pn ++ pins)) [] σ H s:=
 have ok:=I.ok
 ⟨⟨ok.mod,ok.kind,ok.glob,ok.blt,ok.above,ok.inj,ok.has,ok.Le,ok.hd,ok.frames,ok.Iv,ok.LJ,ok.bs,ok.Be,ok.wV,ok.wW,ok.l6,ok.EN⟩,I.os,I.bare,I.base,I.loc,I.cell,I.free,I.iU,fun p hp=>I.pin p (by simpa using hp),I.cB,I.len⟩
def Inv.j9 (I:Inv (X.xh xe (X.pn ++ pins)) Bg σ H s):Inv X pins σ H s:=
 have ok:=I.ok
 ⟨⟨ok.mod,ok.kind,ok.glob,ok.blt,ok.above,ok.inj,ok.has,ok.Le,ok.hd,ok.frames,ok.Iv,ok.LJ,ok.bs,ok.Be,ok.wV,ok.wW,ok.l6,ok.EN⟩,I.os,I.bare,I.base,I.loc,I.cell,I.free,I.iU,fun p hp=>I.pin p (cZ _ hp),I.cB,I.len⟩
def Inv.Ln (I:Inv X pins σ H s)(e:Value)(xe:Value->Shared->Prop)(h: ∀p∈l,s.heap.get? p.1=some p.2/\H p.1=none/\p.1≠X.env.locals/\p.1∉X.fs/\ ∀v,p.2.data≠ .cell v):Inv (X.Ln e (X.pn ++ pins ++ l) xe) [] σ H s:=
 have ok:=I.ok
 ⟨⟨ok.mod,ok.kind,ok.glob,ok.blt,ok.above,ok.inj,ok.has,ok.Le,(fun z=>by cases z),ok.frames,ok.Iv,ok.LJ,ok.bs,ok.Be,ok.wV,ok.wW,ok.l6,ok.EN⟩,I.os,I.bare,I.base,I.loc,I.cell,I.free,I.iU,
  fun p hp=>by
   rw[cf] at hp;exact(bc.mp hp).elim (fun z=>I.pin p z) (h p),I.cB,I.len⟩
def Inv.TB (I0:Inv X pins σ H s){e:Value}{σ':St}{H':Hp}{s':Shared}(I:Inv (X.Ln e (X.pn ++ pins ++ l) xe) Bg σ' H' s'):Inv X pins σ' H' s':=
 have ok:=I.ok
 ⟨⟨ok.mod,ok.kind,ok.glob,ok.blt,ok.above,ok.inj,ok.has,ok.Le,I0.ok.hd,ok.frames,ok.Iv,ok.LJ,ok.bs,ok.Be,ok.wV,ok.wW,ok.l6,ok.EN⟩,I.os,I.bare,I.base,I.loc,I.cell,I.free,I.iU,
  fun p hp=>I.pin p (cZ _ (cZ _ hp)),I.cB,I.len⟩
def SP.j9 {D:Ends}{f:Flow}{s':Shared}(h:SP (X.xh xe (X.pn ++ pins)) [] D f s'):SP X pins D f s':=by
 cases f with
 |next=>obtain⟨σ',H',I,q⟩:=h; exact⟨σ',H',I.j9,q⟩
 |brk=>obtain⟨σ',H',I,q⟩:=h; exact⟨σ',H',I.j9,q⟩
 |cont=>obtain⟨σ',H',I,q⟩:=h; exact⟨σ',H',I.j9,q⟩
 |ret u=>obtain⟨v,σ',H',I,r,q⟩:=h; exact⟨v,σ',H',I.j9,r,q⟩
def Inv.renamed {h5:Heap}{m5:Str->Option Value}{t':Nat}(I:Inv X pins σ H s)(n5:h5.Ns X.env.locals m5)(sb:Heap.SameBut X.env.locals s.heap h5):Inv X pins (List.replicate X.N.length none) H {s with heap:=h5,toks:=t'}:=by
 have low: ∀c o,X.s₀.heap.get? c=some o->c≠X.env.locals:=fun c o z=>a7 (bo (aM z) I.ok.above);refine⟨I.ok,I.os,I.bare,⟨fun c o z n hc hx=>(sb.2 c (low c o z)).trans (I.base.keep c o z n hc hx),fun c o z n hc hx=>?_,I.base.free,fun c o z hx=>?_,I.base.qL,I.base.pU,I.base.pV⟩,⟨m5,n5,fun i x v h1 h2 _=>?_⟩,fun x c z=>?_,I.free,I.iU,fun p hp=>?_,fun c u z=>?_,?_⟩
 ·obtain⟨sl,e⟩:=I.base.slot c o z n hc hx;exact⟨sl,(sb.2 c (low c o z)).trans e⟩
 ·obtain⟨o',e⟩:=I.base.there c o z hx;exact⟨o',(sb.2 c (low c o z)).trans e⟩
 ·rw[List.getElem?_replicate] at h2;split at h2 <;> cases h2
 ·obtain⟨v,w⟩:=I.cell x c z;exact⟨v,w.sameBut sb (I.NG x c z)⟩
 ·obtain⟨w1,w2,w3,w4⟩:=I.pin p hp;exact⟨(sb.2 _ w3).trans w1,w2,w3,w4⟩
 ·refine(I.cB c u z).ud (fun d o hd w=>(sb.2 d (fun q=>?_)).trans w) (fun _ q=>q) fun _ _ q=>q;rcases hd with hd|hd
  ·rw[← hd,q,I.free] at z;cases z
  ·rw[q,I.free] at hd;cases hd
 ·rw[iR]
def land (r6:X.stack=X.env :: X.outer)(Dm:X.env.frame=some X.env.locals){e:Value}{s':Shared}(I:Inv X pins σ H s)(c:mU X.prog X.w X.mg X.stack H s E e s'){hs:List ExceptHandler}{Q:Flow->Shared->Prop}
  (q: ∀(a C dx T:Addr) (vs:Array Value) (H':Hp) (s3:Shared),e= .ref a->Inv X pins σ H' s3->i8 s3.heap a (.ref C) (some dx) vs->vs[1]? =some (.ref T)->Ll s3.heap T .none->T≠a->s.heap.objs.size<=a->s.heap.objs.size<=T->H' a=none->H' T=none->
   (vs[2]? =some .none∨X.mg "Needed"=some (.ref C))->E (.ref C) (some dx) H'->wpAny (model X.prog X.w) X.A (handleBy e X.env hs) Q xe s3):
  wpAny (model X.prog X.w) X.A (noteFrame e X.env) (fun _ s2=>wpAny (model X.prog X.w) X.A (setFlight e none) (fun _ s3=>wpAny (model X.prog X.w) X.A (handleBy e X.env hs) Q xe s3) xe s2) xe s':=by
 obtain⟨a,C,dx,H2,rfl,ho,hg,u,cB,⟨vs,T,x,h1,ft,ne,na,nT,Ha,HT,h2⟩,z⟩:=c;have I2:=I.EO (ch:=[]) ho u cB hg (fun b z=>absurd z (by simp));have st:=I2.stack;rw[r6] at st;have RB:a < s'.heap.objs.size:=by
  obtain⟨o,z,_⟩:=x;exact aM z
 have Yk:s.heap.objs.size<=s'.heap.objs.size:=aV na (cJ RB);refine NU (base:=X.base) (outer:=X.outer) (by rw[I.ok.frames,r6]) st Dm x h1 ft ne fun h3 T' b x3 hT t3=>?_;have RC:T'≠a:=by
  rw[hT];exact(a7 RB).symm
 have HT':H2 T'=none:=I2.cB.fresh (iQ hT.symm);have nT':=I2.j7 (iQ hT.symm);have b':nK (Dz X.stack) [T,a] s'.heap h3:=by
  rw[r6];exact b
 have I3:=I2.but b' (fun c hc=>by
  rcases au.mp hc with rfl|hc
  ·exact⟨HT,I.j7 nT⟩
  ·rw[ao.mp hc];exact⟨Ha,I.j7 na⟩)
 refine vw (s:={s' with heap:=h3}) x3 (qm (fv h1)) t3 fun h4 b4 t4 _=>?_;have I4:=I3.but (h':=h4) (own:=[T']) (b4.mono (fun _ z=>absurd z (by simp)) (fun _ z=>z)) (fun c hc=>by
  rw[ao.mp hc];exact⟨HT',nT'⟩)
 refine q a C dx T' _ H2 _ rfl I4 (x3.but b4 (by simpa using RC.symm)) (qm (fv h1)) t4 RC na (by rw[hT]; exact Yk) Ha HT' ?_ z;rw[q0 (by decide)];exact h2
end
section
variable {X:Cx}{R:Addr}{n x:Str}{i k:Nat}{p1 p2 p3 p4 p5 pos gI:Pos}{body:List Stmt}{t:XK->TS}{E:XK}{CN:Addr}{txt:Str}
def TC (K:Frag)(R:Addr)(D:Ends):XK:=fun c d H'=> ∃(C dx:Addr) (txt:Str),c= .ref C/\d=some dx/\g8 K C R/\H' dx=some (.xd [("text",.str txt)])/\D.rt (.str txt) H'
def Mu (K:Frag)(R:Addr)(t:XK->TS):TS:=fun D σ H=>t (TC K R D) D σ H
def G3 (r6:X.stack=X.env :: X.outer)(Dm:X.env.frame=some X.env.locals)(hc:X.calm=true)(hN:X.N.Nodup)(hi:X.N[i]? =some n)(hl:X.env.scope.names.lookup n=some .local)(hg:Gl X x)(hm:X.mg x=some (.ref R))(kR:g8 X.K R R)
  (hb: ∀(xe:Value->Shared->Prop) (pn:List (Addr×Obj)) (E:XK),Passes (mU X.prog X.w X.mg) (X.xh xe pn) E->pj (X.xh xe pn) body (t E)) (hd:(n == ("__debug__":Str))=false:=by decide) (rZ:(n == ("__classdict__":Str))=false:=by decide) (hx:(x == ("__debug__":Str))=false:=by decide):
  PS X (.Try body [.ExceptHandler (some (.Name x p1)) (some n) [.Return (some (.Attribute (.Name n p2) "text" p3)) p4] p5] [] [] pos) (Mu X.K R t):=by
 intro pins s σ H D I h;refine wpAny_Try_except (ck (hb (fun e s1=>wpAny (model X.prog X.w) X.A (noteFrame e X.env) (fun _ s2=>wpAny (model X.prog X.w) X.A (setFlight e none) (fun _ s3=>
  wpAny (model X.prog X.w) X.A (handleBy e X.env [.ExceptHandler (some (.Name x p1)) (some n) [.Return (some (.Attribute (.Name n p2) "text" p3)) p4] p5]) (SP X pins D) X.xe s3) X.xe s2) X.xe s1) (X.pn ++ pins) (TC X.K R D) ?_ [] s σ H D (I.xh _) h) (fun f s1 q=>?_) fun _ _ z=>z)
 ·rintro TF σ1 H1 s1 e s2 I1 cx;refine land r6 Dm I1.j9 cx fun a C dx T vs H2 s3 he I3 x3 h1 ft ne na nT Ha HT h2 z=>?_;subst he;obtain⟨C',dx',txt,e1,e2,ek,ed,q⟩:=z;cases e1;cases e2;obtain⟨oe,Yl,Rl,PM,TH⟩:=id x3;have cC:=ek.on;have cR:=kR.on;obtain⟨_,_,_,_,_,_,_,_,_,_,_,_,_,_,_,cC⟩:=cC;obtain⟨_,_,_,_,_,_,_,_,_,_,_,_,_,_,_,cR⟩:=cR;have nw:=I1.j9.j7 na;have Im:=I3.Ln (l:=[(a,oe)]) (.ref a) (fun _ _=>False) (fun p hp=>by
   rw[ao.mp hp];exact⟨Yl,Ha,nw.2.1,I1.j9.Gp na,fun v z=>by rw[TH] at z; cases z⟩)
  refine wpAny_handleBy_cons (codeAny_handlers_test (jF Im hg hm ?_ hx)) (by intro q; cases q);obtain⟨hp,g,d,tk,os⟩:=s3;refine yy (cC _ I3.gW).at_ (cR _ I3.gW).at_ x3 (cR _ I3.gW).b (cC _ I3.gW).up ?_;refine codeAny_handlers_suite_as ?_;refine vw x3 h1 ft fun h4 b4 t4 _=>?_;have Mv:=I1.j9.j7 nT;have I4:=Im.but (h':=h4) (own:=[T]) (b4.mono (fun _ z=>absurd z (by simp)) (fun _ z=>z)) (fun c hc=>by
   rw[ao.mp hc];refine⟨HT,Mv.1,Mv.2.1,Mv.2.2.1,fun p hp=>?_⟩;rw[cf] at hp;rcases bc.mp hp with hp|hp
   ·exact Mv.2.2.2 p hp
   ·rw[ao.mp hp];exact ne.symm)
  refine uN (X:=X.Ln (.ref a) (X.pn ++ pins ++ [(a,oe)]) (fun _ _=>False)) (v:= .ref a) I4 hN hi (.inl hl) rfl (fun s5 I5=>?_) (.inr hl);have pe:PE (X.Ln (.ref a) (X.pn ++ pins ++ [(a,oe)]) (fun _ _=>False)) (.Attribute (.Name n p2) "text" p3) (fun σ H Q=>σ[i]? =some (some (.ref a))/\H dx=some (.xd [("text",.str txt)])/\Q (.str txt) H):=by
   rintro NV s6 σ6 H6 Q6 J ⟨e1,e2,q6⟩;refine EW rfl (dY (DA (X:=X.Ln (.ref a) (X.pn ++ pins ++ [(a,oe)]) (fun _ _=>False)) hi (.inl hl) hd rZ NV s6 σ6 H6 (fun v H'=>v= .ref a/\H'=H6) J ⟨_,e1,rfl,rfl⟩) ?_);rintro u s7 ⟨v,H7,J7,rv,rfl,rfl⟩;obtain rfl:u=Value.ref a:=rv;obtain⟨w1,_⟩:=J7.pin (a,oe) (cZ _ (bw _ (ao.mpr rfl)));obtain⟨mA,n1,rl⟩:=J7.cB dx _ e2;have rt:=rl "text";have lk:List.lookup ("text":Str) [("text",V.str txt)]=some (V.str txt):=by simp[List.lookup]
   rw[lk] at rt;cases Ym:mA "text" with
   |none=>rw[Ym] at rt; exact False.elim rt
   |some u7=>
    rw[Ym] at rt;obtain⟨tk7,rfl⟩: ∃tk,u7=Value.str txt tk:=rt;obtain⟨hp7,g7,d7,t7,os7⟩:=s7;refine Mr PySem.F.attr_Exception.ga (cC _ J7.gW).b (cC _ J7.gW).at_ (lJ J7.gW ek.ga) (lJ J7.gW ek.gk) (lJ J7.gW ek.tx) ⟨oe,w1,Rl,PM,TH⟩ n1.ns Ym rfl ?_;exact⟨.str txt,H7,J7.tok _,⟨_,rfl⟩,q6⟩
  have hlen:i < σ1.length:=by
   rw[I1.len];exact(ah.mp hi).1
  refine wpAny_mono (av (a9 pe) [] s5 _ H2 {nx:=fun _ _=>False,rt:=fun v H'=>v= .str txt/\H'=H2} I5 ⟨by simp[hlen],ed,rfl,rfl⟩) (fun f s6 q6=>?_) fun _ _ z=>z.elim;cases f with
  |next=>obtain⟨_,_,_,z⟩:=q6; exact z.elim
  |brk=>obtain⟨_,_,_,z⟩:=q6; exact z.elim
  |cont=>obtain⟨_,_,_,z⟩:=q6; exact z.elim
  |ret u=>
   obtain⟨v,σ6,H6,I6,rv,rfl,rfl⟩:=q6;have I7:Inv X pins σ6 H6 s6:=Inv.TB I3 I6;obtain⟨m6,n6,_⟩:=id I7.loc;have kd:(X.env.scope.kind == .class || (X.env.scope.kind == .module && X.env.locals != X.env.globals))=false:=by
    rw[I.ok.kind];rfl
   refine wpAny_nameGoes hl n6 kd fun h7 m7 n7 sb=>?_;exact⟨.str txt,_,H6,I7.renamed n7 sb,rv,q⟩
 ·have q':=SP.j9 q;cases f with
  |next=>exact jt q'
  |brk=>exact q'
  |cont=>exact q'
  |ret u=>exact q'
def JI (CT CN:Addr)(txt:Str)(E:XK):XK:=fun c d H'=>c= .ref CT/\ ∀dx,H' dx=none->E (.ref CN) (some dx) (upd H' dx (.xd [("text",.str txt)]))
def G4 (CT CN:Addr)(txt:Str)(E:XK)(t:XK->TS):TS:=fun D σ H=>t (JI CT CN txt E) D σ H
def BL {CT:Addr}{kk:_}(T:RA X E)(hc:X.calm=true)(hg:Gl X x)(hm:X.mg x=some (.ref CT))(kT:g8 X.K CT R)(jy:X.mg "Needed"≠some (.ref CT))(M:JG X.prog X.w X.K X.mg X.base k "Needed" CN R txt)(hr:iy (k + 1) X.A)(hgN:Gl X "Needed")
  (hb: ∀(xe:Value->Shared->Prop) (pn:List (Addr×Obj)) (E:XK),Passes (mU X.prog X.w X.mg) (X.xh xe pn) E->pj (X.xh xe pn) body (t E)) (hx:(x == ("__debug__":Str))=false:=by decide):
  PS X (.Try body [.ExceptHandler (some (.Name x p1)) none [.Raise (some (.Call (.Name "Needed" p2) [] [] gI)) (some (.Constant .none kk p3)) p4] p5] [] [] pos) (G4 CT CN txt E t):=by
 intro pins s σ H D I h;refine wpAny_Try_except (ck (hb (fun e s1=>wpAny (model X.prog X.w) X.A (noteFrame e X.env) (fun _ s2=>wpAny (model X.prog X.w) X.A (setFlight e none) (fun _ s3=>
  wpAny (model X.prog X.w) X.A (handleBy e X.env [.ExceptHandler (some (.Name x p1)) none [.Raise (some (.Call (.Name "Needed" p2) [] [] gI)) (some (.Constant .none kk p3)) p4] p5]) (SP X pins D) X.xe s3) X.xe s2) X.xe s1) (X.pn ++ pins) (JI CT CN txt E) ?_ [] s σ H D (I.xh _) h) (fun f s1 q=>?_) fun _ _ z=>z)
 ·rintro TF σ1 H1 s1 e s2 I1 cx;refine land T.Iv T.frm I1.j9 cx fun a C dx T0 vs H2 s3 he I3 x3 h1 ft ne na nT Ha HT h2 z=>?_;subst he;obtain⟨e1,q⟩:=z;cases e1;have v2:vs[2]? =some .none:=h2.elim id (fun z=>absurd z jy);obtain⟨oe,Yl,Rl,PM,TH⟩:=id x3;obtain⟨_,_,_,_,_,_,_,_,_,_,_,_,_,_,_,cT⟩:=kT.on;obtain⟨nm,qn,N,bs,bm,sn,sub,ab,col,dd,k0,k1,k2,k3,k5,cN⟩:=M.ek.on;have nw:=I1.j9.j7 na;have Yn: ∀p∈[(a,oe)],s3.heap.get? p.1=some p.2/\H2 p.1=none/\p.1≠X.env.locals/\p.1∉X.fs/\ ∀v,p.2.data≠ .cell v:=fun p hp=>by
   rw[ao.mp hp];exact⟨Yl,Ha,nw.2.1,I1.j9.Gp na,fun v z=>by rw[TH] at z; cases z⟩
  have Im:=I3.Ln (l:=[(a,oe)]) (.ref a) X.xe Yn;refine wpAny_handleBy_cons (codeAny_handlers_test (jF Im hg hm ?_ hx)) (by intro q; cases q);obtain⟨hp,g,d,tk,os⟩:=s3;refine yy (b:=true) (cT _ I3.gW).at_ (cT _ I3.gW).at_ x3 (cT _ I3.gW).b (by simp) ?_;refine codeAny_handlers_suite ?_;refine vw x3 h1 ft fun h4 b4 t4 _=>?_;have Mv:=I1.j9.j7 nT;have I4:=Im.but (h':=h4) (own:=[T0]) (b4.mono (fun _ z=>absurd z (by simp)) (fun _ z=>z)) (fun c hc=>by
   rw[ao.mp hc];refine⟨HT,Mv.1,Mv.2.1,Mv.2.2.1,fun p hp=>?_⟩;rw[cf] at hp;rcases bc.mp hp with hp|hp
   ·exact Mv.2.2.2 p hp
   ·rw[ao.mp hp];exact ne.symm)
  refine wpAny_passesOwnAt (T.ownAt (some (.ref a))) ?_;have ps:PS (X.Ln (.ref a) (X.pn ++ pins ++ [(a,oe)]) X.xe) (.Raise (some (.Call (.Name "Needed" p2) [] [] gI)) (some (.Constant .none kk p3)) p4) (fun _ _ H=> ∀dx,H dx=none->E (.ref CN) (some dx) (upd H dx (.xd [("text",.str txt)]))):=by
   intro NV s6 σ6 H6 D6 J h6;rw[arm_exec_Raise];refine aB (iC (D4 (C:=CN) (e0:=a) (nm:=nm) (q:=qn) (N:=N) (bs:=bs) (bm:=bm) (oZ:=true) (sn:=sn) (sub:=sub) (ab:=ab) (col:=col) (dd:=dd) (k0:=k0) (k1:=k1) (k2:=k2) (k3:=k3) (k5:=k5) (newId:="Exception.__new__") (cN _ J.gW).b rfl (fun Rr s7 z=>aB (Constant_none (aB (iC (bF z))))) (aB (JH (X:=X.Ln (.ref a) (X.pn ++ pins ++ [(a,oe)]) X.xe) M (hr.mark _) hgN (by decide) J fun s7 e Yo t' he Dn hz ne7 I7 x7=>aB (iC (bF ?_))))));obtain⟨w1,_⟩:=I7.pin (a,oe) (cZ _ (bw _ (ao.mpr rfl)));have w0:=(J.pin (a,oe) (cZ _ (bw _ (ao.mpr rfl)))).1;have nea:e≠a:=fun q=>by
    rw[q] at he;exact absurd (aM w0) (xZ.mpr he)
   refine⟨e,some Yo,v0 t',.ref CT,some dx,vs,rfl,nea,(cN _ I7.gW).at_,x7,rfl,rfl,⟨oe,w1,Rl,PM,TH⟩,v2,fun h8 b8 x8=>?_⟩;have Hz:upd H6 Yo (.xd [("text",.str txt)]) e=none:=by
    rw[az ne7.symm];exact hz
   have I8:=I7.but (h':=h8) (own:=[e]) (b8.mono (fun _ z=>absurd z (by simp)) (fun _ z=>z)) (fun c hc=>by
    rw[ao.mp hc];exact⟨Hz,J.j7 he⟩)
   exact T.mJ (Inv.TB I3 I8) x8 rfl (.inr M.mgC) (aV J.sz he) Hz (h6 Yo Dn)
  refine ck (av ps [] _ _ H2 {nx:=fun _ _=>False,rt:=fun _ _=>False} I4 q) (fun f s9 z=>?_) fun _ _ z=>z;cases f with
  |next=>obtain⟨_,_,_,z⟩:=z; exact z.elim
  |brk=>obtain⟨_,_,_,z⟩:=z; exact z.elim
  |cont=>obtain⟨_,_,_,z⟩:=z; exact z.elim
  |ret u=>obtain⟨_,_,_,_,_,z⟩:=z; exact z.elim
 ·have q':=SP.j9 q;cases f with
  |next=>exact jt q'
  |brk=>exact q'
  |cont=>exact q'
  |ret u=>exact q'
end
open PySem.W
def BMain (mg:Str->Option Value)(h:Heap):Prop:= ∃bm o,mg "__builtins__"=some (.ref bm)/\bm≠builtinsNs/\bm≠mainGlobals/\h.get? bm=some o/\o.cls= .type "module"/\o.dict=some builtinsNs/\o.data= .plain
abbrev yA (c:Addr)(qual:Str):HO:= .ext fun h=>h.CodeRec (.ref c) qual
def JJ {P:Program}{w:World}{H:Hp}{h:Heap}{c:Addr}{qual:Str}(x:h.CodeRec (.ref c) qual):dE P w H h c (yA c qual):=by
 refine⟨x,?_,fun h1 h2 z k=>?_⟩
 ·obtain⟨c',o,vs,t,e,g,_⟩:=x;cases e;exact⟨o,g⟩
 ·obtain⟨c',o,vs,t,e,g,r⟩:=z;cases e;exact⟨c,o,vs,t,rfl,k o g,r⟩
def Tb (H:Hp)(P:Addr)(pos:Pos)(qual:Str):Prop:= ∃ps:Array Value,H P=some (.mY ps)/\TriplesOk ps.toList/\(codeAmong pos ps.toList=none∨ ∃c',codeAmong pos ps.toList=some (.ref c')/\H c'=some (yA c' qual))
section
variable {X:Cx}{pins:List (Addr×Obj)}{σ:St}{H:Hp}{s:Shared}{c P:Addr}{params:Arguments}{body:Expr}{scope:Scope}{pos:Pos}{Q:Value->Shared->Prop}{xe:Value->Shared->Prop}
def BMain.at {mg:Str->Option Value}{h h':Heap}(B:BMain mg h)(k: ∀b o,h.get? b=some o->h'.get? b=some o){ps:Array Value}(hP:h'.get? P=some (tabObj ps)):h'.BuiltinsAt mg P:=by
 obtain⟨bm,o,b1,b2,b3,b4,b5,b6,b7⟩:=B;refine⟨bm,o,b1,b2,b3,fun z=>?_,k _ _ b4,b5,b6,b7⟩;have e:=k _ _ b4;rw[z,hP] at e;cases e;cases b5
def JK (I:Inv X pins σ H s)(B:BMain X.mg X.base)(Ft:X.env.code= .ref c)(C:CodeHd X.base c P)(tb:Tb H P pos (X.env.qual ++ "<lambda>"))(PN:defaultsOf params X.env=([],[]))(rg:closureFor scope X.env=pure [])
  (q: ∀(f c':Addr) (Fu:Value) (H':Hp) (s':Shared),Inv X pins σ H' s'->Frame [P] H H'->Tb H' P pos (X.env.qual ++ "<lambda>")->H' f=none->s'.heap.get? f=some (kla_obj "<lambda>" (X.env.qual ++ "<lambda>") params body scope [] ((X.mg "__name__").getD .none) c' Fu)->
   H' c'=some (yA c' (X.env.qual ++ "<lambda>"))->s.heap.objs.size<=f->Q (.ref f) s'):wpAny (model X.prog X.w) X.A (eval (.Lambda params body scope pos) X.env) Q xe s:=by
 obtain⟨ps,hP,ht,hc⟩:=tb;have Wh:s.heap.get? P=some (tabObj ps):=I.cB P _ hP;have hg:s.heap.Ns mainGlobals X.mg:=I.mod.glob.keeps I.bk;have hgP:mainGlobals≠P:=fun z=>by
  obtain⟨o,es,ep,e,hd,_⟩:=hg;rw[z,Wh] at e;cases e;cases hd
 have hB:=B.at I.bk Wh;refine kla_eval PN ?_;rcases hc with hn|⟨c',hf,Wi⟩
 ·refine kla_makeFunction rg I.ok.glob hg Ft (C.keeps I.bk) Wh ht hn hgP hB fun c' Fu h' tk hx Pk iD Yp RD=>?_;have Yq:H c'=none:=I.cB.fresh Pk;have cP:c'≠P:=fun z=>by rw[z,hP] at Yq; cases Yq
  have lt: ∀b o,s.heap.get? b=some o->b≠c':=fun b o z=>a7 (bo (aM z) Pk);have same: ∀b,b≠P->b≠c'->upd (upd H P (.mY (ps ++ #[rawInt pos.line,rawInt pos.col,.ref c']))) c' (yA c' (X.env.qual ++ "<lambda>")) b=H b:=fun b n1 n2=>by rw[az n2,az n1]
  have Mw: ∀b u,H b=some u->u≠ .mY ps->b≠P:=fun b u z n w=>by
   rw[w,hP] at z;cases z;exact n rfl
  have G5: ∀b u,H b=some u->b≠c':=fun b u z=>aJ z Yq;generalize Wg:kla_obj "<lambda>" (X.env.qual ++ "<lambda>") params body scope [] ((X.mg "__name__").getD .none) c' Fu=ob;have hf:(h'.push ob).get? h'.objs.size=some ob:=by
   rw[← Wg];exact bR _ rfl
  have kp: ∀b o,b≠P->s.heap.get? b=some o->(h'.push ob).get? b=some o:=fun b o n z=>ay _ (hx b o n z);have TJ:(h'.push ob).get? P=some (tabObj (ps ++ #[rawInt pos.line,rawInt pos.col,.ref c'])):=ay _ RD;have I2:Inv X pins σ (upd (upd H P (.mY (ps ++ #[rawInt pos.line,rawInt pos.col,.ref c']))) c' (yA c' (X.env.qual ++ "<lambda>"))) {s with heap:=h'.push ob,toks:=tk}:=by
   refine I.un ⟨fun b o z n _ _=>kp b o (fun w=>by rw[w,hP] at n; cases n) z,fun b o z n _ _=>⟨o.slots,kp b o (fun w=>by rw[w,hP] at n; cases n) z⟩,fun b o z n _=>?_,fun b o z _=>?_,fun b xs z=>?_,fun b o u z=>?_,fun b qs z=>?_⟩ fun b u z=>?_
   ·rw[same b (fun w=>by rw[w,hP] at n; cases n) (lt b o z)];exact n
   ·by_cases w:b=P
    ·rw[w];exact⟨_,TJ⟩
    ·exact⟨o,kp b o w z⟩
   ·rw[same b (Mw b _ z (by intro w; cases w)) (G5 b _ z)];exact z
   ·rw[same b (Mw b _ z (by intro w; cases w)) (G5 b _ z)];exact z
   ·by_cases w:b=P
    ·rw[w] at z ⊢;rw[hP] at z;cases z;exact⟨_,by rw[az cP.symm,ag]⟩
    ·exact⟨#[],by rw[same b w (G5 b _ z),z]; simp⟩
   ·by_cases w:b=c'
    ·subst w;rw[ag] at z;cases z;exact JJ (Yp.push ob)
    ·rw[az w] at z;by_cases w2:b=P
     ·subst w2;rw[ag] at z;cases z;exact TJ
     ·rw[az w2] at z;refine(I.cB b u z).ud (fun d o hd y=>kp d o (fun w3=>?_) y) (fun d y=>?_) fun d xs y=>?_
      ·rcases hd with hd|hd
       ·exact w2 (hd▸w3)
       ·rw[w3,hP] at hd;cases hd
      ·rw[same d (Mw d _ y (by intro w; cases w)) (G5 d _ y)];exact y
      ·rw[same d (Mw d _ y (by intro w; cases w)) (G5 d _ y)];exact y
  have LL:H h'.objs.size=none:=I.cB.fresh (aV Pk (cJ iD));refine q h'.objs.size c' Fu _ _ I2 (fun b o nb z=>?_) ⟨ps ++ #[rawInt pos.line,rawInt pos.col,.ref c'],by rw[az cP.symm,ag],?_,.inr ⟨c',?_,ag⟩⟩ ?_ (by rw[Wg]; exact hf) ag (aV Pk (cJ iD))
  ·rw[same b (fun w=>nb (by rw[w]; exact ao.mpr rfl)) (G5 b _ z)];exact z
  ·rw[Array.toList_append];exact TriplesOk_snoc _ _ _ _ ht
  ·rw[Array.toList_append];exact codeAmong_snoc _ ht hn
  ·rw[same _ (fun w=>by rw[w,hP] at LL; cases LL) (qB iD)];exact LL
 ·refine kla_makeFunctionHit rg I.ok.glob hg Ft (C.keeps I.bk) Wh ht hf hB fun Fu h' tk hk hsz=>?_;have I2:=(I.kept (t':=tk) (h':=h'.push (kla_obj "<lambda>" (X.env.qual ++ "<lambda>") params body scope [] ((X.mg "__name__").getD .none) c' Fu)) fun b u z=>ay _ (hk b u z));exact q h'.objs.size c' Fu H _ I2 Frame.refl ⟨ps,hP,ht,.inr ⟨c',hf,Wi⟩⟩ (I.cB.fresh hsz) (bR _ rfl) Wi hsz
def JL {A:Around}{name qual:Str}{pm Fu:Value}{f c':Addr}{N ps:List Str}{us:List Value}{vs:List V}{t:TE}{R:VK}(I:Inv X pins σ H s)(e0:qQ X.prog X.w X.K X.mg X.base A X.stack s H)(Wj:A.depth < recursionLimit)
  (ho:s.heap.get? f=some (kla_obj name qual params body scope [] pm c' Fu)) (rZ:s.heap.CodeRec (.ref c') qual) (S:aU N ps scope) (hb:bindArgs (kla_fn name qual params body scope [] pm (.ref c') Fu) ⟨us,[]⟩=pure (ps.zip us)) (hl:vs.length=ps.length) (r:Vals vs us)
  (f7:PE (vy X.prog X.w X.K X.mg X.base N qual scope f (.ref c') A X.stack s H E0).DE body t) (h:t (start N vs) H R):wpAny (model X.prog X.w) A (call (.ref f) us) (EP X pins σ R) xe s:=by
 have lim:s.heap.NoLimit:=I.nolimit;have nu: ∀y∈ps.zip us,scope.names.lookup y.1=some .local∨(scope.names.lookup y.1=some .cell/\((cellsFrom (s.heap.objs.size + 1) scope.names []).lookup y.1).isSome=true):=fun⟨n,v⟩ hy=>by
  rcases S.par n (oS hy).1 with q|q
  ·exact .inl q
  ·exact .inr ⟨q,lA _ _ _ (.inl q)⟩
 refine EM (kla_callFunE Wj ho rfl S.co S.gen rfl rZ ?_);rw[hb];refine bF ?_;refine ub S.kind nu fun env he s1 y=>?_;subst he;refine⟨lim.keeps y.toInCall.keep,kla_codeExpr ?_⟩;have J:Inv (vy X.prog X.w X.K X.mg X.base N qual scope f (.ref c') A X.stack s H E0) [] (start N vs) H s1:=vz S e0 hl r y;refine ck (f7 [] s1 (start N vs) H R (J.uO _) h) (fun v s' hs=>?_) fun e s' hs=>hs.elim;obtain⟨v',H',J',rv,q'⟩:=hs;exact I.after ⟨v',H',J'.os,J'.bare,J'.base,J'.cB,rv,q'⟩
end
section
variable {X:Cx}{pins:List (Addr×Obj)}{σ:St}{H:Hp}{s:Shared}
def Inv.TK {D:Addr}{o:HO}(I:Inv X pins σ H s)(hn:H D=none)(ok:dE X.prog X.w (upd H D o) s.heap D o)(nw:(D∈X.ex∨X.s₀.heap.objs.size<=D)/\D≠X.env.locals/\(∀x k,X.env.cells.lookup x=some k->k≠D)/\ ∀p∈X.pn ++ pins,p.1≠D)
  (hx:X.s₀.heap.objs.size<=D):Inv X pins σ (upd H D o) s:=by
 have off: ∀b u,H b=some u->b≠D:=fun b u z=>aJ z hn;have low: ∀b ob,X.s₀.heap.get? b=some ob->b≠D:=fun b ob z=>a7 (bo (aM z) hx);refine⟨I.ok,I.os,I.bare,⟨I.base.keep,I.base.slot,fun b ob z n hb=>?_,I.base.there,fun b xs z=>?_,fun b ob u z=>?_,fun b ps z=>?_⟩,I.loc,I.cell,?_,fun x k z=>?_,fun p hp=>?_,fun b u z=>?_,I.len⟩
 ·rw[az (low b ob z)];exact I.base.free b ob z n hb
 ·have w:=I.base.qL b xs z;rw[az (off b _ w)];exact w
 ·have w:=I.base.pU b ob u z;rw[az (off b _ w)];exact w
 ·obtain⟨m,w⟩:=I.base.pV b ps z;exact⟨m,by rw[az (off b _ w)]; exact w⟩
 ·rw[az nw.2.1.symm];exact I.free
 ·rw[az (nw.2.2.1 x k z)];exact I.iU x k z
 ·obtain⟨w1,w2,w3⟩:=I.pin p hp;exact⟨w1,by rw[az (nw.2.2.2 p hp)]; exact w2,w3⟩
 ·by_cases q:b=D
  ·subst q;rw[ag] at z;cases z;exact ok
  ·rw[az q] at z;exact(I.cB b u z).ud (fun _ _ _ w=>w) (fun d w=>by rw[az (off d _ w)]; exact w) fun d xs w=>by rw[az (off d _ w)]; exact w
def Frame.sql {K:Frag}{fp:List Addr}{H H':Hp}{a:Addr}{xs:List V}(f:Frame fp H H')(h:bG K H a xs)(ha: ∀o,H a=some o->a∉fp):bG K H' a xs:=by
 rcases h with(h|⟨o,h⟩)|h
 ·exact .inl (.inl (f _ _ (ha _ h) h))
 ·exact .inl (.inr ⟨o,f _ _ (ha _ h) h⟩)
 ·exact .inr h
def Tb.upd {P:Addr}{pos:Pos}{qual:Str}{p:Addr}{o:HO}(t:Tb H P pos qual)(hp:H p=none):Tb (upd H p o) P pos qual:=by
 obtain⟨ps,h1,h2,h3⟩:=t;refine⟨ps,by rw[az (aJ h1 hp)]; exact h1,h2,?_⟩;rcases h3 with h3|⟨c',h3,h4⟩
 ·exact .inl h3
 ·exact .inr ⟨c',h3,by rw[az (aJ h4 hp)]; exact h4⟩
def Frame.new {fp:List Addr}{H H':Hp}{p:Addr}{o:HO}(f:Frame fp H H')(hp:H' p=none):Frame fp H (L2.upd H' p o):=fun b u hb z=>by
 have w:=f b u hb z;rw[az (aJ w hp)];exact w
end
def NW (K:Frag)(P:Addr)(pos:Pos)(qual:Str)(N:List Str)(tb:TE)(Q:VK)(x:V)(H1:Hp):Prop:= ∃(a:Addr) (xs:List V) (ts:List (List Int)) (key:List Int->Int),x= .ref a/\bG K H1 a xs/\xs.length < 64/\ts.length=xs.length/\Tb H1 P pos qual/\
 (∀t∈ts,t≠[])/\(∀t∈ts,∀u∈ts,HT.lexLt t u=decide (key t < key u))/\
 (∀i,i < xs.length-> ∀H2,Frame [P] H1 H2-> ∀R:VK,(∀p,H2 p=none->R (.ref p) (upd H2 p (.tup ((ts.getD i []).map V.int))))->tb (start N [xs.getD i .eA]) H2 R)/\
 ∀(D:Addr) (p:List Nat) (H2:Hp),p.Perm (List.range xs.length)->p.Pairwise (fun i j=>key (ts.getD i [])<=key (ts.getD j []))->Frame [P] H1 H2->Tb H2 P pos qual->H1 D=none->H2 D=some (.lst (p.map fun i=>xs.getD i .eA))->Q (.ref D) H2
def JM (K:Frag)(P:Addr)(pos:Pos)(qual:Str)(N:List Str)(ta tb:TE):TE:=fun σ H Q=>ta σ H (NW K P pos qual N tb Q)
def ir.snoc {H:Hp}: ∀{ts:List (List Int)} {xs:List V} {t:List Int} {p:Addr},ir H ts xs->H p=some (.tup (t.map V.int))->ir H (ts ++ [t]) (xs ++ [.ref p])
 |_,_,_,p,.nil,h=> .cons ⟨p,rfl,h⟩ .nil
 |_,_,_,p,.cons a r,h=> .cons a (ir.snoc r h)
def take_succ_getD {α:Type}{l:List α}{i:Nat}{d:α}(h:i < l.length):l.take (i + 1)=l.take i ++ [l.getD i d]:=by
 rw[A3,af h,ak,af h];rfl
section
variable {X:Cx}{c P:Addr}{params:Arguments}{body e:Expr}{scope:Scope}{p pos JN Sx:Pos}{ta tb:TE}{N:List Str}{y:Str}
def vA (hg:Gl X "sorted")(hm:X.mg "sorted"=none)(B:BMain X.mg X.base)(Ft:X.env.code= .ref c)(C:CodeHd X.base c P)(hr:fh 1 X.A)(S:aU N [y] scope)
  (f7: ∀(f c':Addr) (A:Around) (s:Shared) (H:Hp),PE (vy X.prog X.w X.K X.mg X.base N (X.env.qual ++ "<lambda>") scope f (.ref c') A X.stack s H E0).DE body tb) (ha:PE X e ta)
  (hb: ∀(pm Fu u:Value) (c':Addr),bindArgs (kla_fn "<lambda>" (X.env.qual ++ "<lambda>") params body scope [] pm (.ref c') Fu) ⟨[u],[]⟩=pure ([y].zip [u]):=by intros; rfl)
  (PN:defaultsOf params X.env=([],[]):=by rfl) (rg:closureFor scope X.env=pure []:=by rfl)
  (he:backTo pos (starEach [e] X.env)=(false,eval e X.env) :: backTo pos (starEach [] X.env):=by rfl)
  (hs:starEach [e] X.env=(false,eval e X.env) :: starEach [] X.env:=by rfl) (uW:(backTo pos (starEach [e] X.env)).any (·.1)=false:=by rfl):
  PE X (.Call (.Name "sorted" p) [e] [⟨some "key",.Lambda params body scope JN,Sx⟩] pos) (JM X.K P JN (X.env.qual ++ "<lambda>") N ta tb):=by
 intro pins s σ H Q I h;refine eQ (pW I hg hm (u:= .builtin "sorted") (by rfl) ?_);refine PyProof.Rows.callWith_kw (dY ((aa ha aw hs) pos pins s σ H (fun vs H1=>match vs with|[x]=>NW X.K P JN (X.env.qual ++ "<lambda>") N tb Q x H1|_=>False) I h) fun us s1 h1=>?_) he uW rfl rfl;obtain⟨vs,H1,I1,rv,q1⟩:=h1;cases vs with
 |nil=>exact q1.elim
 |cons x vs=>
 cases vs with
 |cons _ _=>exact q1.elim
 |nil=>
 obtain⟨a,xs,ts,key,rfl,hS,Dl,iD,tb1,jy,IU,hbd,fin⟩:=q1;obtain⟨u,rfl,ru⟩:=vals1 rv;obtain rfl:u=Value.ref a:=ru;show wpAny _ _ (evalAll [(do let v ← eval (.Lambda params body scope JN) X.env; standAt pos; pure v)]) _ _ s1;refine wpAny_evalAll_cons (aB (JK I1 B Ft C tb1 PN rg fun f c' Fu H2 s2 I2 fr2 tb2 LL PL Wi hle=>aB (iC (bF (wpAny_evalAll_nil ?_)))));show wpAny _ _ (call (.builtin "sorted") [.ref a] [(Str.ofString "key",.ref f)]) _ _ s2;have aP: ∀o,H1 a=some o->a∉[P]:=fun o z w=>by
  obtain⟨ps,hP,_⟩:=tb1;have w':=ao.mp w;rcases hS with(hS|⟨_,hS⟩)|⟨ob,_,_,hK,rg,_⟩
  ·rw[w',hP] at hS; cases hS
  ·rw[w',hP] at hS; cases hS
  ·have e1:=I1.gW _ _ hK;have e2:s1.heap.get? P=some _:=I1.cB P _ hP;rw[w',e2] at e1;cases e1;cases rg
 have PQ:=fr2.sql hS aP;obtain⟨b0,Yr,pl,hz⟩:=I2.list PQ;have hl:=Yr.length;have lf:f < s2.heap.objs.size:=aM PL;have Yk:s1.heap.objs.size<=s2.heap.objs.size:=aV hle (cJ lf);refine sortedK pl.isList (by lia) fun D kS e1 h' kp d1 k1 neD RE Wk=>?_;have I3:=I2.kept (t':=s2.toks) kp;have HD:H2 D=none:=I2.cB.fresh RE;have HK:H2 kS=none:=I2.cB.fresh Wk;have NX:=I2.j7 RE;have PR:=I2.j7 Wk;have nwf:=I1.j7 hle;have fD:f≠D:=a7 (bo lf RE);have fK:f≠kS:=a7 (bo lf Wk);have dp:X.A.in1.in1.depth < recursionLimit:=hr.depth;generalize TL:kla_obj "<lambda>" (X.env.qual ++ "<lambda>") params body scope [] ((X.mg "__name__").getD .none) c' Fu=RF at PL;have loop: ∀(r:List Value) (i:Nat) (ks:List Value) (bh:List V) (Hi:Hp) (si:Shared),r=b0.drop i->i<=xs.length->Inv X (pins ++ [(f,RF),(D,seqObj "list" #[] e1)]) σ Hi si->(∃e,si.heap.get? kS=some (seqObj "list" ks.toArray e))->Hi kS=none->
   Frame [P] H1 Hi->Tb Hi P JN (X.env.qual ++ "<lambda>")->Hi c'=some (yA c' (X.env.qual ++ "<lambda>"))->ir Hi (ts.take i) bh->Vals bh ks->
   tM X.prog X.w X.A.in1.in1 kS (.ref f) (GX X.prog X.w X.A.in1.in1 D kS e1 b0 (fun s'=>EP X pins σ Q (.ref D) s')) r ks si:=by
  intro r
  induction r with
  |nil=>
   intro i ks bh Hi si hr hi Ii hk Mx Wl Ys Wm hT rk;have ei:i=xs.length:=by
    have:=cU List.length hr;rw[wQ,hV] at this;lia
   have PU:ir Hi ts bh:=by rwa [ei,← iD,aZ] at hT
   have lk:bh.length=xs.length:=by have:=PU.length; lia
   have lk2:=rk.length;obtain⟨w1,w2,_⟩:=Ii.pin (D,seqObj "list" #[] e1) (List.mem_append_right _ (List.mem_append_right _ (by simp)));refine⟨tuples' true,fun i=>key (ts.getD i []),neD,w1,fun h2 Q' q'=>?_,fun a b C ha hb q'=>?_,fun pr h5 n TM hUp hsz hD5 NY=>?_⟩
   ·obtain⟨fs,f1,f2,f3⟩:=sG Ii (fun _ _ z=>z) PU rk jy;refine kat_kind (T:= .type "int") f1 (by lia) (fun v hv=>?_) rfl q';obtain⟨n,t,rfl⟩:=f3 v hv;exact Looks.of_pure rfl
   ·obtain⟨p1,g1,g2⟩:=PU.get (i:=a) (by lia);obtain⟨p2,g3,g4⟩:=PU.get (i:=b) (by lia);have v1:=jP rk a;have v2:=jP rk b;rw[g1] at v1;rw[g3] at v2;have v1':ks.getD a Value.none= .ref p1:=v1;have v2':ks.getD b Value.none= .ref p2:=v2;rw[v1',v2'];obtain⟨o1,X0,n1,GR,hc1,ma,Td⟩:=Ii.tupI g2;obtain⟨o2,GC,n2,Rx,Mh,hd2,Te⟩:=Ii.tupI g4;refine kat_lt GR ma Rx hd2 ?_;have l1:=Td.length;have l2:=Te.length;have m1:ts.getD a []∈ts:=by rw[ak,af (show a < ts.length by lia)]; exact bH _
    have m2:ts.getD b []∈ts:=by rw[ak,af (show b < ts.length by lia)]; exact bH _
    have kx:=nF (prog:=X.prog) (w:=X.w) (A:=X.A.in1.in1) (b:=true) (Q:=C) (s:=si) 0 Td Te (by rw[IU _ m1 _ m2]; exact q');rw[bA,bA,l1,l2];exact kx
   ·have In:=Ii.jg;have bt:nK (Dz X.stack) [D,kS] si.heap h5:=fun b o z nb=>by
     have n1:b≠D:=fun w=>nb (by simp[w]);have n2:b≠kS:=fun w=>nb (by simp[w]);have e:=(NY b n1 n2).trans z;exact⟨fun _=>e,o.slots,e⟩
    have I5:=In.but bt (fun cc hc=>by
     rcases au.mp hc with rfl|hc
     ·exact⟨w2,NX⟩
     ·rw[ao.mp hc];exact⟨Mx,PR⟩)
    have mZ:=TM.size;have I6:=I5.TK (D:=D) (o:= .lst (pr.toList.map fun i=>xs.getD i .eA)) w2 ⟨by rw[ae,oU,mZ]; exact aV (iQ hl.symm) hz,_,n,sF Yr pr.toList,hD5⟩ NX (aV I2.sz RE);refine⟨.ref D,_,I6,rfl,fin D pr.toList _ ?_ ?_ (Wl.new w2) (Ys.upd w2) (I1.cB.fresh (aV Yk RE)) ag⟩
    ·have:=TM.list;rwa [← hl] at this
    ·exact tH mZ hUp
  |cons v r ih=>
   intro i ks bh Hi si hr hi Ii hk Mx Wl Ys Wm hT rk;have zq:i < xs.length:=by
    have:=cU List.length hr;rw[bO,hV] at this;lia
   have hv:v=b0.getD i Value.none/\r=b0.drop (i + 1):=by
    rw[jv (by lia)] at hr;injection hr with h1 h2;refine⟨?_,h2⟩;rw[h1,ak,af (by lia)];rfl
   obtain⟨hv,Yt⟩:=hv;obtain⟨ek,hk⟩:=hk;have Ip:Inv X (pins ++ [(f,RF),(D,seqObj "list" #[] e1)] ++ [(kS,seqObj "list" ks.toArray ek)]) σ Hi si:=Ii.uu fun p hp=>by
    rcases bc.mp hp with hp|hp
    ·exact Ii.pin p (bw _ hp)
    ·rw[ao.mp hp];exact⟨hk,Mx,PR.2.1,I2.Gp Wk,fun v z=>by cases z⟩
   have Yu:si.heap.get? f=some RF:=(Ip.pin (f,RF) (List.mem_append_right _ (List.mem_append_left _ (List.mem_append_right _ (by simp))))).1;have rZ:si.heap.CodeRec (.ref c') (X.env.qual ++ "<lambda>"):=(Ip.cB c' _ Wm).1;have rvi:=jP Yr i;rw[← hv] at rvi;show wpAny _ _ (call (.ref f) [v]) _ _ si;refine ck (JL (us:=[v]) (vs:=[xs.getD i .eA]) (R:=fun y H'=> ∃p,y= .ref p/\Hi p=none/\H'=upd Hi p (.tup ((ts.getD i []).map V.int))) (xe:=fun _ _=>False) Ip Ip.IZ.in1.in1 dp (by rw[Yu,← TL]) rZ S (hb _ _ _ _) rfl (.cons rvi .nil) (f7 _ _ _ _ _)
    (hbd i zq Hi Wl _ fun p hp=>⟨p,rfl,hp,rfl⟩)) (fun u s5 h5=>?_) fun _ _ z=>z
   obtain⟨y,H5,I5,ry,pp,rfl,Lo,rfl⟩:=h5;obtain rfl:u=Value.ref pp:=ry;obtain⟨z1,z2,_⟩:=I5.pin (kS,seqObj "list" ks.toArray ek) (List.mem_append_right _ (List.mem_append_right _ (by simp)));refine⟨ek,z1,fun h6 cc sb hk6=>?_⟩;have I6:Inv X (pins ++ [(f,RF),(D,seqObj "list" #[] e1)]) σ _ _:=Inv.jg I5;have I7:=I6.turned (t':=s5.toks) (it:=kS) (h':=h6) (fun b o n z=>(sb.2 b n).trans z) z2 PR.2.1 PR.1 PR.2.2.1 (fun p hp=>by
    rcases bc.mp hp with hp|hp
    ·exact PR.2.2.2 p (cZ _ hp)
    ·rcases bc.mp hp with hp|hp
     ·exact PR.2.2.2 p (bw _ hp)
     ·rcases au.mp hp with rfl|hp
      ·exact fK
      ·rw[ao.mp hp];exact neD)
   have cpp:c'≠pp:=aJ Wm Lo;refine ih (i + 1) (ks ++ [.ref pp]) (bh ++ [.ref pp]) _ _ Yt zq I7 ⟨cc,hk6⟩ z2 (Wl.new Lo) (Ys.upd Lo) (by rw[az cpp]; exact Wm) ?_ (rk.append (show Vals [V.ref pp] [Value.ref pp] from .cons rfl .nil));rw[take_succ_getD (d:=[]) (by lia)];exact ir.snoc (hT.mono fun b xs z=>by rw[az (aJ z Lo)]; exact z) ag
 have Ip:Inv X (pins ++ [(f,RF),(D,seqObj "list" #[] e1)]) σ H2 {s2 with heap:=h'}:=I3.uu fun p hp=>by
  rcases bc.mp hp with hp|hp
  ·exact I3.pin p (bw _ hp)
  ·rcases au.mp hp with rfl|hp
   ·exact⟨kp _ _ PL,LL,nwf.2.1,I1.Gp hle,fun v z=>by rw[← TL] at z; cases z⟩
   ·rw[ao.mp hp];exact⟨d1,HD,NX.2.1,I2.Gp RE,fun v z=>by cases z⟩
 exact loop b0 0 [] [] H2 _ rfl (bq _) Ip ⟨0,k1⟩ HK fr2 tb2 Wi .nil .nil
end
def G6 {P:Program}{w:World}{K:Frag}{mg mb:Str->Option Value}{CX:EY}{k:Nat}{fa a:Addr}{fd:FuncData}{x:Str}{sp:Sp}{s₁:Shared}{vs:List Value}{ns:List Int}{cps:List (Addr×Addr)}
  (KX:K.In s₁.heap) (hns:s₁.heap.Ns mainGlobals mg) (hb:s₁.heap.Ns builtinsNs mb) (My: ∀x:Str,x≠"__name__"->mb x=bootBuiltins x) (Yv:s₁.heap.NoLimit) (hg:s₁.gens= #[])
  (ha:s₁.heap.get? a=some {cls:= .type "list",data:= .seq vs.toArray}) (hi:IntsAre vs ns) (hl:ns.length<=sizeLine) (hr:fh k callerA)
  (bm:BMain mg s₁.heap) (RD: ∀cp∈cps,s₁.heap.get? cp.2=some (tabObj #[])) (TN: ∀cp∈cps,codeHdIn K cp.1 cp.2=true/\K.lookup cp.2=none)
  (F: ∀base:Heap,K.In base->base.Ns mainGlobals mg->BMain mg base->l7 P w K mg base CX k fa fd [x] sp) (TQ: ∀(s:Shared) (u:Value),BindsTo s fd ⟨[u],[]⟩ [(x,u)])
  (y3: ∀H:Hp,(∀cp∈cps,H cp.2=some (.mY #[]))->bG K H a (ns.map V.int)->sp [.ref a] H (fun v _=>v= .bl true) fun _ _ _=>False)
  (hCX: ∀H e s',CX [] H s₁ (fun _ _ _=>False) e s'->False):
  codeAny (model P w) callerA (.call (.ref fa) ⟨[.ref a],[]⟩) (fun r s'=>r= .ok (.ret (.bool true))/\OldK s₁.heap s'.heap/\s'.os=s₁.os/\AllBare s'.gens) s₁:=by
 have rv:=yp hi;have TR:=hi.length;have aT: ∀cp∈cps,cp.2≠a:=fun cp hc z=>by
  have e:=RD cp hc;rw[z,ha] at e;cases e
 have core: ∀H:Hp,(∀b,H b=none∨(b=a/\H b=some (.Dj {cls:= .type "list",data:= .seq vs.toArray} (.lst (ns.map V.int)))/\K.lookup a=none)∨ ∃cp∈cps,b=cp.2/\H b=some (.mY #[]))->(∀cp∈cps,H cp.2=some (.mY #[]))->bG K H a (ns.map V.int)->
   codeAny (model P w) callerA (.call (.ref fa) ⟨[.ref a],[]⟩) (fun r s'=>r= .ok (.ret (.bool true))/\OldK s₁.heap s'.heap/\s'.os=s₁.os/\AllBare s'.gens) s₁:=by
  intro H hO hT hS;have cB:oW P w H s₁.heap:=fun b u z=>by
   rcases hO b with w|⟨rfl,w,_⟩|⟨cp,hc,rfl,w⟩
   ·rw[z] at w; cases w
   ·rw[z] at w;cases w;exact⟨ha,by rw[ae]; exact hl,vs,_,rv,ha⟩
   ·rw[z] at w;cases w;exact RD cp hc
  have zA: ∀{b:Addr} {o:Obj},s₁.heap.get? b=some o->H b=none->(wU s₁.heap H).get? b=some o:=fun e n=>IH e n;have noD: ∀{b:Addr} {o:Obj},s₁.heap.get? b=some o->((∃es ep,o.data= .dict es ep)∨o.data= .plain)->H b=none:=fun{b o} e d=>by
   rcases hO b with w|⟨rfl,w,_⟩|⟨cp,hc,rfl,w⟩
   ·exact w
   ·rw[ha] at e;cases e;rcases d with⟨es,ep,d⟩|d <;> cases d
   ·rw[RD cp hc] at e;cases e;rcases d with⟨es,ep,d⟩|d <;> cases d
  have Wn: ∀{b:Addr} {m:Str->Option Value},s₁.heap.Ns b m->(wU s₁.heap H).Ns b m:=fun{b m} ⟨o,es,ep,e,d,r⟩=>⟨o,es,ep,zA e (noD e (.inl ⟨es,ep,d⟩)),d,r⟩;have hKb:K.In (wU s₁.heap H):=fun b o e=>zA (KX b o e) (by
   rcases hO b with w|⟨rfl,w,hk⟩|⟨cp,hc,rfl,w⟩
   ·exact w
   ·rw[hk] at e; cases e
   ·rw[(TN cp hc).2] at e; cases e)
  have hBb:BMain mg (wU s₁.heap H):=by
   obtain⟨b,o,b1,b2,b3,b4,b5,b6,b7⟩:=bm;exact⟨b,o,b1,b2,b3,zA b4 (noD b4 (.inr b7)),b5,b6,b7⟩
  have hM:Mod K mg (wU s₁.heap H):=⟨hKb,Wn hns,⟨mb,Wn hb,My⟩,let⟨mc,h1,h2⟩:=Yv; ⟨mc,Wn h1,h2⟩⟩;have e0:qQ P w K mg (wU s₁.heap H) callerA [] s₁ H:=⟨rfl,hM,fun b o e=>LH e,Nat.le_of_eq (Gn _ _),trivial,fun b hb=>absurd (show b∈([]:List Addr) from hb) (by simp),cB,.of_eq hg⟩;refine Dw ((F _ hKb (Wn hns) hBb).run callerA [] s₁ H ⟨[.ref a],[]⟩ [.ref a] [.ref a] _ _ hr e0 (TQ s₁ (.ref a)) (.cons rfl .nil) (y3 H hT hS)) fun r s' h=>?_;cases r with
  |error e=>exact(hCX H e s' h).elim
  |ok fl=>
   cases fl with
   |next=>exact False.elim h
   |brk=>exact False.elim h
   |cont=>exact False.elim h
   |ret u=>
    obtain⟨v,H',os,bare,un,TU,r',q⟩:=h;have q':v= .bl true:=q;subst q';obtain rfl:u=Value.bool true:=r';have old: ∀b o,s₁.heap.get? b=some o->asItWas s₁.heap s'.heap b o:=fun b o e=>by
     rcases hO b with z|⟨rfl,z,_⟩|⟨cp,hc,rfl,z⟩
     ·exact .inl (un.keep b o e z (by intro w; exact absurd (show b∈([]:List Addr) from w) (by simp)) (by simp))
     ·have z2:=un.pU b _ _ z;obtain⟨e2,_⟩:=TU b _ z2;rw[ha] at e;cases e;exact .inl e2
     ·obtain⟨more,z2⟩:=un.pV _ _ z;have e2:s'.heap.get? cp.2=some (tabObj (#[] ++ more)):=TU _ _ z2;have e1:=RD cp hc;rw[e1] at e;cases e;obtain⟨oc,ws,_,_,_,_,_,_,_,c1,c2,c3,c4,_⟩:=codeHd_of_K KX (TN cp hc).1;exact .inr (.inl ⟨⟨cp.1,oc,ws,c1,c2,c3,c4⟩,rfl,#[],more,rfl,e2⟩)
    refine⟨rfl,⟨old,fun b o e=>?_⟩,os,bare⟩;exact un.there b o e (by simp)
 cases hk:K.lookup a with
 |some o=>
  have e:=KX a o hk;rw[ha] at e;cases e;refine core (fun b=>if b∈cps.map (·.2) then some (.mY #[]) else none) (fun b=>?_) (fun cp hc=>if_pos (List.mem_map.mpr ⟨cp,hc,rfl⟩)) (.inr ⟨_,vs.toArray,_,hk,rfl,rfl,rfl,by rw[List.size_toArray,TR]; exact hl,by simpa using rv⟩);by_cases hb:b∈cps.map (·.2)
  ·obtain⟨cp,hc,rfl⟩:=bJ.mp hb;exact .inr (.inr ⟨cp,hc,rfl,aY hb⟩)
  ·exact .inl (aN hb)
 |none=>
  have na:a∉cps.map (·.2):=fun h=>by
   obtain⟨cp,hc,z⟩:=bJ.mp h;exact aT cp hc z
  refine core (fun b=>if b=a then some (.Dj {cls:= .type "list",data:= .seq vs.toArray} (.lst (ns.map V.int))) else if b∈cps.map (·.2) then some (.mY #[]) else none) (fun b=>?_) (fun cp hc=>?_) (.inl (.inr ⟨{cls:= .type "list",data:= .seq vs.toArray},aY rfl⟩))
  ·by_cases h1:b=a
   ·exact .inr (.inl ⟨h1,by rw[aY h1],hk⟩)
   ·by_cases hb:b∈cps.map (·.2)
    ·obtain⟨cp,hc,rfl⟩:=bJ.mp hb;exact .inr (.inr ⟨cp,hc,rfl,by rw[aN h1,aY hb]⟩)
    ·exact .inl (by rw[aN h1,aN hb])
  ·show(if cp.2=a then _ else if cp.2∈cps.map (·.2) then _ else _)=_;rw[aN (aT cp hc),aY (bJ.mpr ⟨cp,hc,rfl⟩)]
def JO {l:PySem.W.OpenLaw}{n k:Nat}{q:Program}{loose:List Str}{XP:(Str->Option Value)->Heap->Prop}{YP:World->Heap->Prop}{d:DefRec}{K:Params->Frag}{ts:List Addr}{sp:Frag->List (Addr×Addr)->Sp}{x:Str}
  (hn:l.most=some n) (V0:n<=sizeLine) (XJ:d.params.defaults=[]) (hr:fh k callerA)
  (hY: ∀(w:World) (h:Heap),YP w h->(K w.params).In h/\ ∀P∈ts,h.get? P=some (tabObj #[]))
  (F: ∀(w:World) (mg:Str->Option Value) (fa:Addr) (h:Heap),(K w.params).In h->h.Ns mainGlobals mg->mg d.name=some (.ref fa)->
   ∃(fd:FuncData) (cps:List (Addr×Addr)),(∀cp∈cps,cp.2∈ts)/\(∀cp∈cps,codeHdIn (K w.params) cp.1 cp.2=true/\(K w.params).lookup cp.2=none)/\(∀(s:Shared) (u:Value),BindsTo s fd ⟨[u],[]⟩ [(x,u)])/\
    ∀base:Heap,(K w.params).In base->base.Ns mainGlobals mg->BMain mg base->l7 l.prog w (K w.params) mg base sD k fa fd [x] (sp (K w.params) cps))
  (y3: ∀(K:Frag) (cps:List (Addr×Addr)) (H:Hp) (a:Addr) (ns:List Int),ns.length<=n->(∀cp∈cps,H cp.2=some (.mY #[]))->bG K H a (ns.map V.int)->sp K cps [.ref a] H (fun v _=>v= .bl true) fun _ _ _=>False):
  PySem.W.WalkO q loose XP YP l.row.toRowW d [] (fun f vs=>PySem.call f vs):=by
 refine Att.BA hn XJ fun w s₀ s₁ mg mb fa o pm cd doc a vs ns G Y ho hd rZ SS Pb hints hlen hg=>?_;obtain⟨KX,hT⟩:=hY w _ Y;obtain⟨fd,cps,h1,h2,hb,hF⟩:=F w mg fa _ KX G.T.g SS;obtain⟨bm,ob,b1,b2,b3,b4,b5,b6⟩:=G.T.bmain;have b7:bm≠mainGlobals:=fun z=>by
  obtain⟨o',es,ep,e,Gq,_⟩:=G.T.g;rw[z,e] at b3;cases b3;rw[Gq] at b6;cases b6
 exact G6 KX G.T.g G.T.b G.T.builtins G.T.nolimit hg Pb hints (aV hlen V0) hr ⟨bm,ob,b1,b2,b7,b3,b4,b5,b6⟩ (fun cp hc=>hT _ (h1 cp hc)) h2 hF hb (fun H hO hS=>y3 _ cps H a ns hlen hO hS) fun H e s' z=>z
def Lp {C:EY}{P:Program}{w:World}{K:Frag}{mg:Str->Option Value}{base:Heap}{N:List Str}{q:Str}{sc:Scope}{f:Addr}{cd:Value}{A:Around}{o:List Env}{s:Shared}{H:Hp}{E:XK}:(k7 C P w K mg base N q sc f cd A o s H E).DE.K=K:=rfl
section
variable {X:Cx}{K:Frag}{x:Str}{k n:Nat}{ps:List Str}{sp:Sp}{e:Expr}{es:List Expr}{t:TA}{p pos:Pos}
def fc (C:fu X.prog X.w X.K X.mg X.base x k ps sp)(hr:fh n X.A)(ha:PA X (e :: es) t)(hle:k<=n:=by decide)(hg:Gl X x:=by rfl)(qR:(x == ("__debug__":Str))=false:=by decide)
  (he:starEach (e :: es) X.env=(false,eval e X.env) :: starEach es X.env:=by rfl) (iS:(backTo pos (starEach es X.env)).any (·.1)=false:=by rfl):PE X (.Call (.Name x p) (e :: es) [] pos) (uT sp [] E0 t):=S5 C (hr.mono hle) hg ha qR he iS
def sv (i:Nat){te:TE}{pos':Pos}(hN:X.N.Nodup)(he:PE X e te)(hi:X.N[i]? =some x:=by rfl)(hx:Loc X.env.scope x:=by first|exact Or.inl rfl|exact Or.inr rfl)(hs:swapsWith e (some (.Name x pos')) pos.line X.env=pure false:=by rfl)(hf:X.fn x=true∨X.env.scope.names.lookup x=some .local:=by first|exact .inl rfl|exact .inr rfl|assumption):
  PS X (.Assign [.Name x pos'] e pos) (LO te (Bn i)):=ON hN hi hx he hs hf
def gn (i:Nat)(hN:X.N.Nodup)(hi:X.N[i]? =some x:=by rfl)(hx:Loc X.env.scope x:=by first|exact Or.inl rfl|exact Or.inr rfl)(hf:X.fn x=true∨X.env.scope.names.lookup x=some .local:=by first|exact .inl rfl|exact .inr rfl|assumption):PG X (.Name x pos) (Bn i):=eB hN hi hx hf
def xl {a b:Expr}{ta tb:TE}(ha:PE X a ta)(hb:PE X b tb)(hs:y4 b:=by exact fun _ _=>rfl)(hK:X.K=K:=by first|with_reducible exact Lp|with_reducible exact kx|rfl):PE X (.Subscript a b pos) (Rq (OX K) ta tb):=by subst hK; exact kI y6 ha hb hs
def xt {a b:Expr}{ta tb:TE}(ha:PE X a ta)(hb:PE X b tb)(hs:y4 b:=by exact fun _ _=>rfl)(hK:X.K=K:=by first|with_reducible exact Lp|with_reducible exact kx|rfl):PE X (.Subscript a b pos) (Rq (OY K) ta tb):=by subst hK; exact kI DM ha hb hs
def rh {tg l:Expr}{tl:TE}(hl:PE X l tl)(hK:X.K=K:=by first|with_reducible exact Lp|with_reducible exact kx|rfl):PI X tg l (NI K tl):=by subst hK; exact LP hl
def gT {es:List Expr}{k:Nat}{t:LN}{n:Nat}(h:IJ X es t)(hc:X.calm=true:=by rfl)(hn:(assignEach es X.env).length=n:=by first|exact(rfl:_ =2)|exact(rfl:_ =3)|exact(rfl:_ =4)|rfl)(r6:(assignEach es X.env).findIdx? (·.1)=none:=by rfl)(hK:X.K=K:=by first|with_reducible exact Lp|with_reducible exact kx|rfl):PG X (.Tuple es k pos) (OM K n t):=by subst hK; exact IK hc h hn r6
def NZ (hK:X.K=K:=by first|with_reducible exact Lp|with_reducible exact kx|rfl):NM X (SA K):=by subst hK; exact LY
def kE {f:Str}{ta:TE}(he:PE X e ta)(hb:attributeBase e f X.env (eval e X.env)=eval e X.env:=by rfl)(hK:X.K=K:=by first|with_reducible exact Lp|with_reducible exact kx|rfl):PE X (.Attribute e f pos) (OT K ta f):=by subst hK; exact IX he hb
def mj {o value:Expr}{f:Str}{pos':Pos}{ta tv:TE}(ha:PE X o ta)(hv:PE X value tv)(hs:swapsWith value (some (.Attribute o f pos')) pos.line X.env=pure false:=by rfl)(hK:X.K=K:=by first|with_reducible exact Lp|with_reducible exact kx|rfl):PS X (.Assign [.Attribute o f pos'] value pos) (Sw K ta tv f):=by subst hK; exact OV ha hv hs
end
inductive EvN (xs:List V)(S:Addr->List V->Prop)(k:Int->Prop):Prop
 |mk (p:Addr)(ys:List V)(h:xs=[.ref p])(s:S p ys)(q:k ys.length):EvN xs S k
def TV (K:Frag):List V->Hp->VK->Prop:=fun xs H Q=>EvN xs (fun p ys=>bG K H p ys∨cE K H p ys) fun n=>Q (.int n) H
def G7 {X:Cx}:ip X (.builtin "len") (TV X.K):=fun pins s σ H xs us Q I rv h=>ze pins s σ H xs us Q I rv (by obtain⟨p,ys,e,z,q⟩:=h; exact⟨p,ys,e,z,q⟩)
inductive EvS (K:Frag)(xs:List V)(H:Hp)(k:Bool->Prop):Prop
 |mk (x:V)(c:String)(t:Value)(b:Bool)(h:xs=[x,.ty c])(ty:mQ K H x t)(e:PySem.W.kitOne K t (.type c)=some b)(q:k b):EvS K xs H k
def rIs (K:Frag):List V->Hp->VK->Prop:=fun xs H Q=>EvS K xs H fun b=>Q (.bl b) H
def JP {X:Cx}:ip X (.builtin "isinstance") (rIs X.K):=fun pins s σ H xs us Q I rv h=>DU pins s σ H xs us Q I rv (by obtain⟨x,c,t,b,e,ty,z,q⟩:=h; exact⟨x,c,t,b,e,ty,z,q⟩)
section
variable {X:Cx}{K:Frag}{o e:Expr}{p pos apos gI:Pos}{to te:TE}
def oJ (hm:X.mg "len"=none)(h:PE X e te)(hg:Gl X "len":=by rfl)(he:starEach [e] X.env=(false,eval e X.env) :: starEach [] X.env:=by rfl)(iS:(backTo pos (starEach [] X.env)).any (·.1)=false:=by rfl)(hK:X.K=K:=by first|with_reducible exact Lp|with_reducible exact kx|rfl):PE X (.Call (.Name "len" p) [e] [] pos) (V3 (TV K) (Bq te Bp)):=by
 subst hK;exact gv G7 hg hm PySem.boot_len (aa h aw he) (by decide) (by decide) he iS
def vB {c:String}{y:Str}{p2:Pos}(hm:X.mg "isinstance"=none)(hy:X.mg y=none)(hb:bootBuiltins y=some (.type c))(h:PE X e te)(hg:Gl X "isinstance":=by rfl)(hg2:Gl X y:=by rfl)(hn:y≠"__name__":=by decide)(hd:(y == ("__debug__":Str))=false:=by decide)(he:starEach [e,.Name y p2] X.env=(false,eval e X.env) :: starEach [.Name y p2] X.env:=by rfl)(XR:starEach [.Name y p2] X.env=(false,eval (.Name y p2) X.env) :: starEach [] X.env:=by rfl)(iS:(backTo pos (starEach [.Name y p2] X.env)).any (·.1)=false:=by rfl)(hK:X.K=K:=by first|with_reducible exact Lp|with_reducible exact kx|rfl):PE X (.Call (.Name "isinstance" p) [e,.Name y p2] [] pos) (V3 (rIs K) (Bq te (Bq (tC (.ty c)) Bp))):=by
 subst hK;exact gv JP hg hm boot_isinstance (aa h (aa (yZ (v:= .ty c) hg2 hy hb rfl hn hd) aw XR) he) (by decide) (by decide) he iS
def qo (ho:PE X o to)(h:PE X e te)(qT:attributeBase o "append" X.env (eval o X.env)=eval o X.env:=by rfl)
  (O2:((backTo gI (starEach [e] X.env)).all (fun x=> !x.1) && (backToKw gI (keywordEach [] X.env)).all (fun x=>x.1.isSome)
   && decide ([e].length + ([]:List Keyword).length + (if([]:List Keyword).isEmpty then 0 else 1) < 30))=true:=by rfl)
  (uV:(apos.endLine == gI.line)=true:=by rfl) (hs:starEach [e] X.env=(false,eval e X.env) :: starEach [] X.env:=by rfl) (uW:(backTo gI (starEach [] X.env)).any (·.1)=false:=by rfl) (hK:X.K=K:=by first|with_reducible exact Lp|with_reducible exact kx|rfl):PE X (.Call (.Attribute o "append" apos) [e] [] gI) (tBM K "list" E5 to (Bq te Bp)):=by
 subst hK;exact SD PySem.F.plainAttrs_list PySem.F.slot_list_append PySem.F.type_list_append yj ho (aa h aw hs) qT O2 uV hs uW
end
def Df.fQ {P:Program}{w:World}{K:Frag}{mg:Str->Option Value}{base:Heap}{x:Str}{st:Stmt}{N ps:List Str}{k:Nat}{sp:Sp}(D:Df K mg x st)(S:aU N ps (aA st))
  (f7: ∀(f:Addr) (cY:Value) (A:Around) (outer:List Env) (s:Shared) (H:Hp) (vs:List V) (Q:VK) (E:XK),fh k (A.deeper (envOfC x (aA st) s.heap.objs.size f cY))->sp vs H Q E->
   ∃t,pj (k7 sD P w K mg base N x (aA st) f cY A outer s H E).DE (dF st) t/\t {nx:=fun _ H'=>Q .eA H',rt:=Q} (start N vs) H)
  (hb: ∀(kV doc pm:Value) (an:Option Addr) (cY ct:Value) (us:List Value),us.length=ps.length->bindArgs (fnOf x x (gJ st) (dF st) (aA st) .none kV doc pm an cY ct) ⟨us,[]⟩=pure (ps.zip us):=by intro _ _ _ _ _ _ us hl; rcases us with _|⟨_,_|⟨_,_|⟨_,_|⟨_,_|⟨_,_|⟨_,_|⟨_,_⟩⟩⟩⟩⟩⟩⟩ <;> first|(cases hl; done)|rfl)
  (len: ∀vs H Q E,sp vs H Q E->vs.length=ps.length:=by intro _ _ _ _ h; first|(cases h; subst_vars; rfl)|(repeat (first|(obtain⟨rfl,_⟩:=h; rfl; done)|obtain⟨_,h⟩:=h))):fu P w K mg base x (k + 1) ps sp:=D.cal S hb len f7
end L2
namespace eV
open PySem L2 PyProof.Rows Lk
seal L2.pj L2.PS L2.PE L2.PT L2.PW L2.PA L2.PC L2.PG L2.IJ L2.PI L2.L6 L2.Lg L2.PO L2.oX L2.NK L2.ip L2.Jc L2.NM
def top (i:Nat):Stmt:=PySem.Challenge.pw_spikebook_k08_whole_sweeps_leave_nothing.main.body.getD i (.Pass ⟨0,0,0,0⟩)
structure Txt (K:Frag)(mg:Str->Option Value):Prop where
 D7:Df K mg "place_of" (top 1)
 PV:Df K mg "fits" (top 15)
 xi:Df K mg "counts_from" (top 16)
 G8:Df K mg "bills_in_order" (top 17)
 D8:Df K mg "credits_in_order" (top 18)
 Mz:Df K mg "alike" (top 20)
 xj:Df K mg "first_alike" (top 21)
 zB:Df K mg "shared_out" (top 22)
 D9:Df K mg "parts_of" (top 23)
 vC:Df K mg "check_amount" (top 26)
 xk:Df K mg "row_of_fits" (top 27)
 PX:Df K mg "done" (top 30)
 zC:Df K mg "done_again" (top 31)
 G9:Df K mg "answers" (top 33)
 zD:Df K mg "answers_in" (top 34)
 BN:Df K mg "answer_of" (top 35)
 Hg:Df K mg "owed_at" (top 36)
 Hh:Df K mg "free_at" (top 37)
 vD:Df K mg "remaining_at" (top 38)
 xm:Df K mg "counting_at" (top 39)
 BO:Df K mg "counts_at" (top 40)
 Hj:Df K mg "ages_at" (top 41)
 BP:Df K mg "_law_room" (top 43)
 BQ:Df K mg "_law_draw" (top 44)
 zE:Df K mg "_law_whole" (top 45)
 zF:Df K mg "_law_alike" (top 46)
 xn:Df K mg "_law_people" (top 47)
 xp:Df K mg "_law_penned" (top 48)
 xq:Df K mg "_law_chosen" (top 49)
 zG:Df K mg "_law_hasty" (top 50)
 xr:Df K mg "_law_due_in" (top 51)
 zH:Df K mg "_law_deeds" (top 52)
 zI:Df K mg "_law_begun" (top 53)
 BR:Df K mg "_law_goes" (top 54)
 Ea:Df K mg "_law_put" (top 55)
 vE:Df K mg "_law_in_turn" (top 56)
 zJ:Df K mg "_law_swept" (top 57)
 xu:Df K mg "_law_barred" (top 58)
 zK:Df K mg "_law_enter" (top 59)
 xv:Df K mg "_law_worked" (top 60)
 zL:Df K mg "_law_tells" (top 61)
 BS:Df K mg "_law_done" (top 62)
 o4:Df K mg "_law_gone_through" (top 63)
 aa_:Df K mg "law" (top 64)
 eE:mg "len"=none
 dz:mg "isinstance"=none
 yB:mg "int"=none
 PY:mg "bool"=none
 Fv:mg "str"=none
 vF:mg "list"=none
 uy:mg "tuple"=none
 mm:mg "range"=none
 JQ:mg "min"=none
 TX:mg "max"=none
 JR:mg "sum"=none
 vG:mg "sorted"=none
 jm:mg "enumerate"=none
 PZ:mg "dict"=none
 BU:mg "Exception"=none
end eV
namespace L2
open PySem PySem.Spec PySem.W PyProof.Rows Lk
structure Yw (P:Program)(w:World)(K:Frag)(mg:Str->Option Value)(base:Heap)(k:Nat)(fa:Addr)(sp:Sp):Prop where
 ex: ∃(fd:FuncData) (ps:List Str),l7 P w K mg base sD k fa fd ps sp/\keepIn K (.ref fa)=true/\Binds K fd ps []
def fu.fnv {P:Program}{w:World}{K:Frag}{mg:Str->Option Value}{base:Heap}{x:Str}{k:Nat}{ps:List Str}{sp:Sp}(C:fu P w K mg base x k ps sp): ∃fa,mg x=some (.ref fa)/\Yw P w K mg base k fa sp:=by
 obtain⟨f,fd,F,hm,hk,hb⟩:=C.ex;exact⟨f,hm,⟨fd,ps,F,hk,hb⟩⟩
section
variable {X:Cx}{x:Str}{i k:Nat}{e:Expr}{es:List Expr}{t:TA}{p pos:Pos}
def P0 (P:Program)(w:World)(K:Frag)(mg:Str->Option Value)(base:Heap)(k i:Nat)(t:TA):TE:=fun σ H Q=> ∃fa sp,σ[i]? =some (some (.ref fa))/\Yw P w K mg base k fa sp/\t σ H fun vs H1=>sp vs H1 Q E0
def P1 (hr:fh k X.A)(hN:X.N[i]? =some x)(hv:R9 X.env.scope x)(ha:PA X (e :: es) t)(hd:(x == ("__debug__":Str))=false:=by decide)(rZ:(x == ("__classdict__":Str))=false:=by decide)
  (he:starEach (e :: es) X.env=(false,eval e X.env) :: starEach es X.env:=by rfl) (iS:(backTo pos (starEach es X.env)).any (·.1)=false:=by rfl):PE X (.Call (.Name x p) (e :: es) [] pos) (P0 X.prog X.w X.K X.mg X.base k i t):=by
 rintro pins s σ H Q I ⟨fa,sp,e1,⟨fd,ps,F,hk,hb⟩,h⟩;refine eQ (dY (DA hN hv hd rZ pins s σ H (fun v H'=>v= .ref fa/\H'=H) I ⟨_,e1,rfl,rfl⟩) ?_);rintro u s1 ⟨v,H1,I1,rv,rfl,rfl⟩;obtain rfl:u=Value.ref fa:=rv;refine kz (h₀:=X.base) I.ok.mod.LI hk (dY (ha pos pins s1 σ H1 _ I1 h) fun us s2 ⟨vs,H2,I2,r,q⟩=>⟨I2.gW,?_⟩) he iS;exact y2 F hr hb .nil nz I2 r (by rw[cf]; exact q)
end
def BV {X:Cx}:ip X (.type "dict") (fun xs H Q=> ∃a bh,xs=[.ref a]/\H a=some (.dK bh)/\ ∀p,H p=none->Q (.ref p) (upd H p (.dK bh))):=by
 intro pins s σ H xs us Q I r h;obtain⟨a,bh,rfl,e,q⟩:=h;obtain⟨u,rfl,ru⟩:=vals1 r;cases ru;exact Jl I (.inl e) fun p s' hp I'=>⟨.ref p,_,I',rfl,q p hp⟩
def Fw (P:Program)(w:World)(d:Addr)(bh:List (Key×V))(φ:Heap->Prop):Prop:=(∀(H:Hp) (h:Heap),φ h->dE P w H h d (.dK bh))/\ ∀q:Str,φ≠fun h=>h.CodeRec (.ref d) q
def TY (P:Program)(w:World)(td:TE)(g:TG)(tb:TS):TS:=fun D σ H=>td σ H fun v H1=> ∃d bh,v= .ref d/\H1 d=some (.dK bh)/\ ∀φ,Fw P w d bh φ->
 ∃W:Nat->Nat->St->Hp->Prop,(∃m,W 0 m σ (upd H1 d (.ext φ)))/\ ∀i m σ' H',W i m σ' H'->H' d=some (.ext φ)/\((bh.length<=i/\D.nx σ' (upd H' d (.dK bh)))∨
  ∃x,(bh.map (·.2))[i]? =some x/\ ∃N:St->Hp->Prop,(∀Mc qe,N Mc qe-> ∃m',m' < m/\W (i + 1) m' Mc qe)/\g x σ' H' fun σ2 H2=>tb {D with nx:=N,ct:=N,bk:=fun _ _=>False} σ2 H2)
def MA {X:Cx}{tg o:Expr}{apos gI pos:Pos}{body:List Stmt}{td:TE}{g:TG}{tb:TS}(hp:PassesOwn (model X.prog X.w) X.A X.env X.xe)(hc:X.calm=true)(ho:PE X o td)(hg:PG X tg g)(hb:pj X body tb)
  (qT:attributeBase o "values" X.env (eval o X.env)=eval o X.env:=by rfl) (uV:(apos.endLine == gI.line)=true:=by rfl)
  (hs: ∀x,foldedSetIterable (.Call (.Attribute o "values" apos) [] [] gI) X.env x=pure x:=by intro _; rfl):PS X (.For tg (.Call (.Attribute o "values" apos) [] [] gI) body [] pos) (TY X.prog X.w td g tb):=by
 intro pins s σ H D I h;refine wpAny_For (wpAny_Call_method0_late qT uV (dY (ho pins s σ H _ I h) ?_)) hs;rintro u s1 ⟨v,H1,I1,rv,d,bh,rfl,ed,h⟩;obtain rfl:u=Value.ref d:=rv;obtain⟨hz,hd,vs,rel,dd⟩:=E6 I1.cB ed;refine⟨"dict","dict.values",PySem.F.plainAttrs_dict,Rj,PySem.F.type_dict_values,dd.typeIs,dd.mapOf.noDict,iW rfl (PySem.evalArgs_none ?_)⟩;refine call_meetsIn Rj dd.typeIs PySem.F.entry_dict_values (PySem.F.args_dict_values_1 _) (meets_dict_values (dW X.prog X.w) d hd) ⟨⟨vs,dd⟩,?_⟩;have I2:=I1.kept (t':=s1.toks) (h':=s1.heap.push {cls:= .type "dict_values",data:= .fields #[.ref d]}) (fun b ob e=>ay _ e);obtain⟨ep,da⟩:=dd.dictAt;obtain⟨od,es,PM,r⟩:=id da;have Yx: ∀h:Heap,h.get? d=some od->h.DictAt (dW X.prog X.w) d vs ep:=fun h e=>⟨od,es,e,r⟩;have hKd:Fw X.prog X.w d bh (fun h=>h.get? d=some od):=⟨fun H h e=>⟨hz,hd,vs,rel,⟨od,es,ep,e,r⟩⟩,fun q z=>by
  have z1:(s1.heap.get? d=some od)=s1.heap.CodeRec (.ref d) q:=congrFun z s1.heap;obtain⟨c,o,Yj,t,e1,e2,e3,_⟩:=Eq.mp z1 PM;cases e1;rw[PM] at e2;cases e2;rw[r.2.1] at e3;cases e3⟩
 obtain⟨W,⟨m0,w0⟩,turn⟩:=h _ hKd;generalize hh2:s1.heap.push {cls:= .type "dict_values",data:= .fields #[.ref d]}=h2 at I2;have hv2:h2.IsValuesView s1.heap.objs.size d:=by
  rw[← hh2];exact⟨_,bR _ rfl,rfl,rfl⟩
 have TZ:h2.get? d=some od:=by
  rw[← hh2];exact ay _ PM
 refine wpAny_pyIter_values (knd:=dW X.prog X.w) hv2 (Yx _ TZ) ?_;have I3:=I2.kept (t':=s1.toks) (h':=h2.push {cls:= .type "dict_valueiterator",data:= .fields #[.ref d,.int 0 0,.int vs.length 0,.int ep 0]}) (fun b ob e=>ay _ e);have P2:(h2.push {cls:= .type "dict_valueiterator",data:= .fields #[.ref d,.int 0 0,.int vs.length 0,.int ep 0]}).IsValIter h2.objs.size d 0 vs.length ep:=⟨_,bR _ rfl,rfl,rfl⟩;have MB:(h2.push {cls:= .type "dict_valueiterator",data:= .fields #[.ref d,.int 0 0,.int vs.length 0,.int ep 0]}).get? d=some od:=ay _ TZ;have Dm:H1 h2.objs.size=none:=I2.cB.fresh (aD _);have jy:d≠h2.objs.size:=aJ ed Dm;have Yy:=I2.Gs (aD _) Dm;generalize h2.push {cls:= .type "dict_valueiterator",data:= .fields #[.ref d,.int 0 0,.int vs.length 0,.int ep 0]}=h3 at I3 P2 MB;generalize h2.objs.size=it at P2 Dm jy Yy;have I4:Inv X pins σ (upd H1 d (.ext fun h=>h.get? d=some od)) {s1 with heap:=h3}:=by
  refine I3.write (x:=d) (e:=d) (t':=s1.toks) (h':=h3) (by rw[ed]; exact True.intro) (.inl rfl) (fun _ _ _ q=>q) ⟨od,MB⟩ ?_;exact⟨MB,⟨od,MB⟩,fun h1 h2 q k=>k od q⟩
 have fit:upd H1 d (.ext fun h=>h.get? d=some od) it=none:=by
  rw[az jy.symm];exact Dm
 have TR:vs.length=bh.length:=(aO rel).symm;refine codeAny_forLoop_any (fun n s'=> ∃i σ' H',Inv X pins σ' H' s'/\s'.heap.IsValIter it d i vs.length ep/\H' it=none/\W i n σ' H') ?_ m0 ⟨0,σ,_,I4,P2,fit,w0⟩;rintro n s5 ⟨i,σ5,H5,I5,it5,Ro,w5⟩;obtain⟨e5,tn⟩:=turn i n σ5 H5 w5;have Yz:s5.heap.get? d=some od:=(I5.cB d _ e5).1;have f5:uP X pins H5 it:=⟨Ro,Yy.2⟩;obtain⟨f0,f1,f2,f3,f4,f6⟩:=f5;rcases tn with⟨hle,qn⟩|⟨x,hx,N,hN,step⟩
 ·refine dR hp (wpAny_pyNext_values_end (knd:=dW X.prog X.w) (I5.ok.hd hc) it5 (Yx _ Yz) (by rw[qJ]; lia) fun h6 eb=>?_);have I6:Inv X pins σ5 H5 {s5 with heap:=h6}:=I5.turned (t':=s5.toks) (fun b o hb e=>eb b o hb e) f0 f1 f3 f4 f6;have od6:h6.get? d=some od:=eb d od jy Yz;have I7:=I6.write (x:=d) (e:=d) (t':=s5.toks) (h':=h6) (o:= .dK bh) (by rw[e5]; exact True.intro) (.inl rfl) (fun _ _ _ q=>q) ⟨od,od6⟩ (hKd.1 _ _ od6);exact jt ⟨σ5,_,I7,qn⟩
 ·rw[aC] at hx;obtain⟨kv,Wo,rfl⟩:=a8.mp hx;obtain⟨ku,hku,e1,ru⟩:=bK rel Wo;obtain⟨k1,u⟩:=ku;refine dR hp (wpAny_pyNext_values_item (knd:=dW X.prog X.w) it5 (Yx _ Yz) hku fun h6 it6 sb=>?_);have I6:Inv X pins σ5 H5 {s5 with heap:=h6}:=I5.turned (t':=s5.toks) (fun b o hb e=>(sb.2 b hb).trans e) f0 f1 f3 f4 f6;obtain⟨oi,GR,Rx,YA⟩:=id it6;refine dR hp (ES (s:={s5 with heap:=h6}) GR Rx YA (by decide +kernel) ?_);have I6':Inv X (pins ++ pY [it] h6) σ5 H5 {s5 with heap:=h6}:=I6.pinned (fun b hb=>by rw[ao.mp hb]; exact⟨Ro,Yy.2⟩) (fun b hb=>by
   rw[ao.mp hb];exact⟨oi,GR,fun v z=>by rw[YA] at z; cases z⟩)
  refine dR hp (dY (hg _ _ σ5 H5 kv.2 u _ I6' ru step) fun _ s7 ⟨σ7,H7,I7,q7⟩=>?_);refine dR hp (dY (hb _ s7 σ7 H7 _ I7 q7) fun f s8 q8=>?_);have again: ∀{σ8:St} {H8:Hp},Inv X (pins ++ pY [it] h6) σ8 H8 s8->N σ8 H8-> ∃m,m < n/\ ∃i σ' H',Inv X pins σ' H' s8/\s8.heap.IsValIter it d i vs.length ep/\H' it=none/\W i m σ' H':=fun{σ8 H8} I8 n8=>by
   obtain⟨m',hm,w8⟩:=hN σ8 H8 n8;have pn:=I8.pin (it,oi) (List.mem_append_right _ (List.mem_append_right _ (jV (by simp) GR)));exact⟨m',hm,i + 1,σ8,H8,I8.jg,⟨oi,pn.1,Rx,YA⟩,pn.2.1,w8⟩
  cases f with
  |next=>obtain⟨σ8,H8,I8,n8⟩:=q8; exact again I8 n8
  |cont=>obtain⟨σ8,H8,I8,n8⟩:=q8; exact again I8 n8
  |brk=>obtain⟨σ8,H8,I8,q8⟩:=q8; exact q8.elim
  |ret v=>obtain⟨x8,σ8,H8,I8,r8,q8⟩:=q8; exact⟨x8,σ8,H8,I8.jg,r8,q8⟩
def JS {P:Program}{w:World}{td:TE}{g:TG}{tb:TS}{D:Ends}{σ:St}{H1:Hp}{d:Addr}{bh:List (Key×V)}(ed:H1 d=some (.dK bh))
  (h: ∀φ,Fw P w d bh φ-> ∃Pv:Nat->St->Hp->Prop,Pv 0 σ (upd H1 d (.ext φ))/\(∀i σ' H',Pv i σ' H'->H' d=some (.ext φ))/\(∀i x σ' H',(bh.map (·.2))[i]? =some x->Pv i σ' H'->g x σ' H' fun σ2 H2=>tb {D with nx:=Pv (i + 1),ct:=Pv (i + 1),bk:=fun _ _=>False} σ2 H2)/\
   ∀σ' H',Pv bh.length σ' H'->D.nx σ' (upd H' d (.dK bh))):
  ∃d' JT,V.ref d= .ref d'/\H1 d'=some (.dK JT)/\ ∀φ,Fw P w d' JT φ->
 ∃W:Nat->Nat->St->Hp->Prop,(∃m,W 0 m σ (upd H1 d' (.ext φ)))/\ ∀i m σ' H',W i m σ' H'->H' d'=some (.ext φ)/\((JT.length<=i/\D.nx σ' (upd H' d' (.dK JT)))∨
  ∃x,(JT.map (·.2))[i]? =some x/\ ∃N:St->Hp->Prop,(∀Mc qe,N Mc qe-> ∃m',m' < m/\W (i + 1) m' Mc qe)/\g x σ' H' fun σ2 H2=>tb {D with nx:=N,ct:=N,bk:=fun _ _=>False} σ2 H2):=by
 refine⟨d,bh,rfl,ed,fun φ hφ=>?_⟩;obtain⟨Pv,p0,pk,ps,pe⟩:=h φ hφ;refine⟨fun i m σ' H'=>m=bh.length - i/\i<=bh.length/\Pv i σ' H',⟨bh.length,by simp,Nat.zero_le _,p0⟩,?_⟩;rintro i m σ' H' ⟨rfl,hi,p⟩;refine⟨pk i σ' H' p,?_⟩;by_cases iD:i < bh.length
 ·have hg:(bh.map (·.2))[i]? =some bh[i].2:=by rw[aC,af iD]; rfl
  exact .inr ⟨_,hg,Pv (i + 1),fun Mc qe p'=>⟨bh.length - (i + 1),by lia,rfl,iD,p'⟩,ps i _ σ' H' hg p⟩
 ·have e:i=bh.length:=by lia
  subst e;exact .inl ⟨aD _,pe σ' H' p⟩
def nL {α:Type}(f:α->Int): ∀(l2 l1:List α),l1.Perm l2->l1.Pairwise (fun a b=>f a<=f b)->l2.Pairwise (fun a b=>f a < f b)->l1=l2
 |[],l1,p,_,_=>List.Perm.eq_nil p
 |b :: l2,[],p,_,_=>absurd p.length_eq (by simp)
 |b :: l2,a :: l1,p,h1,h2=>by
  rw[fq] at h1 h2;have hb:b∈a :: l1:=p.mem_iff.mpr aS;have e:a=b:=by
   rcases au.mp (p.mem_iff.mp (aS (a:=a) (l:=l1))) with e|ha
   ·exact e
   ·rcases au.mp hb with e|hb
    ·exact e.symm
    ·have z1:=h1.1 b hb;have z2:=h2.1 a ha;lia
  subst e;rw[nL f l2 l1 (List.Perm.cons_inv p) h1.2 h2.2]
def MC {x y:Int×Nat}(hx:x.2 < 1000)(hy:y.2 < 1000)(h:ug x=ug y):x.2=y.2:=by
 unfold ug at h;lia
def BW {l:List (Int×Nat)}(h: ∀x∈l,x.2 < 1000)(nd:(l.map (·.2)).Nodup):(fI l).Pairwise (fun a b=>ug a < ug b):=by
 have p:=dB l;have Wq:((fI l).map (·.2)).Nodup:=(p.map (·.2)).nodup_iff.mpr nd;have h': ∀x∈fI l,x.2 < 1000:=fun x hx=>h x (p.mem_iff.mp hx);have le:=vi l;generalize fI l=m at Wq h' le
 induction m with
 |nil=>exact .nil
 |cons a m ih=>
  rw[fq] at le ⊢;rw[cL,dI] at Wq;refine⟨fun b hb=>?_,ih Wq.2 (fun x hx=>h' x (aI _ hx)) le.2⟩;have z:=le.1 b hb;have n:ug a≠ug b:=fun e=>Wq.1 (by
   rw[MC (h' a aS) (h' b (aI _ hb)) e];exact bJ.mpr ⟨b,hb,rfl⟩)
  lia
def vH (t:List Int):Int:=t.getD 0 0 * 1000 + t.getD 1 0
def vI {x y:Int×Nat}{u v:List Int}(hx:x.2 < 1000)(hy:y.2 < 1000)(h:x.2=y.2->u=v/\x=y)(hs:HT.lexLt u u=false):HT.lexLt (x.1 :: (x.2:Int) :: u) (y.1 :: (y.2:Int) :: v)=decide (vH (x.1 :: (x.2:Int) :: u) < vH (y.1 :: (y.2:Int) :: v)):=by
 show _ =decide (x.1 * 1000 + (x.2:Int) < y.1 * 1000 + (y.2:Int));rw[HT.qa];by_cases c:x.1=y.1
 ·rw[aY c,HT.qa];by_cases d:x.2=y.2
  ·rw[aY (by lia),← (h d).1,hs,bL (by lia)]
  ·rw[aN (by lia)];exact mP.mpr (by lia)
 ·rw[aN c];exact mP.mpr (by lia)
def BX {ks:List (Int×Nat)}{g:Int×Nat->List Int}{us:List (List Int)}(h: ∀x∈ks,x.2 < 1000)(nd:(ks.map (·.2)).Nodup)(hg: ∀x∈ks,vH (g x)=ug x)(p:us.Perm (ks.map g))(le:us.Pairwise (fun t u=>vH t<=vH u)):us=(fI ks).map g:=by
 refine nL vH _ _ (p.trans ((dB ks).map g).symm) le ?_;rw[sj];refine(BW h nd).imp_of_mem fun{a b} ha hb z=>?_;rw[hg a ((dB ks).mem_iff.mp ha),hg b ((dB ks).mem_iff.mp hb)];exact z
def dr.tk {H H':Hp}{sd:Addr}{S:Bk}{f:fJ}(h:dr H sd S f)(k:Frame f.fp H H'):cI H H':=fun b xs e=>k b _ (fun hb=>by
 obtain⟨ms,m1,_⟩:=h.hm;unfold fJ.fp at hb;rcases au.mp hb with rfl|hb
 ·rw[h.hb] at e; cases e
 ·rcases au.mp hb with rfl|hb
  ·rw[h.hc] at e; cases e
  ·rcases au.mp hb with rfl|hb
   ·rw[m1] at e; cases e
   ·have rows: ∀(rs:List Rw) (ps:List Addr),eW H rs ps->b∈ps->False:=fun rs ps hr hp=>by
     obtain⟨i,hi⟩:=jf hp;have iD:i < rs.length:=by
      rw[hr.length];exact(ah.mp hi).1
     obtain⟨q,e1,e2⟩:=hr.at iD;rw[e1] at hi;cases hi;rw[e2] at e;cases e
    rcases bc.mp hb with hb|hb
    ·exact rows _ _ h.rb hb
    ·exact rows _ _ h.rc hb) e
def Frame.mq {fp:List Addr}{H1 H2 H3:Hp}(a:aF H1 H2)(b:Frame fp H2 H3):Frame fp H1 H3:=fun x o hx e=>b x o hx (a x o e)
def Frame.cS {fp:List Addr}{H1 H2 H3:Hp}(a:Frame fp H1 H2)(b:aF H2 H3):Frame fp H1 H3:=fun x o hx e=>b x o (a x o hx e)
def Frame.tr {fp:List Addr}{H1 H2 H3:Hp}(a:Frame fp H1 H2)(b:Frame fp H2 H3):Frame fp H1 H3:=fun x o hx e=>b x o hx (a x o hx e)
def mT.dt:mT->Dt
 | .int i=> .int i
 | .txt s=> .str s
 | .sets l=> .lst (l.map fun t=> .tup [.int t.1,.int t.2.1,.int t.2.2])
 | .pairs l=> .lst (l.map fun t=> .tup [.int t.1,.int t.2])
 | .ints l=> .lst (l.map Dt.int)
def iw.Lq {H:Hp}: ∀{ms:List (Nat×Nat×Int)} {vs:List V},iw H ms vs->gY H (ms.map fun t=> .tup [.int t.1,.int t.2.1,.int t.2.2]) vs
 |_,_,.nil=>cq.mpr rfl
 |_,_,.cons ⟨p,e,q⟩ t=>by
  subst e;exact br.mpr ⟨_,_,rfl,eL q (br.mpr ⟨_,_,rfl,dA.mpr rfl,br.mpr ⟨_,_,rfl,dA.mpr rfl,br.mpr ⟨_,_,rfl,dA.mpr rfl,cq.mpr rfl⟩⟩⟩),iw.Lq t⟩
def fJ.iz (f:fJ)(p:Addr):fJ:={f with iK:=f.iK ++ [p]}
def fJ.fU (f:fJ)(p:Addr):fJ:={f with cps:=f.cps ++ [p]}
def fJ.JU (f:fJ)(p:Addr):(f.iz p).fp.Perm (p :: f.fp):=by
 show(f.pb :: f.pc :: f.pm :: ((f.iK ++ [p]) ++ f.cps)).Perm (p :: f.pb :: f.pc :: f.pm :: (f.iK ++ f.cps));have h:((f.iK ++ [p]) ++ f.cps).Perm (p :: (f.iK ++ f.cps)):=by
  rw[bZ];exact List.perm_middle
 exact(((h.cons f.pm).trans (List.Perm.swap _ _ _)).cons f.pc |>.trans (List.Perm.swap _ _ _)).cons f.pb |>.trans (List.Perm.swap _ _ _)
def fJ.Fx (f:fJ)(p:Addr):(f.fU p).fp.Perm (p :: f.fp):=by
 show(f.pb :: f.pc :: f.pm :: (f.iK ++ (f.cps ++ [p]))).Perm (p :: f.pb :: f.pc :: f.pm :: (f.iK ++ f.cps));have h:(f.iK ++ (f.cps ++ [p])).Perm (p :: (f.iK ++ f.cps)):=by
  rw[← bZ];exact List.perm_append_singleton _ _
 exact(((h.cons f.pm).trans (List.Perm.swap _ _ _)).cons f.pc |>.trans (List.Perm.swap _ _ _)).cons f.pb |>.trans (List.Perm.swap _ _ _)
def dr.off {H:Hp}{sd D:Addr}{S:Bk}{f:fJ}(h:dr H sd S f)(n:H D=none):D∉f.fp:=fun z=>by
 obtain⟨ms,m1,_⟩:=h.hm;have rows: ∀(rs:List Rw) (ps:List Addr),eW H rs ps->D∈ps->False:=fun rs ps hr hp=>by
  obtain⟨i,hi⟩:=jf hp;have iD:i < rs.length:=by
   rw[hr.length];exact(ah.mp hi).1
  obtain⟨q,e1,e2⟩:=hr.at iD;rw[e1] at hi;cases hi;rw[n] at e2;cases e2
 unfold fJ.fp at z;rcases au.mp z with rfl|z
 ·have:=h.hb; rw[n] at this; cases this
 rcases au.mp z with rfl|z
 ·have:=h.hc; rw[n] at this; cases this
 rcases au.mp z with rfl|z
 ·rw[n] at m1; cases m1
 rcases bc.mp z with z|z
 ·exact rows _ _ h.rb z
 ·exact rows _ _ h.rc z
section
variable {H:Hp}{sd pr:Addr}{S:Bk}{f:fJ}{r:Rw}
def dr.iz (h:dr H sd S f)(n:H pr=none):dr (upd (upd H pr (.lst r.vs)) f.pb (.lst (f.iK.map V.ref ++ [.ref pr]))) sd (S.iz r) (f.iz pr):=by
 have s1:aF H (upd H pr (.lst r.vs)):=aF.new n;have h1:=h.same s1;have g1:upd H pr (.lst r.vs) pr=some (.lst r.vs):=ag;have np:=h.off n;have MD:sd≠pr:=aJ h.dict n;generalize upd H pr (.lst r.vs)=H1 at s1 h1 g1;obtain⟨d1,d2,d3,d4,d5,d6,d7⟩:=fJ.Ti h.nd;obtain⟨ms,m1,m2⟩:=h1.hm;have es:sd≠f.pb:=fun z=>h.ns (by rw[z]; simp[fJ.fp]);have ep:pr≠f.pb:=fun z=>np (by rw[z]; simp[fJ.fp]);refine⟨by rw[az es]; exact h1.dict,?_,by rw[show(f.iz pr).pc=f.pc from rfl,az d1.symm]; exact h1.hc,⟨ms,by rw[show(f.iz pr).pm=f.pm from rfl,az d2.symm]; exact m1,m2.mono (dU h1.hb)⟩,?_,?_,?_,?_⟩
 ·show upd H1 f.pb _ f.pb=some (.lst ((f.iK ++ [pr]).map V.ref));rw[ag,aL]; rfl
 ·exact cu (h1.rb.ix fun z=>(d4 _ z).1 rfl) (by rw[az ep]; exact g1)
 ·exact h1.rc.ix fun z=>(d5 _ z).1 rfl
 ·exact(f.JU pr).nodup_iff.mpr (dI.mpr ⟨np,h.nd⟩)
 ·intro z;rcases au.mp ((f.JU pr).mem_iff.mp z) with z|z
  ·exact MD z
  ·exact h.ns z
def dr.fU (h:dr H sd S f)(n:H pr=none):dr (upd (upd H pr (.lst r.vs)) f.pc (.lst (f.cps.map V.ref ++ [.ref pr]))) sd (S.fU r) (f.fU pr):=by
 have s1:aF H (upd H pr (.lst r.vs)):=aF.new n;have h1:=h.same s1;have g1:upd H pr (.lst r.vs) pr=some (.lst r.vs):=ag;have np:=h.off n;have MD:sd≠pr:=aJ h.dict n;generalize upd H pr (.lst r.vs)=H1 at s1 h1 g1;obtain⟨d1,d2,d3,d4,d5,d6,d7⟩:=fJ.Ti h.nd;obtain⟨ms,m1,m2⟩:=h1.hm;have es:sd≠f.pc:=fun z=>h.ns (by rw[z]; simp[fJ.fp]);have ep:pr≠f.pc:=fun z=>np (by rw[z]; simp[fJ.fp]);refine⟨by rw[az es]; exact h1.dict,by rw[show(f.fU pr).pb=f.pb from rfl,az d1]; exact h1.hb,?_,⟨ms,by rw[show(f.fU pr).pm=f.pm from rfl,az d3.symm]; exact m1,m2.mono (dU h1.hc)⟩,?_,?_,?_,?_⟩
 ·show upd H1 f.pc _ f.pc=some (.lst ((f.cps ++ [pr]).map V.ref));rw[ag,aL]; rfl
 ·exact h1.rb.ix fun z=>(d4 _ z).2.1 rfl
 ·exact cu (h1.rc.ix fun z=>(d5 _ z).2.1 rfl) (by rw[az ep]; exact g1)
 ·exact(f.Fx pr).nodup_iff.mpr (dI.mpr ⟨np,h.nd⟩)
 ·intro z;rcases au.mp ((f.Fx pr).mem_iff.mp z) with z|z
  ·exact MD z
  ·exact h.ns z
end
structure dZ where
 dM:Addr
 d8:Addr
 work:Addr
 book:Addr
 refusal:Addr
 ka:Addr
 qp:Addr
 jS:Addr
 iN:Addr
 tooEarly:Addr
 tooMuch:Addr
 jT:Addr
 i9:Addr
def eF (H:Hp)(p C:Addr)(fs:List (Str×V)):Prop:= ∃dx,H p=some (.ins C dx fs)
def eF.same {H H':Hp}{p C:Addr}{fs:List (Str×V)}(h:eF H p C fs)(s:aF H H'):eF H' p C fs:=let⟨dx,e⟩:=h; ⟨dx,s _ _ e⟩
def eF.frame {H H':Hp}{p C:Addr}{fs:List (Str×V)}{fp:List Addr}(h:eF H p C fs)(s:Frame fp H H')(n:p∉fp):eF H' p C fs:=let⟨dx,e⟩:=h; ⟨dx,s _ _ n e⟩
def tN (c:Int):V:=if c= -1 then .eA else .int c
def fF (i:Nat)(r:Rw):List (Str×V):=[("number",.int i),("who",.str r.aH),("day",.int r.a),("due",.int r.b),("amount",.int r.c)]
def fk (i:Nat)(r:Rw):List (Str×V):=[("number",.int i),("who",.str r.aH),("day",.int r.a),("amount",.int r.b),("only",tN r.c)]
section
variable (i:Nat)(r:Rw)
def lK:(fF i r).lookup ("number":Str)=some (V.int i):=by rfl
def Eb:(fF i r).lookup ("who":Str)=some (V.str r.aH):=by rfl
def P4:(fF i r).lookup ("day":Str)=some (V.int r.a):=by rfl
def JV:(fF i r).lookup ("due":Str)=some (V.int r.b):=by rfl
def oK:(fk i r).lookup ("number":Str)=some (V.int i):=by rfl
def JW:(fk i r).lookup ("who":Str)=some (V.str r.aH):=by rfl
def JX:(fk i r).lookup ("day":Str)=some (V.int r.a):=by rfl
def ME:(fk i r).lookup ("only":Str)=some (tN r.c):=by rfl
end
structure eT where
 pb:Addr
 pc:Addr
 pl:Addr
 pf:Addr
 pm:Addr
 iK:List Addr
 cps:List Addr
def eT.fp (f:eT):List Addr:=[f.pb,f.pc,f.pl,f.pf,f.pm]
def lL (f:eT):List (Str×V):=[("bills",.ref f.pb),("all_credits",.ref f.pc),("lefts",.ref f.pl),("frees",.ref f.pf),("made",.ref f.pm)]
def jn (f:eT):(lL f).lookup ("bills":Str)=some (V.ref f.pb):=by rfl
def ij (f:eT):(lL f).lookup ("all_credits":Str)=some (V.ref f.pc):=by rfl
def lM (f:eT):(lL f).lookup ("lefts":Str)=some (V.ref f.pl):=by rfl
def lN (f:eT):(lL f).lookup ("frees":Str)=some (V.ref f.pf):=by rfl
def Fy (f:eT):(lL f).lookup ("made":Str)=some (V.ref f.pm):=by rfl
def gz (H:Hp)(C:Addr)(fs:Nat->Rw->List (Str×V))(rows:List Rw)(ps:List Addr):Prop:=ps.length=rows.length/\ ∀i p,ps[i]? =some p->eF H p C (fs i (rows.getD i default))
def gz.keep {H H':Hp}{C:Addr}{fs:Nat->Rw->List (Str×V)}{rows:List Rw}{ps:List Addr}(h:gz H C fs rows ps)(k: ∀p dx gs,H p=some (.ins C dx gs)->H' p=some (.ins C dx gs)):gz H' C fs rows ps:=
 ⟨h.1,fun i p e=>let⟨dx,z⟩:=h.2 i p e; ⟨dx,k _ _ _ z⟩⟩
def gz.get {H:Hp}{C:Addr}{fs:Nat->Rw->List (Str×V)}{rows:List Rw}{ps:List Addr}(h:gz H C fs rows ps){i:Nat}(hi:i < rows.length): ∃p,ps[i]? =some p/\eF H p C (fs i (rows.getD i default)):=by
 have iD:i < ps.length:=by rw[h.1]; exact hi
 exact⟨ps[i],af iD,h.2 i _ (af iD)⟩
def gz.rows {H:Hp}{C:Addr}{fs:Nat->Rw->List (Str×V)}{rows iI:List Rw}{ps:List Addr}(h:gz H C fs rows ps)(hl:iI.length=rows.length)(e: ∀i,fs i (iI.getD i default)=fs i (rows.getD i default)):gz H C fs iI ps:=
 ⟨h.1.trans hl.symm,fun i p z=>by rw[e]; exact h.2 i p z⟩
def gz.add {H:Hp}{C p:Addr}{fs:Nat->Rw->List (Str×V)}{rows:List Rw}{r:Rw}{ps:List Addr}(h:gz H C fs rows ps)(n:eF H p C (fs rows.length r)):gz H C fs (rows ++ [r]) (ps ++ [p]):=by
 refine⟨by rw[ax,ax,h.1]; rfl,fun i q e=>?_⟩;by_cases hi:i < ps.length
 ·rw[ju hi] at e;rw[getD_snoc (by rw[← h.1]; exact hi)];exact h.2 i q e
 ·rw[fZ (by lia)] at e;have e0:i - ps.length=0:=by
   have:=(ah.mp e).1;simp at this;lia
  rw[e0] at e;obtain rfl:p=q:=by simpa using e
  obtain rfl:i=rows.length:=by have:=h.1; lia
  rw[getD_last];exact n
structure dG (A:dZ)(H:Hp)(pw:Addr)(S:Bk)(f:eT):Prop where
 obj:eF H pw A.work (lL f)
 hb:H f.pb=some (.lst (f.iK.map V.ref))
 hc:H f.pc=some (.lst (f.cps.map V.ref))
 hl:H f.pl=some (.lst (S.aE.map fun r=>V.int r.d))
 hf:H f.pf=some (.lst (S.credits.map fun r=>V.int r.d))
 hm: ∃ms,H f.pm=some (.lst ms)/\iw H S.made ms
 rb:gz H A.dM fF S.aE f.iK
 rc:gz H A.d8 fk S.credits f.cps
 nd:f.fp.Nodup
section
variable {A:dZ}{H H':Hp}{pw:Addr}{S:Bk}{f:eT}
def dG.lists (h:dG A H pw S f): ∀p∈f.fp,∃xs,H p=some (.lst xs):=fun p hp=>by
 obtain⟨ms,m1,_⟩:=h.hm;simp only[eT.fp,List.mem_cons,List.not_mem_nil,or_false] at hp;rcases hp with rfl|rfl|rfl|rfl|rfl
 ·exact⟨_,h.hb⟩
 ·exact⟨_,h.hc⟩
 ·exact⟨_,h.hl⟩
 ·exact⟨_,h.hf⟩
 ·exact⟨_,m1⟩
def dG.off (h:dG A H pw S f){p:Addr}(n: ∀xs,H p≠some (.lst xs)):p∉f.fp:=fun z=>by
 obtain⟨xs,e⟩:=h.lists p z;exact n xs e
def dG.new (h:dG A H pw S f){p:Addr}(n:H p=none):p∉f.fp:=h.off fun xs e=>by rw[n] at e; cases e
def dG.ins (h:dG A H pw S f){p C:Addr}{fs:List (Str×V)}(n:eF H p C fs):p∉f.fp:=h.off fun xs e=>by
 obtain⟨dx,z⟩:=n;rw[z] at e;cases e
def dG.tk (h:dG A H pw S f)(k:Frame f.fp H H'):cI H H':=fun b xs e=>k b _ (h.off fun ys z=>by rw[e] at z; cases z) e
def dG.objs (h:dG A H pw S f)(k:Frame f.fp H H'):eF H' pw A.work (lL f)/\gz H' A.dM fF S.aE f.iK/\gz H' A.d8 fk S.credits f.cps:=by
 have go: ∀{p C:Addr} {dx:Addr} {gs:List (Str×V)},H p=some (.ins C dx gs)->H' p=some (.ins C dx gs):=fun e=>k _ _ (h.off fun ys z=>by rw[e] at z; cases z) e;exact⟨let⟨dx,e⟩:=h.obj; ⟨dx,go e⟩,h.rb.keep fun _ _ _ e=>go e,h.rc.keep fun _ _ _ e=>go e⟩
def dG.same (h:dG A H pw S f)(s:aF H H'):dG A H' pw S f:=by
 obtain⟨o1,o2,o3⟩:=h.objs (s.frame (fp:=f.fp));obtain⟨ms,m1,m2⟩:=h.hm;exact⟨o1,s _ _ h.hb,s _ _ h.hc,s _ _ h.hl,s _ _ h.hf,⟨ms,s _ _ m1,m2.mono s.tk⟩,o2,o3,h.nd⟩
def eT.ne (h:f.fp.Nodup):f.pb≠f.pc/\f.pb≠f.pl/\f.pb≠f.pf/\f.pb≠f.pm/\f.pc≠f.pl/\f.pc≠f.pf/\f.pc≠f.pm/\f.pl≠f.pf/\f.pl≠f.pm/\f.pf≠f.pm:=by
 simp only[eT.fp,List.nodup_cons,List.mem_cons,List.not_mem_nil,or_false,not_or] at h;obtain⟨⟨h1,h2,h3,h4⟩,⟨h5,h6,h7⟩,⟨h8,h9⟩,Lj,_⟩:=h;exact⟨h1,h2,h3,h4,h5,h6,h7,h8,h9,Lj⟩
def yC {rows:List Rw}{i:Nat}{x:Int}:(rows.set i ((rows.getD i default).less x)).map (fun r=>V.int r.d)=(rows.map fun r=>V.int r.d).set i (.int ((rows.getD i default).d - x)):=by
 rw[List.map_set]; rfl
def dG.put (h:dG A H pw S f){c b:Nat}{x:Int}{ms:List V}{p:Addr}(hc:c < S.credits.length)(hb:b < S.aE.length)(m1:H f.pm=some (.lst ms))(m2:iw H S.made ms)(np:H p=none):
  dG A (upd (upd (upd (upd H f.pf (.lst ((S.credits.map fun r=>V.int r.d).set c (.int ((S.cr c).d - x))))) f.pl (.lst ((S.aE.map fun r=>V.int r.d).set b (.int ((S.bl b).d - x))))) p (.tup [.int c,.int b,.int x])) f.pm (.lst (ms ++ [.ref p]))) pw (S.put c b x) f/\
  Frame f.fp H (upd (upd (upd (upd H f.pf (.lst ((S.credits.map fun r=>V.int r.d).set c (.int ((S.cr c).d - x))))) f.pl (.lst ((S.aE.map fun r=>V.int r.d).set b (.int ((S.bl b).d - x))))) p (.tup [.int c,.int b,.int x])) f.pm (.lst (ms ++ [.ref p]))):=by
 obtain⟨e1,e2,e3,e4,e5,e6,e7,e8,e9,N0⟩:=eT.ne h.nd;have pf: ∀q∈f.fp,q≠p:=fun q hq z=>h.new np (z▸hq);have i1:f.pb∈f.fp:=by simp[eT.fp]
 have i2:f.pc∈f.fp:=by simp[eT.fp]
 have i3:f.pl∈f.fp:=by simp[eT.fp]
 have i4:f.pf∈f.fp:=by simp[eT.fp]
 have i5:f.pm∈f.fp:=by simp[eT.fp]
 have t3: ∀(G:Hp) (q:Addr),q≠f.pf->q≠f.pl->q≠p->q≠f.pm-> ∀(a b c d:HO),upd (upd (upd (upd G f.pf a) f.pl b) p c) f.pm d q=G q:=fun G q h1 h2 h3 h4 a b c d=>by
  rw[az h4,az h3,az h2,az h1]
 have F:Frame f.fp H (upd (upd (upd (upd H f.pf (.lst ((S.credits.map fun r=>V.int r.d).set c (.int ((S.cr c).d - x))))) f.pl (.lst ((S.aE.map fun r=>V.int r.d).set b (.int ((S.bl b).d - x))))) p (.tup [.int c,.int b,.int x])) f.pm (.lst (ms ++ [.ref p]))):=fun q o hq e=>by
  rw[t3 H q (fun z=>hq (z▸i4)) (fun z=>hq (z▸i3)) (aJ e np) (fun z=>hq (z▸i5))];exact e
 refine⟨?_,F⟩;obtain⟨o1,o2,o3⟩:=h.objs F;have tk:=h.tk F;refine⟨o1,by rw[t3 H _ e3 e2 (pf _ i1) e4]; exact h.hb,by rw[t3 H _ e6 e5 (pf _ i2) e7]; exact h.hc,?_,?_,⟨_,ag,?_⟩,?_,?_,h.nd⟩
 ·rw[az e9,az (pf _ i3),ag];show _ =some (HO.lst ((S.aE.set b ((S.aE.getD b default).less x)).map fun r=>V.int r.d));rw[yC]; rfl
 ·rw[az N0,az (pf _ i4),az e8.symm,ag];show _ =some (HO.lst ((S.credits.set c ((S.credits.getD c default).less x)).map fun r=>V.int r.d));rw[yC]; rfl
 ·refine cu (m2.mono tk) ⟨p,rfl,?_⟩;rw[az (pf _ i5).symm,ag]
 ·refine o2.rows fe fun i=>?_;show fF i ((S.put c b x).bl i)=fF i (S.bl i);rw[lg hb];split
  ·rename_i z; subst z; rfl
  ·rfl
 ·refine o3.rows fe fun i=>?_;show fk i ((S.put c b x).cr i)=fk i (S.cr i);rw[nG hc];split
  ·rename_i z; subst z; rfl
  ·rfl
end
end L2
namespace eV
open PySem L2 PyProof.Rows Lk
def MF:Stmt->List Stmt
 | .ClassDef _ _ _ b _ _ _ _ _ _ _=>b
 |_=>[]
def mem (i j:Nat):Stmt:=(MF (top i)).getD j (.Pass ⟨0,0,0,0⟩)
structure jI (K:Frag)(mg:Str->Option Value)(A:dZ):Prop where
 fV:mg "Refusal"=some (.ref A.refusal)
 Ec:g8 K A.refusal A.refusal
 P5:keepIn K (.ref A.refusal)=true
 gA: ∃f fd,gw K "__init__" "Refusal.__init__" (mem 3 0) f fd/\Fq K A.refusal f
 BY:mg "NoCredit"=some (.ref A.ka)
 tO:g8 K A.ka A.refusal
 BZ:keepIn K (.ref A.ka)=true
 B0: ∃f fd,gw K "__init__" "NoCredit.__init__" (mem 4 0) f fd/\findIn K (.ref A.ka) "__init__"=some (some (.ref f))/\typeIn K (.ref f)=some (.type "function")
 Hl:mg "NoBill"=some (.ref A.qp)
 yD:g8 K A.qp A.refusal
 Hm:keepIn K (.ref A.qp)=true
 Hn: ∃f fd,gw K "__init__" "NoBill.__init__" (mem 5 0) f fd/\findIn K (.ref A.qp) "__init__"=some (some (.ref f))/\typeIn K (.ref f)=some (.type "function")
 zM:mg "NotTheirs"=some (.ref A.jS)
 rj:g8 K A.jS A.refusal
 zN:keepIn K (.ref A.jS)=true
 zO: ∃f fd,gw K "__init__" "NotTheirs.__init__" (mem 6 0) f fd/\findIn K (.ref A.jS) "__init__"=some (some (.ref f))/\typeIn K (.ref f)=some (.type "function")
 B4:mg "NoAmount"=some (.ref A.iN)
 kN:g8 K A.iN A.refusal
 B6:keepIn K (.ref A.iN)=true
 B7: ∃f fd,gw K "__init__" "NoAmount.__init__" (mem 7 0) f fd/\findIn K (.ref A.iN) "__init__"=some (some (.ref f))/\typeIn K (.ref f)=some (.type "function")
 B8:mg "TooEarly"=some (.ref A.tooEarly)
 tP:g8 K A.tooEarly A.refusal
 Ca:keepIn K (.ref A.tooEarly)=true
 Cb: ∃f fd,gw K "__init__" "TooEarly.__init__" (mem 8 0) f fd/\findIn K (.ref A.tooEarly) "__init__"=some (some (.ref f))/\typeIn K (.ref f)=some (.type "function")
 vJ:mg "TooMuch"=some (.ref A.tooMuch)
 qq:g8 K A.tooMuch A.refusal
 Ed:keepIn K (.ref A.tooMuch)=true
 Ee: ∃f fd,gw K "__init__" "TooMuch.__init__" (mem 9 0) f fd/\findIn K (.ref A.tooMuch) "__init__"=some (some (.ref f))/\typeIn K (.ref f)=some (.type "function")
 zP:mg "NoSetting"=some (.ref A.jT)
 rm:g8 K A.jT A.refusal
 zQ:keepIn K (.ref A.jT)=true
 zR: ∃f fd,gw K "__init__" "NoSetting.__init__" (mem 10 0) f fd/\findIn K (.ref A.jT) "__init__"=some (some (.ref f))/\typeIn K (.ref f)=some (.type "function")
 yE:mg "Needed"=some (.ref A.i9)
 yF:g8 K A.i9 A.refusal
 Ho:keepIn K (.ref A.i9)=true
 Hq: ∃f fd,gw K "__init__" "Needed.__init__" (mem 11 0) f fd/\findIn K (.ref A.i9) "__init__"=some (some (.ref f))/\typeIn K (.ref f)=some (.type "function")
 MG:mg "Bill"=some (.ref A.dM)
 d9:wX K A.dM
 eX:b9 K A.dM "number"
 kO:b9 K A.dM "who"
 nM:b9 K A.dM "day"
 nN:b9 K A.dM "due"
 nO:b9 K A.dM "amount"
 MH: ∃f fd,gw K "__init__" "Bill.__init__" (mem 13 0) f fd/\Mk K A.dM f
 Hr:mg "Credit"=some (.ref A.d8)
 df:wX K A.d8
 eU:b9 K A.d8 "number"
 lp:b9 K A.d8 "who"
 jd:b9 K A.d8 "day"
 lO:b9 K A.d8 "amount"
 kb:b9 K A.d8 "only"
 Hs: ∃f fd,gw K "__init__" "Credit.__init__" (mem 14 0) f fd/\Mk K A.d8 f
 MI:mg "Work"=some (.ref A.work)
 bI:wX K A.work
 dX:b9 K A.work "bills"
 cF:b9 K A.work "all_credits"
 fG:b9 K A.work "lefts"
 fH:b9 K A.work "frees"
 mr:b9 K A.work "made"
 MJ: ∃f fd,gw K "__init__" "Work.__init__" (mem 25 0) f fd/\Mk K A.work f
 rn: ∃f fd,gw K "tell_bill" "Work.tell_bill" (mem 25 1) f fd/\Meth K A.work "tell_bill" f
 nP: ∃f fd,gw K "tell_payment" "Work.tell_payment" (mem 25 2) f fd/\Meth K A.work "tell_payment" f
 rq: ∃f fd,gw K "tell_note" "Work.tell_note" (mem 25 3) f fd/\Meth K A.work "tell_note" f
 o5: ∃f fd,gw K "tell_credit" "Work.tell_credit" (mem 25 4) f fd/\Meth K A.work "tell_credit" f
 o6: ∃f fd,gw K "set_by_hand" "Work.set_by_hand" (mem 25 5) f fd/\Meth K A.work "set_by_hand" f
 xx: ∃f fd,gw K "sweep" "Work.sweep" (mem 25 6) f fd/\Meth K A.work "sweep" f
 rz: ∃f fd,gw K "one_round" "Work.one_round" (mem 25 7) f fd/\Meth K A.work "one_round" f
 Cc: ∃f fd,gw K "put" "Work.put" (mem 25 8) f fd/\Meth K A.work "put" f
 rA: ∃f fd,gw K "credit_at" "Work.credit_at" (mem 25 9) f fd/\Meth K A.work "credit_at" f
 uh: ∃f fd,gw K "bill_at" "Work.bill_at" (mem 25 10) f fd/\Meth K A.work "bill_at" f
 MK:mg "Book"=some (.ref A.book)
 eY:wX K A.book
 gP:b9 K A.book "kept"
 gQ:b9 K A.book "work"
 ML: ∃f fd,gw K "__init__" "Book.__init__" (mem 29 0) f fd/\Mk K A.book f
 Ef: ∃f fd,gw K "do" "Book.do" (mem 29 1) f fd/\Meth K A.book "do" f
 zS: ∃f fd,gw K "undo" "Book.undo" (mem 29 2) f fd/\Meth K A.book "undo" f
 sM: ∃f fd,gw K "in_force" "Book.in_force" (mem 29 3) f fd/\Meth K A.book "in_force" f
end eV
namespace L2
open PySem PySem.Spec PySem.W PyProof.Rows Lk
structure g9 (CX:EY)(P:Program)(w:World)(K:Frag)(mg:Str->Option Value)(base:Heap)(C:Addr)(m:Str)(k:Nat)(ps:List Str)(sp:Sp):Prop where
 ex: ∃(f:Addr) (fd:FuncData),wX K C/\Meth K C m f/\l7 P w K mg base CX k f fd ps sp/\Binds K fd ps []
structure vK (P:Program)(w:World)(K:Frag)(mg:Str->Option Value)(base:Heap)(x:Str)(k:Nat)(ps:List Str)(sp:Sp):Prop where
 ex: ∃(f:Addr) (fd:FuncData),l7 P w K mg base (mU P w mg) k f fd ps sp/\mg x=some (.ref f)/\keepIn K (.ref f)=true/\Binds K fd ps []
structure ui (P:Program)(w:World)(K:Frag)(mg:Str->Option Value)(base:Heap)(x:Str)(C:Addr)(k:Nat)(ps:List Str)(sp:Sp):Prop where
 ex: ∃(f:Addr) (fd:FuncData),Mk K C f/\l7 P w K mg base sD k f fd ps sp/\Binds K fd ps []/\mg x=some (.ref C)
section
variable {X:Cx}{CX:EY}{C:Addr}{x m:Str}{k:Nat}{ps:List Str}{sp:Sp}{o e:Expr}{es:List Expr}{ta:TE}{t:TA}{p pos apos:Pos}{E:XK}
def nQ {pl:Sem Bool}(M:g9 CX X.prog X.w X.K X.mg X.base C m k ps sp)(hr:fh k X.A)(hx:Passes CX X E)(he:PE X o ta)(ha:PA X (e :: es) t)
  (r6:starEach (e :: es) X.env=(false,eval e X.env) :: starEach es X.env:=by rfl) (iS:(backTo pos (starEach es X.env)).any (·.1)=false:=by rfl)
  (ht:eval (.Call (.Attribute o m apos) (e :: es) [] pos) X.env=(do
   let ov ← eval o X.env
   standAt apos.atName
   let(f,first) ← holding [ov] (getMethod ov m pl)
   callWith pos f first (backTo pos (starEach (e :: es) X.env)) (backToKw pos (keywordEach [] X.env))):=by rfl):
  PE X (.Call (.Attribute o m apos) (e :: es) [] pos) (NL C m sp [] E ta t):=by
 obtain⟨f,fd,hc,hm,F,hb⟩:=M.ex;exact LU he hc hm F hr hb .nil hx ha r6 iS ht
def sN (M:vK X.prog X.w X.K X.mg X.base x k ps sp)(hr:fh k X.A)(hg:Gl X x)(hx:Passes (mU X.prog X.w X.mg) X E)(ha:PA X (e :: es) t)(qR:(x == ("__debug__":Str))=false:=by decide)
  (he:starEach (e :: es) X.env=(false,eval e X.env) :: starEach es X.env:=by rfl) (iS:(backTo pos (starEach es X.env)).any (·.1)=false:=by rfl):PE X (.Call (.Name x p) (e :: es) [] pos) (uT sp [] E t):=by
 obtain⟨f,fd,F,hm,hk,hb⟩:=M.ex;exact E1 F hr hg hm hk hb .nil hx ha qR he iS
def T2 (M:ui X.prog X.w X.K X.mg X.base x C k ps sp)(hr:fh (k + 1) X.A)(hg:Gl X x)(ha:PA X (e :: es) t)(qR:(x == ("__debug__":Str))=false:=by decide)
  (he:starEach (e :: es) X.env=(false,eval e X.env) :: starEach es X.env:=by rfl) (iS:(backTo pos (starEach es X.env)).any (·.1)=false:=by rfl):PE X (.Call (.Name x p) (e :: es) [] pos) (EZ C sp [] E0 t):=by
 obtain⟨f,fd,hk,F,hb,hm⟩:=M.ex;exact LV hk F hr hg hm hb .nil nz ha qR he iS
def JY (M:ui X.prog X.w X.K X.mg X.base x C k ps sp)(hr:fh (k + 1) X.A)(hg:Gl X x)(qR:(x == ("__debug__":Str))=false:=by decide):PE X (.Call (.Name x p) [] [] pos) (EZ C sp [] E0 Bp):=by
 obtain⟨f,fd,hk,F,hb,hm⟩:=M.ex;exact Ja hk F hr hg hm hb .nil nz qR
end
section
variable {P:Program}{w:World}{K:Frag}{mg:Str->Option Value}{base:Heap}{C:Addr}{x m qual:Str}{st:Stmt}{N ps:List Str}{k:Nat}{sp:Sp}
def MM (D: ∃f fd,gw K m qual st f fd/\Meth K C m f)(hc:wX K C)(S:aU N ps (aA st))
  (f7: ∀(f:Addr) (cY:Value) (A:Around) (outer:List Env) (s:Shared) (H:Hp) (vs:List V) (Q:VK) (E:XK),fh k (A.deeper (envOfC qual (aA st) s.heap.objs.size f cY))->sp vs H Q E->
   ∃t,pj (k7 sD P w K mg base N qual (aA st) f cY A outer s H E).DE (dF st) t/\t {nx:=fun _ H'=>Q .eA H',rt:=Q} (start N vs) H)
  (hb: ∀(kV doc pm:Value) (an:Option Addr) (cY ct:Value) (us:List Value),us.length=ps.length->bindArgs (fnOf m qual (gJ st) (dF st) (aA st) .none kV doc pm an cY ct) ⟨us,[]⟩=pure (ps.zip us):=by intro _ _ _ _ _ _ us hl; rcases us with _|⟨_,_|⟨_,_|⟨_,_|⟨_,_|⟨_,_|⟨_,_|⟨_,_⟩⟩⟩⟩⟩⟩⟩ <;> first|(cases hl; done)|rfl)
  (len: ∀vs H Q E,sp vs H Q E->vs.length=ps.length:=by intro _ _ _ _ h; first|(cases h; subst_vars; rfl)|(repeat (first|(obtain⟨rfl,_⟩:=h; rfl; done)|obtain⟨_,h⟩:=h))):g9 sD P w K mg base C m (k + 1) ps sp:=by
 obtain⟨f,fd,F,hm⟩:=D;exact⟨f,fd,hc,hm,F.ok S len (f7 f),F.binds hb⟩
def rB (D: ∃f fd,gw K m qual st f fd/\Meth K C m f)(hc:wX K C)(S:aU N ps (aA st))
  (f7: ∀(f:Addr) (cY:Value) (A:Around) (outer:List Env) (s:Shared) (H:Hp) (vs:List V) (Q:VK) (E:XK),fh k (A.deeper (envOfC qual (aA st) s.heap.objs.size f cY))->RA (k7 (mU P w mg) P w K mg base N qual (aA st) f cY A outer s H E) E->sp vs H Q E->
   ∃t,pj (k7 (mU P w mg) P w K mg base N qual (aA st) f cY A outer s H E) (dF st) t/\t {nx:=fun _ H'=>Q .eA H',rt:=Q} (start N vs) H)
  (hb: ∀(kV doc pm:Value) (an:Option Addr) (cY ct:Value) (us:List Value),us.length=ps.length->bindArgs (fnOf m qual (gJ st) (dF st) (aA st) .none kV doc pm an cY ct) ⟨us,[]⟩=pure (ps.zip us):=by intro _ _ _ _ _ _ us hl; rcases us with _|⟨_,_|⟨_,_|⟨_,_|⟨_,_|⟨_,_|⟨_,_|⟨_,_⟩⟩⟩⟩⟩⟩⟩ <;> first|(cases hl; done)|rfl)
  (len: ∀vs H Q E,sp vs H Q E->vs.length=ps.length:=by intro _ _ _ _ h; first|(cases h; subst_vars; rfl)|(repeat (first|(obtain⟨rfl,_⟩:=h; rfl; done)|obtain⟨_,h⟩:=h))):g9 (mU P w mg) P w K mg base C m (k + 1) ps sp:=by
 obtain⟨f,fd,F,hm⟩:=D;exact⟨f,fd,hc,hm,F.okX S len (f7 f),F.binds hb⟩
def P6 (D:Df K mg x st)(S:aU N ps (aA st))
  (f7: ∀(f:Addr) (cY:Value) (A:Around) (outer:List Env) (s:Shared) (H:Hp) (vs:List V) (Q:VK) (E:XK),fh k (A.deeper (envOfC x (aA st) s.heap.objs.size f cY))->RA (k7 (mU P w mg) P w K mg base N x (aA st) f cY A outer s H E) E->sp vs H Q E->
   ∃t,pj (k7 (mU P w mg) P w K mg base N x (aA st) f cY A outer s H E) (dF st) t/\t {nx:=fun _ H'=>Q .eA H',rt:=Q} (start N vs) H)
  (hb: ∀(kV doc pm:Value) (an:Option Addr) (cY ct:Value) (us:List Value),us.length=ps.length->bindArgs (fnOf x x (gJ st) (dF st) (aA st) .none kV doc pm an cY ct) ⟨us,[]⟩=pure (ps.zip us):=by intro _ _ _ _ _ _ us hl; rcases us with _|⟨_,_|⟨_,_|⟨_,_|⟨_,_|⟨_,_|⟨_,_|⟨_,_⟩⟩⟩⟩⟩⟩⟩ <;> first|(cases hl; done)|rfl)
  (len: ∀vs H Q E,sp vs H Q E->vs.length=ps.length:=by intro _ _ _ _ h; first|(cases h; subst_vars; rfl)|(repeat (first|(obtain⟨rfl,_⟩:=h; rfl; done)|obtain⟨_,h⟩:=h))):vK P w K mg base x (k + 1) ps sp:=by
 obtain⟨f,fd,F,hm⟩:=D.ex;exact⟨f,fd,F.okX S len (f7 f),hm,F.kp,F.binds hb⟩
def MN (D: ∃f fd,gw K "__init__" qual st f fd/\Mk K C f)(hm:mg x=some (.ref C))(S:aU N ps (aA st))
  (f7: ∀(f:Addr) (cY:Value) (A:Around) (outer:List Env) (s:Shared) (H:Hp) (vs:List V) (Q:VK) (E:XK),fh k (A.deeper (envOfC qual (aA st) s.heap.objs.size f cY))->sp vs H Q E->
   ∃t,pj (k7 sD P w K mg base N qual (aA st) f cY A outer s H E).DE (dF st) t/\t {nx:=fun _ H'=>Q .eA H',rt:=Q} (start N vs) H)
  (hb: ∀(kV doc pm:Value) (an:Option Addr) (cY ct:Value) (us:List Value),us.length=ps.length->bindArgs (fnOf "__init__" qual (gJ st) (dF st) (aA st) .none kV doc pm an cY ct) ⟨us,[]⟩=pure (ps.zip us):=by intro _ _ _ _ _ _ us hl; rcases us with _|⟨_,_|⟨_,_|⟨_,_|⟨_,_|⟨_,_|⟨_,_|⟨_,_⟩⟩⟩⟩⟩⟩⟩ <;> first|(cases hl; done)|rfl)
  (len: ∀vs H Q E,sp vs H Q E->vs.length=ps.length:=by intro _ _ _ _ h; first|(cases h; subst_vars; rfl)|(repeat (first|(obtain⟨rfl,_⟩:=h; rfl; done)|obtain⟨_,h⟩:=h))):ui P w K mg base x C (k + 1) ps sp:=by
 obtain⟨f,fd,F,hk⟩:=D;exact⟨f,fd,hk,F.ok S len (f7 f),F.binds hb,hm⟩
end
end L2
namespace eV
open PySem L2 PyProof.Rows Lk
seal L2.pj L2.PS L2.PE L2.PT L2.PW L2.PA L2.PC L2.PG L2.IJ L2.PI L2.L6 L2.Lg L2.PO L2.oX L2.NK L2.ip L2.Jc L2.NM
section
variable {P:Program}{w:World}{K:Frag}{mg:Str->Option Value}{base:Heap}
def Ht {H:Hp}{e dx:Addr}{a b c:HO}(h:dx≠e):upd (upd (upd H e a) dx b) e c=upd (upd H dx b) e c:=by
 funext q
 by_cases h1:q=e
 ·rw[h1,ag,ag]
 ·rw[az h1,az h1];by_cases h2:q=dx
  ·rw[h2,ag,ag]
  ·rw[az h2,az h2,az h1]
inductive N1 (K:Frag)(vs:List V)(H:Hp)(Q:VK)(E':XK):Prop
 |mk (e C R t0:Addr)(txt:Str)(h1:vs=[.ref e,.str txt])(h2:H e=some (xo e C none (v0 t0)))(h3:g8 K C R)(h4: ∀dx t',H dx=none->Q .eA (upd (upd H dx (.xd [("text",.str txt)])) e (xo e C (some dx) (v0 t')))):N1 K vs H Q E'
def Eg:aU ["self","text"] ["self","text"] (aA (mem 3 0)):={}
def gE (T:Txt K mg){f:Addr}{fd:FuncData}(F:gw K "__init__" "Refusal.__init__" (mem 3 0) f fd):Tw P w K mg base 1 f fd ["self","text"] (N1 K):=by
 refine mi (k:=0) F Eg (fun vs H Q E h=>?_) (fun cY A outer s H vs Q E hr h=>?_)
 ·obtain⟨e,C,R,t0,txt,rfl,_⟩:=h;rfl
 ·obtain⟨e,C,R,t0,txt,rfl,he,ek,k⟩:=h;refine⟨_,(ai (bM (JF rfl T.BU (aa (pv 0) (aa (pv 1) aw)))) (av (Mt (pv 0) (pv 1) rfl))),?_⟩;refine⟨_,rfl,_,rfl,e,C,R,t0,none,v0 t0,_,rfl,he,ek,rfl,fun t'=>?_⟩;refine⟨_,rfl,_,rfl,e,C,R,v0 t',rfl,ag,ek,fun dx JZ=>?_⟩;have ne:dx≠e:=fun z=>by rw[z,ag] at JZ; cases JZ
  rw[az ne] at JZ;have q:=k dx t' JZ;rw[← Ht (a:=xo e C none (v0 t')) ne] at q;exact q
def Cd:aU ["self"] ["self"] (aA (mem 4 0)):={}
def Ce (T:Txt K mg){A:dZ}(G:jI K mg A):JG P w K mg base 2 "NoCredit" A.ka A.refusal "no credit":=by
 obtain⟨f,fd,F,hi,ht⟩:=G.B0;obtain⟨f0,P7,F0,ik⟩:=G.gA;refine⟨G.BY,G.tO,G.BZ,f,fd,hi,ht,?_,F.binds (fun _ _ _ _ _ _ us hl=>match us,hl with|[_],_=>rfl)⟩;refine mi (k:=1) F Cd (fun vs H Q E h=>?_) (fun cY A' outer s H vs Q E hr h=>?_)
 ·obtain⟨e,C,R,t0,rfl,_⟩:=h;rfl
 ·obtain⟨e,C,R,t0,rfl,he,ek,k⟩:=h;refine⟨_,(av (bM (jl ik (gE T F0) hr (F0.binds (fun _ _ _ _ _ _ us hl=>match us,hl with|[_,_],_=>rfl)) rfl G.fV (aa (pv 0) (aa aR aw))))),?_⟩;exact⟨_,rfl,e,C,R,t0,_,rfl,he,ek,fun dx t' n=>k dx t' n⟩
def Hu:aU ["self"] ["self"] (aA (mem 5 0)):={}
def Hv (T:Txt K mg){A:dZ}(G:jI K mg A):JG P w K mg base 2 "NoBill" A.qp A.refusal "no bill":=by
 obtain⟨f,fd,F,hi,ht⟩:=G.Hn;obtain⟨f0,P7,F0,ik⟩:=G.gA;refine⟨G.Hl,G.yD,G.Hm,f,fd,hi,ht,?_,F.binds (fun _ _ _ _ _ _ us hl=>match us,hl with|[_],_=>rfl)⟩;refine mi (k:=1) F Hu (fun vs H Q E h=>?_) (fun cY A' outer s H vs Q E hr h=>?_)
 ·obtain⟨e,C,R,t0,rfl,_⟩:=h;rfl
 ·obtain⟨e,C,R,t0,rfl,he,ek,k⟩:=h;refine⟨_,(av (bM (jl ik (gE T F0) hr (F0.binds (fun _ _ _ _ _ _ us hl=>match us,hl with|[_,_],_=>rfl)) rfl G.fV (aa (pv 0) (aa aR aw))))),?_⟩;exact⟨_,rfl,e,C,R,t0,_,rfl,he,ek,fun dx t' n=>k dx t' n⟩
def zT:aU ["self"] ["self"] (aA (mem 6 0)):={}
def zU (T:Txt K mg){A:dZ}(G:jI K mg A):JG P w K mg base 2 "NotTheirs" A.jS A.refusal "not theirs":=by
 obtain⟨f,fd,F,hi,ht⟩:=G.zO;obtain⟨f0,P7,F0,ik⟩:=G.gA;refine⟨G.zM,G.rj,G.zN,f,fd,hi,ht,?_,F.binds (fun _ _ _ _ _ _ us hl=>match us,hl with|[_],_=>rfl)⟩;refine mi (k:=1) F zT (fun vs H Q E h=>?_) (fun cY A' outer s H vs Q E hr h=>?_)
 ·obtain⟨e,C,R,t0,rfl,_⟩:=h;rfl
 ·obtain⟨e,C,R,t0,rfl,he,ek,k⟩:=h;refine⟨_,(av (bM (jl ik (gE T F0) hr (F0.binds (fun _ _ _ _ _ _ us hl=>match us,hl with|[_,_],_=>rfl)) rfl G.fV (aa (pv 0) (aa aR aw))))),?_⟩;exact⟨_,rfl,e,C,R,t0,_,rfl,he,ek,fun dx t' n=>k dx t' n⟩
def Cf:aU ["self"] ["self"] (aA (mem 7 0)):={}
def Cg (T:Txt K mg){A:dZ}(G:jI K mg A):JG P w K mg base 2 "NoAmount" A.iN A.refusal "no amount":=by
 obtain⟨f,fd,F,hi,ht⟩:=G.B7;obtain⟨f0,P7,F0,ik⟩:=G.gA;refine⟨G.B4,G.kN,G.B6,f,fd,hi,ht,?_,F.binds (fun _ _ _ _ _ _ us hl=>match us,hl with|[_],_=>rfl)⟩;refine mi (k:=1) F Cf (fun vs H Q E h=>?_) (fun cY A' outer s H vs Q E hr h=>?_)
 ·obtain⟨e,C,R,t0,rfl,_⟩:=h;rfl
 ·obtain⟨e,C,R,t0,rfl,he,ek,k⟩:=h;refine⟨_,(av (bM (jl ik (gE T F0) hr (F0.binds (fun _ _ _ _ _ _ us hl=>match us,hl with|[_,_],_=>rfl)) rfl G.fV (aa (pv 0) (aa aR aw))))),?_⟩;exact⟨_,rfl,e,C,R,t0,_,rfl,he,ek,fun dx t' n=>k dx t' n⟩
def Ci:aU ["self"] ["self"] (aA (mem 8 0)):={}
def Cj (T:Txt K mg){A:dZ}(G:jI K mg A):JG P w K mg base 2 "TooEarly" A.tooEarly A.refusal "too early":=by
 obtain⟨f,fd,F,hi,ht⟩:=G.Cb;obtain⟨f0,P7,F0,ik⟩:=G.gA;refine⟨G.B8,G.tP,G.Ca,f,fd,hi,ht,?_,F.binds (fun _ _ _ _ _ _ us hl=>match us,hl with|[_],_=>rfl)⟩;refine mi (k:=1) F Ci (fun vs H Q E h=>?_) (fun cY A' outer s H vs Q E hr h=>?_)
 ·obtain⟨e,C,R,t0,rfl,_⟩:=h;rfl
 ·obtain⟨e,C,R,t0,rfl,he,ek,k⟩:=h;refine⟨_,(av (bM (jl ik (gE T F0) hr (F0.binds (fun _ _ _ _ _ _ us hl=>match us,hl with|[_,_],_=>rfl)) rfl G.fV (aa (pv 0) (aa aR aw))))),?_⟩;exact⟨_,rfl,e,C,R,t0,_,rfl,he,ek,fun dx t' n=>k dx t' n⟩
def Eh:aU ["self"] ["self"] (aA (mem 9 0)):={}
def Ei (T:Txt K mg){A:dZ}(G:jI K mg A):JG P w K mg base 2 "TooMuch" A.tooMuch A.refusal "too much":=by
 obtain⟨f,fd,F,hi,ht⟩:=G.Ee;obtain⟨f0,P7,F0,ik⟩:=G.gA;refine⟨G.vJ,G.qq,G.Ed,f,fd,hi,ht,?_,F.binds (fun _ _ _ _ _ _ us hl=>match us,hl with|[_],_=>rfl)⟩;refine mi (k:=1) F Eh (fun vs H Q E h=>?_) (fun cY A' outer s H vs Q E hr h=>?_)
 ·obtain⟨e,C,R,t0,rfl,_⟩:=h;rfl
 ·obtain⟨e,C,R,t0,rfl,he,ek,k⟩:=h;refine⟨_,(av (bM (jl ik (gE T F0) hr (F0.binds (fun _ _ _ _ _ _ us hl=>match us,hl with|[_,_],_=>rfl)) rfl G.fV (aa (pv 0) (aa aR aw))))),?_⟩;exact⟨_,rfl,e,C,R,t0,_,rfl,he,ek,fun dx t' n=>k dx t' n⟩
def zV:aU ["self"] ["self"] (aA (mem 10 0)):={}
def zW (T:Txt K mg){A:dZ}(G:jI K mg A):JG P w K mg base 2 "NoSetting" A.jT A.refusal "no setting":=by
 obtain⟨f,fd,F,hi,ht⟩:=G.zR;obtain⟨f0,P7,F0,ik⟩:=G.gA;refine⟨G.zP,G.rm,G.zQ,f,fd,hi,ht,?_,F.binds (fun _ _ _ _ _ _ us hl=>match us,hl with|[_],_=>rfl)⟩;refine mi (k:=1) F zV (fun vs H Q E h=>?_) (fun cY A' outer s H vs Q E hr h=>?_)
 ·obtain⟨e,C,R,t0,rfl,_⟩:=h;rfl
 ·obtain⟨e,C,R,t0,rfl,he,ek,k⟩:=h;refine⟨_,(av (bM (jl ik (gE T F0) hr (F0.binds (fun _ _ _ _ _ _ us hl=>match us,hl with|[_,_],_=>rfl)) rfl G.fV (aa (pv 0) (aa aR aw))))),?_⟩;exact⟨_,rfl,e,C,R,t0,_,rfl,he,ek,fun dx t' n=>k dx t' n⟩
def Hw:aU ["self"] ["self"] (aA (mem 11 0)):={}
def Hx (T:Txt K mg){A:dZ}(G:jI K mg A):JG P w K mg base 2 "Needed" A.i9 A.refusal "needed":=by
 obtain⟨f,fd,F,hi,ht⟩:=G.Hq;obtain⟨f0,P7,F0,ik⟩:=G.gA;refine⟨G.yE,G.yF,G.Ho,f,fd,hi,ht,?_,F.binds (fun _ _ _ _ _ _ us hl=>match us,hl with|[_],_=>rfl)⟩;refine mi (k:=1) F Hw (fun vs H Q E h=>?_) (fun cY A' outer s H vs Q E hr h=>?_)
 ·obtain⟨e,C,R,t0,rfl,_⟩:=h;rfl
 ·obtain⟨e,C,R,t0,rfl,he,ek,k⟩:=h;refine⟨_,(av (bM (jl ik (gE T F0) hr (F0.binds (fun _ _ _ _ _ _ us hl=>match us,hl with|[_,_],_=>rfl)) rfl G.fV (aa (pv 0) (aa aR aw))))),?_⟩;exact⟨_,rfl,e,C,R,t0,_,rfl,he,ek,fun dx t' n=>k dx t' n⟩
def pA (rc rb:Rw)(b:Nat):Bool:=if rc.c= -1 then decide (rc.aH=rb.aH) else decide (rc.c=(b:Int))
def EX (E:XK)(C:Addr)(txt:Str)(H:Hp):Prop:= ∀(dx:Addr) (H':Hp),aF H H'->H dx=none->H' dx=some (.xd [("text",.str txt)])->E (.ref C) (some dx) H'
def EX.at {E:XK}{C dx:Addr}{txt:Str}{H:Hp}(h:EX E C txt H)(n:H dx=none):E (.ref C) (some dx) (upd H dx (.xd [("text",.str txt)])):=h dx _ (aF.new n) n ag
inductive rC (A:dZ)(vs:List V)(H:Hp)(Q:VK)(E:XK):Prop
 |mk (a:Int)(h1:vs=[.int a])(h2:(1<=a->Q .eA H))(h3:(a < 1->EX E A.iN "no amount" H)):rC A vs H Q E
def uj:aU ["amount"] ["amount"] (aA (top 26)):={}
def ke (T:Txt K mg){A:dZ}(G:jI K mg A):vK P w K mg base "check_amount" 4 ["amount"] (rC A):=by
 refine P6 (k:=3) T.vC uj (fun f cY A' outer s H vs Q E hr mJ h=>?_)
 ·obtain⟨a,rfl,k1,k2⟩:=h;refine⟨_,(av (bT (a0 kH (pv 0) aj (bb _)) (av (j8 mJ (Cg T G) hr.h rfl rfl)) bp)),?_⟩;refine⟨_,rfl,_,_,rfl,rfl,_,rfl,cG (fun z=>?_) (fun z=>?_)⟩
  ·exact fun dx n=>(k2 (a6 z)).at n
  ·exact k1 (by have: ¬ a < 1:=fun q=>z (aK q); lia)
inductive zX (A:dZ)(vs:List V)(H:Hp)(Q:VK)(E':XK):Prop
 |mk (p q:Addr)(c b:Nat)(rc rb:Rw)(h1:vs=[.ref p,.ref q])(h2:eF H p A.d8 (fk c rc))(h3:eF H q A.dM (fF b rb))(h4:Q (.bl (pA rc rb b)) H):zX A vs H Q E'
def MO:aU ["credit","bill"] ["credit","bill"] (aA (top 15)):={}
def J0 (T:Txt K mg){A:dZ}(G:jI K mg A):fu P w K mg base "fits" 1 ["credit","bill"] (zX A):=by
 refine T.PV.fQ (k:=0) MO (fun f cY A' outer s H vs Q E hr h=>?_)
 ·obtain⟨p,q,c,b,rc,rb,rfl,⟨dp,hp⟩,⟨dq,hq⟩,k⟩:=h;refine⟨_,(ai (bT (y0 (II (kE (pv 0))))
(av (a9 (fL dg (kE (pv 0)) (kE (pv 1)) (bb _))))
bp)
(av (a9 (fL dg (kE (pv 0)) (kE (pv 1)) (bb _))))),?_⟩
  have fo:=ME c rc;refine⟨_,rfl,p,_,dp,_,_,rfl,hp,G.df,G.kb,fo,?_⟩;by_cases z:rc.c= -1
  ·have e:tN rc.c= .eA:=aY z;refine⟨true,by rw[e]; rfl,fP ?_⟩;refine⟨_,rfl,p,_,dp,_,_,rfl,hp,G.df,G.lp,JW c rc,_,rfl,q,_,dq,_,_,rfl,hq,G.d9,G.kO,Eb b rb,rfl,?_⟩;have e2:pA rc rb b=decide (V.str rc.aH=V.str rb.aH):=by
    unfold pA;rw[aY z];exact mP.mpr ⟨fun h=>by rw[h],fun h=>by injection h⟩
   rw[e2] at k;exact k
  ·have e:tN rc.c= .int rc.c:=aN z;refine⟨false,by rw[e]; rfl,bX ?_⟩;rw[e] at fo;refine⟨_,rfl,p,_,dp,_,_,rfl,hp,G.df,G.kb,fo,_,rfl,q,_,dq,_,_,rfl,hq,G.d9,G.eX,lK b rb,rfl,?_⟩;have e2:pA rc rb b=decide (V.int rc.c=V.int (b:Int)):=by
    unfold pA;rw[aN z];exact mP.mpr ⟨fun h=>by rw[h],fun h=>by injection h⟩
   rw[e2] at k;exact k
inductive Ej (A:dZ)(vs:List V)(H:Hp)(Q:VK)(E':XK):Prop
 |mk (p q:Addr)(c b:Nat)(rc rb:Rw)(h1:vs=[.ref p,.ref q])(h2:eF H p A.d8 (fk c rc))(h3:eF H q A.dM (fF b rb))(h4:Q (.int (if rb.a > rc.a then rb.a else rc.a)) H):Ej A vs H Q E'
def vL:aU ["credit","bill"] ["credit","bill"] (aA (top 16)):={}
def xy (T:Txt K mg){A:dZ}(G:jI K mg A):fu P w K mg base "counts_from" 1 ["credit","bill"] (Ej A):=by
 refine T.xi.fQ (k:=0) vL (fun f cY A' outer s H vs Q E hr h=>?_)
 ·obtain⟨p,q,c,b,rc,rb,rfl,⟨dp,hp⟩,⟨dq,hq⟩,k⟩:=h;refine⟨_,(av (a9 (gv (Gw rfl) (by rfl) T.TX boot_max (aa (kE (pv 0)) (aa (kE (pv 1)) aw))))),?_⟩;exact⟨_,rfl,p,_,dp,_,_,rfl,hp,G.df,G.jd,JX c rc,_,rfl,q,_,dq,_,_,rfl,hq,G.d9,G.nM,P4 b rb,_,_,rfl,k⟩
def getD_at {α:Type}{xs:List α}{d:α}{i:Nat}(h:i < xs.length):xs.getD i d=xs[i]:=by rw[ak,af h]; rfl
def sO {g:Int->V}{xs:List Int}{i:Nat}(h:i < xs.length):uv (xs.map g) (i:Int)=some (g (xs.getD i 0)):=by
 rw[getD_at h];exact cw (by rw[aC,af h]; rfl)
def uz {n j:Nat}(h:j < n):LX n (j:Int)=some j:=by
 unfold LX;rw[if_pos (by lia),if_pos (by lia)]; simp
def gh {H H':Hp}(s:aF H H'): ∀b xs,H b=some (.tup xs)->H' b=some (.tup xs):=fun b xs e=>s _ _ e
def gU {α:Type}{xs:List α}{m:Nat}(h:m < xs.length):xs.take (m + 1)=xs.take m ++ [xs[m]]:=by
 rw[A3,af h]; rfl
def T3 (cs:List Int)(lo hi:Option Int): ∃ds:List Int,mR (cs.map V.int) lo hi=ds.map V.int/\ds.length<=cs.length:=by
 unfold mR;refine⟨_,by rw[← List.map_drop,← List.map_take],?_⟩;rw[ba,hV];lia
def zY (x m:Int)(h:0 < m): ∃n:Nat,x % m=(n:Int)/\(n:Int) < m:=by
 have h1:=kB x (show m≠0 by lia);have h2:=qF x h;exact⟨(x % m).toNat,by lia,by lia⟩
def kP {α:Type}{g:α->V}{xs:List α}{m:Int}{x:Int}(hm:m=(xs.length:Int))(h:0 < m): ∃y∈xs,uv (xs.map g) (x % m)=some (g y):=by
 obtain⟨n,e,hn⟩:=zY x m h;have hl:n < xs.length:=by lia
 exact⟨xs[n],bH _,by rw[e]; exact cw (by rw[aC,af hl]; rfl)⟩
inductive Ek (vs:List V)(H:Hp)(Q:VK)(E':XK):Prop
 |mk (n p m:Int)(h1:vs=[.int n,.int p,.int m])(h2:0 < p)(h3:0 < m)(h4: ∀r,0<=r->r < m->Q (.int r) H):Ek vs H Q E'
def zZ:aU ["_law_number","_law_prime","_law_many"] ["_law_number","_law_prime","_law_many"] (aA (top 44)):={}
def Ck (T:Txt K mg):fu P w K mg base "_law_draw" 1 ["_law_number","_law_prime","_law_many"] Ek:=by
 refine T.BQ.fQ (k:=0) zZ (fun f cY A outer s H vs Q E hr h=>?_)
 ·obtain⟨n,p,m,rfl,hp,hm,k⟩:=h;refine⟨_,(av (a9 (aQ cm (aQ cm (aQ jx (pv 0) aj) (pv 1)) (pv 2)))),?_⟩;refine⟨_,rfl,_,_,rfl,rfl,.inr ⟨by decide,by decide⟩,_,rfl,_,_,rfl,rfl,hp,_,rfl,_,_,rfl,rfl,hm,?_⟩;exact k _ (kB _ (by lia)) (qF _ hm)
inductive vM (K:Frag)(vs:List V)(H:Hp)(Q:VK)(E':XK):Prop
 |mk (a:Addr)(cs:List Int)(h1:vs=[.ref a])(h2:bG K H a (cs.map V.int))(h3: ∀(pn:Addr) (names:List Str) (H':Hp),aF H H'->H' pn=some (.lst (names.map V.str))->names≠[]->names.length<=6->Q (.ref pn) H'):vM K vs H Q E'
def nR:aU ["_law_cells","_law_spot","_law_made"] ["_law_cells"] (aA (top 47)):={}
def pB (T:Txt K mg):fu P w K mg base "_law_people" 1 ["_law_cells"] (vM K):=by
 refine T.xn.fQ (k:=0) nR (fun f cY A outer s H vs Q E hr h=>?_)
 ·obtain⟨a,cs,rfl,hS,k⟩:=h;have nd:=nR.nd;refine⟨_,(ai (sv 1 nd (aQ cm (aQ jG (gv (sH rfl) (by rfl) T.JR boot_sum (aa (jh NZ (pv 0) oE (jb aj)) aw)) aj) aj))
(ai (sv 2 nd (bS (aa (bS (aa aR (aa aR (aa aR aw)))) (aa (bS (aa aR (aa aR (aa aR aw)))) aw))))
(ai (bM (qo (pv 2) (bS (aa (aQ zt aR aj) (aa (aQ uQ (aQ uQ (aQ zt aR (pv 1)) aR) (aQ zt aR (aQ fN aj (pv 1)))) (aa aR aw))))))
(av (a9 (xl (aQ k8 (pv 2) (bS (aa (bS (aa aR (aa aR (aa aR (aa aR (aa aR (aa aR aw))))))) aw))) (aQ cm (aQ jG (gv (sH rfl) (by rfl) T.JR boot_sum (aa (jh NZ (pv 0) oE (jb aj)) aw)) aj) aj))))))),?_⟩
  refine⟨_,rfl,_,rfl,a,_,rfl,hS,fun p1 n1=>?_⟩;obtain⟨ds,ed,_⟩:=T3 cs none (some 1);rw[ed];have s1:aF H (upd H p1 (.lst (ds.map V.int))):=aF.new n1;refine⟨p1,ds,rfl,bG.of ag,_,_,rfl,rfl,⟨by decide,by decide⟩,_,_,rfl,rfl,(by show(0:Int) < 60; decide),?_⟩;obtain⟨sp,Wr,y3⟩:=zY (ds.sum / 28) 60 (by decide);show _;generalize upd H p1 (.lst (ds.map V.int))=H1 at s1 ⊢;refine⟨(by show 3<=sizeLine; decide),fun p2 n2=>⟨(by show 3<=sizeLine; decide),fun p3 n3=>⟨(by show 2<=sizeLine; decide),fun p4 n4=>?_⟩⟩⟩;have t2:=aF.new (o:= .lst [V.str "ann",.str "",.str "bo"]) n2;have t3:=aF.new (o:= .lst [V.str "ann",.str "ann lee",.str "Ann"]) n3;have t4:=aF.new (o:= .lst [V.ref p2,.ref p3]) n4;have s4:=((s1.trans t2).trans t3).trans t4;have g2:=(t3.trans t4) _ _ (ag (H:=H1) (a:=p2) (o:= .lst [V.str "ann",.str "",.str "bo"]));have g3:=t4 _ _ (ag (H:=upd H1 p2 (.lst [V.str "ann",.str "",.str "bo"])) (a:=p3) (o:= .lst [V.str "ann",.str "ann lee",.str "Ann"]));have g4:=ag (H:=upd (upd H1 p2 (.lst [V.str "ann",.str "",.str "bo"])) p3 (.lst [V.str "ann",.str "ann lee",.str "Ann"])) (a:=p4) (o:= .lst [V.ref p2,.ref p3]);have m4:H p4=none:=((s1.trans t2).trans t3).free n4;generalize upd (upd (upd H1 p2 (.lst [V.str "ann",.str "",.str "bo"])) p3 (.lst [V.str "ann",.str "ann lee",.str "Ann"])) p4 (.lst [V.ref p2,.ref p3])=H4 at s4 g2 g3 g4 ⊢;clear t2 t3 t4;refine⟨_,rfl,.inl ⟨rfl,_,bG.of g4⟩,?_⟩;refine⟨_,_,rfl,rfl,rfl,(by decide),(by decide),fun z1 hz1=>?_⟩;refine⟨_,rfl,_,_,rfl,rfl,rfl,(by rw[Wr]; lia),(by rw[Wr]; lia),fun z2 hz2=>?_⟩;refine⟨_,_,rfl,rfl,cJ (jc (by show z2.length + 1<=_; lia)),?_⟩;refine⟨_,rfl,_,_,rfl,rfl,_,_,rfl,rfl,rfl,(by rw[Wr]; lia),(by rw[Wr]; lia),fun z3 hz3=>?_⟩;refine⟨_,_,rfl,rfl,cJ (jc (by
   have:(z2 ++ ("y":Str)).length=z2.length + 1:=by
    show(z2.cps ++ _).size=_;rw[Array.size_append]; rfl
   rw[this]; lia)),?_⟩
  refine⟨(by show 3<=sizeLine; decide),fun p5 n5=>?_⟩;generalize (z2 ++ ("y":Str)) ++ z3=z4;have t5:=aF.new (o:= .lst [V.str z1,.str z4,.str " ~"]) n5;refine⟨p4,_,_,rfl,rfl,t5 _ _ g4,(by show 2 < sizeLine; decide),?_⟩;have s5:aF H (upd (upd H4 p5 (.lst [V.str z1,.str z4,.str " ~"])) p4 (.lst ([V.ref p2,.ref p3] ++ [.ref p5]))):=(s4.trans t5).dk m4;have YB:p2≠p4:=fun e=>by rw[e,g4] at g2; cases g2
  have YC:p3≠p4:=fun e=>by rw[e,g4] at g3; cases g3
  have YD:p5≠p4:=(aJ g4 n5).symm;have j2:upd (upd H4 p5 (.lst [V.str z1,.str z4,.str " ~"])) p4 (.lst ([V.ref p2,.ref p3] ++ [.ref p5])) p2=some (.lst [V.str "ann",.str "",.str "bo"]):=by rw[az YB]; exact t5 _ _ g2
  have j3:upd (upd H4 p5 (.lst [V.str z1,.str z4,.str " ~"])) p4 (.lst ([V.ref p2,.ref p3] ++ [.ref p5])) p3=some (.lst [V.str "ann",.str "ann lee",.str "Ann"]):=by rw[az YC]; exact t5 _ _ g3
  have j5:upd (upd H4 p5 (.lst [V.str z1,.str z4,.str " ~"])) p4 (.lst ([V.ref p2,.ref p3] ++ [.ref p5])) p5=some (.lst [V.str z1,.str z4,.str " ~"]):=by rw[az YD]; exact ag
  have j4:upd (upd H4 p5 (.lst [V.str z1,.str z4,.str " ~"])) p4 (.lst ([V.ref p2,.ref p3] ++ [.ref p5])) p4=some (.lst ([V.ref p2,.ref p3] ++ [.ref p5])):=ag;generalize upd (upd H4 p5 (.lst [V.str z1,.str z4,.str " ~"])) p4 (.lst ([V.ref p2,.ref p3] ++ [.ref p5]))=H5 at s5 j2 j3 j4 j5 ⊢;clear t5;refine⟨_,rfl,?_⟩;refine⟨(by show 6<=sizeLine; decide),fun p6 n6=>⟨(by show 1<=sizeLine; decide),fun p7 n7=>?_⟩⟩;have t6:=aF.new (o:= .lst [V.str "ann",.str "",.str "bo",.str "Cy ~",.str "ann ",.str "dee"]) n6;have t7:=aF.new (o:= .lst [V.ref p6]) n7;have t67:=t6.trans t7;have j6:=t7 _ _ (ag (H:=H5) (a:=p6) (o:= .lst [V.str "ann",.str "",.str "bo",.str "Cy ~",.str "ann ",.str "dee"]));refine⟨p4,p7,_,_,rfl,rfl,t67 _ _ j4,ag,(by show 4<=sizeLine; decide),fun p8 n8=>?_⟩;have t8:=aF.new (o:= .lst (([V.ref p2,.ref p3] ++ [.ref p5]) ++ [.ref p6])) n8;have RG:=t67.trans t8;have s8:=s5.trans RG;refine⟨_,rfl,_,rfl,a,_,rfl,s8.seq hS,fun p9 n9=>?_⟩;rw[ed];have t9:=aF.new (o:= .lst (ds.map V.int)) n9;refine⟨p9,ds,rfl,bG.of ag,_,_,rfl,rfl,⟨by decide,by decide⟩,_,_,rfl,rfl,(by show(0:Int) < 4; decide),?_⟩;obtain⟨r,er,YE⟩:=zY (ds.sum / 7) 4 (by decide);have YF:r < 4:=by lia
  have fin: ∀(pn:Addr) (names:List Str),H5 pn=some (.lst (names.map V.str))∨upd (upd H5 p6 (.lst [V.str "ann",.str "",.str "bo",.str "Cy ~",.str "ann ",.str "dee"])) p7 (.lst [V.ref p6]) pn=some (.lst (names.map V.str))->names≠[]->names.length<=6->Q (.ref pn) _:=fun pn names h h1 h2=>
   k pn names _ (s8.trans t9) (by
    rcases h with h|h
    ·exact(RG.trans t9) _ _ h
    ·exact(t8.trans t9) _ _ h) h1 h2
  have Ws:=t9 _ _ (ag (H:=upd (upd H5 p6 (.lst [V.str "ann",.str "",.str "bo",.str "Cy ~",.str "ann ",.str "dee"])) p7 (.lst [V.ref p6])) (a:=p8) (o:= .lst (([V.ref p2,.ref p3] ++ [.ref p5]) ++ [.ref p6])))
  match r,YF,er with
  |0,_,er=>exact⟨p8,_,_,.ref p2,rfl,rfl,bG.of Ws,by show uv _ (ds.sum / 7 % 4)=_; rw[er]; rfl,fin p2 [_,_,_] (.inl j2) (by simp) (by simp)⟩
  |1,_,er=>exact⟨p8,_,_,.ref p3,rfl,rfl,bG.of Ws,by show uv _ (ds.sum / 7 % 4)=_; rw[er]; rfl,fin p3 [_,_,_] (.inl j3) (by simp) (by simp)⟩
  |2,_,er=>exact⟨p8,_,_,.ref p5,rfl,rfl,bG.of Ws,by show uv _ (ds.sum / 7 % 4)=_; rw[er]; rfl,fin p5 [_,_,_] (.inl j5) (by simp) (by simp)⟩
  |3,_,er=>exact⟨p8,_,_,.ref p6,rfl,rfl,bG.of Ws,by show uv _ (ds.sum / 7 % 4)=_; rw[er]; rfl,fin p6 [_,_,_,_,_,_] (.inr j6) (by simp) (by simp)⟩
  |r + 4,h,_=>lia
def at4 (a b c d x:Int): ∃y,uv [V.int a,V.int b,V.int c,V.int d] (x % 4)=some (V.int y):=by
 obtain⟨y,_,h⟩:=kP (g:=V.int) (xs:=[a,b,c,d]) (m:=4) (x:=x) rfl (by decide);exact⟨y,h⟩
def at3 (a b c x:Int): ∃y,(y=a∨y=b∨y=c)/\uv [V.int a,V.int b,V.int c] (x % 3)=some (V.int y):=by
 obtain⟨y,hy,h⟩:=kP (g:=V.int) (xs:=[a,b,c]) (m:=3) (x:=x) rfl (by decide);exact⟨y,by simpa using hy,h⟩
def Cm {x:Int}(h:x<=1000000000):x<=eu:=Fl (l5 h (by decide +kernel))
def YG (a b x:Int): ∃y,(y=a∨y=b)/\uv [V.int a,V.int b] (x % 2)=some (V.int y):=by
 obtain⟨y,hy,h⟩:=kP (g:=V.int) (xs:=[a,b]) (m:=2) (x:=x) rfl (by decide);exact⟨y,by simpa using hy,h⟩
inductive vN (K:Frag)(vs:List V)(H:Hp)(Q:VK)(E':XK):Prop
 |mk (a:Addr)(cs:List Int)(i:Nat)(h1:vs=[.ref a,.int i])(h2:bG K H a (cs.map V.int))(h3:i < cs.length)(h4: ∀(p:Addr) (aH:Str) (day dP:Int) (H':Hp),aF H H'->H' p=some (.tup [.str aH,.int day,.int dP])->day<=eu->Q (.ref p) H'):vN K vs H Q E'
def nS:aU ["_law_cells","_law_k","_law_cell","_law_rest","_law_names","_law_who","_law_day","_law_amount"] ["_law_cells","_law_k"] (aA (top 48)):={}
def xA (T:Txt K mg):fu P w K mg base "_law_penned" 2 ["_law_cells","_law_k"] (vN K):=by
 have lq:fu P w K mg base "_law_people" 1 ["_law_cells"] (vM K):=pB T;have nU:fu P w K mg base "_law_draw" 1 ["_law_number","_law_prime","_law_many"] Ek:=Ck T;refine T.xp.fQ (k:=1) nS (fun f cY A outer s H vs Q E hr h=>?_)
 ·obtain⟨a,cs,i,rfl,hS,hi,k⟩:=h;have nd:=nS.nd;refine⟨_,(ai (sv 2 nd (xl (pv 0) (pv 1)))
(ai (sv 3 nd (aQ jG (pv 2) aj))
(ai (sv 4 nd (fc lq hr (aa (pv 0) aw)))
(ai (sv 5 nd (xl (pv 4) (aQ cm (aQ dj (pv 3) (pv 1)) (oJ T.eE (pv 4)))))
(ai (sv 6 nd (aQ fN (fc nU hr (aa (aQ dj (pv 2) (aQ jx aj (pv 1))) (aa aj (aa aj aw)))) aj))
(ai (sv 7 nd (aQ dj aj (fc nU hr (aa (aQ dj (pv 2) (aQ jx aj (pv 1))) (aa aj (aa aj aw))))))
(jH (bT (a0 dg (aQ cm (pv 2) aj) aj (bb _))
(av (sv 7 nd (aQ dj aj (aQ jx (fc nU hr (aa (aQ dj (pv 2) (aQ jx aj (pv 1))) (aa aj (aa aj aw)))) aj))))
bp)
(jH (bT (a0 dg (aQ cm (pv 2) aj) aj (bb _))
(av (sv 7 nd (aQ dj aj (aQ cm (pv 2) (aQ fN (aQ Me (aQ iE aj aj) (aQ iE aj aj)) aj)))))
bp)
(jH (bT (a0 dg (aQ cm (pv 2) aj) aj (bb _))
(av (sv 7 nd (xl (bS (aa aj (aa (pq k6 aj) (aa (aQ iE aj aj) (aa (aQ fN aj (aQ cm (pv 2) (aQ iE aj aj))) aw))))) (aQ cm (pv 3) aj))))
bp)
(jH (bT (a0 dg (aQ cm (pv 2) aj) aj (bb _))
(av (sv 6 nd (xl (bS (aa (aQ iE aj aj) (aa (pq k6 (aQ iE aj aj)) (aa (aQ fN (aQ cm (pv 2) aj) aj) aw)))) (aQ cm (pv 3) aj))))
bp)
(jH (bT (a0 dg (aQ cm (pv 2) aj) aj (bb _))
(av (sv 6 nd (aQ jx (aQ cm (pv 2) (aQ iE aj aj)) (xl (bS (aa aj (aa (pq k6 aj) aw))) (aQ cm (pv 1) aj)))))
bp)
(av (a9 (cK (aa (pv 5) (aa (pv 6) (aa (pv 7) aw))))))))))))))))),?_⟩
  refine⟨_,rfl,_,rfl,a,_,_,.int (cs.getD i 0),rfl,rfl,hS,sO hi,?_⟩;generalize cs.getD i 0=cell;refine⟨_,rfl,_,_,rfl,rfl,⟨by decide,by decide⟩,?_⟩;refine⟨_,rfl,a,cs,rfl,hS,fun pn names H1 s1 Hy hn0 hn6=>?_⟩;have T4:0 < names.length:=List.length_pos_iff.mpr hn0;obtain⟨aH,_,T5⟩:=kP (g:=V.str) (xs:=names) (m:=((names.map V.str).length:Int)) (x:=cell / 16 + (i:Int)) (by rw[ae]) (by rw[ae]; lia);refine⟨_,rfl,_,rfl,_,rfl,_,_,rfl,rfl,_,rfl,pn,_,rfl,.inl (bG.of Hy),_,_,rfl,rfl,(by rw[ae]; show(0:Int) < _; lia),pn,_,_,.str aH,rfl,rfl,bG.of Hy,T5,?_⟩;refine⟨_,rfl,_,rfl,_,_,rfl,rfl,.inl ⟨by decide,by decide⟩,_,_,rfl,rfl,_,_,_,rfl,by decide,by decide,fun r1 _ N2=>⟨_,_,rfl,rfl,?_⟩⟩;refine⟨_,rfl,_,rfl,_,_,rfl,rfl,.inl ⟨by decide,by decide⟩,_,_,rfl,rfl,_,_,_,rfl,by decide,by decide,fun r2 _ _=>⟨_,_,rfl,rfl,?_⟩⟩;refine⟨fun σ' H'=> ∃day dP:Int,σ'=[some (.ref a),some (.int i),some (.int cell),some (.int (cell / 16)),some (.ref pn),some (.str aH),some (.int day),some (.int dP)]/\aF H H'/\day<=eu,?_,?_⟩
  ·refine⟨_,rfl,_,_,rfl,rfl,(by show(0:Int) < 7; decide),rfl,_,rfl,cG (fun c=>?_) (fun c=>⟨_,_,rfl,s1,Cm (by lia)⟩)⟩;refine⟨_,rfl,_,rfl,_,_,rfl,rfl,.inl ⟨by decide,by decide⟩,_,_,rfl,rfl,_,_,_,rfl,by decide,by decide,fun r3 _ _=>⟨_,_,rfl,rfl,.inr ⟨by decide,by decide⟩,_,_,rfl,rfl,?_⟩⟩;exact⟨_,_,rfl,s1,Cm (by lia)⟩
  rintro σ' H2 ⟨day,dP,rfl,s2,lP⟩;clear Hy T5 s1;refine⟨fun σ' H'=> ∃day dP:Int,σ'=[some (.ref a),some (.int i),some (.int cell),some (.int (cell / 16)),some (.ref pn),some (.str aH),some (.int day),some (.int dP)]/\aF H H'/\day<=eu,?_,?_⟩
  ·refine⟨_,rfl,_,_,rfl,rfl,(by show(0:Int) < 41; decide),rfl,_,rfl,cG (fun c=>?_) (fun c=>⟨_,_,rfl,s2,lP⟩)⟩;refine⟨_,rfl,_,_,rfl,rfl,⟨by decide,by decide,by decide⟩,_,_,rfl,rfl,⟨by decide,by decide,by decide⟩,_,_,rfl,rfl,⟨by decide +kernel,by decide +kernel⟩,_,_,rfl,rfl,_,_,rfl,rfl,(by show(0:Int) < _; decide +kernel),_,_,rfl,rfl,?_⟩;exact⟨_,_,rfl,s2,lP⟩
  rintro σ' H3 ⟨day,dP,rfl,s3,lP⟩;refine⟨fun σ' H'=> ∃day dP:Int,σ'=[some (.ref a),some (.int i),some (.int cell),some (.int (cell / 16)),some (.ref pn),some (.str aH),some (.int day),some (.int dP)]/\aF H H'/\day<=eu,?_,?_⟩
  ·refine⟨_,rfl,_,_,rfl,rfl,(by show(0:Int) < 41; decide),rfl,_,rfl,cG (fun c=>?_) (fun c=>⟨_,_,rfl,s3,lP⟩)⟩;refine⟨_,rfl,_,_,rfl,rfl,⟨by decide,by decide,by decide⟩,_,rfl,_,_,rfl,rfl,⟨by decide,by decide,by decide⟩,_,_,rfl,rfl,(by show(0:Int) < _; decide +kernel),_,_,rfl,rfl,(by show 4<=sizeLine; decide),fun p4 n4=>?_⟩;obtain⟨y,hy⟩:=at4 0 (-1) (10 ^ (12:Int).toNat) (0 - cell % 10 ^ (60:Int).toNat) (cell / 16);refine⟨_,rfl,_,_,rfl,rfl,(by show(0:Int) < 4; decide),p4,_,_,.int y,rfl,rfl,bG.of ag,hy,?_⟩;exact⟨_,_,rfl,s3.trans (aF.new n4),lP⟩
  rintro σ' H4 ⟨day,dP,rfl,s4,lP⟩;refine⟨fun σ' H'=> ∃day dP:Int,σ'=[some (.ref a),some (.int i),some (.int cell),some (.int (cell / 16)),some (.ref pn),some (.str aH),some (.int day),some (.int dP)]/\aF H H'/\day<=eu,?_,?_⟩
  ·refine⟨_,rfl,_,_,rfl,rfl,(by show(0:Int) < 43; decide),rfl,_,rfl,cG (fun c=>?_) (fun c=>⟨_,_,rfl,s4,lP⟩)⟩;refine⟨_,_,rfl,rfl,⟨by decide,by decide,by decide⟩,_,_,rfl,rfl,⟨by decide,by decide,by decide⟩,_,rfl,_,rfl,_,_,rfl,rfl,(by show(0:Int) < 2001; decide),_,_,rfl,rfl,(by show 3<=sizeLine; decide),fun p4 n4=>?_⟩;obtain⟨y,hy3,hy⟩:=at3 (10 ^ (9:Int).toNat) (-(10 ^ (9:Int).toNat)) (cell % 2001 - 1000) (cell / 16);refine⟨_,rfl,_,_,rfl,rfl,(by show(0:Int) < 3; decide),p4,_,_,.int y,rfl,rfl,bG.of ag,hy,?_⟩;refine⟨_,_,rfl,s4.trans (aF.new n4),?_⟩;rcases hy3 with rfl|rfl|rfl
   ·exact Cm (by decide +kernel)
   ·exact Cm (by decide +kernel)
   ·exact Cm (by lia)
  rintro σ' H5 ⟨day,dP,rfl,s5,lP⟩;refine⟨fun σ' H'=> ∃day dP:Int,σ'=[some (.ref a),some (.int i),some (.int cell),some (.int (cell / 16)),some (.ref pn),some (.str aH),some (.int day),some (.int dP)]/\aF H H'/\day<=eu,?_,?_⟩
  ·refine⟨_,rfl,_,_,rfl,rfl,(by show(0:Int) < 43; decide),rfl,_,rfl,cG (fun c=>?_) (fun c=>⟨_,_,rfl,s5,lP⟩)⟩;refine⟨_,rfl,_,_,rfl,rfl,⟨by decide,by decide,by decide⟩,_,_,rfl,rfl,(by show(0:Int) < _; decide +kernel),_,rfl,(by show 2<=sizeLine; decide),fun p4 n4=>?_⟩;obtain⟨y,YH,hy⟩:=YG 1 (-1) (i:Int);refine⟨_,rfl,_,_,rfl,rfl,(by show(0:Int) < 2; decide),p4,_,_,.int y,rfl,rfl,bG.of ag,hy,_,_,rfl,rfl,.inr (by rcases YH with rfl|rfl <;> exact⟨by decide,by decide⟩),?_⟩;refine⟨_,_,rfl,s5.trans (aF.new n4),?_⟩;have m1:0<=cell % 10 ^ (60:Int).toNat:=kB _ (by decide +kernel);have m2:cell % 10 ^ (60:Int).toNat < 10 ^ 60:=qF _ (by decide +kernel);have m3:(0:Int)<=10 ^ 60:=by decide +kernel
   refine Fl ?_;generalize (10:Int) ^ 60=b60 at m2 m3 ⊢;rcases YH with rfl|rfl <;> lia
  rintro σ' H6 ⟨day,dP,rfl,s6,lP⟩;refine⟨_,rfl,_,rfl,_,rfl,(by show 3<=sizeLine; decide),fun p n=>?_⟩;exact k p aH day dP _ (s6.trans (aF.new n)) ag lP
def gi {H:Hp}{a:Addr}{o o':HO}:upd (upd H a o) a o'=upd H a o':=by
 funext b
 by_cases h:b=a
 ·rw[h,ag,ag]
 ·rw[az h,az h,az h]
def pl {f:Str}{v:V}{fs:List (Str×V)}{n:Nat}(h:fs.length<=n):(eK f v fs).length<=n + 1:=aV (nj f v fs) (Nat.add_le_add_right h 1)
def Cn:([]:List (Str×V)).length<=0:=aD _
def lt1000 {fs:List (Str×V)}{n:Nat}(h:fs.length<=n)(k:n < 1000):fs.length < 1000:=qD h k
def J1 (n:Nat)(r:Rw):eK "amount" (.int r.c) (eK "due" (.int r.b) (eK "day" (.int r.a) (eK "who" (.str r.aH) (eK "number" (.int n) []))))=fF n r:=by rfl
def J2 (n:Nat)(r:Rw):eK "only" (tN r.c) (eK "amount" (.int r.b) (eK "day" (.int r.a) (eK "who" (.str r.aH) (eK "number" (.int n) []))))=fk n r:=by rfl
inductive z5 (A:dZ)(vs:List V)(H:Hp)(Q:VK)(E':XK):Prop
 |mk (x dx:Addr)(n:Nat)(r:Rw)(h1:vs=[.ref x,.int n,.str r.aH,.int r.a,.int r.b,.int r.c])(h2:H x=some (.ins A.dM dx []))(h3:Q .eA (upd H x (.ins A.dM dx (fF n r)))):z5 A vs H Q E'
def MP:aU ["self","number","who","day","due","amount"] ["self","number","who","day","due","amount"] (aA (mem 13 0)):={}
def P8 {A:dZ}(G:jI K mg A):ui P w K mg base "Bill" A.dM 1 ["self","number","who","day","due","amount"] (z5 A):=by
 refine MN (k:=0) G.MH G.MG MP (fun f cY A' outer s H vs Q E hr h=>?_)
 ·obtain⟨x,dx,n,r,rfl,hx,k⟩:=h;refine⟨_,(ai (mj (pv 0) (pv 1))
(ai (mj (pv 0) (pv 2))
(ai (mj (pv 0) (pv 3))
(ai (mj (pv 0) (pv 4))
(av (mj (pv 0) (pv 5))))))),?_⟩
  refine⟨_,rfl,_,rfl,x,_,dx,_,rfl,hx,G.d9,G.eX,lt1000 Cn (by decide),?_⟩;refine⟨_,rfl,_,rfl,x,_,dx,_,rfl,ag,G.d9,G.kO,lt1000 (pl Cn) (by decide),?_⟩;refine⟨_,rfl,_,rfl,x,_,dx,_,rfl,ag,G.d9,G.nM,lt1000 (pl (pl Cn)) (by decide),?_⟩;refine⟨_,rfl,_,rfl,x,_,dx,_,rfl,ag,G.d9,G.nN,lt1000 (pl (pl (pl Cn))) (by decide),?_⟩;refine⟨_,rfl,_,rfl,x,_,dx,_,rfl,ag,G.d9,G.nO,lt1000 (pl (pl (pl (pl Cn)))) (by decide),?_⟩;rw[gi,gi,gi,gi,J1];exact k
inductive z6 (A:dZ)(vs:List V)(H:Hp)(Q:VK)(E':XK):Prop
 |mk (x dx:Addr)(n:Nat)(r:Rw)(h1:vs=[.ref x,.int n,.str r.aH,.int r.a,.int r.b,tN r.c])(h2:H x=some (.ins A.d8 dx []))(h3:Q .eA (upd H x (.ins A.d8 dx (fk n r)))):z6 A vs H Q E'
def HA:aU ["self","number","who","day","amount","only"] ["self","number","who","day","amount","only"] (aA (mem 14 0)):={}
def Ka {A:dZ}(G:jI K mg A):ui P w K mg base "Credit" A.d8 1 ["self","number","who","day","amount","only"] (z6 A):=by
 refine MN (k:=0) G.Hs G.Hr HA (fun f cY A' outer s H vs Q E hr h=>?_)
 ·obtain⟨x,dx,n,r,rfl,hx,k⟩:=h;refine⟨_,(ai (mj (pv 0) (pv 1))
(ai (mj (pv 0) (pv 2))
(ai (mj (pv 0) (pv 3))
(ai (mj (pv 0) (pv 4))
(av (mj (pv 0) (pv 5))))))),?_⟩
  refine⟨_,rfl,_,rfl,x,_,dx,_,rfl,hx,G.df,G.eU,lt1000 Cn (by decide),?_⟩;refine⟨_,rfl,_,rfl,x,_,dx,_,rfl,ag,G.df,G.lp,lt1000 (pl Cn) (by decide),?_⟩;refine⟨_,rfl,_,rfl,x,_,dx,_,rfl,ag,G.df,G.jd,lt1000 (pl (pl Cn)) (by decide),?_⟩;refine⟨_,rfl,_,rfl,x,_,dx,_,rfl,ag,G.df,G.lO,lt1000 (pl (pl (pl Cn))) (by decide),?_⟩;refine⟨_,rfl,_,rfl,x,_,dx,_,rfl,ag,G.df,G.kb,lt1000 (pl (pl (pl (pl Cn)))) (by decide),?_⟩;rw[gi,gi,gi,gi,J2];exact k
inductive z7 (A:dZ)(vs:List V)(H:Hp)(Q:VK)(E':XK):Prop
 |mk (pw:Addr)(S:Bk)(f:eT)(c b:Nat)(x:Int)(h1:vs=[.ref pw,.int c,.int b,.int x])(h2:dG A H pw S f)(h3:c < S.credits.length)(h4:b < S.aE.length)(h5:S.made.length < sizeLine)(h6: ∀H',Frame f.fp H H'->dG A H' pw (S.put c b x) f->Q .eA H'):z7 A vs H Q E'
def Co:aU ["self","credit_number","bill_number","amount"] ["self","credit_number","bill_number","amount"] (aA (mem 25 8)):={}
def MQ {rows:List Rw}{i:Nat}(h:i < rows.length):uv (rows.map fun r=>V.int r.d) (i:Int)=some (.int (rows.getD i default).d):=cw (by
 rw[aC,ak,af h]; rfl)
def N3 {A:dZ}(G:jI K mg A):g9 sD P w K mg base A.work "put" 1 ["self","credit_number","bill_number","amount"] (z7 A):=by
 refine MM (k:=0) G.Cc G.bI Co (fun f cY A' outer s H vs Q E hr h=>?_)
 ·obtain⟨pw,S,g,c,b,x,rfl,hW,hc,hb,hz,k⟩:=h;obtain⟨dw,hw⟩:=hW.obj;obtain⟨ms,m1,m2⟩:=hW.hm;obtain⟨e1,e2,e3,e4,e5,e6,e7,e8,e9,N0⟩:=eT.ne hW.nd;have nw: ∀q∈g.fp,pw≠q:=fun q hq z=>hW.ins hW.obj (z▸hq);have w3:=nw g.pl (by simp[eT.fp]);have w4:=nw g.pf (by simp[eT.fp]);refine⟨_,(ai (ng (aQ fN (xl (kE (pv 0)) (pv 1)) (pv 3)) (sx (kE (pv 0)) (pv 1) set_list))
(ai (ng (aQ fN (xl (kE (pv 0)) (pv 2)) (pv 3)) (sx (kE (pv 0)) (pv 2) set_list))
(av (bM (qo (kE (pv 0)) (cK (aa (pv 1) (aa (pv 2) (aa (pv 3) aw))))))))),?_⟩
  refine⟨_,rfl,pw,_,dw,_,_,rfl,hw,G.bI,G.fH,lN g,_,rfl,g.pf,_,_,_,rfl,rfl,bG.of hW.hf,MQ hc,_,rfl,_,_,rfl,rfl,?_⟩;refine⟨_,rfl,pw,_,dw,_,_,rfl,hw,G.bI,G.fH,lN g,_,rfl,g.pf,_,_,c,rfl,rfl,hW.hf,uz (by rw[ae]; exact hc),?_⟩;have T6:upd H g.pf (.lst ((S.credits.map fun r=>V.int r.d).set c (.int ((S.cr c).d - x)))) pw=some (.ins A.work dw (lL g)):=by rw[az w4]; exact hw
  have MR:upd H g.pf (.lst ((S.credits.map fun r=>V.int r.d).set c (.int ((S.cr c).d - x)))) g.pl=some (.lst (S.aE.map fun r=>V.int r.d)):=by rw[az e8]; exact hW.hl
  refine⟨_,rfl,pw,_,dw,_,_,rfl,T6,G.bI,G.fG,lM g,_,rfl,g.pl,_,_,_,rfl,rfl,bG.of MR,MQ hb,_,rfl,_,_,rfl,rfl,?_⟩;refine⟨_,rfl,pw,_,dw,_,_,rfl,T6,G.bI,G.fG,lM g,_,rfl,g.pl,_,_,b,rfl,rfl,MR,uz (by rw[ae]; exact hb),?_⟩;have RH:upd (upd H g.pf (.lst ((S.credits.map fun r=>V.int r.d).set c (.int ((S.cr c).d - x))))) g.pl (.lst ((S.aE.map fun r=>V.int r.d).set b (.int ((S.bl b).d - x)))) pw=some (.ins A.work dw (lL g)):=by rw[az w3]; exact T6
  have YI:upd (upd H g.pf (.lst ((S.credits.map fun r=>V.int r.d).set c (.int ((S.cr c).d - x))))) g.pl (.lst ((S.aE.map fun r=>V.int r.d).set b (.int ((S.bl b).d - x)))) g.pm=some (.lst ms):=by rw[az e9.symm,az N0.symm]; exact m1
  refine⟨_,rfl,pw,_,dw,_,_,rfl,RH,G.bI,G.mr,Fy g,.inl ⟨rfl,_,bG.of YI⟩,_,rfl,_,rfl,_,rfl,(by show 3<=sizeLine; decide),fun p8 n8=>?_⟩;have n8':H p8=none:=by
   by_cases z1:p8=g.pl
   ·rw[z1,ag] at n8; cases n8
   ·rw[az z1] at n8;by_cases z2:p8=g.pf
    ·rw[z2,ag] at n8; cases n8
    ·rw[az z2] at n8; exact n8
  refine⟨g.pm,ms,_,rfl,rfl,aF.new n8 _ _ YI,by rw[← aO m2]; exact hz,?_⟩;obtain⟨W,F⟩:=hW.put (x:=x) hc hb m1 m2 n8';exact k _ F W
end
end eV
namespace L2
open PySem PySem.Spec PySem.W PyProof.Rows
section
variable {A:dZ}{H H':Hp}{pw x:Addr}{S:Bk}{f:eT}{r:Rw}
def eT.iz (f:eT)(p:Addr):eT:={f with iK:=f.iK ++ [p]}
def eT.fU (f:eT)(p:Addr):eT:={f with cps:=f.cps ++ [p]}
def dG.iz (h:dG A H pw S f)(hx:eF H x A.dM (fF S.aE.length r)):
  dG A (upd (upd H f.pb (.lst (f.iK.map V.ref ++ [.ref x]))) f.pl (.lst ((S.aE.map fun r=>V.int r.d) ++ [.int r.d]))) pw (S.iz r) (f.iz x)/\Frame f.fp H (upd (upd H f.pb (.lst (f.iK.map V.ref ++ [.ref x]))) f.pl (.lst ((S.aE.map fun r=>V.int r.d) ++ [.int r.d]))):=by
 obtain⟨e1,e2,e3,e4,e5,e6,e7,e8,e9,N0⟩:=eT.ne h.nd;have F:Frame f.fp H (upd (upd H f.pb (.lst (f.iK.map V.ref ++ [.ref x]))) f.pl (.lst ((S.aE.map fun r=>V.int r.d) ++ [.int r.d]))):=(Frame.upd (by simp[eT.fp])).tr (Frame.upd (by simp[eT.fp]));refine⟨?_,F⟩;obtain⟨o1,o2,o3⟩:=h.objs F;have tk:=h.tk F;obtain⟨ms,m1,m2⟩:=h.hm;have t: ∀q,q≠f.pb->q≠f.pl->upd (upd H f.pb (.lst (f.iK.map V.ref ++ [.ref x]))) f.pl (.lst ((S.aE.map fun r=>V.int r.d) ++ [.int r.d])) q=H q:=fun q z1 z2=>by rw[az z2,az z1]
 refine⟨o1,?_,?_,?_,?_,⟨ms,?_,m2.mono tk⟩,o2.add (hx.frame F (h.ins hx)),o3,h.nd⟩
 ·show upd (upd H f.pb _) f.pl _ f.pb=some (.lst ((f.iK ++ [x]).map V.ref));rw[az e2,ag,aL]; rfl
 ·exact(t f.pc e1.symm e5).trans h.hc
 ·show upd (upd H f.pb _) f.pl _ f.pl=some (.lst ((S.aE ++ [r]).map fun r=>V.int r.d));rw[ag,aL]; rfl
 ·exact(t f.pf e3.symm e8.symm).trans h.hf
 ·exact(t f.pm e4.symm e9.symm).trans m1
def dG.fU (h:dG A H pw S f)(hx:eF H x A.d8 (fk S.credits.length r)):
  dG A (upd (upd H f.pc (.lst (f.cps.map V.ref ++ [.ref x]))) f.pf (.lst ((S.credits.map fun r=>V.int r.d) ++ [.int r.d]))) pw (S.fU r) (f.fU x)/\Frame f.fp H (upd (upd H f.pc (.lst (f.cps.map V.ref ++ [.ref x]))) f.pf (.lst ((S.credits.map fun r=>V.int r.d) ++ [.int r.d]))):=by
 obtain⟨e1,e2,e3,e4,e5,e6,e7,e8,e9,N0⟩:=eT.ne h.nd;have F:Frame f.fp H (upd (upd H f.pc (.lst (f.cps.map V.ref ++ [.ref x]))) f.pf (.lst ((S.credits.map fun r=>V.int r.d) ++ [.int r.d]))):=(Frame.upd (by simp[eT.fp])).tr (Frame.upd (by simp[eT.fp]));refine⟨?_,F⟩;obtain⟨o1,o2,o3⟩:=h.objs F;have tk:=h.tk F;obtain⟨ms,m1,m2⟩:=h.hm;have t: ∀q,q≠f.pc->q≠f.pf->upd (upd H f.pc (.lst (f.cps.map V.ref ++ [.ref x]))) f.pf (.lst ((S.credits.map fun r=>V.int r.d) ++ [.int r.d])) q=H q:=fun q z1 z2=>by rw[az z2,az z1]
 refine⟨o1,?_,?_,?_,?_,⟨ms,?_,m2.mono tk⟩,o2,o3.add (hx.frame F (h.ins hx)),h.nd⟩
 ·exact(t f.pb e1 e3).trans h.hb
 ·show upd (upd H f.pc _) f.pf _ f.pc=some (.lst ((f.cps ++ [x]).map V.ref));rw[az e6,ag,aL]; rfl
 ·exact(t f.pl e5.symm e8).trans h.hl
 ·show upd (upd H f.pc _) f.pf _ f.pf=some (.lst ((S.credits ++ [r]).map fun r=>V.int r.d));rw[ag,aL]; rfl
 ·exact(t f.pm e7.symm N0.symm).trans m1
end
end L2
namespace eV
open PySem L2 PyProof.Rows Lk
seal L2.pj L2.PS L2.PE L2.PT L2.PW L2.PA L2.PC L2.PG L2.IJ L2.PI L2.L6 L2.Lg L2.PO L2.oX L2.NK L2.ip L2.Jc L2.NM
section
variable {P:Program}{w:World}{K:Frag}{mg:Str->Option Value}{base:Heap}
def MS (A:dZ)(K:Frag)(E:XK)(t:Str)(H:Hp):Prop:= ∀C,g8 K C A.refusal->(t="too much"->C=A.tooMuch)->EX E C t H
inductive Kb (A:dZ)(K:Frag)(vs:List V)(H:Hp)(Q:VK)(E:XK):Prop
 |mk (pw:Addr)(S:Bk)(f:eT)(n:Int)(h1:vs=[.ref pw,.int n])(h2:dG A H pw S f)(h3:(qG n S.credits.length-> ∀p,eF H p A.d8 (fk n.toNat (S.cr n.toNat))->Q (.ref p) H))(h4:(¬ qG n S.credits.length->MS A K E "no credit" H)):Kb A K vs H Q E
inductive Fz (A:dZ)(K:Frag)(vs:List V)(H:Hp)(Q:VK)(E:XK):Prop
 |mk (pw:Addr)(S:Bk)(f:eT)(n:Int)(h1:vs=[.ref pw,.int n])(h2:dG A H pw S f)(h3:(qG n S.aE.length-> ∀p,eF H p A.dM (fF n.toNat (S.bl n.toNat))->Q (.ref p) H))(h4:(¬ qG n S.aE.length->MS A K E "no bill" H)):Fz A K vs H Q E
def rD:aU ["self","number"] ["self","number"] (aA (mem 25 9)):={}
def Cp (T:Txt K mg){A:dZ}(G:jI K mg A):g9 (mU P w mg) P w K mg base A.work "credit_at" 4 ["self","number"] (Kb A K):=by
 refine rB (k:=3) G.rA G.bI rD (fun f cY A' outer s H vs Q E hr mJ h=>?_)
 ·obtain⟨pw,S,g,n,rfl,hW,k1,k2⟩:=h;obtain⟨dw,hw⟩:=hW.obj;have hlen:(g.cps.map V.ref).length=S.credits.length:=by rw[ae]; exact hW.rc.1
  refine⟨_,(ai (bT (PW.pt (pw_or (a0 kH (pv 1) aj (bb _)) (pw_or1 (a0 IQ (pv 1) (oJ T.eE (kE (pv 0))) (bb _)))))
(av (j8 mJ (Ce T G) (hr.h.mono (by decide)) rfl rfl))
bp)
(av (a9 (xl (kE (pv 0)) (pv 1))))),?_⟩
  have no: ¬ qG n S.credits.length-> ∀dx,H dx=none->E (.ref A.ka) (some dx) (upd H dx (.xd [("text",.str "no credit")])):=fun z dx hd=>(k2 z A.ka G.tO (fun q=>absurd q (by decide +kernel))).at hd;refine⟨_,rfl,_,_,rfl,rfl,_,rfl,cG (fun z=>fP (no fun q=>?_)) (fun z=>?_)⟩
  ·have z':n < 0:=a6 z;have:=q.1;lia
  have z1: ¬ n < 0:=fun q=>z (aK q);refine⟨_,rfl,_,rfl,pw,_,dw,_,_,rfl,hw,G.bI,G.cF,ij g,g.pc,_,rfl,.inl (bG.of hW.hc),_,_,rfl,rfl,_,rfl,cG (fun z=>no fun q=>?_) (fun z=>?_)⟩
  ·have z':((g.cps.map V.ref).length:Int)<=n:=a6 z;have:=q.2;lia
  have z2: ¬ ((g.cps.map V.ref).length:Int)<=n:=fun q=>z (aK q);have kM:qG n S.credits.length:=⟨by lia,by lia⟩;obtain⟨c,rfl⟩:=cA kM.1;have hc:c < S.credits.length:=by have:=kM.2; lia
  obtain⟨p,YJ,yn⟩:=hW.rc.get hc;refine⟨_,rfl,pw,_,dw,_,_,rfl,hw,G.bI,G.cF,ij g,_,rfl,g.pc,_,_,.ref p,rfl,rfl,bG.of hW.hc,cw (by rw[aC,YJ]; rfl),?_⟩;exact k1 kM p yn
def uk:aU ["self","number"] ["self","number"] (aA (mem 25 10)):={}
def yG (T:Txt K mg){A:dZ}(G:jI K mg A):g9 (mU P w mg) P w K mg base A.work "bill_at" 4 ["self","number"] (Fz A K):=by
 refine rB (k:=3) G.uh G.bI uk (fun f cY A' outer s H vs Q E hr mJ h=>?_)
 ·obtain⟨pw,S,g,n,rfl,hW,k1,k2⟩:=h;obtain⟨dw,hw⟩:=hW.obj;have hlen:(g.iK.map V.ref).length=S.aE.length:=by rw[ae]; exact hW.rb.1
  refine⟨_,(ai (bT (PW.pt (pw_or (a0 kH (pv 1) aj (bb _)) (pw_or1 (a0 IQ (pv 1) (oJ T.eE (kE (pv 0))) (bb _)))))
(av (j8 mJ (Hv T G) (hr.h.mono (by decide)) rfl rfl))
bp)
(av (a9 (xl (kE (pv 0)) (pv 1))))),?_⟩
  have no: ¬ qG n S.aE.length-> ∀dx,H dx=none->E (.ref A.qp) (some dx) (upd H dx (.xd [("text",.str "no bill")])):=fun z dx hd=>(k2 z A.qp G.yD (fun q=>absurd q (by decide +kernel))).at hd;refine⟨_,rfl,_,_,rfl,rfl,_,rfl,cG (fun z=>fP (no fun q=>?_)) (fun z=>?_)⟩
  ·have z':n < 0:=a6 z;have:=q.1;lia
  have z1: ¬ n < 0:=fun q=>z (aK q);refine⟨_,rfl,_,rfl,pw,_,dw,_,_,rfl,hw,G.bI,G.dX,jn g,g.pb,_,rfl,.inl (bG.of hW.hb),_,_,rfl,rfl,_,rfl,cG (fun z=>no fun q=>?_) (fun z=>?_)⟩
  ·have z':((g.iK.map V.ref).length:Int)<=n:=a6 z;have:=q.2;lia
  have z2: ¬ ((g.iK.map V.ref).length:Int)<=n:=fun q=>z (aK q);have kM:qG n S.aE.length:=⟨by lia,by lia⟩;obtain⟨c,rfl⟩:=cA kM.1;have hc:c < S.aE.length:=by have:=kM.2; lia
  obtain⟨p,YJ,yn⟩:=hW.rb.get hc;refine⟨_,rfl,pw,_,dw,_,_,rfl,hw,G.bI,G.dX,jn g,_,rfl,g.pb,_,_,.ref p,rfl,rfl,bG.of hW.hb,cw (by rw[aC,YJ]; rfl),?_⟩;exact k1 kM p yn
def T7 (A:dZ)(Q:VK)(H:Hp)(pw:Addr)(f:eT)(S':Bk)(v:V):Prop:= ∀f' H',f'.fp=f.fp->Frame f.fp H H'->dG A H' pw S' f'->Q v H'
inductive uA (A:dZ)(K:Frag)(vs:List V)(H:Hp)(Q:VK)(E:XK):Prop
 |mk (pw:Addr)(S:Bk)(f:eT)(aH:Str)(day dP only:Int)(h1:vs=[.ref pw,.str aH,.int day,.int dP,tN only])(h2:dG A H pw S f)(h3:S.credits.length<=900)(h4:(1<=dP->T7 A Q H pw f (S.fU ⟨aH,day,dP,only,dP⟩) (.int S.credits.length)))(h5:(dP < 1->MS A K E "no amount" H)):uA A K vs H Q E
def jC:aU ["self","who","day","amount","only","number"] ["self","who","day","amount","only"] (aA (mem 25 4)):={}
def lQ {H:Hp}{x dx C:Addr}{fs:List (Str×V)}(nx:H x=none)(nd:H dx=none)(ne:dx≠x):aF H (upd (upd H dx (.own x)) x (.ins C dx fs)):=(aF.new nd).trans (aF.new (by rw[az ne.symm]; exact nx))
def pC (T:Txt K mg){A:dZ}(G:jI K mg A):g9 (mU P w mg) P w K mg base A.work "tell_credit" 5 ["self","who","day","amount","only"] (uA A K):=by
 have gF:vK P w K mg base "check_amount" 4 ["amount"] (rC A):=ke T G;have Kc:ui P w K mg base "Credit" A.d8 1 ["self","number","who","day","amount","only"] (z6 A):=Ka G;refine rB (k:=4) G.o5 G.bI jC (fun f cY A' outer s H vs Q E hr mJ h=>?_)
 ·obtain⟨pw,S,g,aH,day,dP,only,rfl,hW,hl,k1,k2⟩:=h;have nd:=jC.nd;obtain⟨dw,hw⟩:=hW.obj;have hlen:(g.cps.map V.ref).length=S.credits.length:=by rw[ae]; exact hW.rc.1
  refine⟨_,(ai (bM (sN gF (hr.mono (by decide)) rfl mJ.pass (aa (pv 3) aw)))
(ai (sv 5 nd (oJ T.eE (kE (pv 0))))
(ai (bM (qo (kE (pv 0)) (T2 Kc (hr.mono (by decide)) rfl (aa (pv 5) (aa (pv 1) (aa (pv 2) (aa (pv 3) (aa (pv 4) aw))))))))
(ai (bM (qo (kE (pv 0)) (pv 3)))
(av (a9 (pv 5))))))),?_⟩
  refine⟨_,rfl,dP,rfl,fun h1=>?_,fun h2=>k2 h2 A.iN G.kN (fun q=>absurd q (by decide +kernel))⟩;refine⟨_,rfl,pw,_,dw,_,_,rfl,hw,G.bI,G.cF,ij g,g.pc,_,rfl,.inl (bG.of hW.hc),?_⟩;refine⟨_,rfl,pw,_,dw,_,_,rfl,hw,G.bI,G.cF,ij g,.inl ⟨rfl,_,bG.of hW.hc⟩,_,rfl,_,rfl,_,rfl,_,rfl,_,rfl,fun x dx nx JZ ne=>?_⟩;refine⟨x,dx,(g.cps.map V.ref).length,⟨aH,day,dP,only,dP⟩,rfl,ag,rfl,?_⟩;rw[gi,hlen];have s1:=lQ (C:=A.d8) (fs:=fk S.credits.length ⟨aH,day,dP,only,dP⟩) nx JZ ne;have hx:eF (upd (upd H dx (.own x)) x (.ins A.d8 dx (fk S.credits.length ⟨aH,day,dP,only,dP⟩))) x A.d8 (fk S.credits.length ⟨aH,day,dP,only,dP⟩):=⟨dx,ag⟩;generalize upd (upd H dx (.own x)) x (.ins A.d8 dx (fk S.credits.length ⟨aH,day,dP,only,dP⟩))=H3 at s1 hx;have z8:=hW.same s1;obtain⟨W4,F4⟩:=z8.fU hx;refine⟨g.pc,_,_,rfl,rfl,z8.hc,bf (by lia),?_⟩;have ew:pw≠g.pc:=fun z=>z8.ins z8.obj (z▸(by simp[eT.fp]));obtain⟨e1,e2,e3,e4,e5,e6,e7,e8,e9,N0⟩:=eT.ne z8.nd;refine⟨_,rfl,pw,_,dw,_,_,rfl,(by rw[az ew]; exact s1 _ _ hw),G.bI,G.fH,lN g,.inl ⟨rfl,_,bG.of (by rw[az e6.symm]; exact z8.hf)⟩,_,rfl,g.pf,_,_,rfl,rfl,(by rw[az e6.symm]; exact z8.hf),bf (by rw[ae]; lia),?_⟩;refine⟨_,rfl,?_⟩;exact k1 h1 (g.fU x) _ rfl (F4.mq s1) W4
inductive z9 (A:dZ)(K:Frag)(vs:List V)(H:Hp)(Q:VK)(E:XK):Prop
 |mk (pw:Addr)(S:Bk)(f:eT)(aH:Str)(day A5 dP:Int)(h1:vs=[.ref pw,.str aH,.int day,.int A5,.int dP])(h2:dG A H pw S f)(h3:S.aE.length<=900)(h4:(S.bar (.dM aH day A5 dP)=""->T7 A Q H pw f (S.enter (.dM aH day A5 dP)) (.int S.aE.length)))(h5:(S.bar (.dM aH day A5 dP)≠""->MS A K E (S.bar (.dM aH day A5 dP)) H)):z9 A K vs H Q E
def kQ:aU ["self","who","day","due","amount","number"] ["self","who","day","due","amount"] (aA (mem 25 1)):={}
def Cq (T:Txt K mg){A:dZ}(G:jI K mg A):g9 (mU P w mg) P w K mg base A.work "tell_bill" 5 ["self","who","day","due","amount"] (z9 A K):=by
 have gF:vK P w K mg base "check_amount" 4 ["amount"] (rC A):=ke T G;have P9:ui P w K mg base "Bill" A.dM 1 ["self","number","who","day","due","amount"] (z5 A):=P8 G;refine rB (k:=4) G.rn G.bI kQ (fun f cY A' outer s H vs Q E hr mJ h=>?_)
 ·obtain⟨pw,S,g,aH,day,A5,dP,rfl,hW,hl,k1,k2⟩:=h;have nd:=kQ.nd;obtain⟨dw,hw⟩:=hW.obj;have o7:S.bar (.dM aH day A5 dP)=(if dP < 1 then("no amount":Str) else if A5 < day then("too early":Str) else("":Str)):=rfl;rw[o7] at k1 k2;have hlen:(g.iK.map V.ref).length=S.aE.length:=by rw[ae]; exact hW.rb.1
  refine⟨_,(ai (bM (sN gF (hr.mono (by decide)) rfl mJ.pass (aa (pv 4) aw)))
(ai (bT (a0 kH (pv 3) (pv 2) (bb _))
(av (j8 mJ (Cj T G) (hr.h.mono (by decide)) rfl rfl))
bp)
(ai (sv 5 nd (oJ T.eE (kE (pv 0))))
(ai (bM (qo (kE (pv 0)) (T2 P9 (hr.mono (by decide)) rfl (aa (pv 5) (aa (pv 1) (aa (pv 2) (aa (pv 3) (aa (pv 4) aw))))))))
(ai (bM (qo (kE (pv 0)) (pv 4)))
(av (a9 (pv 5)))))))),?_⟩
  refine⟨_,rfl,dP,rfl,fun h1=>?_,fun h2=>?_⟩
  ·have n1': ¬ dP < 1:=by lia
   rw[aN n1'] at k1 k2;refine⟨_,rfl,_,rfl,_,_,rfl,rfl,_,rfl,cG (fun z=>?_) (fun z=>?_)⟩
   ·have z':A5 < day:=a6 z;rw[aY z'] at k2;exact fun dx n=>(k2 (by decide +kernel) A.tooEarly G.tP (fun q=>absurd q (by decide +kernel))).at n
   have z': ¬ A5 < day:=fun q=>z (aK q);rw[aN z'] at k1;refine⟨_,rfl,pw,_,dw,_,_,rfl,hw,G.bI,G.dX,jn g,g.pb,_,rfl,.inl (bG.of hW.hb),?_⟩;refine⟨_,rfl,pw,_,dw,_,_,rfl,hw,G.bI,G.dX,jn g,.inl ⟨rfl,_,bG.of hW.hb⟩,_,rfl,_,rfl,_,rfl,_,rfl,_,rfl,fun x dx nx JZ ne=>?_⟩;refine⟨x,dx,(g.iK.map V.ref).length,⟨aH,day,A5,dP,dP⟩,rfl,ag,rfl,?_⟩;rw[gi,hlen];have s1:=lQ (C:=A.dM) (fs:=fF S.aE.length ⟨aH,day,A5,dP,dP⟩) nx JZ ne;have hx:eF (upd (upd H dx (.own x)) x (.ins A.dM dx (fF S.aE.length ⟨aH,day,A5,dP,dP⟩))) x A.dM (fF S.aE.length ⟨aH,day,A5,dP,dP⟩):=⟨dx,ag⟩;generalize upd (upd H dx (.own x)) x (.ins A.dM dx (fF S.aE.length ⟨aH,day,A5,dP,dP⟩))=H3 at s1 hx;have z8:=hW.same s1;obtain⟨W4,F4⟩:=z8.iz hx;refine⟨g.pb,_,_,rfl,rfl,z8.hb,bf (by lia),?_⟩;have ew:pw≠g.pb:=fun z=>z8.ins z8.obj (z▸(by simp[eT.fp]));obtain⟨e1,e2,e3,e4,e5,e6,e7,e8,e9,N0⟩:=eT.ne z8.nd;refine⟨_,rfl,pw,_,dw,_,_,rfl,(by rw[az ew]; exact s1 _ _ hw),G.bI,G.fG,lM g,.inl ⟨rfl,_,bG.of (by rw[az e2.symm]; exact z8.hl)⟩,_,rfl,g.pl,_,_,rfl,rfl,(by rw[az e2.symm]; exact z8.hl),bf (by rw[ae]; lia),?_⟩;refine⟨_,rfl,?_⟩;exact k1 rfl (g.iz x) _ rfl (F4.mq s1) W4
  ·rw[aY h2] at k2;exact k2 (by decide +kernel) A.iN G.kN (fun q=>absurd q (by decide +kernel))
def nV (g:eT):(lL g).lookup ("tell_credit":Str)=none:=by rfl
def vO (g:eT):(lL g).lookup ("bill_at":Str)=none:=by rfl
def Aa (g:eT):(lL g).lookup ("credit_at":Str)=none:=by rfl
def Kd (g:eT):(lL g).lookup ("put":Str)=none:=by rfl
inductive Ab (A:dZ)(K:Frag)(vs:List V)(H:Hp)(Q:VK)(E:XK):Prop
 |mk (pw:Addr)(S:Bk)(f:eT)(aH:Str)(day dP:Int)(h1:vs=[.ref pw,.str aH,.int day,.int dP])(h2:dG A H pw S f)(h3:S.credits.length<=900)(h4:(S.bar (.pz aH day dP)=""->T7 A Q H pw f (S.enter (.pz aH day dP)) (.int S.credits.length)))(h5:(S.bar (.pz aH day dP)≠""->MS A K E (S.bar (.pz aH day dP)) H)):Ab A K vs H Q E
def nW:aU ["self","who","day","amount"] ["self","who","day","amount"] (aA (mem 25 2)):={}
def vP (T:Txt K mg){A:dZ}(G:jI K mg A):g9 (mU P w mg) P w K mg base A.work "tell_payment" 6 ["self","who","day","amount"] (Ab A K):=by
 have lu:g9 (mU P w mg) P w K mg base A.work "tell_credit" 5 ["self","who","day","amount","only"] (uA A K):=pC T G;refine rB (k:=5) G.nP G.bI nW (fun f cY A' outer s H vs Q E hr mJ h=>?_)
 ·obtain⟨pw,S,g,aH,day,dP,rfl,hW,hl,k1,k2⟩:=h;obtain⟨dw,hw⟩:=hW.obj;have o7:S.bar (.pz aH day dP)=(if dP < 1 then("no amount":Str) else("":Str)):=rfl;rw[o7] at k1 k2;refine⟨_,(av (a9 (nQ lu (hr.mono (by decide)) mJ.pass (pv 0) (aa (pv 1) (aa (pv 2) (aa (pv 3) (aa DD aw))))))),?_⟩;refine⟨_,rfl,pw,dw,_,rfl,hw,nV g,_,rfl,_,rfl,_,rfl,pw,S,g,aH,day,dP,-1,rfl,hW,hl,fun h1=>?_,fun h2=>?_⟩
  ·rw[aN (by lia)] at k1;exact k1 rfl
  ·rw[aY h2] at k2;exact k2 (by decide +kernel)
inductive Ac (A:dZ)(K:Frag)(vs:List V)(H:Hp)(Q:VK)(E:XK):Prop
 |mk (pw:Addr)(S:Bk)(f:eT)(b day dP:Int)(h1:vs=[.ref pw,.int b,.int day,.int dP])(h2:dG A H pw S f)(h3:S.credits.length<=900)(h4:(S.bar (.note b day dP)=""->T7 A Q H pw f (S.enter (.note b day dP)) (.int S.credits.length)))(h5:(S.bar (.note b day dP)≠""->MS A K E (S.bar (.note b day dP)) H)):Ac A K vs H Q E
def kW:aU ["self","bill_number","day","amount","bill"] ["self","bill_number","day","amount"] (aA (mem 25 3)):={}
def Cr (T:Txt K mg){A:dZ}(G:jI K mg A):g9 (mU P w mg) P w K mg base A.work "tell_note" 6 ["self","bill_number","day","amount"] (Ac A K):=by
 have lu:g9 (mU P w mg) P w K mg base A.work "tell_credit" 5 ["self","who","day","amount","only"] (uA A K):=pC T G;have sP:g9 (mU P w mg) P w K mg base A.work "bill_at" 4 ["self","number"] (Fz A K):=yG T G;refine rB (k:=5) G.rq G.bI kW (fun f cY A' outer s H vs Q E hr mJ h=>?_)
 ·obtain⟨pw,S,g,b,day,dP,rfl,hW,hl,k1,k2⟩:=h;have nd:=kW.nd;obtain⟨dw,hw⟩:=hW.obj;rw[vp] at k1 k2;refine⟨_,(ai (sv 4 nd (nQ sP (hr.mono (by decide)) mJ.pass (pv 0) (aa (pv 1) aw)))
(av (a9 (nQ lu (hr.mono (by decide)) mJ.pass (pv 0) (aa (kE (pv 4)) (aa (pv 2) (aa (pv 3) (aa (pv 1) aw)))))))),?_⟩
  refine⟨_,rfl,pw,dw,_,rfl,hw,vO g,_,rfl,pw,S,g,b,rfl,hW,fun kM p hp=>?_,fun hn=>?_⟩
  ·obtain⟨dp,N4⟩:=hp;have zb: ¬ ¬ qG b S.aE.length:=fun z=>z kM;rw[aN zb] at k1 k2;have ho:tN b=V.int b:=aN (fun z=>by have:=kM.1; lia);refine⟨_,rfl,pw,dw,_,rfl,hw,nV g,_,rfl,p,_,dp,_,_,rfl,N4,G.d9,G.kO,Eb _ _,_,rfl,_,rfl,_,rfl,pw,S,g,(S.bl b.toNat).aH,day,dP,b,(by rw[ho]; rfl),hW,hl,fun h1=>?_,fun h2=>?_⟩
   ·rw[aN (by lia)] at k1;exact k1 rfl
   ·rw[aY h2] at k2;exact k2 (by decide +kernel)
  ·rw[aY hn] at k2;exact k2 (by decide +kernel)
def yH {S:Bk}{n c b:Nat}(wf:WF S n)(hc:c < S.credits.length)(hb:b < S.aE.length):pA (S.cr c) (S.bl b) b=S.de c b:=by
 unfold pA Bk.de;by_cases z:(S.cr c).c= -1
 ·rw[aY z,aK z,Bool.true_or,Bool.and_true]
 ·rw[aN z,bL z,Bool.false_or];rcases wf.o c hc with q|⟨b',e1,e2,e3⟩
  ·exact absurd q z
  ·by_cases y:(S.cr c).c=(b:Int)
   ·have:b'=b:=by lia
    subst this;rw[aK y,aK e3]; rfl
   ·rw[bL y,Bool.and_false]
inductive Ke (A:dZ)(K:Frag)(vs:List V)(H:Hp)(Q:VK)(E:XK):Prop
 |mk (pw:Addr)(S:Bk)(f:eT)(n:Nat)(ci bi dP:Int)(h1:vs=[.ref pw,.int ci,.int bi,.int dP])(h2:dG A H pw S f)(h3:WF S n)(h4:S.made.length < sizeLine)(h5:(S.bar (.set ci bi dP)=""->T7 A Q H pw f (S.enter (.set ci bi dP)) (.int dP)))(h6:(S.bar (.set ci bi dP)≠""->MS A K E (S.bar (.set ci bi dP)) H)):Ke A K vs H Q E
def jD:aU ["self","credit_number","bill_number","amount","credit","bill"] ["self","credit_number","bill_number","amount"] (aA (mem 25 5)):={}
def xB (T:Txt K mg){A:dZ}(G:jI K mg A):g9 (mU P w mg) P w K mg base A.work "set_by_hand" 5 ["self","credit_number","bill_number","amount"] (Ke A K):=by
 have Cs:g9 (mU P w mg) P w K mg base A.work "credit_at" 4 ["self","number"] (Kb A K):=Cp T G;have sP:g9 (mU P w mg) P w K mg base A.work "bill_at" 4 ["self","number"] (Fz A K):=yG T G;have Kf:g9 sD P w K mg base A.work "put" 1 ["self","credit_number","bill_number","amount"] (z7 A):=N3 G;have El:fu P w K mg base "fits" 1 ["credit","bill"] (zX A):=J0 T G;have gF:vK P w K mg base "check_amount" 4 ["amount"] (rC A):=ke T G;refine rB (k:=4) G.o6 G.bI jD (fun f cY A' outer s H vs Q E hr mJ h=>?_)
 ·obtain⟨pw,S,g,n,ci,bi,dP,rfl,hW,wf,hz,k1,k2⟩:=h;have nd:=jD.nd;obtain⟨dw,hw⟩:=hW.obj;rw[zx] at k1 k2;refine⟨_,(ai (sv 4 nd (nQ Cs (hr.mono (by decide)) mJ.pass (pv 0) (aa (pv 1) aw)))
(ai (sv 5 nd (nQ sP (hr.mono (by decide)) mJ.pass (pv 0) (aa (pv 2) aw)))
(ai (bT (jw (fM (fc El hr (aa (pv 4) (aa (pv 5) aw)))))
(av (j8 mJ (zU T G) (hr.h.mono (by decide)) rfl rfl))
bp)
(ai (bM (sN gF (hr.mono (by decide)) rfl mJ.pass (aa (pv 3) aw)))
(ai (bT (PW.pt (pw_or (a0 jB (pv 3) (xl (kE (pv 0)) (pv 1)) (bb _)) (pw_or1 (a0 jB (pv 3) (xl (kE (pv 0)) (pv 2)) (bb _)))))
(av (j8 mJ (Ei T G) (hr.h.mono (by decide)) rfl rfl))
bp)
(ai (bM (nQ Kf (hr.mono (by decide)) nz (pv 0) (aa (pv 1) (aa (pv 2) (aa (pv 3) aw)))))
(av (a9 (pv 3))))))))),?_⟩
  refine⟨_,rfl,pw,dw,_,rfl,hw,Aa g,_,rfl,pw,S,g,ci,rfl,hW,fun ic p hp=>?_,fun hn=>?_⟩
  case refine_2=>
   rw[aY hn] at k2;exact k2 (by decide +kernel)
  have zc: ¬ ¬ qG ci S.credits.length:=fun z=>z ic;rw[aN zc] at k1 k2;refine⟨_,rfl,pw,dw,_,rfl,hw,vO g,_,rfl,pw,S,g,bi,rfl,hW,fun ib q hq=>?_,fun hn=>?_⟩
  case refine_2=>
   rw[aY hn] at k2;exact k2 (by decide +kernel)
  have zb: ¬ ¬ qG bi S.aE.length:=fun z=>z ib;rw[aN zb] at k1 k2;obtain⟨c,rfl⟩:=cA ic.1;obtain⟨b,rfl⟩:=cA ib.1;have hc:c < S.credits.length:=by have:=ic.2; lia
  have hb:b < S.aE.length:=by have:=ib.2; lia
  rw[cW] at hp hq k1 k2;rw[cW] at k1 k2;have hfg:=yH wf hc hb;refine⟨_,rfl,_,rfl,p,q,c,b,_,_,rfl,hp,hq,_,rfl,?_⟩;rw[hfg];refine cG (fun z=>?_) (fun z=>?_)
  ·have z':S.de c b=false:=by simpa using z
   rw[aY z'] at k2;exact fun dx nn=>(k2 (by decide +kernel) A.jS G.rj (fun q=>absurd q (by decide +kernel))).at nn
  have zg: ¬ S.de c b=false:=by simpa using z
  rw[aN zg] at k1 k2;refine⟨_,rfl,dP,rfl,fun h1=>?_,fun h2=>?_⟩
  case refine_2=>
   rw[aY h2] at k2;exact k2 (by decide +kernel) A.iN G.kN (fun q=>absurd q (by decide +kernel))
  rw[aN (by lia: ¬ dP < 1)] at k1 k2;have T8:eR (S.cr c).d (S.bl b).d < dP-> ∀dx,H dx=none->E (.ref A.tooMuch) (some dx) (upd H dx (.xd [("text",.str "too much")])):=fun z dx nn=>by
   rw[aY z] at k2;exact(k2 (by decide +kernel) A.tooMuch G.qq (fun _=>rfl)).at nn
  refine⟨_,rfl,_,rfl,pw,_,dw,_,_,rfl,hw,G.bI,G.fH,lN g,_,rfl,g.pf,_,_,_,rfl,rfl,bG.of hW.hf,MQ hc,_,_,rfl,rfl,_,rfl,cG (fun z=>fP (T8 ?_)) (fun z=>?_)⟩
  ·have z':(S.cr c).d < dP:=a6 z;unfold eR;split <;> lia
  have z1: ¬ (S.cr c).d < dP:=fun q=>z (aK q);refine⟨_,rfl,_,rfl,pw,_,dw,_,_,rfl,hw,G.bI,G.fG,lM g,_,rfl,g.pl,_,_,_,rfl,rfl,bG.of hW.hl,MQ hb,_,_,rfl,rfl,_,rfl,cG (fun z=>T8 ?_) (fun z=>?_)⟩
  ·have z':(S.bl b).d < dP:=a6 z;unfold eR;split <;> lia
  have z2: ¬ (S.bl b).d < dP:=fun q=>z (aK q);have zm: ¬ eR (S.cr c).d (S.bl b).d < dP:=by
   unfold eR;split <;> lia
  rw[aN zm] at k1;refine⟨_,rfl,pw,dw,_,rfl,hw,Kd g,_,rfl,_,rfl,_,rfl,pw,S,g,c,b,dP,rfl,hW,hc,hb,hz,fun H2 F2 W2=>?_⟩;exact⟨_,rfl,k1 rfl g H2 rfl F2 W2⟩
def FA:Sp:=fun vs H Q _=>vs=[]/\ ∀(sd:Addr) (f:fJ) (H':Hp),aF H H'->dr H' sd Bk.new f->H sd=none->(∀b∈f.fp,H b=none)->Q (.ref sd) H'
def xC:aU [] [] (aA (top 53)):={}
def rE (T:Txt K mg):fu P w K mg base "_law_begun" 1 [] FA:=by
 refine T.zI.fQ (k:=0) xC (fun f cY A outer s H vs Q E hr h=>?_)
 ·obtain⟨rfl,k⟩:=h;refine⟨_,(av (a9 (Ma (u0 aR (bS aw) (u0 aR (bS aw) (u0 aR (bS aw) L9))) (by rfl) rfl (by simp) (by decide)))),?_⟩;intro sd MD;refine⟨bq _,fun pb nb=>⟨bq _,fun pc nc=>⟨bq _,fun pm nm=>?_⟩⟩⟩;have t0:=aF.new (o:= .dK []) MD;have t1:=aF.new (o:= .lst []) nb;have t2:=aF.new (o:= .lst []) nc;have t3:=aF.new (o:= .lst []) nm;have g0:=((t1.trans t2).trans t3) _ _ (ag (H:=H) (a:=sd) (o:= .dK []));have gb:=(t2.trans t3) _ _ (ag (H:=upd H sd (.dK [])) (a:=pb) (o:= .lst []));have gc:=t3 _ _ (ag (H:=upd (upd H sd (.dK [])) pb (.lst [])) (a:=pc) (o:= .lst []));have gm:=ag (H:=upd (upd (upd H sd (.dK [])) pb (.lst [])) pc (.lst [])) (a:=pm) (o:= .lst []);have nb0:=t0.free nb;have nc0:=(t0.trans t1).free nc;have YK:=((t0.trans t1).trans t2).free nm;have e1:sd≠pb:=aJ ag nb;have e2:sd≠pc:=aJ (t1 _ _ ag) nc;have e3:sd≠pm:=aJ ((t1.trans t2) _ _ ag) nm;have e4:pb≠pc:=aJ ag nc;have e5:pb≠pm:=aJ (t2 _ _ ag) nm;have e6:pc≠pm:=aJ ag nm;have s3:=((t0.trans t1).trans t2).trans t3;generalize upd (upd (upd (upd H sd (.dK [])) pb (.lst [])) pc (.lst [])) pm (.lst [])=H3 at g0 gb gc gm s3 ⊢;refine⟨g0,[(Sum.inr "bills",.ref pb),(Sum.inr "credits",.ref pc),(Sum.inr "made",.ref pm)],rfl,(by show 3<=15; lia),?_⟩;refine k sd ⟨pb,pc,pm,[],[]⟩ _ (s3.dk MD) ⟨?_,by rw[az e1.symm]; exact gb,by rw[az e2.symm]; exact gc,⟨[],by rw[az e3.symm]; exact gm,.nil⟩,.nil,.nil,?_,?_⟩ MD ?_
  ·rw[ag,Pq]; rfl
  ·simp[fJ.fp,e4,e5,e6]
  ·simp[fJ.fp,e1,e2,e3]
  ·intro b hb;simp only[fJ.fp,List.append_nil,List.mem_cons,List.not_mem_nil,or_false] at hb;rcases hb with rfl|rfl|rfl
   ·exact nb0
   ·exact nc0
   ·exact YK
inductive Ad (vs:List V)(H:Hp)(Q:VK)(E':XK):Prop
 |mk (sd:Addr)(S:Bk)(f:fJ)(c b:Nat)(h1:vs=[.ref sd,.int c,.int b])(h2:dr H sd S f)(h3:c < S.credits.length)(h4:b < S.aE.length)(h5: ∀H',aF H H'->Q (.bl (S.de c b)) H'):Ad vs H Q E'
def rF:aU ["_law_state","_law_credit","_law_bill","_law_one"] ["_law_state","_law_credit","_law_bill"] (aA (top 54)):={}
def nX (T:Txt K mg):fu P w K mg base "_law_goes" 1 ["_law_state","_law_credit","_law_bill"] Ad:=by
 refine T.BR.fQ (k:=0) rF (fun f cY A outer s H vs Q E hr h=>?_)
 ·obtain⟨sd,S,g,c,b,rfl,hB,hc,hb,k⟩:=h;have hu:=kK hr;have nd:=rF.nd;obtain⟨p,_,ap,hp⟩:=hB.lc hc;obtain⟨q,_,aq,hq⟩:=hB.lb hb;refine⟨_,(ai (sv 3 nd (xl (cH hu (pv 0) aR (fun _ _=>rfl)) (pv 1)))
(av (a9 (su (fL dg (xl (pv 3) aj) (xl (xl (cH hu (pv 0) aR (fun _ _=>rfl)) (pv 2)) aj) (bb _)) (pX (fL oF (xl (pv 3) aj) (bS (aa (pq k6 aj) (aa (pv 2) aw))) (by rfl))))))),?_⟩
  refine⟨_,rfl,sd,_,rfl,hB.gC,_,rfl,g.pc,_,_,.ref p,rfl,rfl,bG.of hB.hc,ap,?_⟩;refine⟨_,rfl,p,_,_,.str (S.cr c).aH,rfl,rfl,bG.of hp,rfl,_,rfl,sd,_,rfl,hB.gB,_,rfl,g.pb,_,_,.ref q,rfl,rfl,bG.of hB.hb,aq,q,_,_,.str (S.bl b).aH,rfl,rfl,bG.of hq,rfl,rfl,_,rfl,cG (fun d=>?_) (fun d=>?_)⟩
  ·have d':(S.cr c).aH=(S.bl b).aH:=by have:=a6 d; injection this
   refine⟨_,rfl,p,_,_,.int (S.cr c).c,rfl,rfl,bG.of hp,rfl,_,rfl,_,rfl,(by show 2<=sizeLine; decide),fun p9 n9=>?_⟩;refine⟨p9,_,rfl,.inl (bG.of ag),rfl,rfl,?_⟩;have e:S.de c b=wZ (V.int (S.cr c).c) [V.int (-1),V.int (b:Int)]:=by
    unfold Bk.de;rw[aK d',Dy];rw[oR];simp[wZ,LZ];lia
   have q9:=k _ (aF.new (o:= .lst [V.int (-1),V.int (b:Int)]) n9);rw[e] at q9;exact q9
  ·have d': ¬ (S.cr c).aH=(S.bl b).aH:=fun z=>d (aK (by rw[z]));have e:S.de c b=false:=by
    unfold Bk.de;rw[bL d',Ow]
   have q9:=k H (aF.refl _);rw[e] at q9;exact q9
def jJ {A:Hp->Prop}{H H':Hp}(e:H=H')(h:A H'):A H:=e▸h
inductive Ct (vs:List V)(H:Hp)(Q:VK)(E':XK):Prop
 |mk (sd:Addr)(S:Bk)(f:fJ)(c b:Nat)(x:Int)(h1:vs=[.ref sd,.int c,.int b,.int x])(h2:dr H sd S f)(h3:c < S.credits.length)(h4:b < S.aE.length)(h5:S.made.length < sizeLine)(h6: ∀H',Frame f.fp H H'->dr H' sd (S.put c b x) f->Q .eA H'):Ct vs H Q E'
def tQ:aU ["_law_state","_law_credit","_law_bill","_law_amount"] ["_law_state","_law_credit","_law_bill","_law_amount"] (aA (top 55)):={}
def vQ (T:Txt K mg):fu P w K mg base "_law_put" 1 ["_law_state","_law_credit","_law_bill","_law_amount"] Ct:=by
 refine T.Ea.fQ (k:=0) tQ (fun f cY A outer s H vs Q E hr h=>?_)
 ·obtain⟨sd,S,g,c,b,x,rfl,hB,hc,hb,hz,k⟩:=h;have hu:=kK hr;have nd:=tQ.nd;obtain⟨p,pi,ap,hp⟩:=hB.lc hc;refine⟨_,(ai (ng (aQ fN (xl (xl (cH hu (pv 0) aR (fun _ _=>rfl)) (pv 1)) aj) (pv 3)) (sx (xl (cH hu (pv 0) aR (fun _ _=>rfl)) (pv 1)) aj set_list))
(ai (ng (aQ fN (xl (xl (cH hu (pv 0) aR (fun _ _=>rfl)) (pv 2)) aj) (pv 3)) (sx (xl (cH hu (pv 0) aR (fun _ _=>rfl)) (pv 2)) aj set_list))
(av (bM (qo (cH hu (pv 0) aR (fun _ _=>rfl)) (cK (aa (pv 1) (aa (pv 2) (aa (pv 3) aw))))))))),?_⟩
  refine⟨_,rfl,sd,_,rfl,hB.gC,_,rfl,g.pc,_,_,.ref p,rfl,rfl,bG.of hB.hc,ap,p,_,_,.int (S.cr c).d,rfl,rfl,bG.of hp,rfl,_,rfl,_,_,rfl,rfl,?_⟩;refine⟨_,rfl,sd,_,rfl,hB.gC,_,rfl,g.pc,_,_,.ref p,rfl,rfl,bG.of hB.hc,ap,p,_,4,4,rfl,rfl,hp,rfl,?_⟩;have B1:=hB.setC (r:=(S.cr c).less x) pi ⟨_,hp⟩;have F1:Frame g.fp H (upd H p (.lst ((S.cr c).less x).vs)):=Frame.upd (by have:=List.mem_of_getElem? pi; simp[fJ.fp,this]);refine jJ (H':=upd H p (.lst ((S.cr c).less x).vs)) rfl ?_;generalize upd H p (.lst ((S.cr c).less x).vs)=H1 at B1 F1 ⊢;obtain⟨q,qi,aq,hq⟩:=B1.lb (b:=b) hb
  change H1 q=some (.lst (S.bl b).vs) at hq
  refine⟨_,rfl,sd,_,rfl,B1.gB,_,rfl,g.pb,_,_,.ref q,rfl,rfl,bG.of B1.hb,aq,q,_,_,.int (S.bl b).d,rfl,rfl,bG.of hq,rfl,_,rfl,_,_,rfl,rfl,?_⟩;refine⟨_,rfl,sd,_,rfl,B1.gB,_,rfl,g.pb,_,_,.ref q,rfl,rfl,bG.of B1.hb,aq,q,_,4,4,rfl,rfl,hq,rfl,?_⟩;have B2:=B1.setB (r:=(S.bl b).less x) qi ⟨_,hq⟩;have F2:Frame g.fp H1 (upd H1 q (.lst ((S.bl b).less x).vs)):=Frame.upd (by have:=List.mem_of_getElem? qi; simp[fJ.fp,this]);refine jJ (H':=upd H1 q (.lst ((S.bl b).less x).vs)) rfl ?_;generalize upd H1 q (.lst ((S.bl b).less x).vs)=H2 at B2 F2 ⊢;obtain⟨ms,m1,m2⟩:=B2.hm;refine⟨_,rfl,sd,_,rfl,B2.gM,.inl ⟨rfl,_,bG.of m1⟩,_,rfl,_,rfl,_,rfl,(by show 3<=sizeLine; decide),fun p8 n8=>?_⟩;have t8:=aF.new (o:= .tup [V.int c,.int b,.int x]) n8;refine⟨g.pm,ms,_,rfl,rfl,t8 _ _ m1,?_,?_⟩
  ·rw[← aO m2];exact hz
  ·refine k _ ((F1.tr F2).tr ((t8.frame).tr (Frame.upd (by simp[fJ.fp])))) ?_;exact(B2.same t8).X5 (t:=(c,b,x)) (t8 _ _ m1) (m2.mono t8.tk) ag
def FC (x:Int×Nat):List Int:=[x.1,(x.2:Int)]
def Cu (rows:List Rw)(aH:Str)(key:Rw->Int)(i:Nat):List (Int×Nat):=
 ((List.range i).filter fun k=>decide ((rows.getD k default).aH=aH) && decide (0 < (rows.getD k default).d)).map fun k=>(key (rows.getD k default),k)
def MT {rows:List Rw}{aH:Str}{key:Rw->Int}{i:Nat}(h:(rows.getD i default).aH=aH)(h2:0 < (rows.getD i default).d):Cu rows aH key (i + 1)=Cu rows aH key i ++ [(key (rows.getD i default),i)]:=by
 unfold Cu;rw[wR,gj,aL]
 congr 1
 rw[cO (by rw[aK h,aK h2]; rfl)];rfl
def Qa {rows:List Rw}{aH:Str}{key:Rw->Int}{i:Nat}(h: ¬ ((rows.getD i default).aH=aH/\0 < (rows.getD i default).d)):Cu rows aH key (i + 1)=Cu rows aH key i:=by
 unfold Cu;rw[List.range_succ,List.filter_append,List.map_append,List.filter_cons_of_neg (by simpa using h)];simp
def Qb {rows:List Rw}{aH:Str}{key:Rw->Int}{i:Nat}: ∀x∈Cu rows aH key i,x.2 < i:=by
 intro x hx;obtain⟨k,hk,rfl⟩:=bJ.mp hx;exact dJ.mp (ee.mp hk).1
def Qc {rows:List Rw}{aH:Str}{key:Rw->Int}{i:Nat}:((Cu rows aH key i).map (·.2)).Nodup:=by
 unfold Cu;rw[ff];have e:((fun x:Int×Nat=>x.2) ∘ fun k=>(key (rows.getD k default),k))=id:=rfl;rw[e,LF];exact ur.filter _
def Ae {rows:List Rw}{aH:Str}{key:Rw->Int}{i:Nat}:(Cu rows aH key i).length<=i:=by
 unfold Cu;rw[ae];exact aV (aW _ _) (by rw[dC]; exact aD _)
def Af {x y:Str}(d:decide (V.str x=V.str y)=true):x=y:=by
 have:=a6 d;injection this
def vR {x y:Str}(d: ¬ decide (V.str x=V.str y)=true): ¬ x=y:=fun z=>d (aK (by rw[z]))
def oM: ∀{l:List (Int×Nat)} {x y:Int×Nat},(l.map (·.2)).Nodup->x∈l->y∈l->x.2=y.2->x=y
 |[],_,_,_,h,_,_=>by cases h
 |z :: l,x,y,nd,hx,hy,e=>by
  rw[cL,dI] at nd;rcases au.mp hx with BK|BK
  ·rcases au.mp hy with Dp|Dp
   ·rw[BK,Dp]
   ·exact absurd (bJ.mpr ⟨y,Dp,by rw[← e,BK]⟩) nd.1
  ·rcases au.mp hy with Dp|Dp
   ·exact absurd (bJ.mpr ⟨x,BK,by rw[e,Dp]⟩) nd.1
   ·exact oM nd.2 BK Dp e
inductive vS (vs:List V)(H:Hp)(Q:VK)(E':XK):Prop
 |mk (p:Addr)(ps:List Addr)(rows:List Rw)(aH:Str)(rG:Int)(key:Rw->Int)(h1:vs=[.ref p,.str aH,.int rG])(h2:H p=some (.lst (ps.map V.ref)))(h3:eW H rows ps)(h4:rows.length < 64)(h5:(∀r:Rw,uv r.vs rG=some (.int (key r))))(h6: ∀D H',aF H H'->H D=none->H' D=some (.lst ((inTurn rows aH key).map fun(k:Nat)=>V.int (k:Int)))->Q (.ref D) H'):vS vs H Q E'
def mK:aU ["_law_rows","_law_who","_law_spot","_law_keys","_law_k"] ["_law_rows","_law_who","_law_spot"] (aA (top 56)):={}
def nY (T:Txt K mg):fu P w K mg base "_law_in_turn" 1 ["_law_rows","_law_who","_law_spot"] vS:=by
 refine T.vE.fQ (k:=0) mK (fun f cY A outer s H vs Q E hr h=>?_)
 ·obtain⟨p,ps,rows,aH,rG,key,rfl,hp,hR,hl,hk,k⟩:=h;have nd:=mK.nd;have hlen:=hR.length;refine⟨_,(ai (sv 3 nd (bS aw))
(ai (eJ bB rfl (i0 rfl T.mm (aa (oJ T.eE (pv 0)) aw)) (gn 4 nd)
(av (bT (PW.pt (pw_and (a0 dg (xl (xl (pv 0) (pv 4)) aj) (pv 1) (bb _)) (pw_and1 (a0 jB (xl (xl (pv 0) (pv 4)) aj) aj (bb _)))))
(av (bM (qo (pv 3) (cK (aa (xl (xl (pv 0) (pv 4)) (pv 2)) (aa (pv 4) aw))))))
bp)))
(av (a9 (iF (tn:=["_law_key"]) (cn:=[]) (cj:=[]) rfl zj (rh (gv zr (by rfl) T.vG boot_sorted (aa (pv 3) aw))) (fun _ _ _ _=>(eB (i:=0) (show(["_law_key"]:List Str).Nodup by decide +kernel) rfl (Or.inl rfl))) (fun _ _ _ _=>k9) (fun _ _ _ _=>(kI (ux (K:=K) rfl) (pv 0) aj (fun _ _=>rfl)))))))),?_⟩
  refine⟨bq _,fun pk nk=>?_⟩;have s1:aF H (upd H pk (.lst [])):=aF.new nk;refine⟨_,rfl,p,_,rfl,.inl (bG.of (s1 _ _ hp)),((ps.map V.ref).length:Int),rfl,by lia,by rw[ae]; lia,?_⟩;rw[cW];refine jO (lo:=0) (n:=(ps.map V.ref).length) (fun i σ H2=> ∃(xs:List V) (x4:Option V),σ=[some (.ref p),some (.str aH),some (.int rG),some (.ref pk),x4]/\aF H H2/\H2 pk=some (.lst xs)/\ir H2 ((Cu rows aH key i).map FC) xs)
   ⟨[],none,rfl,s1,ag,.nil⟩ ?_ ?_
  ·rintro i σ H2 hi ⟨xs,x4,rfl,s2,hx,hT⟩;rw[jN];have zq:i < rows.length:=by rw[ae] at hi; lia
   obtain⟨r,ri,N2⟩:=hR.at zq;have ar:uv (ps.map V.ref) (i:Int)=some (.ref r):=cw (by rw[aC,ri]; rfl);have yn:=s2 _ _ hp;have FD:=s2 _ _ N2;have YL:xs.length<=i:=by
    have:=aO hT;rw[ae] at this;have:=Ae (rows:=rows) (aH:=aH) (key:=key) (i:=i);lia
   have no: ¬ ((rows.getD i default).aH=aH/\0 < (rows.getD i default).d)-> ∃(xs:List V) (x4:Option V),[some (V.ref p),some (.str aH),some (.int rG),some (.ref pk),some (.int (i:Int))]=[some (.ref p),some (.str aH),some (.int rG),some (.ref pk),x4]/\aF H H2/\H2 pk=some (.lst xs)/\ir H2 ((Cu rows aH key (i + 1)).map FC) xs:=fun n=>
    ⟨xs,_,rfl,s2,hx,by rw[Qa n]; exact hT⟩
   generalize Qd:rows.getD i default=row at FD no;refine⟨_,rfl,_,rfl,p,_,_,.ref r,rfl,rfl,bG.of yn,ar,r,_,_,.str row.aH,rfl,rfl,bG.of FD,rfl,_,rfl,rfl,_,rfl,cG (fun d1=>?_) (fun d1=>bX (no fun z=>vR d1 z.1))⟩;refine⟨_,rfl,_,rfl,p,_,_,.ref r,rfl,rfl,bG.of yn,ar,r,_,_,.int row.d,rfl,rfl,bG.of FD,rfl,_,_,rfl,rfl,_,rfl,cG (fun d2=>?_) (fun d2=>no fun z=>d2 (aK z.2))⟩;have T9:=Af d1;have YM:0 < row.d:=a6 d2;refine⟨_,rfl,.inl ⟨rfl,_,bG.of hx⟩,_,rfl,_,rfl,p,_,_,.ref r,rfl,rfl,bG.of yn,ar,_,rfl,r,_,_,.int (key row),rfl,rfl,bG.of FD,hk row,_,rfl,(by show 2<=sizeLine; decide),fun p8 n8=>?_⟩;have t8:=aF.new (o:= .tup [V.int (key row),.int (i:Int)]) n8;refine⟨pk,xs,_,rfl,rfl,t8 _ _ hx,bf (by lia),xs ++ [.ref p8],_,rfl,(s2.trans t8).dk nk,ag,?_⟩;rw[MT (by rw[Qd]; exact T9) (by rw[Qd]; exact YM),aL,Qd];exact ir.snoc (hT.mono (t8.tk.trans (dU (t8 _ _ hx)))) (dQ (t8 _ _ hx) _ _ ag)
  ·rintro σ H2 ⟨xs,x4,rfl,s2,hx,hT⟩;have YL:=aO hT;have hks:=Ae (rows:=rows) (aH:=aH) (key:=key) (i:=(ps.map V.ref).length);have Iy:=Qb (rows:=rows) (aH:=aH) (key:=key) (i:=(ps.map V.ref).length);have mZ:(ps.map V.ref).length=rows.length:=by rw[ae]; lia
   have hle: ∀x∈Cu rows aH key (ps.map V.ref).length,x.2 < 1000:=fun x hx=>by have:=Iy x hx; lia
   have kM:inTurn rows aH key=(fI (Cu rows aH key (ps.map V.ref).length)).map (·.2):=by rw[mZ]; rfl
   have hnd:=Qc (rows:=rows) (aH:=aH) (key:=key) (i:=(ps.map V.ref).length);generalize Cu rows aH key (ps.map V.ref).length=ks at hT YL hks hle kM hnd;rw[ae] at YL;refine⟨_,rfl,pk,xs,_,vH,rfl,bG.of hx,(by lia),hT,(fun t ht=>?_),(fun t ht u hu=>?_),fun D ys us nD PU perm le=>?_⟩
   ·obtain⟨x,_,rfl⟩:=bJ.mp ht;simp[FC]
   ·obtain⟨x,BK,rfl⟩:=bJ.mp ht;obtain⟨y,Dp,rfl⟩:=bJ.mp hu;refine vI (hle x BK) (hle y Dp) (fun e=>⟨rfl,?_⟩) rfl;exact oM hnd BK Dp e
   ·have XC:=BX hle hnd (fun x _=>rfl) perm le;subst XC;have tD:=aF.new (o:= .lst ys) nD;refine⟨D,rfl,⟨_,bG.of ag⟩,?_⟩;have Lr:=PU.mono tD.tk;generalize RI:upd H2 D (.lst ys)=H3 at tD Lr;have hD3:H3 D=some (.lst ys):=by rw[← RI]; exact ag
    have s3:=s2.trans tD;clear RI PU perm le hT;have hyl:=aO Lr;refine dS (K:=K) (a:=D) (xs:=ys) (fun D' i σ H6=>H3 D'=none/\ ∃v,σ=[v]/\aF H3 H6/\H6 D'=some (.lst (((fI ks).take i).map fun x=>V.int (x.2:Int)))) (fun D' Em=>⟨Em,none,rfl,aF.new Em,ag⟩) (fun D' i σ H6 _ ⟨_,_,_,t3,_⟩=>bG.of (t3 _ _ hD3)) ?_ ?_
    ·rintro D' i x σ H6 N5 ⟨Em,v,rfl,t3,iA⟩;have hi:i < (fI ks).length:=by
      have:=(ah.mp N5).1;rw[ae] at hyl;lia
     have g0:((fI ks).map FC)[i]? =some (FC (fI ks)[i]):=by rw[aC,af hi]; rfl
     obtain⟨v',hv,pp,e1,Lo⟩:=bK Lr g0;rw[N5] at hv;obtain rfl:x=v':=aG hv;subst e1;have pZ:=gU hi;have Ua:=t3 _ _ Lo;generalize (fI ks)[i]=z at Ua pZ;have Kg:((fI ks).take i).length<=100:=by
      rw[ba];have:=(dB ks).length_eq;lia
     refine⟨_,rfl,pp,_,_,.int (z.2:Int),rfl,rfl,cE.of Ua,rfl,_,iA,bf (by rw[ae]; lia),Em,_,rfl,t3.dk Em,?_⟩;rw[ag,pZ,aL];rfl
    ·rintro D' σ H6 Em ⟨_,v,rfl,t3,iA⟩;refine k D' H6 (s3.trans t3) (s3.free Em) ?_;rw[iA,kM,ff,hyl.symm,ae,aZ];rfl
def kX {α β:Type}{F:α->β->Prop}: ∀{l₁:List α} {l₂:List β} (n:Nat),Paired F l₁ l₂->Paired F (l₁.drop n) (l₂.drop n)
 |_,_,0,h=>by rwa [OB,OB]
 |_,_,_ + 1,.nil=> .nil
 |_,_,n + 1,.cons _ t=>by rw[List.drop_succ_cons,List.drop_succ_cons]; exact kX n t
def sQ (xs:List V)(n:Nat)(h:n<=xs.length):mR xs (some (n:Int)) none=xs.drop n:=by
 unfold mR;rw[HT.Bu,HT.oC,oV h,List.take_of_length_le];rw[hV];exact aD _
structure Ag (H0:Hp)(sd:Addr)(S:Bk)(f:fJ)(H2:Hp)(S2:Bk)(m:Nat):Prop where
 fr:Frame f.fp H0 H2
 bk:dr H2 sd S2 f
 bl:S2.aE.length=S.aE.length
 cl:S2.credits.length=S.credits.length
 ml:S2.made.length<=S.made.length + m
def Ag.put {H0:Hp}{sd:Addr}{S:Bk}{f:fJ}{H2 H':Hp}{S2:Bk}{m c b:Nat}{x:Int}(I:Ag H0 sd S f H2 S2 m)(fr:Frame f.fp H2 H')(bk:dr H' sd (S2.put c b x) f):Ag H0 sd S f H' (S2.put c b x) (m + 1):=by
 refine⟨I.fr.tr fr,bk,?_,?_,?_⟩
 ·show(S2.aE.set _ _).length=_;rw[fe]; exact I.bl
 ·show(S2.credits.set _ _).length=_;rw[fe]; exact I.cl
 ·show(S2.made ++ [_]).length<=_;rw[ax];have:=I.ml;simp;lia
def Ag.up {H0:Hp}{sd:Addr}{S:Bk}{f:fJ}{H2:Hp}{S2:Bk}{m n:Nat}(I:Ag H0 sd S f H2 S2 m)(h:m<=n):Ag H0 sd S f H2 S2 n:=⟨I.fr,I.bk,I.bl,I.cl,aV I.ml (by lia)⟩
def Ag.from {H0 H1:Hp}{sd:Addr}{S:Bk}{f:fJ}{H2:Hp}{S2:Bk}{m:Nat}(I:Ag H0 sd S f H2 S2 m)(s:aF H2 H1):Ag H1 sd S f H1 S2 m:=⟨Frame.refl,I.bk.same s,I.bl,I.cl,I.ml⟩
def Ag.back {H0 H1:Hp}{sd:Addr}{S:Bk}{f:fJ}{H2 H3:Hp}{S2 S3:Bk}{m n:Nat}(I:Ag H0 sd S f H2 S2 m)(s:aF H2 H1)(J:Ag H1 sd S f H3 S3 n):Ag H0 sd S f H3 S3 n:=⟨(I.fr.cS s).tr J.fr,J.bk,J.bl,J.cl,J.ml⟩
def _root_.L2.dr.uB {H:Hp}{sd D:Addr}{S:Bk}{f:fJ}(h:dr H sd S f)(n:H D=none):D∉f.fp:=fun z=>by
 obtain⟨ms,m1,_⟩:=h.hm;have rows: ∀(rs:List Rw) (ps:List Addr),eW H rs ps->D∈ps->False:=fun rs ps hr hp=>by
  obtain⟨i,hi⟩:=jf hp;have iD:i < rs.length:=by
   rw[hr.length];exact(ah.mp hi).1
  obtain⟨q,e1,e2⟩:=hr.at iD;rw[e1] at hi;cases hi;rw[n] at e2;cases e2
 unfold fJ.fp at z;rcases au.mp z with rfl|z
 ·have:=h.hb; rw[n] at this; cases this
 rcases au.mp z with rfl|z
 ·have:=h.hc; rw[n] at this; cases this
 rcases au.mp z with rfl|z
 ·rw[n] at m1; cases m1
 rcases bc.mp z with z|z
 ·exact rows _ _ h.rb z
 ·exact rows _ _ h.rc z
def ig (rows:List Rw)(aH:Str)(key:Rw->Int):(inTurn rows aH key).length<=rows.length:=by
 have e:inTurn rows aH key=(fI (Cu rows aH key rows.length)).map (·.2):=rfl;rw[e,ae,(dB _).length_eq];exact Ae
def lR {α β:Type}(g:β->α->β)(l:List α)(s:β){i:Nat}{x:α}(h:l[i]? =some x):(l.take (i + 1)).foldl g s=g ((l.take i).foldl g s) x:=by
 rw[Gg,h,lB];rfl
def _root_.L2.Frame.free {fp:List Addr}{H H':Hp}{p:Addr}(a:Frame fp H H')(h:p∉fp)(n:H' p=none):H p=none:=by
 cases e:H p with
 |none=>rfl
 |some o=>have:=a p o h e; rw[n] at this; cases this
inductive Ah (vs:List V)(H:Hp)(Q:VK)(E':XK):Prop
 |mk (sd:Addr)(S:Bk)(f:fJ)(aH:Str)(h1:vs=[.ref sd,.str aH])(h2:dr H sd S f)(h3:S.credits.length < 64)(h4:S.aE.length < 64)(h5:S.made.length + 10000 < sizeLine)(h6: ∀D ms H',Frame f.fp H H'->dr H' sd (S.dm aH) f->H D=none->H' D=some (.lst ms)->iw H' ((S.dm aH).made.drop S.made.length) ms->Q (.ref D) H'):Ah vs H Q E'
def pE:aU ["_law_state","_law_who","_law_many","_law_exact","_law_credit","_law_bill","_law_free","_law_left"] ["_law_state","_law_who"] (aA (top 57)):={}
def rH (T:Txt K mg):fu P w K mg base "_law_swept" 2 ["_law_state","_law_who"] Ah:=by
 have gG:fu P w K mg base "_law_in_turn" 1 ["_law_rows","_law_who","_law_spot"] vS:=nY T;have jo:fu P w K mg base "_law_goes" 1 ["_law_state","_law_credit","_law_bill"] Ad:=nX T;have qr:fu P w K mg base "_law_put" 1 ["_law_state","_law_credit","_law_bill","_law_amount"] Ct:=vQ T;refine T.zJ.fQ (k:=1) pE (fun f cY A outer s H vs Q E hr h=>?_)
 ·obtain⟨sd,S,g,aH,rfl,hB,rg,HB,Iz,k⟩:=h;have hu:=kK hr;have nd:=pE.nd;obtain⟨ms,m1,m2⟩:=hB.hm;have YN:S.made.length=ms.length:=aO m2;refine⟨_,(ai (sv 2 nd (oJ T.eE (cH hu (pv 0) aR (fun _ _=>rfl))))
(ai (eJ bB rfl (rh (bS (aa kG (aa kG aw)))) (gn 3 nd)
(av (eJ bB rfl (rh (fc gG hr (aa (cH hu (pv 0) aR (fun _ _=>rfl)) (aa (pv 1) (aa aj aw))))) (gn 4 nd)
(av (eJ bB rfl (rh (fc gG hr (aa (cH hu (pv 0) aR (fun _ _=>rfl)) (aa (pv 1) (aa aj aw))))) (gn 5 nd)
(ai (sv 6 nd (xl (xl (cH hu (pv 0) aR (fun _ _=>rfl)) (pv 4)) aj))
(ai (sv 7 nd (xl (xl (cH hu (pv 0) aR (fun _ _=>rfl)) (pv 5)) aj))
(av (bT (PW.pt (pw_and (a0 jB (pv 6) aj (bb _)) (pw_and1 (fM (fc jo hr (aa (pv 0) (aa (pv 4) (aa (pv 5) aw))))))))
(av (bT (PW.pt (pw_or (a0 dg (pv 6) (pv 7) (bb _)) (pw_or1 (jw (fM (pv 3))))))
(av (bM (fc qr hr (aa (pv 0) (aa (pv 4) (aa (pv 5) (aa (gv (sy rfl) (by rfl) T.JQ boot_min (aa (pv 6) (aa (pv 7) aw))) aw)))))))
bp))
bp)))))))))
(av (a9 (jh NZ (cH hu (pv 0) aR (fun _ _=>rfl)) (jb (pv 2)) oE))))),?_⟩
  refine⟨_,rfl,sd,_,rfl,hB.gM,g.pm,_,rfl,.inl (bG.of m1),?_⟩;refine⟨(by show 2<=sizeLine; decide),fun pl nl=>⟨pl,rfl,⟨_,bG.of ag⟩,?_⟩⟩;have s1:aF H (upd H pl (.lst ([true,false].map V.bl))):=aF.new nl;have nlf:=hB.uB nl;have iS:upd H pl (.lst ([true,false].map V.bl)) pl=some (.lst ([true,false].map V.bl)):=ag;have N6:=hB.same s1;refine jJ (H':=upd H pl (.lst ([true,false].map V.bl))) rfl ?_;generalize upd H pl (.lst ([true,false].map V.bl))=H1 at s1 iS N6;refine fA (K:=K) (a:=pl) (xs:=[true,false].map V.bl) (fun i σ H2=> ∃x3 x4 x5 x6 x7:Option V,σ=[some (.ref sd),some (.str aH),some (.int (ms.length:Int)),x3,x4,x5,x6,x7]/\Ag H1 sd S g H2 (([true,false].take i).foldl (bN aH) S) (i * 4096))
   ⟨none,none,none,none,none,rfl,Frame.refl,N6,rfl,rfl,Nat.le_add_right _ _⟩ (fun i σ H2 _ ⟨_,_,_,_,_,_,I⟩=>bG.of (I.fr _ _ nlf iS)) ?_ ?_
  ·rintro i x σ H2 hx ⟨x3,x4,x5,x6,x7,rfl,I⟩;rw[aC] at hx;obtain⟨ex,hex,rfl⟩:=a8.mp hx;have hi:i < 2:=(ah.mp hex).1;rw[lR (bN aH) [true,false] S hex];generalize ([true,false].take i).foldl (bN aH) S=S1 at I ⊢;have c1:=I.cl;have b1:=I.bl;refine⟨_,rfl,sd,_,rfl,I.bk.gC,_,rfl,g.pc,g.cps,S1.credits,aH,1,(·.a),rfl,I.bk.hc,I.bk.rc,by lia,(fun _=>rfl),fun D1 H3 t3 n3 HC=>?_⟩;have D1f:=I.bk.uB n3;have I3:=I.from t3;refine⟨D1,rfl,⟨_,bG.of HC⟩,?_⟩;have hcs:(inTurn S1.credits aH (·.a)).length<=63:=by have:=ig S1.credits aH (·.a); lia
   have hcm: ∀c∈inTurn S1.credits aH (·.a),c < S.credits.length:=fun c hc=>by have:=(bP.mp hc).1; lia
   have hrd:bN aH S1 ex=(inTurn S1.credits aH (·.a)).foldl (bC aH ex) S1:=rfl;rw[hrd];generalize inTurn S1.credits aH (·.a)=cs at HC hcs hcm;refine fA (K:=K) (a:=D1) (xs:=cs.map fun(k:Nat)=>V.int (k:Int)) (fun j σ H4=> ∃x4 x5 x6 x7:Option V,σ=[some (.ref sd),some (.str aH),some (.int (ms.length:Int)),some (.bl ex),x4,x5,x6,x7]/\Ag H3 sd S g H4 ((cs.take j).foldl (bC aH ex) S1) (i * 4096 + j * 64))
    ⟨_,_,_,_,rfl,I3.up (by lia)⟩ (fun j σ H4 _ ⟨_,_,_,_,_,J⟩=>bG.of (J.fr _ _ D1f HC)) ?_ ?_
   ·rintro j x σ H4 hx ⟨x4,x5,x6,x7,rfl,J⟩;rw[aC] at hx;obtain⟨c,hc,rfl⟩:=a8.mp hx;have adX:=hcm c (ez hc);have hj:j < cs.length:=(ah.mp hc).1;rw[lR (bC aH ex) cs S1 hc];generalize (cs.take j).foldl (bC aH ex) S1=S2 at J ⊢;have b2:=J.bl;refine⟨_,rfl,sd,_,rfl,J.bk.gB,_,rfl,g.pb,g.iK,S2.aE,aH,2,(·.b),rfl,J.bk.hb,J.bk.rb,by lia,(fun _=>rfl),fun D2 H5 t5 n5 En=>?_⟩;have D2f:=J.bk.uB n5;have J5:=J.from t5;refine⟨D2,rfl,⟨_,bG.of En⟩,?_⟩;have hbs:(inTurn S2.aE aH (·.b)).length<=63:=by have:=ig S2.aE aH (·.b); lia
    have Mf: ∀b∈inTurn S2.aE aH (·.b),b < S.aE.length:=fun b hb=>by have:=(bP.mp hb).1; lia
    have rZ:bC aH ex S2 c=(inTurn S2.aE aH (·.b)).foldl (bu ex c) S2:=rfl;rw[rZ];generalize inTurn S2.aE aH (·.b)=bs at En hbs Mf;refine fA (K:=K) (a:=D2) (xs:=bs.map fun(k:Nat)=>V.int (k:Int)) (fun l σ H6=> ∃x5 x6 x7:Option V,σ=[some (.ref sd),some (.str aH),some (.int (ms.length:Int)),some (.bl ex),some (.int (c:Int)),x5,x6,x7]/\Ag H5 sd S g H6 ((bs.take l).foldl (bu ex c) S2) (i * 4096 + j * 64 + l))
     ⟨_,_,_,rfl,J5.up (by lia)⟩ (fun l σ H6 _ ⟨_,_,_,_,L⟩=>bG.of (L.fr _ _ D2f En)) ?_ ?_
    ·rintro l x σ H6 hx ⟨x5,x6,x7,rfl,L⟩;rw[aC] at hx;obtain⟨b,hb,rfl⟩:=a8.mp hx;have ad0:=Mf b (ez hb);have hl:l < bs.length:=(ah.mp hb).1;rw[lR (bu ex c) bs S2 hb];generalize (bs.take l).foldl (bu ex c) S2=S3 at L ⊢;have b3:=L.bl;have c3:=L.cl;have m3:=L.ml;obtain⟨p,_,ap,hp⟩:=L.bk.lc (b:=c) (by lia);obtain⟨q,_,aq,hq⟩:=L.bk.lb (b:=b) (by lia);have no: ¬ (0 < (S3.cr c).d/\S3.de c b=true/\((S3.cr c).d=(S3.bl b).d∨ex=false))-> ∀H7,aF H6 H7-> ∃x5 x6 x7:Option V,[some (V.ref sd),some (.str aH),some (.int (ms.length:Int)),some (.bl ex),some (.int (c:Int)),some (.int (b:Int)),some (.int (S3.cr c).d),some (.int (S3.bl b).d)]=[some (.ref sd),some (.str aH),some (.int (ms.length:Int)),some (.bl ex),some (.int (c:Int)),x5,x6,x7]/\Ag H5 sd S g H7 (bu ex c S3 b) (i * 4096 + j * 64 + (l + 1)):=fun n H7 t7=>by
      refine⟨_,_,_,rfl,?_⟩;unfold bu;rw[aN n];exact(L.back t7 (L.from t7)).up (by lia)
     refine⟨_,rfl,sd,_,rfl,L.bk.gC,_,rfl,g.pc,_,_,.ref p,rfl,rfl,bG.of L.bk.hc,ap,p,_,_,.int (S3.cr c).d,rfl,rfl,bG.of hp,rfl,?_⟩;refine⟨_,rfl,sd,_,rfl,L.bk.gB,_,rfl,g.pb,_,_,.ref q,rfl,rfl,bG.of L.bk.hb,aq,q,_,_,.int (S3.bl b).d,rfl,rfl,bG.of hq,rfl,?_⟩;refine⟨_,rfl,_,_,rfl,rfl,_,rfl,cG (fun d1=>?_) (fun d1=>bX (no (fun z=>d1 (aK z.1)) _ (aF.refl _)))⟩;have T9:0 < (S3.cr c).d:=a6 d1;refine⟨_,rfl,_,rfl,_,rfl,sd,S3,g,c,b,rfl,L.bk,by lia,by lia,fun H7 t7=>⟨_,rfl,cG (fun d2=>?_) (fun d2=>no (fun z=>d2 z.2.1) _ t7)⟩⟩;have L7:=L.bk.same t7;have Ub:((S3.cr c).d=(S3.bl b).d∨ex=false)-> ∀H',Frame g.fp H7 H'->dr H' sd (S3.put c b (eR (S3.cr c).d (S3.bl b).d)) g-> ∃x5 x6 x7:Option V,[some (V.ref sd),some (.str aH),some (.int (ms.length:Int)),some (.bl ex),some (.int (c:Int)),some (.int (b:Int)),some (.int (S3.cr c).d),some (.int (S3.bl b).d)]=[some (.ref sd),some (.str aH),some (.int (ms.length:Int)),some (.bl ex),some (.int (c:Int)),x5,x6,x7]/\Ag H5 sd S g H' (bu ex c S3 b) (i * 4096 + j * 64 + (l + 1)):=fun z H' Rz YO=>by
      refine⟨_,_,_,rfl,?_⟩;unfold bu;rw[aY ⟨T9,d2,z⟩];exact(L.put (t7.frame.tr Rz) YO).up (by lia)
     have FE:((S3.cr c).d=(S3.bl b).d∨ex=false)->Ct [.ref sd,.int (c:Int),.int (b:Int),.int (if(S3.bl b).d < (S3.cr c).d then(S3.bl b).d else(S3.cr c).d)] H7 (fun _ H'=> ∃x5 x6 x7:Option V,[some (V.ref sd),some (.str aH),some (.int (ms.length:Int)),some (.bl ex),some (.int (c:Int)),some (.int (b:Int)),some (.int (S3.cr c).d),some (.int (S3.bl b).d)]=[some (.ref sd),some (.str aH),some (.int (ms.length:Int)),some (.bl ex),some (.int (c:Int)),x5,x6,x7]/\Ag H5 sd S g H' (bu ex c S3 b) (i * 4096 + j * 64 + (l + 1))) (fun _ _ _=>False):=fun z=>
      ⟨sd,S3,g,c,b,_,rfl,L7,by lia,by lia,by lia,fun H' Rz YO=>Ub z H' Rz YO⟩
     refine⟨_,rfl,_,rfl,rfl,_,rfl,cG (fun d3=>fP ?_) (fun d3=>?_)⟩
     ·have d3':(S3.cr c).d=(S3.bl b).d:=by have:=a6 d3; injection this
      exact⟨_,rfl,_,rfl,_,rfl,_,rfl,_,rfl,_,_,rfl,FE (.inl d3')⟩
     ·refine⟨_,rfl,_,rfl,cG (fun d4=>?_) (fun d4=>no (fun z=>?_) _ t7)⟩
      ·have d4':ex=false:=by simpa using d4
       exact⟨_,rfl,_,rfl,_,rfl,_,rfl,_,rfl,_,_,rfl,FE (.inr d4')⟩
      ·rcases z.2.2 with z|z
       ·exact d3 (aK (by rw[z]))
       ·exact d4 (by rw[z]; rfl)
    ·rintro σ H6 ⟨x5,x6,x7,rfl,L⟩;rw[ae,aZ] at L;exact⟨_,_,_,_,rfl,(J.back t5 L).up (by lia)⟩
   ·rintro σ H4 ⟨x4,x5,x6,x7,rfl,J⟩;rw[ae,aZ] at J;exact⟨_,_,_,_,_,rfl,(I.back t3 J).up (by lia)⟩
  ·rintro σ H2 ⟨x3,x4,x5,x6,x7,rfl,I⟩;have XO:([true,false].take ([true,false].map V.bl).length).foldl (bN aH) S=S.dm aH:=rfl;rw[XO] at I;obtain⟨Ls,k1,k2⟩:=I.bk.hm;refine⟨_,rfl,sd,_,rfl,I.bk.gM,_,rfl,_,rfl,g.pm,Ls,rfl,bG.of k1,fun p np=>?_⟩;have tp:=aF.new (o:= .lst (mR Ls (some (ms.length:Int)) none)) np;have hle:ms.length<=Ls.length:=by
    have e0:=aO k2;obtain⟨_,l,e1,_⟩:=nI S aH;rw[e1,ax] at e0;lia
   refine k p (Ls.drop ms.length) _ ((s1.frame.tr I.fr).cS tp) (I.bk.same tp) ?_ ?_ ?_
   ·exact s1.free (Frame.free I.fr (I.bk.uB np) np)
   ·rw[ag,sQ _ _ hle]
   ·rw[YN];exact kX _ (k2.mono tp.tk)
inductive uC (A:dZ)(vs:List V)(H:Hp)(Q:VK)(E':XK):Prop
 |mk (x dx:Addr)(h1:vs=[.ref x])(h2:H x=some (.ins A.work dx []))(h3: ∀f H',Frame [x] H H'->dG A H' x Bk.new f->(∀b∈f.fp,H b=none)->Q .eA H'):uC A vs H Q E'
def Kh (f:eT):eK "made" (.ref f.pm) (eK "frees" (.ref f.pf) (eK "lefts" (.ref f.pl) (eK "all_credits" (.ref f.pc) (eK "bills" (.ref f.pb) []))))=lL f:=by rfl
def Cv {H Hk:Hp}{x dx p C:Addr}{fs:List (Str×V)}{f:Str}(F:Frame [x] H Hk)(hx:Hk x=some (.ins C dx fs))(n:Hk p=none):p≠x/\H p=none/\Frame [x] H (upd (upd Hk p (.lst [])) x (.ins C dx (eK f (.ref p) fs)))/\
  upd (upd Hk p (.lst [])) x (.ins C dx (eK f (.ref p) fs)) x=some (.ins C dx (eK f (.ref p) fs))/\upd (upd Hk p (.lst [])) x (.ins C dx (eK f (.ref p) fs)) p=some (.lst [])/\
  (∀q o,q≠x->Hk q=some o->upd (upd Hk p (.lst [])) x (.ins C dx (eK f (.ref p) fs)) q=some o/\q≠p):=by
 have ne:p≠x:=(aJ hx n).symm;refine⟨ne,F.free (by simpa using ne) n,(F.tr (aF.new n).frame).tr (Frame.upd (by simp)),ag,by rw[az ne,ag],fun q o hq e=>⟨?_,aJ e n⟩⟩;rw[az hq];exact aF.new n _ _ e
def MU:aU ["self"] ["self"] (aA (mem 25 0)):={}
def Ki {A:dZ}(G:jI K mg A):ui P w K mg base "Work" A.work 1 ["self"] (uC A):=by
 refine MN (k:=0) G.MJ G.MI MU (fun f cY A' outer s H vs Q E hr h=>?_)
 ·obtain⟨x,dx,rfl,hx,k⟩:=h;refine⟨_,(ai (mj (pv 0) (bS aw))
(ai (mj (pv 0) (bS aw))
(ai (mj (pv 0) (bS aw))
(ai (mj (pv 0) (bS aw))
(av (mj (pv 0) (bS aw))))))),?_⟩
  have F0:Frame [x] H H:=Frame.refl;refine⟨bq _,fun p1 n1=>⟨_,rfl,x,_,dx,_,rfl,aF.new n1 _ _ hx,G.bI,G.dX,lt1000 Cn (by decide),?_⟩⟩;obtain⟨ne1,f1,F1,x1,g1,t1⟩:=Cv (f:="bills") F0 hx n1;generalize hH1:upd (upd H p1 (.lst [])) x (.ins A.work dx (eK "bills" (.ref p1) _))=H1 at F1 x1 g1;clear hH1 t1;refine⟨bq _,fun p2 n2=>⟨_,rfl,x,_,dx,_,rfl,aF.new n2 _ _ x1,G.bI,G.cF,lt1000 (pl Cn) (by decide),?_⟩⟩;obtain⟨ne2,f2,F2,x2,g2,t2⟩:=Cv (f:="all_credits") F1 x1 n2;obtain⟨g1,Uc⟩:=t2 p1 _ ne1 g1;generalize V6:upd (upd H1 p2 (.lst [])) x (.ins A.work dx (eK "all_credits" (.ref p2) _))=H2 at F2 x2 g1 g2;clear V6 t2;refine⟨bq _,fun p3 n3=>⟨_,rfl,x,_,dx,_,rfl,aF.new n3 _ _ x2,G.bI,G.fG,lt1000 (pl (pl Cn)) (by decide),?_⟩⟩;obtain⟨ne3,f3,F3,x3,g3,t3⟩:=Cv (f:="lefts") F2 x2 n3;obtain⟨g1,Ud⟩:=t3 p1 _ ne1 g1;obtain⟨g2,Ue⟩:=t3 p2 _ ne2 g2;generalize RI:upd (upd H2 p3 (.lst [])) x (.ins A.work dx (eK "lefts" (.ref p3) _))=H3 at F3 x3 g1 g2 g3;clear RI t3;refine⟨bq _,fun p4 n4=>⟨_,rfl,x,_,dx,_,rfl,aF.new n4 _ _ x3,G.bI,G.fH,lt1000 (pl (pl (pl Cn))) (by decide),?_⟩⟩;obtain⟨ne4,f4,F4,x4,g4,t4⟩:=Cv (f:="frees") F3 x3 n4;obtain⟨g1,Ug⟩:=t4 p1 _ ne1 g1;obtain⟨g2,Uh⟩:=t4 p2 _ ne2 g2;obtain⟨g3,Ui⟩:=t4 p3 _ ne3 g3;generalize hH4:upd (upd H3 p4 (.lst [])) x (.ins A.work dx (eK "frees" (.ref p4) _))=H4 at F4 x4 g1 g2 g3 g4;clear hH4 t4;refine⟨bq _,fun p5 n5=>⟨_,rfl,x,_,dx,_,rfl,aF.new n5 _ _ x4,G.bI,G.mr,lt1000 (pl (pl (pl (pl Cn)))) (by decide),?_⟩⟩;obtain⟨ne5,f5,F5,x5,g5,t5⟩:=Cv (f:="made") F4 x4 n5;obtain⟨g1,Uj⟩:=t5 p1 _ ne1 g1;obtain⟨g2,Uk⟩:=t5 p2 _ ne2 g2;obtain⟨g3,Ul⟩:=t5 p3 _ ne3 g3;obtain⟨g4,Um⟩:=t5 p4 _ ne4 g4;refine k ⟨p1,p2,p3,p4,p5,[],[]⟩ _ F5 ⟨⟨dx,?_⟩,g1,g2,g3,g4,⟨[],g5,.nil⟩,⟨rfl,fun i p e=>by simp at e⟩,⟨rfl,fun i p e=>by simp at e⟩,?_⟩ ?_
  ·rw[x5];exact cU (fun z=>some (HO.ins A.work dx z)) (Kh ⟨p1,p2,p3,p4,p5,[],[]⟩)
  ·simp[eT.fp,Uc,Ud,Ug,Uj,Ue,Uh,Uk,Ui,Ul,Um]
  ·intro b hb;simp only[eT.fp,List.mem_cons,List.not_mem_nil,or_false] at hb;rcases hb with rfl|rfl|rfl|rfl|rfl
   ·exact f1
   ·exact f2
   ·exact f3
   ·exact f4
   ·exact f5
def iO (A:dZ)(H:Hp)(S:Bk)(bs:List Nat)(qs:List Addr):Prop:=Paired (fun(b:Nat) q=>eF H q A.dM (fF b (S.bl b))) bs qs
def gR (A:dZ)(H:Hp)(S:Bk)(cs:List Nat)(qs:List Addr):Prop:=Paired (fun(c:Nat) q=>eF H q A.d8 (fk c (S.cr c))) cs qs
def iO.same {A:dZ}{H H':Hp}{S:Bk}{bs:List Nat}{qs:List Addr}(h:iO A H S bs qs)(s:aF H H'):iO A H' S bs qs:=Paired.gX h fun _ _ z=>z.same s
def gR.same {A:dZ}{H H':Hp}{S:Bk}{bs:List Nat}{qs:List Addr}(h:gR A H S bs qs)(s:aF H H'):gR A H' S bs qs:=Paired.gX h fun _ _ z=>z.same s
inductive Kj (A:dZ)(vs:List V)(H:Hp)(Q:VK)(E':XK):Prop
 |mk (p pt:Addr)(S:Bk)(c:Nat)(bs:List Nat)(qs:List Addr)(h1:vs=[.ref p,.ref pt])(h2:eF H p A.d8 (fk c (S.cr c)))(h3:H pt=some (.lst (qs.map V.ref)))(h4:iO A H S bs qs)(h5:bs.length<=100)(h6: ∀D H',aF H H'->H D=none->H' D=some (.lst ((bs.map fun b=>pA (S.cr c) (S.bl b) b).map V.bl))->Q (.ref D) H'):Kj A vs H Q E'
def vT:aU ["credit","bills"] ["credit","bills"] (aA (top 27)):={}
def xD (T:Txt K mg){A:dZ}(G:jI K mg A):fu P w K mg base "row_of_fits" 2 ["credit","bills"] (Kj A):=by
 have El:fu P w K mg base "fits" 1 ["credit","bill"] (zX A):=J0 T G;refine T.xk.fQ (k:=1) vT (fun f cY A' outer s H vs Q E hr h=>?_)
 ·obtain⟨p,pt,S,c,bs,qs,rfl,hp,wL,hB,hl,k⟩:=h;have hlen:=aO hB;refine⟨_,(av (a9 (iF (tn:=["bill"]) (cn:=["credit"]) (cj:=[0]) rfl (iG (zk:=[(".0",.local),("bill",.local),("fits",.globalImplicit),("credit",.cell)])) (rh (pv 1)) (fun _ _ _ _=>(eB (i:=0) (show(["bill","credit"]:List Str).Nodup by decide +kernel) rfl (Or.inl rfl))) (fun _ _ _ _=>k9) (fun _ _ _ _=>(fc El hr (aa (pv 1) (aa (pv 0) aw))))))),?_⟩;refine⟨_,rfl,pt,rfl,⟨_,bG.of wL⟩,?_⟩;refine dS (K:=K) (a:=pt) (xs:=qs.map V.ref) (fun D i σ H6=>H D=none/\ ∃v,σ=[v,some (.ref p)]/\aF H H6/\H6 D=some (.lst (((bs.take i).map fun b=>pA (S.cr c) (S.bl b) b).map V.bl))) (fun D hD=>⟨hD,none,rfl,aF.new hD,ag⟩) (fun D i σ H6 _ ⟨_,_,_,t3,_⟩=>bG.of (t3 _ _ wL)) ?_ ?_
  ·rintro D i x σ H6 hx ⟨hD,v,rfl,t3,iA⟩;rw[aC] at hx;obtain⟨q,hq,rfl⟩:=a8.mp hx;have hi:i < bs.length:=by have:=(ah.mp hq).1; lia
   obtain⟨q',tE,lS⟩:=bK hB (af hi);rw[hq] at tE;obtain rfl:q=q':=aG tE;have pZ:=gU hi;generalize bs[i]=b at lS pZ;refine⟨_,rfl,_,rfl,p,q,c,b,_,_,rfl,hp.same t3,lS.same t3,_,iA,bf (by rw[ae,ae,ba]; lia),hD,_,rfl,t3.dk hD,?_⟩;rw[ag,pZ,aL,aL];rfl
  ·rintro D σ H6 hD ⟨_,v,rfl,t3,iA⟩;refine k D H6 t3 hD ?_;rw[iA,ae,← hlen,aZ]
def bg.vs:bg->List V
 | .dM w d u a=>[.str "bill",.str w,.int d,.int u,.int a]
 | .pz w d a=>[.str "pay",.str w,.int d,.int a]
 | .note b d a=>[.str "note",.int b,.int d,.int a]
 | .set c b a=>[.str "set",.int c,.int b,.int a]
 | .bU w=>[.str "sweep",.str w]
 | .gK n=>[.str "undo",.int n]
 | .ask o w d=>[.str (if o then "owed" else "free"),.str w,.int d]
 | .hZ _ _ _=>[]
def jK {x y:Str}(h:x≠y):V.bl (decide (V.str x=V.str y))=V.bl false:=cU V.bl (bL fun z=>h (by injection z))
def A6 (x:Str):V.bl (decide (V.str x=V.str x))=V.bl true:=cU V.bl (aK rfl)
def Uo {x y:Str}(h:x≠y):V.bl (!decide (V.str x=V.str y))=V.bl true:=by rw[show decide (V.str x=V.str y)=false from bL fun z=>h (by injection z)]; rfl
def btN (x:Str):V.bl (!decide (V.str x=V.str x))=V.bl false:=by rw[show decide (V.str x=V.str x)=true from aK rfl]; rfl
def vU {x:Int}{n:Nat}{ta tc:TE}{σ:L2.St}{H:Hp}{Q:Bool->Hp->Prop}(ha: ∀R:VK,R (.int x) H->ta σ H R)(hc: ∀R:VK,R (.int (n:Int)) H->tc σ H R)(q:Q (decide (qG x n)) H):
  IS (IT (Lf fun i j=> .bl (decide (i<=j))) (Lf fun i j=> .bl (decide (i < j))) (tC (.int 0)) ta tc) σ H Q:=by
 refine ha _ ⟨_,_,rfl,rfl,_,rfl,cG (fun d=>hc _ ⟨_,_,rfl,rfl,_,rfl,?_⟩) (fun d=>⟨_,rfl,?_⟩)⟩
 ·have d':(0:Int)<=x:=a6 d;have e:decide (qG x n)=decide (x < (n:Int)):=mP.mpr ⟨fun z=>z.2,fun z=>⟨d',z⟩⟩;rw[e] at q;exact q
 ·have d': ¬ (0:Int)<=x:=fun z=>d (aK z);have e:decide (qG x n)=false:=bL fun z=>d' z.1;rw[e] at q;exact q
inductive vV (vs:List V)(H:Hp)(Q:VK)(E':XK):Prop
 |mk (sd pd:Addr)(S:Bk)(f:fJ)(d:bg)(h1:vs=[.ref sd,.ref pd])(h2:dr H sd S f)(h3:H pd=some (.tup (bg.vs d)))(h4:d.tells=true)(h5: ∀H',aF H H'->Q (.str (S.bar d)) H'):vV vs H Q E'
def nZ:aU ["_law_state","_law_deed","_law_word","_law_spot"] ["_law_state","_law_deed"] (aA (top 58)):={}
def xE (T:Txt K mg):fu P w K mg base "_law_barred" 2 ["_law_state","_law_deed"] vV:=by
 have jo:fu P w K mg base "_law_goes" 1 ["_law_state","_law_credit","_law_bill"] Ad:=nX T;refine T.xu.fQ (k:=1) nZ (fun f cY A outer s H vs Q E hr h=>?_)
 ·obtain⟨sd,pd,S,g,d,rfl,hB,hd,ht,k⟩:=h;have hu:=kK hr;have nd:=nZ.nd;refine⟨_,(ai (sv 2 nd (xt (pv 1) aj))
(ai (sv 3 nd (iq lD (by rfl) T.yB boot_int (aa (fL dg (pv 2) aR (bb _)) aw)))
(ai (bT (PW.pt (pw_and (a0 dg (pv 3) aj (bb _)) (pw_and1 (jw (Bo yd kH aj (xt (pv 1) aj) (oJ T.eE (cH hu (pv 0) aR (fun _ _=>rfl))))))))
(av (a9 aR))
bp)
(ai (bT (PW.pt (pw_and (a0 oF (pv 2) (bS (aa aR (aa aR aw))) (by rfl)) (pw_and1 (jw (Bo yd kH aj (xt (pv 1) (aQ dj aj (pv 3))) (oJ T.eE (cH hu (pv 0) aR (fun _ _=>rfl))))))))
(av (a9 aR))
bp)
(ai (bT (PW.pt (pw_and (a0 dg (pv 2) aR (bb _)) (pw_and1 (jw (fM (fc jo hr (aa (pv 0) (aa (xt (pv 1) aj) (aa (xt (pv 1) aj) aw)))))))))
(av (a9 aR))
bp)
(ai (bT (PW.pt (pw_and (a0 qO (pv 2) aR (bb _)) (pw_and1 (a0 kH (xt (pv 1) (pq k6 aj)) aj (bb _)))))
(av (a9 aR))
bp)
(ai (bT (PW.pt (pw_and (a0 dg (pv 2) aR (bb _)) (pw_and1 (a0 kH (xt (pv 1) aj) (xt (pv 1) aj) (bb _)))))
(av (a9 aR))
bp)
(ai (bT (a0 dg (pv 2) aR (bb _))
(av (bT (a0 jB (xt (pv 1) aj) (gv (sy rfl) (by rfl) T.JQ boot_min (aa (xl (xl (cH hu (pv 0) aR (fun _ _=>rfl)) (xt (pv 1) aj)) aj) (aa (xl (xl (cH hu (pv 0) aR (fun _ _=>rfl)) (xt (pv 1) aj)) aj) aw))) (bb _))
(av (a9 aR))
bp))
bp)
(av (a9 aR)))))))))),?_⟩
  have kk: ∀(t:Str) (H':Hp),S.bar d=t->aF H H'->Q (.str t) H':=fun t H' e z=>e▸k H' z;clear k;cases d with
  |gK n=>cases ht
  |ask o w d=>cases ht
  |hZ w d l=>cases ht
  |dM wh dy du am=>
   refine⟨_,rfl,pd,_,_,.str "bill",rfl,rfl,cE.of hd,rfl,_,rfl,rfl,.inr ⟨false,(by rw[jK (show("bill":Str)≠"set" by decide +kernel)]),?_⟩⟩;refine⟨_,rfl,rfl,false,cU V.bl (by decide +kernel),bX (bX ?_)⟩;refine⟨_,rfl,(by show 2<=sizeLine; decide),fun p9 n9=>⟨p9,_,rfl,.inl (bG.of ag),rfl,rfl,false,cU V.bl (by decide +kernel),bX (bX ?_)⟩⟩;have s9:=aF.new (o:= .lst [V.str "set",.str "note"]) n9;have Cw:=s9 _ _ hd;refine jJ (H':=upd H p9 (.lst [V.str "set",.str "note"])) rfl ?_;generalize upd H p9 (.lst [V.str "set",.str "note"])=H9 at s9 Cw;refine⟨_,rfl,rfl,false,jK (show("bill":Str)≠"set" by decide +kernel),bX (bX ?_)⟩;refine⟨_,rfl,rfl,true,Uo (show("bill":Str)≠"sweep" by decide +kernel),fP ⟨_,rfl,_,rfl,pd,_,_,.int am,rfl,rfl,cE.of Cw,rfl,_,_,rfl,rfl,_,rfl,cG (fun z=>?_) (fun z=>?_)⟩⟩
   ·have z':am < 1:=a6 z;exact kk _ _ (aY z') s9
   have z1: ¬ am < 1:=fun q=>z (aK q);refine⟨_,rfl,rfl,true,A6 _,fP ⟨_,rfl,pd,_,_,.int du,rfl,rfl,cE.of Cw,rfl,_,rfl,pd,_,_,.int dy,rfl,rfl,cE.of Cw,rfl,_,_,rfl,rfl,_,rfl,cG (fun z=>?_) (fun z=>?_)⟩⟩
   ·have z':du < dy:=a6 z;exact kk _ _ ((aN z1).trans (aY z')) s9
   have z2: ¬ du < dy:=fun q=>z (aK q);refine⟨_,rfl,rfl,false,jK (show("bill":Str)≠"set" by decide +kernel),bX ?_⟩;exact kk _ _ ((aN z1).trans (aN z2)) s9
  |pz wh dy am=>
   refine⟨_,rfl,pd,_,_,.str "pay",rfl,rfl,cE.of hd,rfl,_,rfl,rfl,.inr ⟨false,(by rw[jK (show("pay":Str)≠"set" by decide +kernel)]),?_⟩⟩;refine⟨_,rfl,rfl,false,cU V.bl (by decide +kernel),bX (bX ?_)⟩;refine⟨_,rfl,(by show 2<=sizeLine; decide),fun p9 n9=>⟨p9,_,rfl,.inl (bG.of ag),rfl,rfl,false,cU V.bl (by decide +kernel),bX (bX ?_)⟩⟩;have s9:=aF.new (o:= .lst [V.str "set",.str "note"]) n9;have Cw:=s9 _ _ hd;refine jJ (H':=upd H p9 (.lst [V.str "set",.str "note"])) rfl ?_;generalize upd H p9 (.lst [V.str "set",.str "note"])=H9 at s9 Cw;refine⟨_,rfl,rfl,false,jK (show("pay":Str)≠"set" by decide +kernel),bX (bX ?_)⟩;refine⟨_,rfl,rfl,true,Uo (show("pay":Str)≠"sweep" by decide +kernel),fP ⟨_,rfl,_,rfl,pd,_,_,.int am,rfl,rfl,cE.of Cw,rfl,_,_,rfl,rfl,_,rfl,cG (fun z=>?_) (fun z=>?_)⟩⟩
   ·have z':am < 1:=a6 z;exact kk _ _ (aY z') s9
   have z1: ¬ am < 1:=fun q=>z (aK q);refine⟨_,rfl,rfl,false,jK (show("pay":Str)≠"bill" by decide +kernel),bX (bX ?_)⟩;refine⟨_,rfl,rfl,false,jK (show("pay":Str)≠"set" by decide +kernel),bX ?_⟩;exact kk _ _ (aN z1) s9
  |bU wh=>
   refine⟨_,rfl,pd,_,_,.str "sweep",rfl,rfl,cE.of hd,rfl,_,rfl,rfl,.inr ⟨false,(by rw[jK (show("sweep":Str)≠"set" by decide +kernel)]),?_⟩⟩;refine⟨_,rfl,rfl,false,cU V.bl (by decide +kernel),bX (bX ?_)⟩;refine⟨_,rfl,(by show 2<=sizeLine; decide),fun p9 n9=>⟨p9,_,rfl,.inl (bG.of ag),rfl,rfl,false,cU V.bl (by decide +kernel),bX (bX ?_)⟩⟩;have s9:=aF.new (o:= .lst [V.str "set",.str "note"]) n9;refine jJ (H':=upd H p9 (.lst [V.str "set",.str "note"])) rfl ?_;generalize upd H p9 (.lst [V.str "set",.str "note"])=H9 at s9;refine⟨_,rfl,rfl,false,jK (show("sweep":Str)≠"set" by decide +kernel),bX (bX ?_)⟩;refine⟨_,rfl,rfl,false,btN _,bX (bX ?_)⟩;refine⟨_,rfl,rfl,false,jK (show("sweep":Str)≠"bill" by decide +kernel),bX (bX ?_)⟩;refine⟨_,rfl,rfl,false,jK (show("sweep":Str)≠"set" by decide +kernel),bX ?_⟩;exact kk _ _ rfl s9
  |note bi dy am=>
   refine⟨_,rfl,pd,_,_,.str "note",rfl,rfl,cE.of hd,rfl,_,rfl,rfl,.inr ⟨false,(by rw[jK (show("note":Str)≠"set" by decide +kernel)]),?_⟩⟩;refine⟨_,rfl,rfl,false,cU V.bl (by decide +kernel),bX (bX ?_)⟩;refine⟨_,rfl,(by show 2<=sizeLine; decide),fun p9 n9=>⟨p9,_,rfl,.inl (bG.of ag),rfl,rfl,true,cU V.bl (by decide +kernel),fP ?_⟩⟩;have s9:=aF.new (o:= .lst [V.str "set",.str "note"]) n9;have Cw:=s9 _ _ hd;have B9:=hB.same s9;generalize upd H p9 (.lst [V.str "set",.str "note"])=H9 at s9 Cw B9;have hlen:g.iK.length=S.aE.length:=B9.rb.length.symm;refine vU (x:=bi) (n:=S.aE.length) (fun R q=>⟨_,rfl,_,rfl,_,_,rfl,rfl,pd,_,_,.int bi,rfl,rfl,cE.of Cw,rfl,q⟩) (fun R q=>⟨_,rfl,sd,_,rfl,B9.gB,g.pb,_,rfl,.inl (bG.of B9.hb),by rw[ae,hlen]; exact q⟩) (cG (fun z=>?_) (fun z=>?_))
   ·have z': ¬ qG bi S.aE.length:=by simpa using z
    exact kk _ _ (aY z') s9
   have z0: ¬ ¬ qG bi S.aE.length:=by simpa using z
   refine⟨_,rfl,rfl,false,jK (show("note":Str)≠"set" by decide +kernel),bX (bX ?_)⟩;refine⟨_,rfl,rfl,true,Uo (show("note":Str)≠"sweep" by decide +kernel),fP ⟨_,rfl,_,rfl,pd,_,_,.int am,rfl,rfl,cE.of Cw,rfl,_,_,rfl,rfl,_,rfl,cG (fun z=>?_) (fun z=>?_)⟩⟩
   ·have z':am < 1:=a6 z;exact kk _ _ ((aN z0).trans (aY z')) s9
   have z1: ¬ am < 1:=fun q=>z (aK q);refine⟨_,rfl,rfl,false,jK (show("note":Str)≠"bill" by decide +kernel),bX (bX ?_)⟩;refine⟨_,rfl,rfl,false,jK (show("note":Str)≠"set" by decide +kernel),bX ?_⟩;exact kk _ _ ((aN z0).trans (aN z1)) s9
  |set ci bi am=>
   have YQ:g.cps.length=S.credits.length:=hB.rc.length.symm;refine⟨_,rfl,pd,_,_,.str "set",rfl,rfl,cE.of hd,rfl,_,rfl,rfl,.inr ⟨true,(by rw[A6]),?_⟩⟩;refine⟨_,rfl,rfl,true,cU V.bl (by decide +kernel),fP ?_⟩;refine vU (x:=ci) (n:=S.credits.length) (fun R q=>⟨_,rfl,pd,_,_,.int ci,rfl,rfl,cE.of hd,rfl,q⟩) (fun R q=>⟨_,rfl,sd,_,rfl,hB.gC,g.pc,_,rfl,.inl (bG.of hB.hc),by rw[ae,YQ]; exact q⟩) (cG (fun z=>?_) (fun z=>?_))
   ·have z': ¬ qG ci S.credits.length:=by simpa using z
    exact kk _ _ (aY z') (aF.refl _)
   have zc: ¬ ¬ qG ci S.credits.length:=by simpa using z
   refine⟨_,rfl,(by show 2<=sizeLine; decide),fun p9 n9=>⟨p9,_,rfl,.inl (bG.of ag),rfl,rfl,true,cU V.bl (by decide +kernel),fP ?_⟩⟩;have s9:=aF.new (o:= .lst [V.str "set",.str "note"]) n9;have Cw:=s9 _ _ hd;have B9:=hB.same s9;generalize upd H p9 (.lst [V.str "set",.str "note"])=H9 at s9 Cw B9;have hlen:g.iK.length=S.aE.length:=B9.rb.length.symm;refine vU (x:=bi) (n:=S.aE.length) (fun R q=>⟨_,rfl,_,rfl,_,_,rfl,rfl,pd,_,_,.int bi,rfl,rfl,cE.of Cw,rfl,q⟩) (fun R q=>⟨_,rfl,sd,_,rfl,B9.gB,g.pb,_,rfl,.inl (bG.of B9.hb),by rw[ae,hlen]; exact q⟩) (cG (fun z=>?_) (fun z=>?_))
   ·have z': ¬ qG bi S.aE.length:=by simpa using z
    exact kk _ _ ((aN zc).trans (aY z')) s9
   have zb: ¬ ¬ qG bi S.aE.length:=by simpa using z
   have ic:=Gh.mp zc;have ib:=Gh.mp zb;obtain⟨c,rfl⟩:=cA ic.1;obtain⟨b,rfl⟩:=cA ib.1;have hc:c < S.credits.length:=by have:=ic.2; lia
   have hb:b < S.aE.length:=by have:=ib.2; lia
   refine⟨_,rfl,rfl,true,A6 _,fP ⟨_,rfl,_,rfl,pd,_,_,.int (c:Int),rfl,rfl,cE.of Cw,rfl,_,rfl,pd,_,_,.int (b:Int),rfl,rfl,cE.of Cw,rfl,sd,S,g,c,b,rfl,B9,hc,hb,fun Up Kk=>⟨_,rfl,cG (fun z=>?_) (fun z=>?_)⟩⟩⟩
   ·have z':S.de c b=false:=by simpa using z
    exact kk _ _ ((if_neg zc).trans ((if_neg zb).trans (if_pos (by simpa using z')))) (s9.trans Kk)
   have zg: ¬ S.de (c:Int).toNat (b:Int).toNat=false:=by simpa using z
   have MV:=Kk _ _ Cw;have RJ:=B9.same Kk;have Cy:=s9.trans Kk;refine⟨_,rfl,rfl,true,Uo (show("set":Str)≠"sweep" by decide +kernel),fP ⟨_,rfl,_,rfl,pd,_,_,.int am,rfl,rfl,cE.of MV,rfl,_,_,rfl,rfl,_,rfl,cG (fun z=>?_) (fun z=>?_)⟩⟩
   ·have z':am < 1:=a6 z;exact kk _ _ ((aN zc).trans ((aN zb).trans ((aN zg).trans (aY z')))) Cy
   have z1: ¬ am < 1:=fun q=>z (aK q);refine⟨_,rfl,rfl,false,jK (show("set":Str)≠"bill" by decide +kernel),bX (bX ?_)⟩;obtain⟨p,_,ap,hp⟩:=RJ.lc hc;obtain⟨q,_,aq,hq⟩:=RJ.lb hb;refine⟨_,rfl,rfl,true,A6 _,fP ?_⟩;refine⟨_,rfl,pd,_,_,.int am,rfl,rfl,cE.of MV,rfl,_,rfl,sd,_,rfl,RJ.gC,_,rfl,pd,_,_,.int (c:Int),rfl,rfl,cE.of MV,rfl,g.pc,_,_,.ref p,rfl,rfl,bG.of RJ.hc,ap,p,_,_,.int (S.cr c).d,rfl,rfl,bG.of hp,rfl,?_⟩;refine⟨_,rfl,sd,_,rfl,RJ.gB,_,rfl,pd,_,_,.int (b:Int),rfl,rfl,cE.of MV,rfl,g.pb,_,_,.ref q,rfl,rfl,bG.of RJ.hb,aq,q,_,_,.int (S.bl b).d,rfl,rfl,bG.of hq,rfl,_,_,rfl,_,_,rfl,rfl,_,rfl,cG (fun z=>?_) (fun z=>?_)⟩
   ·have z':eR (S.cr (c:Int).toNat).d (S.bl (b:Int).toNat).d < am:=a6 z;exact kk _ _ ((aN zc).trans ((aN zb).trans ((aN zg).trans ((aN z1).trans (aY z'))))) Cy
   ·have z': ¬ eR (S.cr (c:Int).toNat).d (S.bl (b:Int).toNat).d < am:=fun q=>z (aK q);exact kk _ _ ((aN zc).trans ((aN zb).trans ((aN zg).trans ((aN z1).trans (aN z'))))) Cy
def Qe (H:Hp)(f f':fJ):Prop:= ∀x∈f'.fp,x∈f.fp∨H x=none
def YR (Q:VK)(H:Hp)(sd:Addr)(S:Bk)(f:fJ)(d:bg):Prop:=
 ∀v f' H',Frame f.fp H H'->dr H' sd (S.enter d) f'->Qe H f f'->Rp H' (S.Jz d).dt v->Q v H'
inductive uD (vs:List V)(H:Hp)(Q:VK)(E':XK):Prop
 |mk (sd pd:Addr)(S:Bk)(f:fJ)(d:bg)(h1:vs=[.ref sd,.ref pd])(h2:dr H sd S f)(h3:H pd=some (.tup (bg.vs d)))(h4:d.tells=true)(h5:S.credits.length < 64)(h6:S.aE.length < 64)(h7:S.made.length + 10000 < sizeLine)(h8:(S.bar d≠""-> ∀H',aF H H'->Q (.str (S.bar d)) H'))(h9:(S.bar d=""->YR Q H sd S f d)):uD vs H Q E'
def pF:aU ["_law_state","_law_deed","_law_text","_law_who"] ["_law_state","_law_deed"] (aA (top 59)):={}
def rJ (T:Txt K mg):fu P w K mg base "_law_enter" 3 ["_law_state","_law_deed"] uD:=by
 have xF:fu P w K mg base "_law_barred" 2 ["_law_state","_law_deed"] vV:=xE T;have qr:fu P w K mg base "_law_put" 1 ["_law_state","_law_credit","_law_bill","_law_amount"] Ct:=vQ T;have mv:fu P w K mg base "_law_swept" 2 ["_law_state","_law_who"] Ah:=rH T;refine T.zK.fQ (k:=2) pF (fun f cY A outer s H vs Q E hr h=>?_)
 ·obtain⟨sd,pd,S,g,d,rfl,hB,hd,ht,rg,HB,Iz,kn,ky⟩:=h;have hu:=kK hr;have nd:=pF.nd;refine⟨_,(ai (sv 2 nd (fc xF hr (aa (pv 0) (aa (pv 1) aw))))
(ai (bT (a0 qO (pv 2) aR (bb _))
(av (a9 (pv 2)))
bp)
(ai (bT (a0 dg (xt (pv 1) aj) aR (bb _))
(ai (bM (qo (cH hu (pv 0) aR (fun _ _=>rfl)) (bS (aa (xt (pv 1) aj) (aa (xt (pv 1) aj) (aa (xt (pv 1) aj) (aa (xt (pv 1) aj) (aa (xt (pv 1) aj) aw))))))))
(av (a9 (aQ fN (oJ T.eE (cH hu (pv 0) aR (fun _ _=>rfl))) aj))))
bp)
(ai (bT (a0 dg (xt (pv 1) aj) aR (bb _))
(ai (bM (qo (cH hu (pv 0) aR (fun _ _=>rfl)) (bS (aa (xt (pv 1) aj) (aa (xt (pv 1) aj) (aa (xt (pv 1) aj) (aa (pq k6 aj) (aa (xt (pv 1) aj) aw))))))))
(av (a9 (aQ fN (oJ T.eE (cH hu (pv 0) aR (fun _ _=>rfl))) aj))))
bp)
(ai (bT (a0 dg (xt (pv 1) aj) aR (bb _))
(ai (sv 3 nd (xl (xl (cH hu (pv 0) aR (fun _ _=>rfl)) (xt (pv 1) aj)) aj))
(ai (bM (qo (cH hu (pv 0) aR (fun _ _=>rfl)) (bS (aa (pv 3) (aa (xt (pv 1) aj) (aa (xt (pv 1) aj) (aa (xt (pv 1) aj) (aa (xt (pv 1) aj) aw))))))))
(av (a9 (aQ fN (oJ T.eE (cH hu (pv 0) aR (fun _ _=>rfl))) aj)))))
bp)
(ai (bT (a0 dg (xt (pv 1) aj) aR (bb _))
(ai (bM (fc qr hr (aa (pv 0) (aa (xt (pv 1) aj) (aa (xt (pv 1) aj) (aa (xt (pv 1) aj) aw))))))
(av (a9 (xt (pv 1) aj))))
bp)
(av (a9 (fc mv hr (aa (pv 0) (aa (xt (pv 1) aj) aw))))))))))),?_⟩
  refine⟨_,rfl,_,rfl,sd,pd,S,g,d,rfl,hB,hd,ht,fun H1 s1=>?_⟩;by_cases o7:S.bar d=""
  case neg=>exact⟨_,rfl,rfl,true,Uo o7,fP ⟨_,rfl,kn o7 H1 s1⟩⟩
  refine⟨_,rfl,rfl,false,(by rw[o7]; exact btN _),bX ?_⟩;have B1:=hB.same s1;have ma:=s1 _ _ hd;have Uq: ∀v f' H',Frame g.fp H1 H'->dr H' sd (S.enter d) f'->Qe H1 g f'->Rp H' (S.Jz d).dt v->Q v H':=fun v f' H' fr b fi r=>ky o7 v f' H' (fr.mq s1) b (fun x hx=>(fi x hx).elim .inl fun z=> .inr (s1.free z)) r;clear ky kn;have lb:=B1.rb.length;have lc:=B1.rc.length;cases d with
  |gK n=>cases ht
  |ask o w d=>cases ht
  |hZ w d l=>cases ht
  |dM wh dy du am=>
   refine⟨_,rfl,pd,_,_,.str "bill",rfl,rfl,cE.of ma,rfl,rfl,true,A6 _,fP ?_⟩;refine⟨_,rfl,sd,_,rfl,B1.gB,.inl ⟨rfl,_,bG.of B1.hb⟩,_,rfl,pd,_,_,.str wh,rfl,rfl,cE.of ma,rfl,_,rfl,pd,_,_,.int dy,rfl,rfl,cE.of ma,rfl,_,rfl,pd,_,_,.int du,rfl,rfl,cE.of ma,rfl,_,rfl,pd,_,_,.int am,rfl,rfl,cE.of ma,rfl,_,rfl,pd,_,_,.int am,rfl,rfl,cE.of ma,rfl,(by show 5<=sizeLine; decide),fun pr nr=>?_⟩;have t1:=aF.new (o:= .lst (Rw.vs ⟨wh,dy,du,am,am⟩)) nr;refine⟨g.pb,_,_,rfl,rfl,t1 _ _ B1.hb,bf (by rw[ae]; lia),?_⟩;have B2:=B1.iz (r:=⟨wh,dy,du,am,am⟩) nr;have F2:Frame g.fp H1 (upd (upd H1 pr (.lst (Rw.vs ⟨wh,dy,du,am,am⟩))) g.pb (.lst (g.iK.map V.ref ++ [.ref pr]))):=t1.frame.tr (Frame.upd (by simp[fJ.fp]));refine jJ (H':=upd (upd H1 pr (.lst (Rw.vs ⟨wh,dy,du,am,am⟩))) g.pb (.lst (g.iK.map V.ref ++ [.ref pr]))) rfl ?_;generalize upd (upd H1 pr (.lst (Rw.vs ⟨wh,dy,du,am,am⟩))) g.pb (.lst (g.iK.map V.ref ++ [.ref pr]))=H2 at B2 F2;refine⟨_,rfl,sd,_,rfl,B2.gB,_,_,rfl,.inl (bG.of B2.hb),_,_,rfl,rfl,?_⟩;refine Uq _ (g.iz pr) H2 F2 B2 (fun x hx=>?_) (dA.mpr ?_)
   ·rcases au.mp ((g.JU pr).mem_iff.mp hx) with rfl|hx
    ·exact .inr nr
    ·exact .inl hx
   ·show V.int _ =V.int (S.aE.length:Int)
    congr 1
    rw[ae];show((g.iK ++ [pr]).length:Int) - 1=_;rw[ax,lb];simp
  |pz wh dy am=>
   refine⟨_,rfl,pd,_,_,.str "pay",rfl,rfl,cE.of ma,rfl,rfl,false,jK (show("pay":Str)≠"bill" by decide +kernel),bX ?_⟩;refine⟨_,rfl,pd,_,_,.str "pay",rfl,rfl,cE.of ma,rfl,rfl,true,A6 _,fP ?_⟩;refine⟨_,rfl,sd,_,rfl,B1.gC,.inl ⟨rfl,_,bG.of B1.hc⟩,_,rfl,pd,_,_,.str wh,rfl,rfl,cE.of ma,rfl,_,rfl,pd,_,_,.int dy,rfl,rfl,cE.of ma,rfl,_,rfl,pd,_,_,.int am,rfl,rfl,cE.of ma,rfl,_,rfl,_,rfl,pd,_,_,.int am,rfl,rfl,cE.of ma,rfl,(by show 5<=sizeLine; decide),fun pr nr=>?_⟩;have t1:=aF.new (o:= .lst (Rw.vs ⟨wh,dy,am,-1,am⟩)) nr;refine⟨g.pc,_,_,rfl,rfl,t1 _ _ B1.hc,bf (by rw[ae]; lia),?_⟩;have B2:=B1.fU (r:=⟨wh,dy,am,-1,am⟩) nr;have F2:Frame g.fp H1 (upd (upd H1 pr (.lst (Rw.vs ⟨wh,dy,am,-1,am⟩))) g.pc (.lst (g.cps.map V.ref ++ [.ref pr]))):=t1.frame.tr (Frame.upd (by simp[fJ.fp]));refine jJ (H':=upd (upd H1 pr (.lst (Rw.vs ⟨wh,dy,am,-1,am⟩))) g.pc (.lst (g.cps.map V.ref ++ [.ref pr]))) rfl ?_;generalize upd (upd H1 pr (.lst (Rw.vs ⟨wh,dy,am,-1,am⟩))) g.pc (.lst (g.cps.map V.ref ++ [.ref pr]))=H2 at B2 F2;refine⟨_,rfl,sd,_,rfl,B2.gC,_,_,rfl,.inl (bG.of B2.hc),_,_,rfl,rfl,?_⟩;refine Uq _ (g.fU pr) H2 F2 B2 (fun x hx=>?_) (dA.mpr ?_)
   ·rcases au.mp ((g.Fx pr).mem_iff.mp hx) with rfl|hx
    ·exact .inr nr
    ·exact .inl hx
   ·show V.int _ =V.int (S.credits.length:Int)
    congr 1
    rw[ae];show((g.cps ++ [pr]).length:Int) - 1=_;rw[ax,lc];simp
  |note bi dy am=>
   obtain⟨ib,ia⟩:=oG o7;obtain⟨b,rfl⟩:=cA ib.1;have hb:b < S.aE.length:=by have:=ib.2; lia
   obtain⟨q,_,aq,hq⟩:=B1.lb hb;refine⟨_,rfl,pd,_,_,.str "note",rfl,rfl,cE.of ma,rfl,rfl,false,jK (show("note":Str)≠"bill" by decide +kernel),bX ?_⟩;refine⟨_,rfl,pd,_,_,.str "note",rfl,rfl,cE.of ma,rfl,rfl,false,jK (show("note":Str)≠"pay" by decide +kernel),bX ?_⟩;refine⟨_,rfl,pd,_,_,.str "note",rfl,rfl,cE.of ma,rfl,rfl,true,A6 _,fP ?_⟩;refine⟨_,rfl,sd,_,rfl,B1.gB,_,rfl,pd,_,_,.int (b:Int),rfl,rfl,cE.of ma,rfl,g.pb,_,_,.ref q,rfl,rfl,bG.of B1.hb,aq,q,_,_,.str (S.bl b).aH,rfl,rfl,bG.of hq,rfl,?_⟩;refine⟨_,rfl,sd,_,rfl,B1.gC,.inl ⟨rfl,_,bG.of B1.hc⟩,_,rfl,_,rfl,pd,_,_,.int dy,rfl,rfl,cE.of ma,rfl,_,rfl,pd,_,_,.int am,rfl,rfl,cE.of ma,rfl,_,rfl,pd,_,_,.int (b:Int),rfl,rfl,cE.of ma,rfl,_,rfl,pd,_,_,.int am,rfl,rfl,cE.of ma,rfl,(by show 5<=sizeLine; decide),fun pr nr=>?_⟩;have t1:=aF.new (o:= .lst (Rw.vs ⟨(S.bl b).aH,dy,am,b,am⟩)) nr;refine⟨g.pc,_,_,rfl,rfl,t1 _ _ B1.hc,bf (by rw[ae]; lia),?_⟩;have B2:=B1.fU (r:=⟨(S.bl b).aH,dy,am,b,am⟩) nr;have F2:Frame g.fp H1 (upd (upd H1 pr (.lst (Rw.vs ⟨(S.bl b).aH,dy,am,b,am⟩))) g.pc (.lst (g.cps.map V.ref ++ [.ref pr]))):=t1.frame.tr (Frame.upd (by simp[fJ.fp]));refine jJ (H':=upd (upd H1 pr (.lst (Rw.vs ⟨(S.bl b).aH,dy,am,b,am⟩))) g.pc (.lst (g.cps.map V.ref ++ [.ref pr]))) rfl ?_;generalize upd (upd H1 pr (.lst (Rw.vs ⟨(S.bl b).aH,dy,am,b,am⟩))) g.pc (.lst (g.cps.map V.ref ++ [.ref pr]))=H2 at B2 F2;refine⟨_,rfl,sd,_,rfl,B2.gC,_,_,rfl,.inl (bG.of B2.hc),_,_,rfl,rfl,?_⟩;refine Uq _ (g.fU pr) H2 F2 B2 (fun x hx=>?_) (dA.mpr ?_)
   ·rcases au.mp ((g.Fx pr).mem_iff.mp hx) with rfl|hx
    ·exact .inr nr
    ·exact .inl hx
   ·show V.int _ =V.int (S.credits.length:Int)
    congr 1
    rw[ae];show((g.cps ++ [pr]).length:Int) - 1=_;rw[ax,lc];simp
  |set ci bi am=>
   obtain⟨ic,ib,_,_,_,_⟩:=lI o7;obtain⟨c,rfl⟩:=cA ic.1;obtain⟨b,rfl⟩:=cA ib.1;have hc:c < S.credits.length:=by have:=ic.2; lia
   have hb:b < S.aE.length:=by have:=ib.2; lia
   refine⟨_,rfl,pd,_,_,.str "set",rfl,rfl,cE.of ma,rfl,rfl,false,jK (show("set":Str)≠"bill" by decide +kernel),bX ?_⟩;refine⟨_,rfl,pd,_,_,.str "set",rfl,rfl,cE.of ma,rfl,rfl,false,jK (show("set":Str)≠"pay" by decide +kernel),bX ?_⟩;refine⟨_,rfl,pd,_,_,.str "set",rfl,rfl,cE.of ma,rfl,rfl,false,jK (show("set":Str)≠"note" by decide +kernel),bX ?_⟩;refine⟨_,rfl,pd,_,_,.str "set",rfl,rfl,cE.of ma,rfl,rfl,true,A6 _,fP ?_⟩;refine⟨_,rfl,_,rfl,pd,_,_,.int (c:Int),rfl,rfl,cE.of ma,rfl,_,rfl,pd,_,_,.int (b:Int),rfl,rfl,cE.of ma,rfl,_,rfl,pd,_,_,.int am,rfl,rfl,cE.of ma,rfl,sd,S,g,c,b,am,rfl,B1,hc,hb,by lia,fun H2 F2 B2=>?_⟩;have hd2:=B1.tk F2 _ _ ma;refine⟨_,rfl,pd,_,_,.int am,rfl,rfl,cE.of hd2,rfl,?_⟩;exact Uq _ g H2 F2 B2 (fun x hx=> .inl hx) (dA.mpr rfl)
  |bU wh=>
   refine⟨_,rfl,pd,_,_,.str "sweep",rfl,rfl,cE.of ma,rfl,rfl,false,jK (show("sweep":Str)≠"bill" by decide +kernel),bX ?_⟩;refine⟨_,rfl,pd,_,_,.str "sweep",rfl,rfl,cE.of ma,rfl,rfl,false,jK (show("sweep":Str)≠"pay" by decide +kernel),bX ?_⟩;refine⟨_,rfl,pd,_,_,.str "sweep",rfl,rfl,cE.of ma,rfl,rfl,false,jK (show("sweep":Str)≠"note" by decide +kernel),bX ?_⟩;refine⟨_,rfl,pd,_,_,.str "sweep",rfl,rfl,cE.of ma,rfl,rfl,false,jK (show("sweep":Str)≠"set" by decide +kernel),bX ?_⟩;refine⟨_,rfl,_,rfl,pd,_,_,.str wh,rfl,rfl,cE.of ma,rfl,sd,S,g,wh,rfl,B1,rg,HB,Iz,fun D ms H2 F2 B2 nD hD hT=>?_⟩;exact Uq _ g H2 F2 B2 (fun x hx=> .inl hx) (jX.mpr ⟨D,ms,rfl,hD,hT.Lq⟩)
def bg.word:bg->Str
 | .dM _ _ _ _=>"bill"
 | .pz _ _ _=>"pay"
 | .note _ _ _=>"note"
 | .set _ _ _=>"set"
 | .bU _=>"sweep"
 | .gK _=>"undo"
 | .ask o _ _=>if o then "owed" else "free"
 | .hZ _ _ _=>"ages"
def uE {d:bg}(h:d.tells=true∨ ∃m,d= .gK m): ∃r,bg.vs d= .str (bg.word d) :: r:=by
 cases d with
 |hZ w d l=>rcases h with h|⟨m,h⟩ <;> cases h
 |_=>exact⟨_,rfl⟩
def FF {d:bg}(h:d.tells=true):wZ (.str (bg.word d)) [.str "set",.str "sweep"]=d.isSet:=by
 cases d with
 |dM _ _ _ _=>show wZ (.str "bill") _ =false; decide +kernel
 |pz _ _ _=>show wZ (.str "pay") _ =false; decide +kernel
 |note _ _ _=>show wZ (.str "note") _ =false; decide +kernel
 |set _ _ _=>show wZ (.str "set") _ =true; decide +kernel
 |bU _=>show wZ (.str "sweep") _ =true; decide +kernel
 |gK _=>cases h
 |ask _ _ _=>cases h
 |hZ _ _ _=>cases h
def gS (H:Hp)(ss:List (Int×bg))(vs:List V):Prop:=Paired (fun(st:Int×bg) v=> ∃p pd,v= .ref p/\H p=some (.tup [.int st.1,.ref pd])/\H pd=some (.tup (bg.vs st.2))/\st.2.tells=true) ss vs
def gS.mono {H H':Hp}{ss:List (Int×bg)}{vs:List V}(h:gS H ss vs)(k:cI H H'):gS H' ss vs:=
 Paired.gX h fun _ _ ⟨p,pd,e,q1,q2,t⟩=>⟨p,pd,e,k _ _ q1,k _ _ q2,t⟩
inductive vW (vs:List V)(H:Hp)(Q:VK)(E':XK):Prop
 |mk (ps:Addr)(ss:List (Int×bg))(us:List V)(h1:vs=[.ref ps])(h2:H ps=some (.lst us))(h3:gS H ss us)(h4:ss.length<=59)(h5:(cy ss Bk.new=none-> ∀H',aF H H'->Q .eA H'))(h6:(∀S,cy ss Bk.new=some S-> ∀sd f H',aF H H'->dr H' sd S f->(∀b∈f.fp,H b=none)->Q (.ref sd) H')):vW vs H Q E'
def oa:aU ["_law_steps","_law_state","_law_number","_law_deed"] ["_law_steps"] (aA (top 60)):={}
def xG (T:Txt K mg):fu P w K mg base "_law_worked" 4 ["_law_steps"] vW:=by
 have mx:fu P w K mg base "_law_begun" 1 [] FA:=rE T;have my:fu P w K mg base "_law_enter" 3 ["_law_state","_law_deed"] uD:=rJ T;refine T.xv.fQ (k:=3) oa (fun f cY A outer s H vs Q E hr h=>?_)
 ·obtain⟨ps,ss,us,rfl,mZ,MW,hl,kn,ky⟩:=h;have nd:=oa.nd;have hlen:=aO MW;refine⟨_,(ai (sv 1 nd (Jn mx (hr.mono (by decide)) rfl))
(ai (eJ bB rfl (rh (pv 0)) (gT (bW (gn 2 nd) (bW (gn 3 nd) gq)))
(av (bT (fM (vB T.dz T.Fv boot_str (fc my hr (aa (pv 1) (aa (pv 3) aw)))))
(av (a9 DD))
bp)))
(av (a9 (pv 1))))),?_⟩
  refine⟨rfl,fun sd f0 H1 s1 B1 MD nf=>?_⟩;refine⟨_,rfl,ps,rfl,⟨_,bG.of (s1 _ _ mZ)⟩,?_⟩;refine fA (K:=K) (a:=ps) (xs:=us) (fun i σ H2=> ∃(S:Bk) (f:fJ) (x2 x3:Option V),σ=[some (.ref ps),some (.ref sd),x2,x3]/\aF H H2/\dr H2 sd S f/\(∀b∈f.fp,H b=none)/\WF S i/\cy ss Bk.new=cy (ss.drop i) S)
   ⟨Bk.new,f0,none,none,rfl,s1,B1,nf,WF.new,rfl⟩ (fun i σ H2 _ ⟨_,_,_,_,_,s2,_⟩=>bG.of (s2 _ _ mZ)) ?_ ?_
  ·rintro i x σ H2 hx ⟨S,f2,x2,x3,rfl,s2,B2,Wt,wf,hw⟩;have hi:i < ss.length:=by have:=(ah.mp hx).1; lia
   obtain⟨v,hv,p,pd,rfl,hp,IA,ht⟩:=bK MW (af hi);rw[hx] at hv;obtain rfl:x= .ref p:=aG hv;have hdr:=jv hi;rw[hdr] at hw;generalize ss[i]=st at hp IA ht hw;obtain⟨n,d⟩:=st;have yn:=s2 _ _ hp;have Qf:=s2 _ _ IA;refine⟨p,_,rfl,cE.of yn,rfl,_,_,rfl,_,_,rfl,rfl,?_⟩;refine⟨_,rfl,_,rfl,sd,pd,S,f2,d,rfl,B2,Qf,ht,by have:=wf.lc; lia,by have:=wf.lb; lia,by have:=wf.lm; rw[eP]; lia,fun hb H3 s3=>?_,fun hb v f3 H3 F3 B3 fi r=>?_⟩
   ·refine⟨_,_,_,true,rfl,.str _,yt (.str (S.bar d)),_,rfl,fP ?_⟩;refine kn ?_ _ (s2.trans s3);rw[hw];show(if S.bar d="" then _ else none)=none;rw[aN hb]
   ·have hS:V9 (S.Jz d).dt=false:=by cases d <;> first|rfl|cases ht
    refine⟨_,_,_,false,rfl,r.ty,(yt _).trans (cU some hS),_,rfl,bX ?_⟩;refine⟨S.enter d,f3,_,_,rfl,F3.same s2 Wt,B3,fun b l8=>?_,wf.enter (by lia) hb,?_⟩
    ·rcases fi b l8 with z|z
     ·exact Wt b z
     ·exact s2.free z
    ·rw[hw];show(if S.bar d="" then _ else none)=_;rw[aY hb]
  ·rintro σ H2 ⟨S,f2,x2,x3,rfl,s2,B2,Wt,wf,hw⟩;rw[← hlen,List.drop_length] at hw;exact⟨_,rfl,ky S hw sd f2 H2 s2 B2 Wt⟩
inductive FG (vs:List V)(H:Hp)(Q:VK)(E':XK):Prop
 |mk (pd:Addr)(wd:Str)(r:List V)(h1:vs=[.ref pd])(h2:H pd=some (.tup (.str wd :: r)))(h3: ∀H',aF H H'->Q (.bl (wZ (.str wd) [.str "bill",.str "pay",.str "note",.str "set",.str "sweep"])) H'):FG vs H Q E'
def xH:aU ["_law_deed"] ["_law_deed"] (aA (top 61)):={}
def Ai (T:Txt K mg):fu P w K mg base "_law_tells" 1 ["_law_deed"] FG:=by
 refine T.zL.fQ (k:=0) xH (fun f cY A outer s H vs Q E hr h=>?_)
 ·obtain⟨pd,wd,r,rfl,hd,k⟩:=h;refine⟨_,(av (a9 (fL oF (xt (pv 0) aj) (bS (aa aR (aa aR (aa aR (aa aR (aa aR aw)))))) (by rfl)))),?_⟩;refine⟨_,rfl,pd,_,_,.str wd,rfl,rfl,cE.of hd,cw (j:=0) rfl,(by show 5<=sizeLine; decide),fun p9 n9=>⟨p9,_,rfl,.inl (bG.of ag),rfl,rfl,?_⟩⟩;exact k _ (aF.new n9)
def N7 (Q:VK)(H:Hp)(ps:Addr)(f:fJ)(r:mT×gZ):Prop:=
 ∀(t:Addr) (v:V) (vX Dq:Addr) (f':fJ) (Aj:List V) (H':Hp),H' t=some (.tup [v,.ref vX,.ref Dq])->Rp H' r.1.dt v->H' vX=some (.lst Aj)->gS H' r.2.steps Aj->dr H' Dq r.2.bk f'->Frame f.fp H H'->Qe H f f'->vX∉f'.fp->(∀a o,a∉f.fp->H a=some o->vX=a->vX=ps)->Q (.ref t) H'
inductive Kl (vs:List V)(H:Hp)(Q:VK)(E':XK):Prop
 |mk (ps sd pd:Addr)(n:Nat)(T:gZ)(us:List V)(f:fJ)(d:bg)(h1:vs=[.ref ps,.ref sd,.int n,.ref pd])(h2:H ps=some (.lst us))(h3:gS H T.steps us)(h4:dr H sd T.bk f)(h5:ps∉f.fp)(h6:H pd=some (.tup (bg.vs d)))(h7:(d.tells=true∨ ∃m,d= .gK m))(h8:Good T n)(h9:n<=59)(Lj:N7 Q H ps f (cV T n d)):Kl vs H Q E'
def vY {T:gZ}{n:Int}{d:bg}(h:d.tells=true):cV T n d=if T.bk.bar d="" then(T.bk.Jz d,(⟨T.steps ++ [(n,d)],T.bk.enter d⟩:gZ)) else(.txt (T.bk.bar d),T):=by
 cases d <;> first|rfl|cases h
def rK:aU ["_law_steps","_law_state","_law_number","_law_deed","_law_rest","_law_step","_law_later","_law_answer"] ["_law_steps","_law_state","_law_number","_law_deed"] (aA (top 62)):={}
def gH {α:Type}(p:α->Bool){l:List α}{i:Nat}{x:α}(h:l[i]? =some x):(l.take (i + 1)).filter p=(l.take i).filter p ++ (if p x=true then[x] else[]):=by
 rw[Gg,h,gj]
 congr 1
 show[x].filter p=_;by_cases c:p x=true
 ·rw[aY c,cO c]; rfl
 ·rw[aN c,kA c]; rfl
def Cz (T:Txt K mg):fu P w K mg base "_law_done" 5 ["_law_steps","_law_state","_law_number","_law_deed"] Kl:=by
 have xI:fu P w K mg base "_law_worked" 4 ["_law_steps"] vW:=xG T;have my:fu P w K mg base "_law_enter" 3 ["_law_state","_law_deed"] uD:=rJ T;refine T.BS.fQ (k:=4) rK (fun f cY A outer s H vs Q E hr h=>?_)
 ·obtain⟨ps,sd,pd,n,T0,us,g,d,rfl,mZ,MW,hB,HE,hd,hk,good,hn,k⟩:=h;have nd:=rK.nd;have hlen:=aO MW;have hT:=good.len;obtain⟨rr,hvs⟩:=uE hk;have Wu:H pd=some (.tup (.str (bg.word d) :: rr)):=hvs▸hd;refine⟨_,(ai (bT (a0 dg (xt (pv 3) aj) aR (bb _))
(ai (sv 4 nd (bS aw))
(ai (eJ bB rfl (rh (pv 0)) (gn 5 nd)
(av (bT (PW.pt (pw_or (a0 qO (xt (pv 5) aj) (xt (pv 3) aj) (bb _)) (pw_or1 (a0 zd (xt (xt (pv 5) aj) aj) (bS (aa aR (aa aR aw))) (by rfl)))))
(av (bM (qo (pv 4) (pv 5))))
bp)))
(ai (bT (a0 dg (oJ T.eE (pv 4)) (oJ T.eE (pv 0)) (bb _))
(av (a9 (cK (aa aR (aa (pv 0) (aa (pv 1) aw))))))
bp)
(ai (sv 6 nd (fc xI hr (aa (pv 4) aw)))
(ai (bT (y0 (II (pv 6)))
(av (a9 (cK (aa aR (aa (pv 0) (aa (pv 1) aw))))))
bp)
(av (a9 (cK (aa aR (aa (pv 4) (aa (pv 6) aw)))))))))))
bp)
(ai (sv 7 nd (fc my hr (aa (pv 1) (aa (pv 3) aw))))
(ai (bT (fM (vB T.dz T.Fv boot_str (pv 7)))
(av (a9 (cK (aa (pv 7) (aa (pv 0) (aa (pv 1) aw))))))
bp)
(av (a9 (cK (aa (pv 7) (aa (aQ k8 (pv 0) (bS (aa (cK (aa (pv 2) (aa (pv 3) aw))) aw))) (aa (pv 1) aw))))))))),?_⟩
  refine⟨_,rfl,pd,_,_,.str (bg.word d),rfl,rfl,cE.of Wu,cw (j:=0) rfl,rfl,?_⟩;clear Wu hvs rr;by_cases ht:d.tells=true
  ·
   have hw:bg.word d≠"undo":=by
    cases d with
    |gK m=>cases ht
    |ask _ _ _=>cases ht
    |hZ _ _ _=>cases ht
    |dM _ _ _ _=>show("bill":Str)≠"undo"; decide +kernel
    |pz _ _ _=>show("pay":Str)≠"undo"; decide +kernel
    |note _ _ _=>show("note":Str)≠"undo"; decide +kernel
    |set _ _ _=>show("set":Str)≠"undo"; decide +kernel
    |bU _=>show("sweep":Str)≠"undo"; decide +kernel
   refine⟨false,jK hw,bX ?_⟩;have wf:=good.wf (by lia);rw[vY ht] at k;refine⟨_,rfl,_,rfl,sd,pd,T0.bk,g,d,rfl,hB,hd,ht,by have:=wf.lc; lia,by have:=wf.lb; lia,by have:=wf.lm; rw[eP]; lia,fun hb H3 s3=>?_,fun hb v f3 H3 F3 B3 fi r=>?_⟩
   ·rw[aN hb] at k;refine⟨_,rfl,_,_,_,true,rfl,.str _,yt (.str (T0.bk.bar d)),_,rfl,fP ?_⟩;refine⟨_,rfl,_,rfl,_,rfl,(by show 3<=sizeLine; decide),fun t nt=>?_⟩;have s4:=s3.trans (aF.new (o:= .tup [V.str (T0.bk.bar d),.ref ps,.ref sd]) nt);exact k t _ ps sd g us _ ag (fj.mpr rfl) (s4 _ _ mZ) (MW.mono s4.tk) (hB.same s4) s4.frame (fun x hx=> .inl hx) HE (fun _ _ _ _ _=>rfl)
   ·rw[aY hb] at k;have hS:V9 (T0.bk.Jz d).dt=false:=by cases d <;> first|rfl|cases ht
    refine⟨_,rfl,_,_,_,false,rfl,r.ty,(yt _).trans (cU some hS),_,rfl,bX ?_⟩;have tk3:=hB.tk F3;have HF:=F3 _ _ HE mZ;have YS:=MW.mono tk3;have N8:=tk3 _ _ hd;refine⟨_,rfl,_,rfl,_,rfl,_,rfl,(by show 2<=sizeLine; decide),fun p1 n1=>⟨(by show 1<=sizeLine; decide),fun p2 n2=>?_⟩⟩;have t1:=aF.new (o:= .tup [V.int (n:Int),.ref pd]) n1;have t2:=aF.new (o:= .lst [V.ref p1]) n2;have g1:upd (upd H3 p1 (.tup [V.int (n:Int),.ref pd])) p2 (.lst [V.ref p1]) p1=some (.tup [V.int (n:Int),.ref pd]):=t2 _ _ ag;have g2:upd (upd H3 p1 (.tup [V.int (n:Int),.ref pd])) p2 (.lst [V.ref p1]) p2=some (.lst [V.ref p1]):=ag;have tR:=t1.trans t2;refine⟨ps,p2,_,_,rfl,rfl,tR _ _ HF,g2,?_,fun p4 n4=>?_⟩
    ·refine cJ (bf ?_);show us.length + 1<=1000;lia
    generalize upd (upd H3 p1 (.tup [V.int (n:Int),.ref pd])) p2 (.lst [V.ref p1])=H4 at tR g1 g2 n4;have t4:=aF.new (o:= .lst (us ++ [V.ref p1])) n4;refine⟨_,rfl,(by show 3<=sizeLine; decide),fun t nt=>?_⟩;have t5:=aF.new (o:= .tup [v,V.ref p4,.ref sd]) nt;have Ur:=(tR.trans t4).trans t5;have B5:=B3.same Ur;refine k t v p4 sd f3 (us ++ [.ref p1]) _ ag (Rp.mono Ur _ r) (t5 _ _ ag) ?_ B5 (F3.cS Ur) fi (B3.off ?_) (fun a o ha e q=>absurd q.symm (aJ (tR _ _ (F3 _ _ ha e)) n4))
    ·exact cu (YS.mono Ur.tk) ⟨p1,pd,rfl,(t4.trans t5) _ _ g1,Ur _ _ N8,ht⟩
    ·exact tR.free n4
  ·
   obtain⟨m,rfl⟩: ∃m,d= .gK m:=hk.resolve_left ht;refine⟨true,A6 _,fP ?_⟩;refine⟨bq _,fun pr nr=>?_⟩;have s1:aF H (upd H pr (.lst [])):=aF.new nr;refine⟨_,rfl,ps,rfl,⟨_,bG.of (s1 _ _ mZ)⟩,?_⟩;refine fA (K:=K) (a:=ps) (xs:=us) (fun i σ H2=> ∃(rs:List V) (x5:Option V),σ=[some (.ref ps),some (.ref sd),some (.int (n:Int)),some (.ref pd),some (.ref pr),x5,none,none]/\aF H H2/\H2 pr=some (.lst rs)/\gS H2 ((T0.steps.take i).filter (cD m)) rs)
    ⟨[],none,rfl,s1,ag,.nil⟩ (fun i σ H2 _ ⟨_,_,_,s2,_⟩=>bG.of (s2 _ _ mZ)) ?_ ?_
   ·rintro i x σ H2 hx ⟨rs,x5,rfl,s2,Eo,Lu⟩;have hi:i < T0.steps.length:=by have:=(ah.mp hx).1; lia
    have qH:=af hi;obtain⟨v,hv,p,pe,rfl,hp,hpe,Wv⟩:=bK MW qH;rw[hx] at hv;obtain rfl:x= .ref p:=aG hv;have pG:=gH (cD m) qH;generalize T0.steps[i]=st at hp hpe Wv pG;obtain⟨n0,e⟩:=st;have yn:=s2 _ _ hp;have Qg:=s2 _ _ hpe;have hd2:=s2 _ _ hd;have Dk:rs.length<=100:=by
     have:=aO Lu;have:=aW (cD m) (T0.steps.take i);rw[ba] at this;lia
    have yes:cD m (n0,e)=true-> ∀H3,aF H2 H3->(XA (V.ref pr) [V.ref p] H3 fun l xs y=> ∃(rs:List V) (x5:Option V),[some (V.ref ps),some (.ref sd),some (.int (n:Int)),some (.ref pd),some (.ref pr),some (.ref p),none,none]=[some (.ref ps),some (.ref sd),some (.int (n:Int)),some (.ref pd),some (.ref pr),x5,none,none]/\aF H (upd H3 l (.lst (xs ++ [y])))/\upd H3 l (.lst (xs ++ [y])) pr=some (.lst rs)/\gS (upd H3 l (.lst (xs ++ [y]))) ((T0.steps.take (i + 1)).filter (cD m)) rs):=fun z H3 s3=>by
     refine⟨pr,rs,_,rfl,rfl,s3 _ _ Eo,bf (by lia),rs ++ [.ref p],_,rfl,(s2.trans s3).dk nr,ag,?_⟩;rw[pG,aY z];have tk:=s3.tk.trans (dU (o:= .lst (rs ++ [.ref p])) (s3 _ _ Eo));exact cu (Lu.mono tk) ⟨p,pe,rfl,tk _ _ yn,tk _ _ Qg,Wv⟩
    refine⟨_,rfl,p,_,_,.int n0,rfl,rfl,cE.of yn,rfl,_,rfl,pd,_,_,.int m,rfl,rfl,cE.of hd2,rfl,rfl,_,rfl,cG (fun z=>fP ?_) (fun z=>?_)⟩
    ·have z':n0≠m:=fun q=>by rw[q] at z; simp at z
     refine⟨_,rfl,.inl ⟨rfl,_,bG.of Eo⟩,_,rfl,yes ?_ H2 (aF.refl _)⟩;show(!(decide (n0=m) && e.isSet))=true;rw[bL z']; rfl
    ·have z':n0=m:=by
      by_cases q:n0=m
      ·exact q
      ·exact absurd (by rw[bL (fun w=>q (by injection w))]; rfl) z
     obtain⟨re,hev⟩:=uE (d:=e) (.inl Wv);rw[hev] at Qg;refine⟨_,rfl,p,_,_,.ref pe,rfl,rfl,cE.of yn,rfl,pe,_,_,.str (bg.word e),rfl,rfl,cE.of Qg,cw (j:=0) rfl,(by show 2<=sizeLine; decide),fun p9 n9=>⟨p9,_,rfl,.inl (bG.of ag),rfl,rfl,!e.isSet,cU V.bl (by rw[aY rfl,FF Wv]),cG (fun q=>?_) (fun q=>?_)⟩⟩
     ·have t9:=aF.new (o:= .lst [V.str "set",.str "sweep"]) n9;refine⟨_,rfl,.inl ⟨rfl,_,bG.of (t9 _ _ Eo)⟩,_,rfl,yes ?_ _ t9⟩;show(!(decide (n0=m) && e.isSet))=true;rw[aK z',Dy]; exact q
     ·have t9:=aF.new (o:= .lst [V.str "set",.str "sweep"]) n9;refine⟨rs,_,rfl,s2.trans t9,t9 _ _ Eo,?_⟩;have no: ¬ cD m (n0,e)=true:=by
       show ¬ (!(decide (n0=m) && e.isSet))=true;rw[aK z',Dy]; exact q
      rw[pG,aN no,cf];exact Lu.mono t9.tk
   ·rintro σ H2 ⟨rs,x5,rfl,s2,Eo,Lu⟩;rw[← hlen,aZ] at Lu;have Dk:=aO Lu;have RK:=aW (cD m) T0.steps;have pH:cV T0 n (.gK m)=if(T0.steps.filter (cD m)).length=T0.steps.length then(.txt "no setting",T0) else
      match cy (T0.steps.filter (cD m)) Bk.new with
      |none=>(.txt "needed",T0)
      |some S=>(.txt "undone",⟨T0.steps.filter (cD m),S⟩):=rfl
    have Lv:=hB.same s2;refine⟨_,rfl,pr,_,rfl,.inl (bG.of Eo),_,rfl,ps,_,rfl,.inl (bG.of (s2 _ _ mZ)),rfl,_,rfl,cG (fun z=>?_) (fun z=>?_)⟩
    ·have z':(T0.steps.filter (cD m)).length=T0.steps.length:=by
      have:=a6 z;injection this with this;lia
     rw[pH,aY z'] at k;refine⟨_,rfl,_,rfl,(by show 3<=sizeLine; decide),fun t nt=>?_⟩;have s4:=s2.trans (aF.new (o:= .tup [V.str "no setting",.ref ps,.ref sd]) nt);exact k t _ ps sd g us _ ag (fj.mpr rfl) (s4 _ _ mZ) (MW.mono s4.tk) (hB.same s4) s4.frame (fun x hx=> .inl hx) HE (fun _ _ _ _ _=>rfl)
    have z': ¬ (T0.steps.filter (cD m)).length=T0.steps.length:=fun q=>z (aK (by congr 1; lia));rw[pH,aN z'] at k;refine⟨_,rfl,pr,T0.steps.filter (cD m),rs,rfl,Eo,Lu,by lia,fun hw H3 s3=>?_,fun S hw sd3 f3 H3 s3 B3 nf=>?_⟩
    ·rw[hw] at k;refine⟨_,rfl,true,rfl,fP ⟨_,rfl,_,rfl,(by show 3<=sizeLine; decide),fun t nt=>?_⟩⟩;have s4:=(s2.trans s3).trans (aF.new (o:= .tup [V.str "needed",.ref ps,.ref sd]) nt);exact k t _ ps sd g us _ ag (fj.mpr rfl) (s4 _ _ mZ) (MW.mono s4.tk) (hB.same s4) s4.frame (fun x hx=> .inl hx) HE (fun _ _ _ _ _=>rfl)
    ·rw[hw] at k;refine⟨_,rfl,false,rfl,bX ⟨_,rfl,_,rfl,(by show 3<=sizeLine; decide),fun t nt=>?_⟩⟩;have t4:=aF.new (o:= .tup [V.str "undone",.ref pr,.ref sd3]) nt;have s4:=(s2.trans s3).trans t4;refine k t _ pr sd3 f3 rs _ ag (fj.mpr rfl) ((s3.trans t4) _ _ Eo) (Lu.mono (s3.trans t4).tk) (B3.same t4) s4.frame (fun x hx=> .inr (s2.free (nf x hx))) (fun q=>?_) (fun a o ha e q=>absurd q.symm (aJ e nr));have:=nf pr q;rw[Eo] at this;cases this
end
end eV
namespace L2
open PySem PySem.Spec PyProof.Rows
def Ak {X:Cx}{scope:Scope}{x y:Str}{c d:Addr}{j k:Nat}(GL:closureFor scope X.env=pure [(x,c),(y,d)]:=by rfl)(mI: ∀z∈scope.names,z.2≠ .cell:=by decide +kernel)(nu:scope.kind= .function:=by rfl)(vd: ∀x∈scope.names,x.2= .local->scope.names.lookup x.1=some .local:=by decide +kernel)
  (hx:X.env.cells.lookup x=some c:=by rfl) (hy:X.env.cells.lookup y=some d:=by rfl) (zk:List (Str×NameKind)) (S6:(relabel scope X.env).names=zk:=by rfl) (Dk: ∀z∈zk,(z.2= .cell∨z.2= .free)->z.1=x∨z.1=y:=by decide +kernel)
  (hN:X.N[j]? =some x:=by rfl) (hN2:X.N[k]? =some y:=by rfl) (hk:X.env.kindOf x=some .cell∨X.env.kindOf x=some .free:=by exact Or.inl rfl) (Lh:X.env.kindOf y=some .cell∨X.env.kindOf y=some .free:=by exact Or.inl rfl)
  (NO:(relabel scope X.env).names.lookup x=some .cell∨(relabel scope X.env).names.lookup x=some .free:=by exact Or.inl rfl) (YT:(relabel scope X.env).names.lookup y=some .cell∨(relabel scope X.env).names.lookup y=some .free:=by exact Or.inl rfl):sE X scope [(x,c),(y,d)] [x,y] [j,k]:=by
 refine⟨GL,mI,nu,vd,fun z c' h=>?_,fun z h=>?_,.cons ⟨hN,hk,NO⟩ (.cons ⟨hN2,Lh,YT⟩ .nil)⟩
 ·rcases au.mp (cg h) with e|e
  ·cases e; exact hx
  ·rcases au.mp e with e|e
   ·cases e; exact hy
   ·cases e
 ·have e:z=x∨z=y:=by
   rcases h with h|h
   ·rw[S6] at h;exact Dk _ (cg h) (.inl rfl)
   ·rw[S6] at h;exact Dk _ (cg h) (.inr rfl)
  by_cases q:z=x
  ·exact⟨c,by rw[q]; simp[List.lookup]⟩
  ·have q2:z=y:=e.resolve_left q;have q3:(z == x)=false:=by simpa using q
   exact⟨d,by rw[List.lookup,q3,q2]; simp[List.lookup]⟩
end L2
namespace eV
open PySem L2 PyProof.Rows Lk
seal L2.pj L2.PS L2.PE L2.PT L2.PW L2.PA L2.PC L2.PG L2.IJ L2.PI L2.L6 L2.Lg L2.PO L2.oX L2.NK L2.ip L2.Jc L2.NM
section
variable {P:Program}{w:World}{K:Frag}{mg:Str->Option Value}{base:Heap}
inductive qt (A:dZ)(vs:List V)(H:Hp)(Q:VK)(E':XK):Prop
 |mk (pw p:Addr)(S:Bk)(f:eT)(t:Nat×Nat×Int)(day:Int)(h1:vs=[.ref pw,.ref p,.int day])(h2:dG A H pw S f)(h3:H p=some (.tup [.int t.1,.int t.2.1,.int t.2.2]))(h4:t.1 < S.credits.length)(h5:t.2.1 < S.aE.length)(h6:Q (.bl (decide (S.gp t<=day))) H):qt A vs H Q E'
def Al:aU ["work","setting","day"] ["work","setting","day"] (aA (top 40)):={}
def CA (T:Txt K mg){A:dZ}(G:jI K mg A):fu P w K mg base "counts_at" 2 ["work","setting","day"] (qt A):=by
 have xJ:fu P w K mg base "counts_from" 1 ["credit","bill"] (Ej A):=xy T G;refine T.BO.fQ (k:=1) Al (fun f cY A' outer s H vs Q E hr h=>?_)
 ·obtain⟨pw,p,S,g,t,day,rfl,hW,hp,hc,hb,k⟩:=h;obtain⟨dw,hw⟩:=hW.obj;obtain⟨pc,c1,c2⟩:=hW.rc.get hc;obtain⟨pb,b1,b2⟩:=hW.rb.get hb;refine⟨_,(av (a9 (fL yd (fc xJ hr (aa (xl (kE (pv 0)) (xt (pv 1) aj)) (aa (xl (kE (pv 0)) (xt (pv 1) aj)) aw))) (pv 2) (bb _)))),?_⟩;refine⟨_,rfl,pw,_,dw,_,_,rfl,hw,G.bI,G.cF,ij g,_,rfl,p,_,_,.int t.1,rfl,rfl,cE.of hp,rfl,g.pc,_,_,.ref pc,rfl,rfl,bG.of hW.hc,cw (by rw[aC,c1]; rfl),?_⟩;refine⟨_,rfl,pw,_,dw,_,_,rfl,hw,G.bI,G.dX,jn g,_,rfl,p,_,_,.int t.2.1,rfl,rfl,cE.of hp,rfl,g.pb,_,_,.ref pb,rfl,rfl,bG.of hW.hb,cw (by rw[aC,b1]; rfl),?_⟩;exact⟨pc,pb,t.1,t.2.1,S.cr t.1,S.bl t.2.1,rfl,c2,b2,_,rfl,_,_,rfl,rfl,k⟩
inductive qu (A:dZ)(vs:List V)(H:Hp)(Q:VK)(E':XK):Prop
 |mk (pw:Addr)(S:Bk)(f:eT)(n:Nat)(day:Int)(h1:vs=[.ref pw,.int day])(h2:dG A H pw S f)(h3:WF S n)(h4:S.made.length<=1000000)(h5: ∀D ms H',aF H H'->H D=none->H' D=some (.lst ms)->iw H' (S.made.filter fun t=>decide (S.gp t<=day)) ms->Q (.ref D) H'):qu A vs H Q E'
def vZ:aU ["work","day"] ["work","day"] (aA (top 39)):={}
def xK (T:Txt K mg){A:dZ}(G:jI K mg A):fu P w K mg base "counting_at" 3 ["work","day"] (qu A):=by
 have CB:fu P w K mg base "counts_at" 2 ["work","setting","day"] (qt A):=CA T G;refine T.xm.fQ (k:=2) vZ (fun f cY A' outer s H vs Q E hr h=>?_)
 ·obtain⟨pw,S,g,n,day,rfl,hW,wf,hz,k⟩:=h;obtain⟨dw,hw⟩:=hW.obj;obtain⟨ms,m1,m2⟩:=hW.hm;have hlen:=aO m2;refine⟨_,(av (a9 (iF (tn:=["setting"]) (cn:=["work","day"]) (cj:=[0,1]) rfl (Ak (zk:=[(".0",.local),("setting",.local),("counts_at",.globalImplicit),("day",.cell),("work",.cell)])) (rh (kE (pv 0))) (fun _ _ _ _=>(eB (i:=0) (show(["setting","work","day"]:List Str).Nodup by decide +kernel) rfl (Or.inl rfl))) (fun _ _ _ _=>(qd (fM (fc CB hr (aa (pv 1) (aa (pv 0) (aa (pv 2) aw))))))) (fun _ _ _ _=>(pv 0))))),?_⟩;refine⟨_,rfl,pw,_,dw,_,_,rfl,hw,G.bI,G.mr,Fy g,g.pm,rfl,⟨_,bG.of m1⟩,?_⟩;refine dS (K:=K) (a:=g.pm) (xs:=ms) (fun D i σ H6=>H D=none/\ ∃v rs,σ=[v,some (.ref pw),some (.int day)]/\aF H H6/\H6 D=some (.lst rs)/\iw H6 ((S.made.take i).filter fun t=>decide (S.gp t<=day)) rs) (fun D hD=>⟨hD,none,[],rfl,aF.new hD,ag,.nil⟩) (fun D i σ H6 _ ⟨_,_,_,_,t3,_⟩=>bG.of (t3 _ _ m1)) ?_ ?_
  ·rintro D i x σ H6 hx ⟨hD,v,rs,rfl,t3,iA,hT⟩;have hi:i < S.made.length:=by have:=(ah.mp hx).1; lia
   have qH:=af hi;obtain⟨v',hv,p,rfl,hp⟩:=bK m2 qH;rw[hx] at hv;obtain rfl:x= .ref p:=aG hv;have hm:=wf.m _ (bH hi);have pG:=gH (fun t=>decide (S.gp t<=day)) qH;generalize S.made[i]=t at hp hm pG;have Lu:rs.length<=1000000:=by
    have:=aO hT;have:=aW (fun t=>decide (S.gp t<=day)) (S.made.take i);rw[ba] at this;lia
   refine⟨_,rfl,_,rfl,_,rfl,pw,p,S,g,t,day,rfl,hW.same t3,t3 _ _ hp,hm.1,hm.2,_,rfl,cG (fun z=>?_) (fun z=>?_)⟩
   ·rw[aY z] at pG;refine⟨_,rfl,_,iA,jc Lu,hD,_,rs ++ [.ref p],rfl,t3.dk hD,ag,?_⟩;rw[pG];have tk:=dU (o:= .lst (rs ++ [.ref p])) iA;exact cu (hT.mono tk) ⟨p,rfl,tk _ _ (t3 _ _ hp)⟩
   ·rw[aN z,cf] at pG;refine⟨hD,_,rs,rfl,t3,iA,?_⟩;rw[pG];exact hT
  ·rintro D σ H6 hD ⟨_,v,rs,rfl,t3,iA,hT⟩;rw[← hlen,aZ] at hT;exact k D rs H6 t3 hD iA hT
def eN (H:Hp)(l:List (Nat×Int))(vs:List V):Prop:=Paired (fun(t:Nat×Int) v=> ∃p,v= .ref p/\H p=some (.tup [.int t.1,.int t.2])) l vs
def eN.mono {H H':Hp}{l:List (Nat×Int)}{vs:List V}(h:eN H l vs)(k:cI H H'):eN H' l vs:=Paired.gX h fun _ _ ⟨p,e,q⟩=>⟨p,e,k _ _ q⟩
def eN.Lq {H:Hp}: ∀{l:List (Nat×Int)} {vs:List V},eN H l vs->gY H (l.map fun t=> .tup [.int t.1,.int t.2]) vs
 |_,_,.nil=>cq.mpr rfl
 |_,_,.cons ⟨p,e,q⟩ t=>by
  subst e;exact br.mpr ⟨_,_,rfl,eL q (br.mpr ⟨_,_,rfl,dA.mpr rfl,br.mpr ⟨_,_,rfl,dA.mpr rfl,cq.mpr rfl⟩⟩),eN.Lq t⟩
section
variable (S:Bk)(bD:Bool)(aH:Str)(day:Int)
def pD (k:Nat):Bool:=decide (((S.rows bD).getD k default).aH=aH) && (decide (((S.rows bD).getD k default).a<=day) && decide (0 < S.rest bD k day))
def kD (i:Nat):List (Int×Nat):=((List.range i).filter (pD S bD aH day)).map fun k=>(keyOf bD ((S.rows bD).getD k default),k)
end
section
variable {S:Bk}{bD:Bool}{aH:Str}{day:Int}{i:Nat}
def Qh:(kD S bD aH day i).length<=i:=by
 unfold kD;rw[ae];exact aV (aW _ _) (by rw[dC]; exact aD _)
def Km:S.eM bD aH day=(fI (kD S bD aH day (S.rows bD).length)).map fun x=>(x.2,S.rest bD x.2 day):=by
 have e:kD S bD aH day (S.rows bD).length=(gx (S.rows bD) aH (keyOf bD)).filter fun x=>decide (((S.rows bD).getD x.2 default).a<=day) && decide (0 < S.rest bD x.2 day):=by
  unfold kD gx;rw[LD,qE]
  congr 1
  apply iZ;intro k _;show pD S bD aH day k=_;unfold pD;rw[Bool.and_comm];rfl
 rw[e,md];unfold Bk.eM inOrder;rw[← tJ (fun x:Int×Nat=>x.2) (fun k=>decide (((S.rows bD).getD k default).a<=day) && decide (0 < S.rest bD k day)),ff];rfl
end
def MX (bD:Bool)(t:Nat×Nat×Int):uv [V.int t.1,.int t.2.1,.int t.2.2] (if bD=true then(1:Int) else 0)=some (.int (spotOf bD t:Int)):=by cases bD <;> rfl
def HG {S:Bk}{bD:Bool}{aH:Str}{day:Int}{t:Nat×Int}(h:t∈S.eM bD aH day):t.1 < (S.rows bD).length:=by
 unfold Bk.eM at h;obtain⟨k,hk,rfl⟩:=bJ.mp h;exact(jj.mp (ee.mp hk).1).1
def HI {S:Bk}{bD:Bool}{aH:Str}{day:Int}:(S.eM bD aH day).length<=(S.rows bD).length:=by
 rw[Km,ae,(dB _).length_eq];exact Qh
def Ep (gp:Int)(di:List Int):L2.placeOf gp di < di.length + 2:=by
 unfold L2.placeOf;split
 ·lia
 ·have:=aW (fun l=>decide (l < gp)) di;lia
def HJ (l:List Int)(i:Nat)(x:Int):(tL l i x).length=l.length:=by unfold tL; rw[List.length_set]
def MY (n:Nat)(b:Int):(List.replicate n [V.int b]).flatten=(List.replicate n b).map V.int:=by
 induction n with
 |zero=>rfl
 |succ n ih=>rw[dv,iX,ih,dv]; rfl
def lT (H:Hp)(ok:Addr->Prop):mT->V->Prop
 | .int i,v=>v= .int i
 | .txt s,v=>v= .str s
 | .sets l,v=> ∃D ms,v= .ref D/\ok D/\H D=some (.lst ms)/\iw H l ms
 | .pairs l,v=> ∃D ms,v= .ref D/\ok D/\H D=some (.lst ms)/\eN H l ms
 | .ints l,v=> ∃D,v= .ref D/\ok D/\H D=some (.lst (l.map V.int))
def lT.keep {H H':Hp}{ok RL:Addr->Prop}{a:mT}{v:V}(h:lT H ok a v)(kl: ∀D xs,ok D->H D=some (.lst xs)->RL D/\H' D=some (.lst xs))(kt:cI H H'):lT H' RL a v:=by
 cases a with
 |int i=>exact h
 |txt s=>exact h
 |sets l=>
  obtain⟨D,ms,e,o,z,t⟩:=h;obtain⟨o',z'⟩:=kl _ _ o z;exact⟨D,ms,e,o',z',t.mono kt⟩
 |pairs l=>
  obtain⟨D,ms,e,o,z,t⟩:=h;obtain⟨o',z'⟩:=kl _ _ o z;exact⟨D,ms,e,o',z',eN.mono t kt⟩
 |«ints» l=>
  obtain⟨D,e,o,z⟩:=h;obtain⟨o',z'⟩:=kl _ _ o z;exact⟨D,e,o',z'⟩
def CC {H:Hp}: ∀l:List Int,gY H (l.map Dt.int) (l.map V.int)
 |[]=>cq.mpr rfl
 |x :: l=>br.mpr ⟨_,_,rfl,dA.mpr rfl,CC l⟩
def fE {X:Cx}{K:Frag}{e:Expr}{f:Str}{pos:Pos}{ta:TE}(h:X.K=K)(he:PE X e ta)(hb:attributeBase e f X.env (eval e X.env)=eval e X.env):PE X (.Attribute e f pos) (OT K ta f):=by subst h; exact IX he hb
def CD (A:dZ)(bD:Bool):Addr:=if bD=true then A.dM else A.d8
def Am (bD:Bool)(k:Nat)(r:Rw):List (Str×V):=if bD=true then fF k r else fk k r
def yI (bD:Bool)(k:Nat)(r:Rw):(Am bD k r).lookup ("number":Str)=some (V.int k):=by cases bD <;> rfl
def Qi (bD:Bool)(k:Nat)(r:Rw):(Am bD k r).lookup ("day":Str)=some (V.int r.a):=by cases bD <;> rfl
def HL (bD:Bool)(k:Nat)(r:Rw):(Am bD k r).lookup ("amount":Str)=some (V.int (JA bD r)):=by cases bD <;> rfl
def An {A:dZ}(G:jI K mg A)(bD:Bool):wX K (CD A bD):=by cases bD; exact G.df; exact G.d9
def yJ {A:dZ}(G:jI K mg A)(bD:Bool):b9 K (CD A bD) "number":=by cases bD; exact G.eU; exact G.eX
def Qj {A:dZ}(G:jI K mg A)(bD:Bool):b9 K (CD A bD) "day":=by cases bD; exact G.jd; exact G.nM
def HM {A:dZ}(G:jI K mg A)(bD:Bool):b9 K (CD A bD) "amount":=by cases bD; exact G.lO; exact G.nO
def MZ (A:dZ)(H:Hp)(S:Bk)(bD:Bool)(ks:List Nat)(qs:List Addr):Prop:=Paired (fun(k:Nat) q=>eF H q (CD A bD) (Am bD k ((S.rows bD).getD k default))) ks qs
def pR (S:Bk)(bD:Bool)(day:Int)(k:Nat):Bool:=decide (((S.rows bD).getD k default).a<=day) && decide (0 < S.rest bD k day)
inductive rL (A:dZ)(vs:List V)(H:Hp)(Q:VK)(E':XK):Prop
 |mk (pw pt:Addr)(S:Bk)(f:eT)(n:Nat)(bD:Bool)(day:Int)(ks:List Nat)(qs:List Addr)(h1:vs=[.ref pw,.ref pt,.int (if bD=true then 1 else 0),.int day])(h2:dG A H pw S f)(h3:WF S n)(h4:S.made.length<=1000000)(h5:H pt=some (.lst (qs.map V.ref)))(h6:MZ A H S bD ks qs)(h7:ks.length<=100)(h8: ∀D ms H',aF H H'->H D=none->H' D=some (.lst ms)->eN H' ((ks.filter (pR S bD day)).map fun k=>(k,S.rest bD k day)) ms->Q (.ref D) H'):rL A vs H Q E'
def mL:aU ["work","told","place","day","counting","remaining","item","rest"] ["work","told","place","day"] (aA (top 38)):={}
def og (T:Txt K mg){A:dZ}(G:jI K mg A):fu P w K mg base "remaining_at" 4 ["work","told","place","day"] (rL A):=by
 have xM:fu P w K mg base "counting_at" 3 ["work","day"] (qu A):=xK T G;refine T.vD.fQ (k:=3) mL (fun f cY A' outer s H vs Q E hr h=>?_)
 ·obtain⟨pw,pt,S,g,n,bD,day,ks,qs,rfl,hW,wf,hz,wL,hI,Iy,k⟩:=h;have nd:=mL.nd;have hlen:=aO hI;refine⟨_,(ai (sv 4 nd (fc xM hr (aa (pv 0) (aa (pv 3) aw))))
(ai (sv 5 nd (bS aw))
(ai (eJ bB rfl (rh (pv 1)) (gn 6 nd)
(ai (sv 7 nd (aQ fN (kE (pv 6)) (gv (sH rfl) (by rfl) T.JR boot_sum (aa (iF (tn:=["setting"]) (cn:=["place","item"]) (cj:=[2,6]) rfl (Ak (zk:=[(".0",.local),("setting",.local),("item",.cell),("place",.cell)])) (rh (pv 4)) (fun _ _ _ _=>(eB (i:=0) (show(["setting","place","item"]:List Str).Nodup by decide +kernel) rfl (Or.inl rfl))) (fun _ _ _ _=>(qd (a0 dg (kI (ux (K:=K) rfl) (pv 0) (pv 1) (fun _ _=>rfl)) (fE (K:=K) rfl (pv 2) rfl) (bb _)))) (fun _ _ _ _=>(kI (ux (K:=K) rfl) (pv 0) aj (fun _ _=>rfl)))) aw))))
(av (bT (PW.pt (pw_and (a0 yd (kE (pv 6)) (pv 3) (bb _)) (pw_and1 (a0 jB (pv 7) aj (bb _)))))
(av (bM (qo (pv 5) (cK (aa (kE (pv 6)) (aa (pv 7) aw))))))
bp))))
(av (a9 (pv 5)))))),?_⟩
  refine⟨_,rfl,_,rfl,pw,S,g,n,day,rfl,hW,wf,hz,fun pc cs H1 s1 nc hc hT=>?_⟩;refine⟨bq _,fun pr nr=>?_⟩;have nr0:=s1.free nr;have sr:=aF.new (o:= .lst []) nr;refine⟨_,rfl,pt,rfl,⟨_,bG.of ((s1.trans sr) _ _ wL)⟩,?_⟩;refine fA (K:=K) (a:=pt) (xs:=qs.map V.ref) (fun i σ H2=> ∃(rs:List V) (x6 x7:Option V),σ=[some (.ref pw),some (.ref pt),some (.int (if bD=true then 1 else 0)),some (.int day),some (.ref pc),some (.ref pr),x6,x7]/\aF H1 H2/\H2 pr=some (.lst rs)/\eN H2 (((ks.take i).filter (pR S bD day)).map fun k=>(k,S.rest bD k day)) rs)
   ⟨[],none,none,rfl,sr,ag,.nil⟩ (fun i σ H2 _ ⟨_,_,_,_,s2,_⟩=>bG.of ((s1.trans s2) _ _ wL)) ?_ ?_
  ·rintro i x σ H2 hx ⟨rs,x6,x7,rfl,s2,FD,hP⟩;rw[aC] at hx;obtain⟨q,hq,rfl⟩:=a8.mp hx;have hi:i < ks.length:=by have:=(ah.mp hq).1; lia
   have qH:=af hi;obtain⟨q',tE,lS⟩:=bK hI qH;rw[hq] at tE;obtain rfl:q=q':=aG tE;have pG:=gH (pR S bD day) qH;generalize ks[i]=kk at lS pG;have s02:=s1.trans s2;obtain⟨dq,A7⟩:=lS.same s02;have Mh:=s2 _ _ hc;have DT:=hT.mono s2.tk;have rg:=aO DT;have RK:=aW (fun t=>decide (S.gp t<=day)) S.made;have Dk:rs.length<=100:=by
    have e1:=aO hP;have e2:=aW (pR S bD day) (ks.take i);rw[ae] at e1;rw[ba] at e2;lia
   refine⟨_,rfl,q,_,dq,_,_,rfl,A7,An G bD,HM G bD,HL bD _ _,_,rfl,pc,rfl,⟨_,bG.of Mh⟩,?_⟩;refine dS (K:=K) (a:=pc) (xs:=cs) (fun D j σ H6=>H2 D=none/\ ∃v,σ=[v,some (.int (if bD=true then 1 else 0)),some (.ref q)]/\aF H2 H6/\H6 D=some (.lst (((((S.made.filter fun t=>decide (S.gp t<=day)).take j).filter fun t=>decide (spotOf bD t=kk)).map (·.2.2)).map V.int))) (fun D hD=>⟨hD,none,rfl,aF.new hD,ag⟩) (fun D j σ H6 _ ⟨_,_,_,t3,_⟩=>bG.of (t3 _ _ Mh)) ?_ ?_
   ·rintro D j x σ H6 N5 ⟨hD,v,rfl,t3,iA⟩;have hj:j < (S.made.filter fun t=>decide (S.gp t<=day)).length:=by have:=(ah.mp N5).1; lia
    have hgj:=af hj;obtain⟨v',hv,p,rfl,hp⟩:=bK DT hgj;rw[N5] at hv;obtain rfl:x= .ref p:=aG hv;have Kn:=gH (fun t=>decide (spotOf bD t=kk)) hgj;generalize (S.made.filter fun t=>decide (S.gp t<=day))[j]=t at hp Kn;have hsz:((((S.made.filter fun t=>decide (S.gp t<=day)).take j).filter fun t=>decide (spotOf bD t=kk)).map (·.2.2)).length<=1000000:=by
     rw[ae];have e1:=aW (fun t=>decide (spotOf bD t=kk)) ((S.made.filter fun t=>decide (S.gp t<=day)).take j);rw[ba] at e1;lia
    have N9:=t3 _ _ hp;refine⟨_,rfl,_,rfl,p,_,_,_,rfl,rfl,cE.of N9,MX bD t,_,rfl,q,_,dq,_,_,rfl,t3 _ _ A7,An G bD,yJ G bD,yI bD _ _,rfl,_,rfl,cG (fun z=>?_) (fun z=>?_)⟩
    ·have z':spotOf bD t=kk:=by
      have:=a6 z;injection this with this;lia
     rw[aY (aK z')] at Kn;refine⟨_,rfl,p,_,_,.int t.2.2,rfl,rfl,cE.of N9,rfl,_,iA,jc (by rw[ae]; exact hsz),hD,_,rfl,t3.dk hD,?_⟩;rw[ag,Kn,aL,aL];rfl
    ·have z': ¬ spotOf bD t=kk:=fun e=>z (aK (by rw[e]));rw[aN (by rw[bL z']; exact aX),cf] at Kn;refine⟨hD,_,rfl,t3,?_⟩;rw[Kn];exact iA
   ·rintro D σ H6 hD ⟨_,v,rfl,t3,iA⟩;rw[← rg,aZ,qE] at iA;refine⟨D,_,rfl,bG.of iA,_,_,rfl,rfl,?_⟩;have NY:JA bD ((S.rows bD).getD kk default) - ((S.made.filter fun t=>decide (spotOf bD t=kk) && decide (S.gp t<=day)).map (·.2.2)).sum=S.rest bD kk day:=rfl;have Oa:=t3 _ _ FD;have RM:=hP.mono t3.tk;have s6:=s2.trans t3;have no:pR S bD day kk=false-> ∃(rs:List V) (x6 x7:Option V),[some (V.ref pw),some (.ref pt),some (.int (if bD=true then 1 else 0)),some (.int day),some (.ref pc),some (.ref pr),some (.ref q),some (.int (S.rest bD kk day))]=[some (.ref pw),some (.ref pt),some (.int (if bD=true then 1 else 0)),some (.int day),some (.ref pc),some (.ref pr),x6,x7]/\aF H1 H6/\H6 pr=some (.lst rs)/\eN H6 (((ks.take (i + 1)).filter (pR S bD day)).map fun k=>(k,S.rest bD k day)) rs:=fun z=>by
     rw[aN (by rw[z]; exact aX),cf] at pG;exact⟨rs,some (.ref q),some (.int (S.rest bD kk day)),rfl,s6,Oa,by rw[pG]; exact RM⟩
    refine⟨_,rfl,q,_,dq,_,_,rfl,t3 _ _ A7,An G bD,Qj G bD,Qi bD _ _,_,rfl,_,_,rfl,rfl,_,rfl,cG (fun z1=>?_) (fun z1=>bX (no ?_))⟩
    ·refine⟨_,rfl,_,_,rfl,rfl,_,rfl,cG (fun z2=>?_) (fun z2=>no ?_)⟩
     ·have yes:pR S bD day kk=true:=by
       unfold pR;rw[aK (a6 z1),aK (show 0 < S.rest bD kk day from a6 z2)]; rfl
      rw[aY yes] at pG;refine⟨_,rfl,.inl ⟨rfl,_,bG.of Oa⟩,_,rfl,q,_,dq,_,_,rfl,t3 _ _ A7,An G bD,yJ G bD,yI bD _ _,_,rfl,(by show 2<=sizeLine; decide),fun p8 n8=>?_⟩;have t8:=aF.new (o:= .tup [V.int (kk:Int),.int (S.rest bD kk day)]) n8;refine⟨pr,rs,_,rfl,rfl,t8 _ _ Oa,bf (by lia),rs ++ [.ref p8],some (.ref q),some (.int (S.rest bD kk day)),rfl,(s6.trans t8).dk nr,ag,?_⟩;rw[pG,aL];have tk:=t8.tk.trans (dU (o:= .lst (rs ++ [.ref p8])) (t8 _ _ Oa));have fin:eN (upd (upd H6 p8 (.tup [V.int (kk:Int),.int (S.rest bD kk day)])) pr (.lst (rs ++ [.ref p8]))) ((((ks.take i).filter (pR S bD day)).map fun k=>(k,S.rest bD k day)) ++ [(kk,S.rest bD kk day)]) (rs ++ [.ref p8]):=cu (RM.mono tk) ⟨p8,rfl,dU (o:= .lst (rs ++ [.ref p8])) (t8 _ _ Oa) _ _ ag⟩;exact fin
     ·unfold pR;rw[bL (show ¬ 0 < S.rest bD kk day from fun e=>z2 (aK e)),Bool.and_false]
    ·unfold pR;rw[bL (fun e=>z1 (aK e)),Ow]
  ·rintro σ H2 ⟨rs,x6,x7,rfl,s2,FD,hP⟩;rw[ae,← hlen,aZ] at hP;exact⟨_,rfl,k pr rs H2 (s1.trans s2) nr0 FD hP⟩
structure qI (K:Frag)(mg:Str->Option Value)(x:Str)(st:Stmt)(tb:Addr):Prop where
 ex: ∃(f c:Addr) (oc:Value) (od:Option Addr) (kV doc pm:Value) (an:Option Addr) (ct:Value) (GA:Array (Option Value)),K.lookup f=some ⟨oc,od,.func (fnOf x x (gJ st) (dF st) (aA st) .none kV doc pm an (.ref c) ct),GA⟩/\codeIn K (.ref c) x=true/\
  keepIn K (.ref f)=true/\mg x=some (.ref f)/\codeHdIn K c tb=true
def qI.fQ {x:Str}{st:Stmt}{tb:Addr}{N ps:List Str}{k:Nat}{sp:Sp}(D:qI K mg x st tb)(KB:K.In base)(S:aU N ps (aA st))
  (f7: ∀(f c:Addr) (A:Around) (outer:List Env) (s:Shared) (H:Hp) (vs:List V) (Q:VK) (E:XK),PySem.W.CodeHd base c tb->fh k (A.deeper (envOfC x (aA st) s.heap.objs.size f (.ref c)))->sp vs H Q E->
   ∃t,pj (k7 sD P w K mg base N x (aA st) f (.ref c) A outer s H E).DE (dF st) t/\t {nx:=fun _ H'=>Q .eA H',rt:=Q} (L2.start N vs) H)
  (hb: ∀(kV doc pm:Value) (an:Option Addr) (cY ct:Value) (us:List Value),us.length=ps.length->bindArgs (fnOf x x (gJ st) (dF st) (aA st) .none kV doc pm an cY ct) ⟨us,[]⟩=pure (ps.zip us):=by intro _ _ _ _ _ _ us hl; rcases us with _|⟨_,_|⟨_,_|⟨_,_⟩⟩⟩ <;> first|(cases hl; done)|rfl)
  (len: ∀vs H Q E,sp vs H Q E->vs.length=ps.length:=by intro _ _ _ _ h; first|(cases h; subst_vars; rfl)|(repeat (first|(obtain⟨rfl,_⟩:=h; rfl; done)|obtain⟨_,h⟩:=h))):fu P w K mg base x (k + 1) ps sp:=by
 obtain⟨f,c,oc,od,kV,doc,pm,an,ct,GA,lk,rZ,hk,hm,hh⟩:=D.ex;have F:gw K x x st f _:=qc lk rZ hk;refine⟨f,_,Jb lk rZ S len fun A outer s H vs Q E hr y3=>?_,hm,hk,F.binds hb⟩;obtain⟨t,h,q⟩:=f7 f c A outer s H vs Q E (PySem.W.codeHd_of_K KB hh) hr y3;exact⟨t,h.DE,q⟩
def rM {th:List (Int×Nat)}{i:Nat}(h:i < th.length):(th.map FC).getD i []=FC (th.getD i (0,0)):=getD_map FC th i (0,0) [] h
def v8 {th:List (Int×Nat)}{p:List Nat}(h1: ∀x∈th,x.2 < 1000)(nd:(th.map (·.2)).Nodup)(hp:p.Perm (List.range th.length))(le:p.Pairwise (fun i j=>vH ((th.map FC).getD i [])<=vH ((th.map FC).getD j []))):p.map (fun i=>th.getD i (0,0))=fI th:=by
 have hr:(List.range th.length).map (fun i=>th.getD i (0,0))=th:=yx th (0,0);refine nL ug _ _ ((hp.map _).trans ((List.Perm.of_eq hr).trans (dB th).symm)) ?_ (BW h1 nd);rw[sj];refine le.imp_of_mem fun{a b} ha hb z=>?_;have la:a < th.length:=dJ.mp (hp.mem_iff.mp ha);have lb:b < th.length:=dJ.mp (hp.mem_iff.mp hb);rw[rM la,rM lb] at z;exact z
def oh {α β:Type}{F:α->β->Prop}{l₁:List α}{l₂:List β}(h:Paired F l₁ l₂)(d:α)(e:β): ∀p:List Nat,(∀i∈p,i < l₁.length)->Paired F (p.map fun i=>l₁.getD i d) (p.map fun i=>l₂.getD i e)
 |[],_=> .nil
 |i :: p,hi=>by
  have hl:=hi i aS;obtain⟨b,e1,e2⟩:=bK h (af hl);refine .cons ?_ (oh h d e p fun j hj=>hi j (aI _ hj));show F (l₁.getD i d) (l₂.getD i e);rw[ak,ak,af hl,e1];exact e2
def bQ {H H':Hp}{tb:Addr}{pos:Pos}{qual:Str}(t:Tb H tb pos qual)(s:aF H H'):Tb H' tb pos qual:=by
 obtain⟨ps,h1,h2,h3⟩:=t;refine⟨ps,s _ _ h1,h2,?_⟩;rcases h3 with h3|⟨c',h3,h4⟩
 ·exact .inl h3
 ·exact .inr ⟨c',h3,s _ _ h4⟩
def v9 {H:Hp}{tb q C:Addr}{pos:Pos}{qual:Str}{fs:List (Str×V)}(t:Tb H tb pos qual)(h:eF H q C fs):q∉[tb]:=fun z=>by
 obtain⟨ps,h1,_⟩:=t;obtain⟨dx,e⟩:=h;rw[ao.mp z,h1] at e;cases e
def Qk:Pos:=⟨69,30,69,66⟩
def fm (rows:List Rw)(aH:Str)(i:Nat):List Nat:=(List.range i).filter fun k=>decide ((rows.getD k default).aH=aH)
inductive uF (A:dZ)(tb:Addr)(vs:List V)(H:Hp)(Q:VK)(E':XK):Prop
 |mk (pb:Addr)(iK:List Addr)(S:Bk)(aH:Str)(h1:vs=[.ref pb,.str aH])(h2:H pb=some (.lst (iK.map V.ref)))(h3:gz H A.dM fF S.aE iK)(h4:S.aE.length < 64)(h5:Tb H tb Qk ((("bills_in_order":Str) ++ ".<locals>.") ++ "<lambda>"))(h6: ∀D qs H',Frame [tb] H H'->Tb H' tb Qk ((("bills_in_order":Str) ++ ".<locals>.") ++ "<lambda>")->H D=none->H' D=some (.lst (qs.map V.ref))->iO A H' S (inOrder S.aE aH (·.b)) qs->Q (.ref D) H'):uF A tb vs H Q E'
def kY:aU ["bills","who","theirs"] ["bills","who"] (aA (top 17)):={}
def lU (T:Txt K mg){A:dZ}{tb:Addr}(G:jI K mg A)(DL:qI K mg "bills_in_order" (top 17) tb)(KB:K.In base)(BM:BMain mg base):fu P w K mg base "bills_in_order" 2 ["bills","who"] (uF A tb):=by
 refine DL.fQ (k:=1) KB kY (fun f c A' outer s H vs Q E CH hr h=>?_)
 ·obtain⟨pb,iK,S,aH,rfl,Us,hO,hl,YU,k⟩:=h;have nd:=kY.nd;refine⟨_,(ai (ji (i:=2) nd rfl (Or.inl rfl) (tn:=["bill"]) (cn:=["who"]) (cj:=[1]) rfl (iG (zk:=[(".0",.local),("bill",.local),("who",.cell)])) (rh (pv 0)) (fun _ _ _ _=>(eB (i:=0) (show(["bill","who"]:List Str).Nodup by decide +kernel) rfl (Or.inl rfl))) (fun _ _ _ _=>(qd (a0 dg (fE (K:=K) rfl (pv 0) rfl) (pv 1) (bb _)))) (fun _ _ _ _=>(pv 0)))
(av (a9 (vA (N:=["bill"]) (y:="bill") rfl T.vG BM rfl CH (hr.mono (by decide)) {} (fun _ _ _ _ _=>(cK (aa (fE (K:=K) rfl (pv 0) rfl) (aa (fE (K:=K) rfl (pv 0) rfl) aw)))) (pv 2))))),?_⟩
  refine⟨_,rfl,pb,rfl,⟨_,bG.of Us⟩,?_⟩;refine dS (K:=K) (a:=pb) (xs:=iK.map V.ref) (fun D i σ H6=>H D=none/\ ∃(v:Option V) (qs:List Addr),σ=[v,some (.str aH)]/\aF H H6/\H6 D=some (.lst (qs.map V.ref))/\iO A H6 S (fm S.aE aH i) qs) (fun D hD=>⟨hD,none,[],rfl,aF.new hD,ag,.nil⟩) (fun D i σ H6 _ ⟨_,_,_,_,t3,_⟩=>bG.of (t3 _ _ Us)) ?_ ?_
  ·rintro D i x σ H6 hx ⟨hD,v,qs,rfl,t3,iA,hB⟩;rw[aC] at hx;obtain⟨q,hq,rfl⟩:=a8.mp hx;have hi:i < S.aE.length:=by have:=(ah.mp hq).1; have:=hO.1; lia
   obtain⟨dq,A7⟩:=(hO.2 i q hq).same t3;have hql:qs.length<=100:=by
    have e1:=aO hB;have e2:(fm S.aE aH i).length<=i:=aV (aW _ _) (by rw[dC]; exact aD _);lia
   have rN:fm S.aE aH (i + 1)=fm S.aE aH i ++ (if decide ((S.aE.getD i default).aH=aH)=true then[i] else[]):=by
    unfold fm;rw[wR,gj]
    congr 1
    by_cases z:decide ((S.aE.getD i default).aH=aH)=true
    ·rw[aY z,cO (p:=fun k=>decide ((S.aE.getD k default).aH=aH)) z]; rfl
    ·rw[aN z,kA (p:=fun k=>decide ((S.aE.getD k default).aH=aH)) z]; rfl
   refine⟨_,rfl,q,_,dq,_,_,rfl,A7,G.d9,G.kO,Eb _ _,_,rfl,rfl,_,rfl,cG (fun z=>?_) (fun z=>?_)⟩
   ·rw[aY (aK (Af z))] at rN;refine⟨_,rfl,_,iA,bf (by rw[ae]; lia),hD,_,qs ++ [q],rfl,t3.dk hD,by rw[ag,aL]; rfl,?_⟩;rw[rN];have kp: ∀{y C:Addr} {gs:List (Str×V)},eF H6 y C gs->eF (upd H6 D (.lst (qs.map V.ref ++ [V.ref q]))) y C gs:=fun{y C gs} ⟨dy,ey⟩=>⟨dy,by rw[az (mH ey iA (by intro w; cases w))]; exact ey⟩;exact cu (Paired.gX hB fun _ _ w=>kp w) (kp ⟨dq,A7⟩)
   ·rw[aN (by rw[bL (vR z)]; exact aX),cf] at rN;refine⟨hD,_,qs,rfl,t3,iA,?_⟩;rw[rN];exact hB
  ·rintro D σ H6 hD ⟨_,v,qs,rfl,t3,iA,hB⟩;have HB:(iK.map V.ref).length=S.aE.length:=by rw[ae]; exact hO.1
   rw[HB] at hB;have HN:=bQ YU t3;have hth:gx S.aE aH (·.b)=(fm S.aE aH S.aE.length).map fun k=>((S.bl k).b,k):=rfl;have Iy: ∀x∈fm S.aE aH S.aE.length,x < S.aE.length:=fun x hx=>dJ.mp (ee.mp hx).1;have Mx:(fm S.aE aH S.aE.length).Nodup:=ur.filter _;have YV:(fm S.aE aH S.aE.length).length<=S.aE.length:=aV (aW _ _) (by rw[dC]; exact aD _);have kM:inOrder S.aE aH (·.b)=(fI ((fm S.aE aH S.aE.length).map fun k=>((S.bl k).b,k))).map (·.2):=rfl;generalize fm S.aE aH S.aE.length=ks at hB Iy Mx YV kM;have YW:=aO hB;have Ko:((ks.map fun k=>((S.bl k).b,k)):List (Int×Nat)).length=ks.length:=ae _;have rO: ∀x∈(ks.map fun k=>((S.bl k).b,k)),x.2 < 1000:=fun x hx=>by
    obtain⟨k0,Ry,rfl⟩:=bJ.mp hx;have:=Iy k0 Ry;show k0 < 1000;lia
   have hnd:((ks.map fun k=>((S.bl k).b,k)).map (·.2)).Nodup:=by
    rw[ff];have e:((fun x:Int×Nat=>x.2) ∘ fun k=>((S.bl k).b,k))=id:=rfl;rw[e,LF];exact Mx
   have Er: ∀i,i < ks.length->(ks.map fun k=>((S.bl k).b,k)).getD i (0,0)=((S.bl (ks.getD i 0)).b,ks.getD i 0):=fun i hi=>getD_map (fun k=>((S.bl k).b,k)) ks i 0 (0,0) hi;generalize YX:(ks.map fun k=>((S.bl k).b,k))=th at Ko rO hnd Er kM;refine⟨_,rfl,D,qs.map V.ref,th.map FC,vH,rfl,bG.of iA,by rw[ae]; lia,by rw[ae,ae]; lia,HN,(fun t ht=>?_),(fun t ht u hu=>?_),fun i hi H2 fr R hR=>?_,fun D2 p H2 hp le fr DT Dr En=>?_⟩
   ·obtain⟨x,_,rfl⟩:=bJ.mp ht;simp[FC]
   ·obtain⟨x,BK,rfl⟩:=bJ.mp ht;obtain⟨y,Dp,rfl⟩:=bJ.mp hu;exact vI (rO x BK) (rO y Dp) (fun e=>⟨rfl,oM hnd BK Dp e⟩) rfl
   ·rw[ae] at hi;have zq:i < ks.length:=by lia
    obtain⟨q,e1,e2⟩:=bK hB (af zq);have YY:(qs.map V.ref).getD i .eA= .ref q:=by rw[ak,aC,e1]; rfl
    have YZ:ks.getD i 0=ks[i]:=by rw[ak,af zq]; rfl
    obtain⟨dq,A7⟩:=e2.frame fr (v9 HN e2);rw[rM (by lia),Er i zq,YZ] at hR;rw[YY];exact⟨_,rfl,q,_,dq,_,_,rfl,A7,G.d9,G.nN,JV _ _,_,rfl,q,_,dq,_,_,rfl,A7,G.d9,G.eX,lK _ _,(by show 2<=sizeLine; decide),fun p np=>hR p np⟩
   ·rw[ae] at hp;have iS: ∀i∈p,i < ks.length:=fun i hi=>by have:=dJ.mp (hp.mem_iff.mp hi); lia
    have Ql:=v8 rO hnd (by rw[Ko,YW]; exact hp) le;have Lv:iO A H2 S ks qs:=Paired.gX hB fun _ _ w=>w.frame fr (v9 HN w);refine k D2 (p.map fun i=>qs.getD i tb) H2 ((t3.frame).tr fr) DT (t3.free Dr) ?_ ?_
    ·rw[En,ff]
     congr 2
     apply fT;intro i hi;exact getD_map V.ref qs i tb .eA (by have:=iS i hi; lia)
    ·rw[kM,← Ql,ff];have e:p.map ((fun x:Int×Nat=>x.2) ∘ fun i=>th.getD i (0,0))=p.map fun i=>ks.getD i 0:=fT fun i hi=>by
      show(th.getD i (0,0)).2=_;rw[Er i (iS i hi)]
     rw[e];exact oh Lv 0 tb p iS
def Qm:Pos:=⟨72,30,72,72⟩
inductive uG (A:dZ)(tb:Addr)(vs:List V)(H:Hp)(Q:VK)(E':XK):Prop
 |mk (pb:Addr)(iK:List Addr)(S:Bk)(aH:Str)(h1:vs=[.ref pb,.str aH])(h2:H pb=some (.lst (iK.map V.ref)))(h3:gz H A.d8 fk S.credits iK)(h4:S.credits.length < 64)(h5:Tb H tb Qm ((("credits_in_order":Str) ++ ".<locals>.") ++ "<lambda>"))(h6: ∀D qs H',Frame [tb] H H'->Tb H' tb Qm ((("credits_in_order":Str) ++ ".<locals>.") ++ "<lambda>")->H D=none->H' D=some (.lst (qs.map V.ref))->gR A H' S (inOrder S.credits aH (·.a)) qs->Q (.ref D) H'):uG A tb vs H Q E'
def jE:aU ["all_credits","who","theirs"] ["all_credits","who"] (aA (top 18)):={}
def kg (T:Txt K mg){A:dZ}{tb:Addr}(G:jI K mg A)(DL:qI K mg "credits_in_order" (top 18) tb)(KB:K.In base)(BM:BMain mg base):fu P w K mg base "credits_in_order" 2 ["all_credits","who"] (uG A tb):=by
 refine DL.fQ (k:=1) KB jE (fun f c A' outer s H vs Q E CH hr h=>?_)
 ·obtain⟨pb,iK,S,aH,rfl,Us,hO,hl,YU,k⟩:=h;have nd:=jE.nd;refine⟨_,(ai (ji (i:=2) nd rfl (Or.inl rfl) (tn:=["credit"]) (cn:=["who"]) (cj:=[1]) rfl (iG (zk:=[(".0",.local),("credit",.local),("who",.cell)])) (rh (pv 0)) (fun _ _ _ _=>(eB (i:=0) (show(["credit","who"]:List Str).Nodup by decide +kernel) rfl (Or.inl rfl))) (fun _ _ _ _=>(qd (a0 dg (fE (K:=K) rfl (pv 0) rfl) (pv 1) (bb _)))) (fun _ _ _ _=>(pv 0)))
(av (a9 (vA (N:=["credit"]) (y:="credit") rfl T.vG BM rfl CH (hr.mono (by decide)) {} (fun _ _ _ _ _=>(cK (aa (fE (K:=K) rfl (pv 0) rfl) (aa (fE (K:=K) rfl (pv 0) rfl) aw)))) (pv 2))))),?_⟩
  refine⟨_,rfl,pb,rfl,⟨_,bG.of Us⟩,?_⟩;refine dS (K:=K) (a:=pb) (xs:=iK.map V.ref) (fun D i σ H6=>H D=none/\ ∃(v:Option V) (qs:List Addr),σ=[v,some (.str aH)]/\aF H H6/\H6 D=some (.lst (qs.map V.ref))/\gR A H6 S (fm S.credits aH i) qs) (fun D hD=>⟨hD,none,[],rfl,aF.new hD,ag,.nil⟩) (fun D i σ H6 _ ⟨_,_,_,_,t3,_⟩=>bG.of (t3 _ _ Us)) ?_ ?_
  ·rintro D i x σ H6 hx ⟨hD,v,qs,rfl,t3,iA,hB⟩;rw[aC] at hx;obtain⟨q,hq,rfl⟩:=a8.mp hx;have hi:i < S.credits.length:=by have:=(ah.mp hq).1; have:=hO.1; lia
   obtain⟨dq,A7⟩:=(hO.2 i q hq).same t3;have hql:qs.length<=100:=by
    have e1:=aO hB;have e2:(fm S.credits aH i).length<=i:=aV (aW _ _) (by rw[dC]; exact aD _);lia
   have rN:fm S.credits aH (i + 1)=fm S.credits aH i ++ (if decide ((S.credits.getD i default).aH=aH)=true then[i] else[]):=by
    unfold fm;rw[wR,gj]
    congr 1
    by_cases z:decide ((S.credits.getD i default).aH=aH)=true
    ·rw[aY z,cO (p:=fun k=>decide ((S.credits.getD k default).aH=aH)) z]; rfl
    ·rw[aN z,kA (p:=fun k=>decide ((S.credits.getD k default).aH=aH)) z]; rfl
   refine⟨_,rfl,q,_,dq,_,_,rfl,A7,G.df,G.lp,JW _ _,_,rfl,rfl,_,rfl,cG (fun z=>?_) (fun z=>?_)⟩
   ·rw[aY (aK (Af z))] at rN;refine⟨_,rfl,_,iA,bf (by rw[ae]; lia),hD,_,qs ++ [q],rfl,t3.dk hD,by rw[ag,aL]; rfl,?_⟩;rw[rN];have kp: ∀{y C:Addr} {gs:List (Str×V)},eF H6 y C gs->eF (upd H6 D (.lst (qs.map V.ref ++ [V.ref q]))) y C gs:=fun{y C gs} ⟨dy,ey⟩=>⟨dy,by rw[az (mH ey iA (by intro w; cases w))]; exact ey⟩;exact cu (Paired.gX hB fun _ _ w=>kp w) (kp ⟨dq,A7⟩)
   ·rw[aN (by rw[bL (vR z)]; exact aX),cf] at rN;refine⟨hD,_,qs,rfl,t3,iA,?_⟩;rw[rN];exact hB
  ·rintro D σ H6 hD ⟨_,v,qs,rfl,t3,iA,hB⟩;have HB:(iK.map V.ref).length=S.credits.length:=by rw[ae]; exact hO.1
   rw[HB] at hB;have HN:=bQ YU t3;have hth:gx S.credits aH (·.a)=(fm S.credits aH S.credits.length).map fun k=>((S.cr k).a,k):=rfl;have Iy: ∀x∈fm S.credits aH S.credits.length,x < S.credits.length:=fun x hx=>dJ.mp (ee.mp hx).1;have Mx:(fm S.credits aH S.credits.length).Nodup:=ur.filter _;have YV:(fm S.credits aH S.credits.length).length<=S.credits.length:=aV (aW _ _) (by rw[dC]; exact aD _);have kM:inOrder S.credits aH (·.a)=(fI ((fm S.credits aH S.credits.length).map fun k=>((S.cr k).a,k))).map (·.2):=rfl;generalize fm S.credits aH S.credits.length=ks at hB Iy Mx YV kM;have YW:=aO hB;have Ko:((ks.map fun k=>((S.cr k).a,k)):List (Int×Nat)).length=ks.length:=ae _;have rO: ∀x∈(ks.map fun k=>((S.cr k).a,k)),x.2 < 1000:=fun x hx=>by
    obtain⟨k0,Ry,rfl⟩:=bJ.mp hx;have:=Iy k0 Ry;show k0 < 1000;lia
   have hnd:((ks.map fun k=>((S.cr k).a,k)).map (·.2)).Nodup:=by
    rw[ff];have e:((fun x:Int×Nat=>x.2) ∘ fun k=>((S.cr k).a,k))=id:=rfl;rw[e,LF];exact Mx
   have Er: ∀i,i < ks.length->(ks.map fun k=>((S.cr k).a,k)).getD i (0,0)=((S.cr (ks.getD i 0)).a,ks.getD i 0):=fun i hi=>getD_map (fun k=>((S.cr k).a,k)) ks i 0 (0,0) hi;generalize YX:(ks.map fun k=>((S.cr k).a,k))=th at Ko rO hnd Er kM;refine⟨_,rfl,D,qs.map V.ref,th.map FC,vH,rfl,bG.of iA,by rw[ae]; lia,by rw[ae,ae]; lia,HN,(fun t ht=>?_),(fun t ht u hu=>?_),fun i hi H2 fr R hR=>?_,fun D2 p H2 hp le fr DT Dr En=>?_⟩
   ·obtain⟨x,_,rfl⟩:=bJ.mp ht;simp[FC]
   ·obtain⟨x,BK,rfl⟩:=bJ.mp ht;obtain⟨y,Dp,rfl⟩:=bJ.mp hu;exact vI (rO x BK) (rO y Dp) (fun e=>⟨rfl,oM hnd BK Dp e⟩) rfl
   ·rw[ae] at hi;have zq:i < ks.length:=by lia
    obtain⟨q,e1,e2⟩:=bK hB (af zq);have YY:(qs.map V.ref).getD i .eA= .ref q:=by rw[ak,aC,e1]; rfl
    have YZ:ks.getD i 0=ks[i]:=by rw[ak,af zq]; rfl
    obtain⟨dq,A7⟩:=e2.frame fr (v9 HN e2);rw[rM (by lia),Er i zq,YZ] at hR;rw[YY];exact⟨_,rfl,q,_,dq,_,_,rfl,A7,G.df,G.jd,JX _ _,_,rfl,q,_,dq,_,_,rfl,A7,G.df,G.eU,oK _ _,(by show 2<=sizeLine; decide),fun p np=>hR p np⟩
   ·rw[ae] at hp;have iS: ∀i∈p,i < ks.length:=fun i hi=>by have:=dJ.mp (hp.mem_iff.mp hi); lia
    have Ql:=v8 rO hnd (by rw[Ko,YW]; exact hp) le;have Lv:gR A H2 S ks qs:=Paired.gX hB fun _ _ w=>w.frame fr (v9 HN w);refine k D2 (p.map fun i=>qs.getD i tb) H2 ((t3.frame).tr fr) DT (t3.free Dr) ?_ ?_
    ·rw[En,ff]
     congr 2
     apply fT;intro i hi;exact getD_map V.ref qs i tb .eA (by have:=iS i hi; lia)
    ·rw[kM,← Ql,ff];have e:p.map ((fun x:Int×Nat=>x.2) ∘ fun i=>th.getD i (0,0))=p.map fun i=>ks.getD i 0:=fT fun i hi=>by
      show(th.getD i (0,0)).2=_;rw[Er i (iS i hi)]
     rw[e];exact oh Lv 0 tb p iS
def wa {A:dZ}{H H':Hp}{pw tb:Addr}{S:Bk}{f:eT}(h:dG A H pw S f)(ht: ∃ps,H tb=some (.mY ps))(fr:Frame [tb] H H'):dG A H' pw S f:=by
 obtain⟨ps,ht⟩:=ht;have kl: ∀{a:Addr} {xs:List V},H a=some (.lst xs)->H' a=some (.lst xs):=fun{a xs} e=>fr _ _ (fun z=>by rw[ao.mp z,ht] at e; cases e) e;have ki: ∀{a C dx:Addr} {gs:List (Str×V)},H a=some (.ins C dx gs)->H' a=some (.ins C dx gs):=fun{a C dx gs} e=>fr _ _ (fun z=>by rw[ao.mp z,ht] at e; cases e) e;have kt:cI H H':=fun a xs e=>fr _ _ (fun z=>by rw[ao.mp z,ht] at e; cases e) e;obtain⟨dw,hw⟩:=h.obj;obtain⟨ms,m1,m2⟩:=h.hm;exact⟨⟨dw,ki hw⟩,kl h.hb,kl h.hc,kl h.hl,kl h.hf,⟨ms,kl m1,m2.mono kt⟩,h.rb.keep fun _ _ _ e=>ki e,h.rc.keep fun _ _ _ e=>ki e,h.nd⟩
def lV (H:Hp)(tb:Addr):Prop:=Tb H tb Qk ((("bills_in_order":Str) ++ ".<locals>.") ++ "<lambda>")
def mz (H:Hp)(tb:Addr):Prop:=Tb H tb Qm ((("credits_in_order":Str) ++ ".<locals>.") ++ "<lambda>")
inductive Ao (A:dZ)(tb:Addr)(vs:List V)(H:Hp)(Q:VK)(E':XK):Prop
 |mk (pw:Addr)(S:Bk)(f:eT)(n:Nat)(aH:Str)(day:Int)(h1:vs=[.ref pw,.str aH,.int day])(h2:dG A H pw S f)(h3:WF S n)(h4:n<=60)(h5:lV H tb)(h6: ∀D ms H',Frame [tb] H H'->lV H' tb->H D=none->H' D=some (.lst ms)->eN H' (S.eM true aH day) ms->Q (.ref D) H'):Ao A tb vs H Q E'
inductive Es (A:dZ)(tb:Addr)(vs:List V)(H:Hp)(Q:VK)(E':XK):Prop
 |mk (pw:Addr)(S:Bk)(f:eT)(n:Nat)(aH:Str)(day:Int)(h1:vs=[.ref pw,.str aH,.int day])(h2:dG A H pw S f)(h3:WF S n)(h4:n<=60)(h5:mz H tb)(h6: ∀D ms H',Frame [tb] H H'->mz H' tb->H D=none->H' D=some (.lst ms)->eN H' (S.eM false aH day) ms->Q (.ref D) H'):Es A tb vs H Q E'
def Et:aU ["work","who","day"] ["work","who","day"] (aA (top 36)):={}
def yK (T:Txt K mg){A:dZ}{tb:Addr}(G:jI K mg A)(DL:qI K mg "bills_in_order" (top 17) tb)(KB:K.In base)(BM:BMain mg base):fu P w K mg base "owed_at" 5 ["work","who","day"] (Ao A tb):=by
 have ja:fu P w K mg base "bills_in_order" 2 ["bills","who"] (uF A tb):=lU T G DL KB BM;have kh:fu P w K mg base "remaining_at" 4 ["work","told","place","day"] (rL A):=og T G;refine T.Hg.fQ (k:=4) Et (fun f cY A' outer s H vs Q E hr h=>?_)
 ·obtain⟨pw,S,g,n,aH,day,rfl,hW,wf,hn,hT,k⟩:=h;obtain⟨dw,hw⟩:=hW.obj;refine⟨_,(av (a9 (fc kh hr (aa (pv 0) (aa (fc ja hr (aa (kE (pv 0)) (aa (pv 1) aw))) (aa aj (aa (pv 2) aw))))))),?_⟩;refine⟨_,rfl,_,rfl,pw,_,dw,_,_,rfl,hw,G.bI,G.dX,jn g,_,rfl,g.pb,g.iK,S,aH,rfl,hW.hb,hW.rb,(by have:=wf.lb; lia),hT,fun D qs H1 fr FH nD hD hB=>?_⟩;have Ds:=wa hW (let⟨ps,e,_⟩:=hT; ⟨ps,e⟩) fr;have M0:(inOrder S.aE aH (·.b)).length<=100:=by
   have e:(inOrder S.aE aH (·.b)).length=((List.range S.aE.length).filter fun k=>decide ((S.aE.getD k default).aH=aH)).length:=by
    unfold inOrder gx;rw[ae,(dB _).length_eq,ae]
   have:=aW (fun k=>decide ((S.aE.getD k default).aH=aH)) (List.range S.aE.length);rw[dC] at this;have:=wf.lb;lia
  refine⟨_,rfl,pw,D,S,g,n,true,day,inOrder S.aE aH (·.b),qs,rfl,Ds,wf,(by have:=wf.lm; lia),hD,hB,M0,fun D2 ms H2 s2 Dr En hP=>?_⟩;exact k D2 ms H2 (fr.cS s2) (bQ FH s2) (fr.free (fun z=>by
   obtain⟨ps,e,_⟩:=FH;rw[ao.mp z,e] at Dr;cases Dr) Dr) En hP
def Eu:aU ["work","who","day"] ["work","who","day"] (aA (top 37)):={}
def HP (T:Txt K mg){A:dZ}{tb:Addr}(G:jI K mg A)(DL:qI K mg "credits_in_order" (top 18) tb)(KB:K.In base)(BM:BMain mg base):fu P w K mg base "free_at" 5 ["work","who","day"] (Es A tb):=by
 have il:fu P w K mg base "credits_in_order" 2 ["all_credits","who"] (uG A tb):=kg T G DL KB BM;have kh:fu P w K mg base "remaining_at" 4 ["work","told","place","day"] (rL A):=og T G;refine T.Hh.fQ (k:=4) Eu (fun f cY A' outer s H vs Q E hr h=>?_)
 ·obtain⟨pw,S,g,n,aH,day,rfl,hW,wf,hn,hT,k⟩:=h;obtain⟨dw,hw⟩:=hW.obj;refine⟨_,(av (a9 (fc kh hr (aa (pv 0) (aa (fc il hr (aa (kE (pv 0)) (aa (pv 1) aw))) (aa aj (aa (pv 2) aw))))))),?_⟩;refine⟨_,rfl,_,rfl,pw,_,dw,_,_,rfl,hw,G.bI,G.cF,ij g,_,rfl,g.pc,g.cps,S,aH,rfl,hW.hc,hW.rc,(by have:=wf.lc; lia),hT,fun D qs H1 fr FH nD hD hB=>?_⟩;have Ds:=wa hW (let⟨ps,e,_⟩:=hT; ⟨ps,e⟩) fr;have M0:(inOrder S.credits aH (·.a)).length<=100:=by
   have e:(inOrder S.credits aH (·.a)).length=((List.range S.credits.length).filter fun k=>decide ((S.credits.getD k default).aH=aH)).length:=by
    unfold inOrder gx;rw[ae,(dB _).length_eq,ae]
   have:=aW (fun k=>decide ((S.credits.getD k default).aH=aH)) (List.range S.credits.length);rw[dC] at this;have:=wf.lc;lia
  refine⟨_,rfl,pw,D,S,g,n,false,day,inOrder S.credits aH (·.a),qs,rfl,Ds,wf,(by have:=wf.lm; lia),hD,hB,M0,fun D2 ms H2 s2 Dr En hP=>?_⟩;exact k D2 ms H2 (fr.cS s2) (bQ FH s2) (fr.free (fun z=>by
   obtain⟨ps,e,_⟩:=FH;rw[ao.mp z,e] at Dr;cases Dr) Dr) En hP
inductive Ap (vs:List V)(H:Hp)(Q:VK)(E':XK):Prop
 |mk (gp:Int)(pl:Addr)(di:List Int)(h1:vs=[.int gp,.ref pl])(h2:H pl=some (.tup (di.map V.int)))(h3:di.length<=11)(h4: ∀H',aF H H'->Q (.int (L2.placeOf gp di:Int)) H'):Ap vs H Q E'
def CF:aU ["late","limits"] ["late","limits"] (aA (top 1)):={}
def Ew (T:Txt K mg):fu P w K mg base "place_of" 1 ["late","limits"] Ap:=by
 refine T.D7.fQ (k:=0) CF (fun f cY A' outer s H vs Q E hr h=>?_)
 ·obtain⟨gp,pl,di,rfl,iS,Kg,k⟩:=h;refine⟨_,(ai (bT (a0 yd (pv 0) aj (bb _))
(av (a9 aj))
bp)
(av (a9 (aQ dj aj (oJ T.eE (iF (tn:=["limit"]) (cn:=["late"]) (cj:=[0]) rfl (iG (zk:=[(".0",.local),("limit",.local),("late",.cell)])) (OP (pv 1)) (fun _ _ _ _=>(eB (i:=0) (show(["limit","late"]:List Str).Nodup by decide +kernel) rfl (Or.inl rfl))) (fun _ _ _ _=>(qd (a0 kH (pv 0) (pv 1) (bb _)))) (fun _ _ _ _=>(pv 0)))))))),?_⟩
  refine⟨_,rfl,_,_,rfl,rfl,_,rfl,cG (fun z=>?_) (fun z=>?_)⟩
  ·have z':gp<=0:=a6 z;have e:L2.placeOf gp di=0:=aY z';have q:=k H (aF.refl _);rw[e] at q;exact q
  have z': ¬ gp<=0:=fun q=>z (aK q);have e:L2.placeOf gp di=1 + (di.filter fun l=>decide (l < gp)).length:=aN z';refine⟨_,rfl,pl,rfl,⟨_,cE.of iS⟩,?_⟩;refine Jm (K:=K) (a:=pl) (xs:=di.map V.int) (fun D' j σ H6=>H D'=none/\ ∃v,σ=[v,some (.int gp)]/\aF H H6/\H6 D'=some (.lst (((di.take j).filter fun l=>decide (l < gp)).map V.int))) (fun D' Em=>⟨Em,none,rfl,aF.new Em,ag⟩) (fun D' j σ H6 _ ⟨_,_,_,t3,_⟩=>cE.of (t3 _ _ iS)) ?_ ?_
  ·rintro D' j x σ H6 N5 ⟨Em,v,rfl,t3,iA⟩;rw[aC] at N5;obtain⟨y,hy,rfl⟩:=a8.mp N5;have pG:=gH (fun l=>decide (l < gp)) hy;have hlen:((di.take j).filter fun l=>decide (l < gp)).length<=100:=by
    have:=aW (fun l=>decide (l < gp)) (di.take j);rw[ba] at this;lia
   refine⟨_,rfl,_,rfl,_,_,rfl,rfl,_,rfl,cG (fun q=>?_) (fun q=>?_)⟩
   ·rw[aY q] at pG;refine⟨_,rfl,_,iA,bf (by rw[ae]; lia),Em,_,rfl,t3.dk Em,?_⟩;rw[ag,pG,aL];rfl
   ·rw[aN q,cf] at pG;refine⟨Em,_,rfl,t3,?_⟩;rw[pG];exact iA
  ·rintro D' σ H6 Em ⟨_,v,rfl,t3,iA⟩;refine⟨D',_,rfl,.inl (bG.of iA),_,_,rfl,rfl,?_⟩;have q:=k H6 t3;rw[e] at q;have e2:(1:Int) + ((((di.take (di.map V.int).length).filter fun l=>decide (l < gp)).map V.int).length:Int)=((1 + (di.filter fun l=>decide (l < gp)).length:Nat):Int):=by
    rw[ae,ae,aZ];simp
   rw[← e2] at q;exact q
inductive Ex (A:dZ)(tb:Addr)(vs:List V)(H:Hp)(Q:VK)(E':XK):Prop
 |mk (pw pl:Addr)(S:Bk)(f:eT)(n:Nat)(aH:Str)(day:Int)(di:List Int)(h1:vs=[.ref pw,.str aH,.int day,.ref pl])(h2:dG A H pw S f)(h3:WF S n)(h4:n<=60)(h5:lV H tb)(h6:H pl=some (.tup (di.map V.int)))(h7:di.length<=11)(h8: ∀D H',Frame [tb] H H'->lV H' tb->H D=none->H' D=some (.lst ((S.Pn aH day di).map V.int))->Q (.ref D) H'):Ex A tb vs H Q E'
def wb:aU ["work","who","day","limits","sums","number","left","place"] ["work","who","day","limits"] (aA (top 41)):={}
def HQ (T:Txt K mg){A:dZ}{tb:Addr}(G:jI K mg A)(DL:qI K mg "bills_in_order" (top 17) tb)(KB:K.In base)(BM:BMain mg base):fu P w K mg base "ages_at" 6 ["work","who","day","limits"] (Ex A tb):=by
 have sR:fu P w K mg base "owed_at" 5 ["work","who","day"] (Ao A tb):=yK T G DL KB BM;have Ey:fu P w K mg base "place_of" 1 ["late","limits"] Ap:=Ew T;refine T.Hj.fQ (k:=5) wb (fun f cY A' outer s H vs Q E hr h=>?_)
 ·obtain⟨pw,pl,S,g,n,aH,day,di,rfl,hW,wf,hn,hT,iS,Kg,k⟩:=h;have nd:=wb.nd;refine⟨_,(ai (sv 4 nd (aQ zh (bS (aa aj aw)) (aQ dj (oJ T.eE (pv 3)) aj)))
(ai (eJ bB rfl (rh (fc sR hr (aa (pv 0) (aa (pv 1) (aa (pv 2) aw))))) (gT (bW (gn 5 nd) (bW (gn 6 nd) gq)))
(ai (sv 7 nd (fc Ey hr (aa (aQ fN (pv 2) (kE (xl (kE (pv 0)) (pv 5)))) (aa (pv 3) aw))))
(av (ng (aQ dj (xl (pv 4) (pv 7)) (pv 6)) (sx (pv 4) (pv 7) set_list)))))
(av (a9 (pv 4))))),?_⟩
  refine⟨(by show 1<=sizeLine; decide),fun p9 n9=>?_⟩;have t9:=aF.new (o:= .lst [V.int 0]) n9;have Ut:(di.map V.int).length=di.length:=ae _;refine⟨_,rfl,pl,_,rfl,.inr (cE.of (t9 _ _ iS)),_,_,rfl,rfl,p9,_,_,rfl,rfl,ag,by lia,by lia,?_,fun ps Ez=>?_⟩
  ·show 1 * _<=sizeLine;rw[Ut,eP];lia
  have e2:(((di.map V.int).length:Int) + 2).toNat=di.length + 2:=by rw[Ut]; lia
  rw[e2,MY];have Cy:=aF.new (o:= .lst ((List.replicate (di.length + 2) (0:Int)).map V.int)) Ez;have Kk:=t9.trans Cy;have mZ:upd (upd H p9 (.lst [V.int 0])) ps (.lst ((List.replicate (di.length + 2) (0:Int)).map V.int)) ps=some (.lst ((List.replicate (di.length + 2) (0:Int)).map V.int)):=ag;have Qn:H ps=none:=t9.free Ez;generalize upd (upd H p9 (.lst [V.int 0])) ps (.lst ((List.replicate (di.length + 2) (0:Int)).map V.int))=H1 at Kk mZ;have FH:=bQ hT Kk;refine⟨_,rfl,_,rfl,_,rfl,pw,S,g,n,aH,day,rfl,hW.same Kk,wf,hn,FH,fun D ms H2 fr DT nD hD hP=>?_⟩;refine⟨D,rfl,⟨_,bG.of hD⟩,?_⟩;have mY: ∃q,H1 tb=some (.mY q):=let⟨q,e,_⟩:=FH; ⟨q,e⟩
  have off: ∀{a:Addr} {o:HO},H1 a=some o->(∀q,o≠ .mY q)->H2 a=some o:=fun{a o} e hq=>fr _ _ (fun z=>by
   obtain⟨q,eq⟩:=mY;rw[ao.mp z,eq] at e;exact hq q (aG e).symm) e
  have Aq:=wa (hW.same Kk) mY fr;have Qo:=off mZ (fun _ z=>by cases z);have Qp:=off (Kk _ _ iS) (fun _ z=>by cases z);have fr0:Frame [tb] H H2:=fr.mq Kk;have Kp: ∀t∈S.eM true aH day,t.1 < S.aE.length:=fun t ht=>HG (bD:=true) ht;have hag:S.Pn aH day di=(S.eM true aH day).foldl (fun l t=>tL l (L2.placeOf (day - (S.bl t.1).b) di) t.2) (List.replicate (di.length + 2) 0):=rfl;rw[hag] at k;generalize S.eM true aH day=ts at hP Kp k;have hDp:D≠ps:=fun e=>by rw[e,mZ] at nD; cases nD
  refine fA (K:=K) (a:=D) (xs:=ms) (fun i σ H3=> ∃(l:List Int) (x5 x6 x7:Option V),σ=[some (.ref pw),some (.str aH),some (.int day),some (.ref pl),some (.ref ps),x5,x6,x7]/\Frame [ps] H2 H3/\H3 ps=some (.lst (l.map V.int))/\l.length=di.length + 2/\l=(ts.take i).foldl (fun l t=>tL l (L2.placeOf (day - (S.bl t.1).b) di) t.2) (List.replicate (di.length + 2) 0))
   ⟨_,none,none,none,rfl,Frame.refl,Qo,List.length_replicate,rfl⟩ (fun i σ H3 _ ⟨_,_,_,_,_,f3,_⟩=>bG.of (f3 _ _ (by simpa using hDp) hD)) ?_ ?_
  ·rintro i x σ H3 hx ⟨l,x5,x6,x7,rfl,f3,Ru,Ar,he⟩;have Ww: ∀{a:Addr} {o:HO},H2 a=some o->(∀q,o≠ .lst q)->H3 a=some o:=fun{a o} e hq=>f3 _ _ (fun z=>by
    rw[ao.mp z,Qo] at e;exact hq _ (aG e).symm) e
   have hi:i < ts.length:=by have:=(ah.mp hx).1; have:=aO hP; lia
   have qH:=af hi;obtain⟨v,hv,p,rfl,hp⟩:=bK hP qH;rw[hx] at hv;obtain rfl:x= .ref p:=aG hv;have hm:=Kp _ (bH hi);rw[lR (fun l t=>tL l (L2.placeOf (day - (S.bl t.1).b) di) t.2) ts _ qH,← he];generalize ts[i]=t at hp hm;obtain⟨dw,hw⟩:=Aq.obj;obtain⟨q,q1,dq,q2⟩:=Aq.rb.get hm;have Y0:g.pb∉[ps]:=fun z=>by
    have e:=hW.hb;rw[ao.mp z,Qn] at e;cases e
   have RN:=Ww hp (fun _ z=>by cases z);have hw3:=Ww hw (fun _ z=>by cases z);have hq3:=Ww q2 (fun _ z=>by cases z);have Y1:=Ww Qp (fun _ z=>by cases z);refine⟨p,_,rfl,cE.of RN,rfl,_,_,rfl,_,_,rfl,rfl,?_⟩;refine⟨_,rfl,_,rfl,pw,_,dw,_,_,rfl,hw3,G.bI,G.dX,jn g,_,rfl,g.pb,_,_,.ref q,rfl,rfl,bG.of (f3 _ _ Y0 Aq.hb),cw (by rw[aC,q1]; rfl),q,_,dq,_,_,rfl,hq3,G.d9,G.nN,JV _ _,_,_,rfl,rfl,_,rfl,_,pl,di,rfl,Y1,Kg,fun H4 s4=>?_⟩;have Uu:=Ep (day - (S.bl t.1).b) di;have hs4:=s4 _ _ Ru;refine⟨_,rfl,_,rfl,ps,_,_,.int (l.getD (L2.placeOf (day - (S.bl t.1).b) di) 0),rfl,rfl,bG.of hs4,sO (by show L2.placeOf (day - (S.bl t.1).b) di < _; lia),_,rfl,_,_,rfl,rfl,?_⟩;refine⟨_,rfl,_,rfl,ps,_,_,L2.placeOf (day - (S.bl t.1).b) di,rfl,rfl,hs4,uz (by rw[ae]; show L2.placeOf (day - (S.bl t.1).b) di < _; lia),?_⟩;refine⟨tL l (L2.placeOf (day - (S.bl t.1).b) di) t.2,_,_,_,rfl,(f3.cS s4).tr (Frame.upd (by simp)),?_,?_,rfl⟩
   ·rw[ag];unfold tL;rw[List.map_set]
   ·rw[HJ]; exact Ar
  ·rintro σ H3 ⟨l,x5,x6,x7,rfl,f3,Ru,Ar,he⟩;rw[← aO hP,aZ] at he;rw[he] at Ru;refine⟨_,rfl,k ps H3 (fun b o hb e=>f3 b o (fun z=>by rw[ao.mp z,Qn] at e; cases e) (fr0 b o hb e)) ?_ Qn Ru⟩;obtain⟨q,e1,SW,e3⟩:=DT;have kx: ∀{a:Addr} {o:HO},H2 a=some o->(∀q,o≠ .lst q)->H3 a=some o:=fun{a o} e hq=>f3 _ _ (fun z=>by
    rw[ao.mp z,Qo] at e;exact hq _ (aG e).symm) e
   refine⟨q,kx e1 (fun _ z=>by cases z),SW,?_⟩;rcases e3 with e3|⟨c',e3,e4⟩
   ·exact .inl e3
   ·exact .inr ⟨c',e3,kx e4 (fun _ z=>by cases z)⟩
def eZ (pk pw:Addr):List (Str×V):=[("kept",.ref pk),("work",.ref pw)]
def uH (pk pw:Addr):(eZ pk pw).lookup ("kept":Str)=some (V.ref pk):=by rfl
def uI (pk pw:Addr):(eZ pk pw).lookup ("work":Str)=some (V.ref pw):=by rfl
def Kq (pk pw:Addr):eK "work" (.ref pw) (eK "kept" (.ref pk) [])=eZ pk pw:=by rfl
inductive As (A:dZ)(vs:List V)(H:Hp)(Q:VK)(E':XK):Prop
 |mk (x dx:Addr)(h1:vs=[.ref x])(h2:H x=some (.ins A.book dx []))(h3: ∀pk pw f H',Frame [x] H H'->H' x=some (.ins A.book dx (eZ pk pw))->H' pk=some (.dK [])->dG A H' pw Bk.new f->H pk=none->H pw=none->(∀b∈f.fp,H b=none)->pk∉f.fp->Q .eA H'):As A vs H Q E'
def M3:aU ["self"] ["self"] (aA (mem 29 0)):={}
def Qq {A:dZ}(G:jI K mg A):ui P w K mg base "Book" A.book 3 ["self"] (As A):=by
 have EA:ui P w K mg base "Work" A.work 1 ["self"] (uC A):=Ki G;refine MN (k:=2) G.ML G.MK M3 (fun f cY A' outer s H vs Q E hr h=>?_)
 ·obtain⟨x,dx,rfl,hx,k⟩:=h;refine⟨_,(ai (mj (pv 0) Bz) (av (mj (pv 0) (JY EA (hr.mono (by decide)) rfl)))),?_⟩;intro pk nk;have ne1:pk≠x:=(aJ hx nk).symm;refine⟨_,rfl,x,_,dx,_,rfl,aF.new nk _ _ hx,G.eY,G.gP,lt1000 Cn (by decide),?_⟩;have F1:Frame [x] H (upd (upd H pk (.dK [])) x (.ins A.book dx (eK "kept" (.ref pk) []))):=(aF.new nk).frame.tr (Frame.upd (by simp));have g1:upd (upd H pk (.dK [])) x (.ins A.book dx (eK "kept" (.ref pk) [])) x=some (.ins A.book dx (eK "kept" (.ref pk) [])):=ag;have k1:upd (upd H pk (.dK [])) x (.ins A.book dx (eK "kept" (.ref pk) [])) pk=some (.dK []):=by rw[az ne1,ag]
  generalize upd (upd H pk (.dK [])) x (.ins A.book dx (eK "kept" (.ref pk) []))=H1 at F1 g1 k1 ⊢;intro xw Y2 M4 Qr ne;have s2:=lQ (C:=A.work) (fs:=[]) M4 Qr ne;refine⟨xw,Y2,rfl,ag,fun g H3 LQ W3 nf=>⟨rfl,?_⟩⟩;have Y3:x≠xw:=aJ g1 M4;have nek:pk≠xw:=aJ k1 M4;have g3:=LQ _ _ (by simpa using Y3) (s2 _ _ g1);have k3:=LQ _ _ (by simpa using nek) (s2 _ _ k1);refine⟨_,rfl,x,_,dx,_,rfl,g3,G.eY,G.gQ,lt1000 (pl Cn) (by decide),?_⟩;rw[Kq];have fw: ∀b∈g.fp,H1 b=none:=fun b hb=>s2.free (nf b hb);have off: ∀b,H1 b=none->b≠x->H b=none:=fun b e n=>F1.free (by simpa using n) e;have xf:x∉g.fp:=fun z=>by have:=fw x z; rw[g1] at this; cases this
  have Uv:dG A (upd H3 x (.ins A.book dx (eZ pk xw))) xw Bk.new g:=by
   obtain⟨dw,hw⟩:=W3.obj;obtain⟨ms,m1,m2⟩:=W3.hm;have nx: ∀p∈g.fp,p≠x:=fun p hp z=>xf (z▸hp);refine⟨⟨dw,by rw[az Y3.symm]; exact hw⟩,by rw[az (nx _ (by simp[eT.fp]))]; exact W3.hb,by rw[az (nx _ (by simp[eT.fp]))]; exact W3.hc,by rw[az (nx _ (by simp[eT.fp]))]; exact W3.hl,by rw[az (nx _ (by simp[eT.fp]))]; exact W3.hf,⟨ms,by rw[az (nx _ (by simp[eT.fp]))]; exact m1,?_⟩,?_,?_,W3.nd⟩
   ·cases m2;exact .nil
   ·exact⟨W3.rb.1,fun i p e=>by have:=(ah.mp e).1; have h0:=W3.rb.1; rw[h0] at this; exact absurd this (en _)⟩
   ·exact⟨W3.rc.1,fun i p e=>by have:=(ah.mp e).1; have h0:=W3.rc.1; rw[h0] at this; exact absurd this (en _)⟩
  refine k pk xw g _ ?_ ag (by rw[az ne1]; exact k3) Uv nk (off xw M4 Y3.symm) (fun b hb=>off b (fw b hb) (fun z=>xf (z▸hb))) (fun z=>by have:=fw pk z; rw[k1] at this; cases this);intro b o hb e;have bx:b≠x:=by simpa using hb
  rw[az bx];have e1:=F1 b o hb e;exact LQ b o (by simpa using aJ e1 M4) (s2 b o e1)
def Au (r:List Bool):Dt:= .lst (r.map Dt.bl)
def Kr (t:Nat×Nat×Int):Dt:= .tup [.int t.1,.int t.2.1,.int t.2.2]
def iu (fs ls:List Int)(al:List (List Bool)): ∀i,(bV fs ls al i).2.length<=i
 |0=>aD _
 |i + 1=>by
  have:=iu fs ls al i;unfold bV;split
  ·lia
  ·rw[ax]; show _ + 1<=_; lia
def Y4:Option Nat->V
 |none=> .eA
 |some j=> .int j
def qv (bh:List (Key×V))(j:Nat):Bool:=(gu bh (Sum.inl (j:Int):Key)).isSome
inductive Av (K:Frag)(vs:List V)(H:Hp)(Q:VK)(E':XK):Prop
 |mk (f:Int)(pl:Addr)(ls:List Int)(pr:Addr)(row:List Bool)(pt:Addr)(bh:List (Key×V))(h1:vs=[.int f,.ref pl,.ref pr,.ref pt])(h2:bG K H pl (ls.map V.int))(h3:bG K H pr (row.map V.bl))(h4:row.length=ls.length)(h5:H pt=some (.dK bh))(h6: ∀H',aF H H'->Q (Y4 (ie f ls row (qv bh))) H'):Av K vs H Q E'
def oj (H:Hp)(ms:List (Nat×Nat×Int))(vs:List V):Prop:=Paired (fun(t:Nat×Nat×Int) v=> ∃p,v= .ref p/\H p=some (.tup [.int t.1,.int t.2.1,.int t.2.2])) ms vs
def oj.mono {H H':Hp}{ms:List (Nat×Nat×Int)}{vs:List V}(h:oj H ms vs)(k: ∀b xs,H b=some (.tup xs)->H' b=some (.tup xs)):oj H' ms vs:=
 Paired.gX h fun _ _ ⟨p,e,q⟩=>⟨p,e,k _ _ q⟩
def oj.rp {H:Hp}: ∀{ms:List (Nat×Nat×Int)} {vs:List V},oj H ms vs->gY H (ms.map Kr) vs
 |_,_,.nil=>cq.mpr rfl
 |_,_,.cons ⟨p,e,q⟩ t=>br.mpr ⟨_,_,rfl,e▸eL q (br.mpr ⟨_,_,rfl,dA.mpr rfl,br.mpr ⟨_,_,rfl,dA.mpr rfl,br.mpr ⟨_,_,rfl,dA.mpr rfl,cq.mpr rfl⟩⟩⟩),oj.rp t⟩
def M5 {H:Hp}{p:Addr}{o:HO}{bh:List (Key×V)}(h:H p=some (.dK bh)): ∀b xs,H b=some (.tup xs)->upd H p o b=some (.tup xs):=fun b xs e=>by
 rw[az (mH e h (by intro z; cases z))]; exact e
def om:aU ["free","lefts","fitting","taken","bill","left"] ["free","lefts","fitting","taken"] (aA (top 21)):={}
def xN (T:Txt K mg):fu P w K mg base "first_alike" 1 ["free","lefts","fitting","taken"] (Av K):=by
 refine T.xj.fQ (k:=0) om (fun f cY A outer s H vs Q E hr h=>?_)
 ·obtain⟨fr,pl,ls,pr,row,pt,bh,rfl,hL,hR,Dk,hT,k⟩:=h;have hu:=kK hr;have nd:=om.nd;refine⟨_,(ai (eJ bB rfl (qU rfl T.jm (aa (pv 1) aw)) (gT (bW (gn 4 nd) (bW (gn 5 nd) gq)))
(av (bT (PW.pt (pw_and (fM (xl (pv 2) (pv 4))) (pw_and (a0 dg (pv 5) (pv 0) (bb _)) (pw_and1 (y0 (GH hu (pv 4) (pv 3)))))))
(av (a9 (pv 4)))
bp)))
(av (a9 DD))),?_⟩
  refine⟨_,rfl,pl,rfl,⟨_,hL⟩,?_⟩;refine nA (K:=K) (a:=pl) (xs:=ls.map V.int) (fun i σ H2=> ∃x4 x5,σ=[some (.int fr),some (.ref pl),some (.ref pr),some (.ref pt),x4,x5]/\aF H H2/\ ∀j,j < i->(row.getD j false && decide (ls.getD j 0=fr) && !qv bh j)=false)
   ⟨none,none,rfl,aF.refl _,fun j hj=>absurd hj (en _)⟩ (fun i σ H2 _ ⟨_,_,_,s2,_⟩=>s2.seq hL) ?_ ?_
  ·rintro i x p σ H2 hx hp ⟨x4,x5,rfl,s2,Uw⟩;have hi:i < ls.length:=by have:=(ah.mp hx).1; rwa [ae] at this
   rw[aC,af hi] at hx;obtain rfl:V.int ls[i]=x:=aG hx;have s3:aF H2 (upd H2 p (.tup [.int i,.int ls[i]])):=aF.new hp;refine⟨p,_,rfl,cE.of ag,rfl,_,_,rfl,_,_,rfl,rfl,?_⟩;have s4:=s2.trans s3;generalize upd H2 p (.tup [.int i,.int ls[i]])=H3 at s4 ⊢;have Ux:i < row.length:=by lia
   have Qs:ls.getD i 0=ls[i]:=by rw[ak,af hi]; rfl
   have Uy:row.getD i false=row[i]:=by rw[ak,af Ux]; rfl
   have next:(row.getD i false && decide (ls.getD i 0=fr) && !qv bh i)=false-> ∀j,j < i + 1->(row.getD j false && decide (ls.getD j 0=fr) && !qv bh j)=false:=fun e j hj=>by
    rcases Nat.lt_succ_iff_lt_or_eq.mp hj with h|h
    ·exact Uw j h
    ·rw[h]; exact e
   refine⟨_,rfl,_,rfl,pr,_,_,.bl row[i],rfl,rfl,s4.seq hR,cw (by rw[aC,af Ux]; rfl),_,rfl,?_⟩;refine cG (fun c1=>?_) (fun c1=>bX ?_)
   ·refine⟨_,rfl,_,rfl,rfl,_,rfl,cG (fun c2=>?_) (fun c2=>bX ?_)⟩
    ·have Uz:ls[i]=fr:=by have:=a6 c2; injection this
     refine⟨_,rfl,_,rfl,pt,_,rfl,mS.k (k:=Sum.inl (i:Int)) (s4 _ _ hT),_,rfl,cG (fun c3=>?_) (fun c3=>?_)⟩
     ·
      refine⟨_,rfl,?_⟩;have e:ie fr ls row (qv bh)=some i:=by
       unfold ie;refine List.find?_range_eq_some.mpr ⟨?_,dJ.mpr hi,fun j hj=>?_⟩
       ·rw[Uy,Qs,c1,Uz];simpa[qv] using c3
       ·rw[Uw j hj]; rfl
      have q:=k H3 s4;rw[e] at q;exact q
     ·refine⟨_,_,rfl,s4,next ?_⟩;have c3':qv bh i=true:=by
       unfold qv;cases h:(gu bh (Sum.inl (i:Int):Key)).isSome with
       |true=>rfl
       |false=>rw[h] at c3; exact absurd rfl c3
      rw[c3']; simp
    ·have Uz: ¬ ls[i]=fr:=fun z=>c2 (aK (by rw[z]));refine⟨_,_,rfl,s4,next ?_⟩;rw[Qs,decide_eq_false Uz]; simp
   ·refine⟨_,_,rfl,s4,next ?_⟩;rw[Uy,Bool.eq_false_iff.mpr c1]; rfl
  ·rintro σ H2 ⟨x4,x5,rfl,s2,Uw⟩;rw[ae] at Uw;have e:ie fr ls row (qv bh)=none:=by
    unfold ie;refine List.find?_eq_none.mpr fun j hj=>?_;rw[Uw j (dJ.mp hj)];exact aX
   have q:=k H2 s2;rw[e] at q;exact q
inductive wc (K:Frag)(vs:List V)(H:Hp)(Q:VK)(E':XK):Prop
 |mk (pf pl pa:Addr)(fs ls:List Int)(al:List (List Bool))(h1:vs=[.ref pf,.ref pl,.ref pa])(h2:bG K H pf (fs.map V.int))(h3:bG K H pl (ls.map V.int))(h4:Rp H (.lst (al.map Au)) (.ref pa))(h5:fs.length<=1000)(h6:al.length=fs.length)(h7:(∀r∈al,r.length=ls.length))(h8: ∀v H',aF H H'->Rp H' (.lst ((bV fs ls al fs.length).2.map Kr)) v->Q v H'):wc K vs H Q E'
def CG:aU ["frees","lefts","allowed","taken","made","credit","free","bill"] ["frees","lefts","allowed"] (aA (top 20)):={}
def M6 (T:Txt K mg):fu P w K mg base "alike" 2 ["frees","lefts","allowed"] (wc K):=by
 have xO:fu P w K mg base "first_alike" 1 ["free","lefts","fitting","taken"] (Av K):=xN T;refine T.Mz.fQ (k:=1) CG (fun f cY A outer s H vs Q E hr h=>?_)
 ·obtain⟨pf,pl,pa,fs,ls,al,rfl,hF,hL,hA,hf1,Rv,Ks,k⟩:=h;have hu:=kK hr;have nd:=CG.nd;obtain⟨pa',refs,e0,RO,yL⟩:=jX.mp hA;cases e0;refine⟨_,(ai (sv 3 nd Bz)
(ai (sv 4 nd (bS aw))
(ai (eJ bB rfl (qU rfl T.jm (aa (pv 0) aw)) (gT (bW (gn 5 nd) (bW (gn 6 nd) gq)))
(ai (sv 7 nd (fc xO hr (aa (pv 6) (aa (pv 1) (aa (xl (pv 2) (pv 5)) (aa (pv 3) aw))))))
(av (bT (y0 (LM (pv 7)))
(ai (E8 hu (pv 3) (pv 7) kG rfl)
(av (bM (qo (pv 4) (cK (aa (pv 5) (aa (pv 7) (aa (pv 6) aw))))))))
bp))))
(av (a9 (pv 4)))))),?_⟩
  intro pt nt;refine⟨bq _,fun pm nm=>?_⟩;have s1:aF H (upd H pt (.dK [])):=aF.new nt;have s2:aF H (upd (upd H pt (.dK [])) pm (.lst [])):=s1.trans (aF.new nm);have Y5:H pm=none:=s1.free nm;have Ob:pt≠pm:=aJ ag nm;refine⟨_,rfl,pf,rfl,⟨_,s2.seq hF⟩,?_⟩;refine nA (K:=K) (a:=pf) (xs:=fs.map V.int) (fun i σ H2=> ∃x5 x6 x7 bh ms,σ=[some (.ref pf),some (.ref pl),some (.ref pa),some (.ref pt),some (.ref pm),x5,x6,x7]/\aF H H2/\H2 pt=some (.dK bh)/\(∀j:Nat,qv bh j=(bV fs ls al i).1 j)/\bh.length<=i/\H2 pm=some (.lst ms)/\oj H2 (bV fs ls al i).2 ms)
   ⟨none,none,none,[],[],rfl,s2,by rw[az Ob]; exact ag,fun j=>rfl,aD _,ag,.nil⟩ (fun i σ H2 _ ⟨_,_,_,_,_,_,s3,_⟩=>s3.seq hF) ?_ ?_
  ·rintro i x p σ H2 hx hp ⟨x5,x6,x7,bh,ms,rfl,s3,hT,pZ,Iy,hM,FI⟩;have hi:i < fs.length:=by have:=(ah.mp hx).1; rwa [ae] at this
   rw[aC,af hi] at hx;obtain rfl:V.int fs[i]=x:=aG hx;have s4:aF H2 (upd H2 p (.tup [.int i,.int fs[i]])):=aF.new hp;refine⟨p,_,rfl,cE.of ag,rfl,_,_,rfl,_,_,rfl,rfl,?_⟩;have s5:=s3.trans s4;have Oc:=s4 _ _ hT;have rP:=s4 _ _ hM;have EB:=FI.mono (gh s4);generalize upd H2 p (.tup [.int i,.int fs[i]])=H3 at s5 Oc rP EB ⊢;clear s4 hp;have UA:i < al.length:=by lia
   have g0:(al.map Au)[i]? =some (Au al[i]):=by rw[aC,af UA]; rfl
   obtain⟨rv,Wx,Wy⟩:=yL.get g0;obtain⟨pr,Y6,e1,N2,FD⟩:=jX.mp Wy;subst e1;have hrx:Y6=al[i].map V.bl:=by
    clear N2 Wx Wy;generalize al[i]=r at FD
    induction r generalizing Y6 with
    |nil=>exact cq.mp FD
    |cons b r ih=>
     obtain⟨v,rest,e,h1,h2⟩:=br.mp FD;rw[e,qW.mp h1,ih rest h2]; rfl
   subst hrx;have Y7:fs.getD i 0=fs[i]:=by rw[ak,af hi]; rfl
   have Y8:al.getD i []=al[i]:=by rw[ak,af UA]; rfl
   refine⟨_,rfl,_,rfl,_,rfl,_,rfl,pa,_,_,.ref pr,rfl,rfl,bG.of (s5 _ _ RO),cw Wx,_,rfl,fs[i],pl,ls,pr,al[i],pt,bh,rfl,s5.seq hL,bG.of (s5 _ _ N2),Ks _ (bH _),Oc,fun H4 s6=>?_⟩;have etk:qv bh=(bV fs ls al i).1:=funext pZ;have r6:bV fs ls al (i + 1)=match ie fs[i] ls al[i] (qv bh) with
     |none=>bV fs ls al i
     |some j=>(fun x=>x == j || (bV fs ls al i).1 x,(bV fs ls al i).2 ++ [(i,j,fs[i])]):=by
    rw[etk,← Y7,← Y8]; rfl
   cases hb:ie fs[i] ls al[i] (qv bh) with
   |none=>
    rw[hb] at r6;refine⟨_,rfl,_,rfl,bX ?_⟩;refine⟨_,_,_,bh,ms,rfl,s5.trans s6,s6 _ _ Oc,?_,by lia,s6 _ _ rP,?_⟩
    ·intro j; rw[r6]; exact pZ j
    ·rw[r6]; exact EB.mono (gh s6)
   |some j=>
    rw[hb] at r6;refine⟨_,rfl,_,rfl,fP ?_⟩;have RP:=s6 _ _ Oc;have we:=s6 _ _ rP;refine⟨_,rfl,_,rfl,pt,_,rfl,GD.k (k:=Sum.inl (j:Int)) RP (bf (by lia)),?_⟩;have Kt:upd H4 pt (.dK (putK bh (Sum.inl (j:Int):Key) (.bl true))) pm=some (.lst ms):=by rw[az Ob.symm]; exact we
    have Iz:=(EB.length);have Ku:=iu fs ls al i;have s7:aF H (upd H4 pt (.dK (putK bh (Sum.inl (j:Int):Key) (.bl true)))):=(s5.trans s6).dk nt;have EC:oj (upd H4 pt (.dK (putK bh (Sum.inl (j:Int):Key) (.bl true)))) (bV fs ls al i).2 ms:=(EB.mono (gh s6)).mono (M5 RP);have HN:upd H4 pt (.dK (putK bh (Sum.inl (j:Int):Key) (.bl true))) pt=some (.dK (putK bh (Sum.inl (j:Int):Key) (.bl true))):=ag;generalize upd H4 pt (.dK (putK bh (Sum.inl (j:Int):Key) (.bl true)))=H5 at Kt s7 EC HN ⊢;refine⟨_,rfl,.inl ⟨rfl,_,bG.of Kt⟩,_,rfl,_,rfl,_,rfl,(by show 3<=sizeLine; decide),fun p8 n8=>?_⟩;have s8:aF H5 (upd H5 p8 (.tup [.int i,.int j,.int fs[i]])):=aF.new n8;refine⟨pm,ms,_,rfl,rfl,s8 _ _ Kt,bf (by lia),?_⟩;refine⟨_,_,_,putK bh (Sum.inl (j:Int):Key) (.bl true),ms ++ [.ref p8],rfl,(s7.trans s8).dk Y5,?_,fun x=>?_,?_,ag,?_⟩
    ·rw[az Ob]; exact s8 _ _ HN
    ·rw[r6];unfold qv;rw[Jh];by_cases hx:x=j
     ·subst hx; simp
     ·have: ¬ (Sum.inl (x:Int):Key)=Sum.inl (j:Int):=fun z=>hx (by injection z with z; lia);rw[aN this];have h2:=pZ x;unfold qv at h2;rw[h2];simp[hx]
    ·have:=kJ bh (Sum.inl (j:Int):Key) (.bl true);lia
    ·rw[r6];exact cu ((EC.mono (gh s8)).mono (dQ (s8 _ _ Kt))) ⟨p8,rfl,dQ (s8 _ _ Kt) _ _ ag⟩
  ·rintro σ H2 ⟨x5,x6,x7,bh,ms,rfl,s3,hT,pZ,Iy,hM,FI⟩;rw[ae] at FI;refine⟨_,rfl,?_⟩;exact k _ _ s3 (fb hM FI.rp)
def cQ (fs ls:List Int)(al:List (List Bool))(i:Nat):List (Nat×Int):=(bE (fs.getD i 0) (cv fs ls al i).1 (al.getD i []) (cv fs ls al i).1.length).2
def CI (fs ls:List Int)(al:List (List Bool))(i:Nat):(cv fs ls al (i + 1)).1=dO (cv fs ls al i).1 (cQ fs ls al i):=rfl
def tS (fs ls:List Int)(al:List (List Bool))(i:Nat):(cv fs ls al (i + 1)).2=(cv fs ls al i).2 ++ (cQ fs ls al i).map fun x=>(i,x.1,x.2):=rfl
def Qt (H:Hp)(ps:List (Nat×Int))(vs:List V):Prop:=Paired (fun(t:Nat×Int) v=> ∃p,v= .ref p/\H p=some (.tup [.int t.1,.int t.2])) ps vs
def Qt.mono {H H':Hp}{ps:List (Nat×Int)}{vs:List V}(h:Qt H ps vs)(k: ∀b xs,H b=some (.tup xs)->H' b=some (.tup xs)):Qt H' ps vs:=
 Paired.gX h fun _ _ ⟨p,e,q⟩=>⟨p,e,k _ _ q⟩
def gy (f:Int)(l:List Int)(row:List Bool): ∀j,(bE f l row j).2.length<=j
 |0=>aD _
 |j + 1=>by
  have:=gy f l row j;rw[bE];split
  ·rw[ax]; show _ + 1<=_; lia
  ·lia
inductive Aw (K:Frag)(vs:List V)(H:Hp)(Q:VK)(E':XK):Prop
 |mk (f:Int)(pl:Addr)(ls:List Int)(pr:Addr)(row:List Bool)(h1:vs=[.int f,.ref pl,.ref pr])(h2:bG K H pl (ls.map V.int))(h3:bG K H pr (row.map V.bl))(h4:row.length=ls.length)(h5:ls.length<=100)(h6: ∀(q:Addr) (ms:List V) (H':Hp),aF H H'->H q=none->H' q=some (.lst ms)->Qt H' (bE f ls row ls.length).2 ms->Q (.ref q) H'):Aw K vs H Q E'
def tT:aU ["free","lefts","fitting","still_free","parts","bill","left","amount"] ["free","lefts","fitting"] (aA (top 23)):={}
def ED (T:Txt K mg):fu P w K mg base "parts_of" 1 ["free","lefts","fitting"] (Aw K):=by
 refine T.D9.fQ (k:=0) tT (fun f cY A outer s H vs Q E hr h=>?_)
 ·obtain⟨fr,pl,ls,pr,row,rfl,hL,hR,Dk,MR,k⟩:=h;have hu:=kK hr;have nd:=tT.nd;refine⟨_,(ai (sv 3 nd (pv 0))
(ai (sv 4 nd (bS aw))
(ai (eJ bB rfl (qU rfl T.jm (aa (pv 1) aw)) (gT (bW (gn 5 nd) (bW (gn 6 nd) gq)))
(ai (sv 7 nd (gv (sy rfl) (by rfl) T.JQ boot_min (aa (pv 3) (aa (pv 6) aw))))
(av (bT (PW.pt (pw_and (fM (xl (pv 2) (pv 5))) (pw_and1 (a0 jB (pv 7) aj (bb _)))))
(ai (bM (qo (pv 4) (cK (aa (pv 5) (aa (pv 7) aw)))))
(av (sv 3 nd (aQ fN (pv 3) (pv 7)))))
bp))))
(av (a9 (pv 4)))))),?_⟩
  refine⟨_,rfl,?_⟩;refine⟨bq _,fun q nq=>?_⟩;have s1:aF H (upd H q (.lst [])):=aF.new nq;refine⟨_,rfl,pl,rfl,⟨_,s1.seq hL⟩,?_⟩;refine nA (K:=K) (a:=pl) (xs:=ls.map V.int) (fun i σ H2=> ∃(x5 x6 x7:Option V) (ms:List V),σ=[some (.int fr),some (.ref pl),some (.ref pr),some (.int (bE fr ls row i).1),some (.ref q),x5,x6,x7]/\aF H H2/\H2 q=some (.lst ms)/\Qt H2 (bE fr ls row i).2 ms)
   ⟨none,none,none,[],rfl,s1,ag,.nil⟩ (fun i σ H2 _ ⟨_,_,_,_,_,s2,_⟩=>s2.seq hL) ?_ ?_
  ·rintro i x p σ H2 hx hp ⟨x5,x6,x7,ms,rfl,s2,hM,hP⟩;have hi:i < ls.length:=by have:=(ah.mp hx).1; rwa [ae] at this
   rw[aC,af hi] at hx;obtain rfl:V.int ls[i]=x:=aG hx;have s3:aF H2 (upd H2 p (.tup [.int i,.int ls[i]])):=aF.new hp;refine⟨p,_,rfl,cE.of ag,rfl,_,_,rfl,_,_,rfl,rfl,?_⟩;have s4:=s2.trans s3;have RQ:=s3 _ _ hM;have Y9:=hP.mono (gh s3);generalize upd H2 p (.tup [.int i,.int ls[i]])=H3 at s4 RQ Y9 ⊢;have Ux:i < row.length:=by lia
   have Qs:ls.getD i 0=ls[i]:=getD_at hi;have Uy:row.getD i false=row[i]:=getD_at Ux;have hlen:ms.length<=i:=by have:=hP.length; have:=gy fr ls row i; lia
   refine⟨_,rfl,_,rfl,_,_,rfl,?_⟩;have em:(if ls[i] < (bE fr ls row i).1 then ls[i] else(bE fr ls row i).1)=eR (bE fr ls row i).1 (ls.getD i 0):=by rw[Qs]; rfl
   rw[em];have r6:bE fr ls row (i + 1)=if row.getD i false=true/\0 < eR (bE fr ls row i).1 (ls.getD i 0) then((bE fr ls row i).1 - eR (bE fr ls row i).1 (ls.getD i 0),(bE fr ls row i).2 ++ [(i,eR (bE fr ls row i).1 (ls.getD i 0))]) else bE fr ls row i:=by rw[bE]
   generalize eR (bE fr ls row i).1 (ls.getD i 0)=am at r6 ⊢;have no: ¬ (row.getD i false=true/\0 < am)-> ∃(x5 x6 x7:Option V) (ms:List V),[some (.int fr),some (.ref pl),some (.ref pr),some (.int (bE fr ls row i).1),some (.ref q),some (V.int i),some (V.int ls[i]),some (V.int am)]=[some (.int fr),some (.ref pl),some (.ref pr),some (.int (bE fr ls row (i + 1)).1),some (.ref q),x5,x6,x7]/\aF H H3/\H3 q=some (.lst ms)/\Qt H3 (bE fr ls row (i + 1)).2 ms:=fun c=>by
    rw[r6,aN c];exact⟨_,_,_,ms,rfl,s4,RQ,Y9⟩
   refine⟨_,rfl,_,rfl,pr,_,_,.bl row[i],rfl,rfl,s4.seq hR,cw (by rw[aC,af Ux]; rfl),_,rfl,?_⟩;refine cG (fun c1=>?_) (fun c1=>bX ?_)
   ·refine⟨_,rfl,_,_,rfl,rfl,_,rfl,cG (fun c2=>?_) (fun c2=>?_)⟩
    ·have Uz:0 < am:=a6 c2;rw[aY ⟨by rw[Uy]; exact c1,Uz⟩] at r6;refine⟨_,rfl,.inl ⟨rfl,_,bG.of RQ⟩,_,rfl,_,rfl,(by show 2<=sizeLine; decide),fun p8 n8=>?_⟩;have s8:aF H3 (upd H3 p8 (.tup [.int i,.int am])):=aF.new n8;refine⟨q,ms,_,rfl,rfl,s8 _ _ RQ,bf (by lia),?_⟩;refine⟨_,rfl,_,rfl,_,_,rfl,rfl,?_⟩;refine⟨_,_,_,ms ++ [.ref p8],by rw[r6]; rfl,(s4.trans s8).dk nq,ag,?_⟩;rw[r6];exact cu ((Y9.mono (gh s8)).mono (dQ (s8 _ _ RQ))) ⟨p8,rfl,dQ (s8 _ _ RQ) _ _ ag⟩
    ·exact no fun z=>c2 (aK z.2)
   ·exact no fun z=>c1 (by rw[← Uy]; exact z.1)
  ·rintro σ H2 ⟨x5,x6,x7,ms,rfl,s2,hM,hP⟩;rw[ae] at hP;refine⟨_,rfl,?_⟩;exact k _ _ _ s2 nq hM hP
def qw (f:Int)(l:List Int)(row:List Bool): ∀j,∀x∈(bE f l row j).2,x.1 < j
 |0,x,hx=>by cases hx
 |j + 1,x,hx=>by
  rw[bE] at hx;split at hx
  ·rcases bc.mp hx with hx|hx
   ·have:=qw f l row j x hx; lia
   ·rw[ao] at hx; subst hx; exact gg _
  ·have:=qw f l row j x hx; lia
def CJ (fs ls:List Int)(al:List (List Bool)): ∀i,(cv fs ls al i).2.length<=i * ls.length
 |0=>by show 0<=_; lia
 |i + 1=>by
  have:=CJ fs ls al i;have h2:=gy (fs.getD i 0) (cv fs ls al i).1 (al.getD i []) (cv fs ls al i).1.length;rw[tS,ax,ae,wO];unfold cQ;rw[jR] at h2 ⊢;lia
inductive wg (K:Frag)(vs:List V)(H:Hp)(Q:VK)(E':XK):Prop
 |mk (pf pl pa:Addr)(fs ls:List Int)(al:List (List Bool))(h1:vs=[.ref pf,.ref pl,.ref pa])(h2:bG K H pf (fs.map V.int))(h3:bG K H pl (ls.map V.int))(h4:Rp H (.lst (al.map Au)) (.ref pa))(h5:fs.length<=63)(h6:ls.length<=63)(h7:al.length=fs.length)(h8:(∀r∈al,r.length=ls.length))(h9: ∀(pm:Addr) (ms:List V) (H':Hp),aF H H'->H' pm=some (.lst ms)->oj H' (cv fs ls al fs.length).2 ms->Q (.ref pm) H'):wg K vs H Q E'
def FJ {H:Hp}: ∀(r:List Bool) {xs:List V},gY H (r.map Dt.bl) xs->xs=r.map V.bl
 |[],_,h=>cq.mp h
 |b :: r,_,h=>by
  obtain⟨v,rest,e,h1,h2⟩:=br.mp h;rw[e,qW.mp h1,FJ r h2]; rfl
def Qu {H:Hp}{al:List (List Bool)}{refs:List V}(h:gY H (al.map Au) refs){i:Nat}(hi:i < al.length): ∃pr,refs[i]? =some (.ref pr)/\H pr=some (.lst (al[i].map V.bl)):=by
 have g0:(al.map Au)[i]? =some (Au al[i]):=by rw[aC,af hi]; rfl
 obtain⟨rv,Wx,Wy⟩:=h.get g0;obtain⟨pr,Y6,e1,N2,FD⟩:=jX.mp Wy;rw[FJ _ FD] at N2;exact⟨pr,by rw[Wx,e1],N2⟩
def pI:aU ["frees","lefts","allowed","still_left","made","credit","free","parts","bill","amount"] ["frees","lefts","allowed"] (aA (top 22)):={}
def Ax (T:Txt K mg):fu P w K mg base "shared_out" 2 ["frees","lefts","allowed"] (wg K):=by
 have EE:fu P w K mg base "parts_of" 1 ["free","lefts","fitting"] (Aw K):=ED T;refine T.zB.fQ (k:=1) pI (fun f cY A outer s H vs Q E hr h=>?_)
 ·obtain⟨pf,pl,pa,fs,ls,al,rfl,hF,hL,hA,hf1,MR,Rv,Ks,k⟩:=h;have hu:=kK hr;have nd:=pI.nd;obtain⟨pa',refs,e0,RO,yL⟩:=jX.mp hA;cases e0;refine⟨_,(ai (sv 3 nd (iq zf (by rfl) T.vF boot_list (aa (pv 1) aw)))
(ai (sv 4 nd (bS aw))
(ai (eJ bB rfl (qU rfl T.jm (aa (pv 0) aw)) (gT (bW (gn 5 nd) (bW (gn 6 nd) gq)))
(ai (sv 7 nd (fc EE hr (aa (pv 6) (aa (pv 3) (aa (xl (pv 2) (pv 5)) aw)))))
(av (eJ bB rfl (rh (pv 7)) (gT (bW (gn 8 nd) (bW (gn 9 nd) gq)))
(ai (ng (aQ fN (xl (pv 3) (pv 8)) (pv 9)) (sx (pv 3) (pv 8) set_list))
(av (bM (qo (pv 4) (cK (aa (pv 5) (aa (pv 8) (aa (pv 9) aw))))))))))))
(av (a9 (pv 4)))))),?_⟩
  refine⟨_,rfl,pl,_,rfl,.inl hL,fun q nq=>?_⟩;refine⟨bq _,fun pm nm=>?_⟩;have s1:aF H (upd H q (.lst (ls.map V.int))):=aF.new nq;have s2:aF H (upd (upd H q (.lst (ls.map V.int))) pm (.lst [])):=s1.trans (aF.new nm);have Y5:H pm=none:=s1.free nm;have Za:q≠pm:=aJ ag nm;refine⟨_,rfl,pf,rfl,⟨_,s2.seq hF⟩,?_⟩;refine nA (K:=K) (a:=pf) (xs:=fs.map V.int) (fun i σ H2=> ∃(x5 x6 x7 x8 x9:Option V) (ms:List V),σ=[some (.ref pf),some (.ref pl),some (.ref pa),some (.ref q),some (.ref pm),x5,x6,x7,x8,x9]/\aF H H2/\H2 q=some (.lst ((cv fs ls al i).1.map V.int))/\H2 pm=some (.lst ms)/\oj H2 (cv fs ls al i).2 ms)
   ⟨none,none,none,none,none,[],rfl,s2,by rw[az Za]; exact ag,ag,.nil⟩ (fun i σ H2 _ ⟨_,_,_,_,_,_,_,s3,_⟩=>s3.seq hF) ?_ ?_
  ·rintro i x p σ H2 hx hp ⟨x5,x6,x7,x8,x9,ms,rfl,s3,hQ,hM,FI⟩;have hi:i < fs.length:=by have:=(ah.mp hx).1; rwa [ae] at this
   rw[aC,af hi] at hx;obtain rfl:V.int fs[i]=x:=aG hx;have s4:aF H2 (upd H2 p (.tup [.int i,.int fs[i]])):=aF.new hp;refine⟨p,_,rfl,cE.of ag,rfl,_,_,rfl,_,_,rfl,rfl,?_⟩;have s5:=s3.trans s4;have Wz:=s4 _ _ hQ;have rP:=s4 _ _ hM;have EB:=FI.mono (gh s4);generalize upd H2 p (.tup [.int i,.int fs[i]])=H3 at s5 Wz rP EB ⊢;clear s4 hp;have UA:i < al.length:=by lia
   obtain⟨pr,Zb,Zc⟩:=Qu yL UA;have Y7:fs.getD i 0=fs[i]:=getD_at hi;have Y8:al.getD i []=al[i]:=getD_at UA;have Kg:=jR fs ls al i;have Qv:cQ fs ls al i=(bE fs[i] (cv fs ls al i).1 al[i] (cv fs ls al i).1.length).2:=by unfold cQ; rw[Y7,Y8]
   have abr:(cQ fs ls al i).length<=ls.length:=by rw[Qv,Kg]; exact gy _ _ _ _
   have Zd: ∀x∈cQ fs ls al i,x.1 < ls.length:=by rw[Qv,Kg]; exact qw _ _ _ _
   have Ku:=CJ fs ls al i;have aem:(cv fs ls al i).2.length<=3969:=aV Ku (qK (show i<=63 by lia) MR);refine⟨_,rfl,_,rfl,_,rfl,_,rfl,pa,_,_,.ref pr,rfl,rfl,bG.of (s5 _ _ RO),cw Zb,fs[i],q,(cv fs ls al i).1,pr,al[i],rfl,bG.of Wz,bG.of (s5 _ _ Zc),by rw[Kg]; exact Ks _ (bH _),by rw[Kg]; lia,fun r UB H4 s6 UC YE hP=>?_⟩;rw[← Qv] at hP;have hQ5:=s6 _ _ Wz;have we:=s6 _ _ rP;have Ze:=EB.mono (gh s6);have hrq:r≠q:=(aJ Wz UC).symm;have S9:r≠pm:=(aJ rP UC).symm;have s7:=s5.trans s6;have Qp:UB.length=(cQ fs ls al i).length:=hP.length.symm;refine⟨_,rfl,r,rfl,⟨_,bG.of YE⟩,?_⟩;refine fA (K:=K) (a:=r) (xs:=UB) (fun m σ H5=> ∃(x8 x9:Option V) (ms:List V),σ=[some (.ref pf),some (.ref pl),some (.ref pa),some (.ref q),some (.ref pm),some (.int i),some (.int fs[i]),some (.ref r),x8,x9]/\aF H H5/\H5 q=some (.lst ((dO (cv fs ls al i).1 ((cQ fs ls al i).take m)).map V.int))/\H5 pm=some (.lst ms)/\oj H5 ((cv fs ls al i).2 ++ ((cQ fs ls al i).take m).map fun x=>(i,x.1,x.2)) ms/\H5 r=some (.lst UB)/\Qt H5 (cQ fs ls al i) UB)
    ⟨_,_,ms,rfl,s7,hQ5,we,by simpa using Ze,YE,hP⟩ (fun m σ H5 _ ⟨_,_,_,_,_,_,_,_,h,_⟩=>bG.of h) ?_ ?_
   ·rintro m x σ H5 hx ⟨y8,y9,UD,rfl,t5,Qw,Kt,EC,Oa,RM⟩;have hm:m < (cQ fs ls al i).length:=by have:=(ah.mp hx).1; lia
    have g0:(cQ fs ls al i)[m]? =some (cQ fs ls al i)[m]:=af hm;obtain⟨v,hv,pp,e1,Lo⟩:=bK RM g0;rw[hx] at hv;obtain rfl:x=v:=aG hv;subst e1;have hb:(cQ fs ls al i)[m].1 < ls.length:=Zd _ (bH _);have pZ:=gU hm;have Wc:(dO (cv fs ls al i).1 ((cQ fs ls al i).take m)).length=ls.length:=by rw[qj,Kg]
    generalize (cQ fs ls al i)[m]=pt at Lo hb pZ g0;obtain⟨b,am⟩:=pt;dsimp only at Lo hb;refine⟨pp,_,rfl,cE.of Lo,rfl,_,_,rfl,_,_,rfl,rfl,?_⟩;refine⟨_,rfl,_,rfl,q,_,_,_,rfl,rfl,bG.of Qw,sO (by rw[Wc]; exact hb),_,rfl,_,_,rfl,rfl,_,rfl,_,rfl,q,_,_,b,rfl,rfl,Qw,uz (by rw[ae,Wc]; exact hb),?_⟩;rw[← List.map_set];have hap:dO (cv fs ls al i).1 ((cQ fs ls al i).take (m + 1))=(dO (cv fs ls al i).1 ((cQ fs ls al i).take m)).set b ((dO (cv fs ls al i).1 ((cQ fs ls al i).take m)).getD b 0 - am):=by rw[pZ,tK]
    rw[← hap];have t6:aF H (upd H5 q (.lst ((dO (cv fs ls al i).1 ((cQ fs ls al i).take (m + 1))).map V.int))):=t5.dk nq;have HR:upd H5 q (.lst ((dO (cv fs ls al i).1 ((cQ fs ls al i).take (m + 1))).map V.int)) pm=some (.lst UD):=by rw[az Za.symm]; exact Kt
    have hQ7:upd H5 q (.lst ((dO (cv fs ls al i).1 ((cQ fs ls al i).take (m + 1))).map V.int)) q=some (.lst ((dO (cv fs ls al i).1 ((cQ fs ls al i).take (m + 1))).map V.int)):=ag;have hr7:upd H5 q (.lst ((dO (cv fs ls al i).1 ((cQ fs ls al i).take (m + 1))).map V.int)) r=some (.lst UB):=by rw[az hrq]; exact Oa
    have Qx:=EC.mono (dQ (o:= .lst ((dO (cv fs ls al i).1 ((cQ fs ls al i).take (m + 1))).map V.int)) Qw);have hP7:=RM.mono (dQ (o:= .lst ((dO (cv fs ls al i).1 ((cQ fs ls al i).take (m + 1))).map V.int)) Qw);generalize upd H5 q (.lst ((dO (cv fs ls al i).1 ((cQ fs ls al i).take (m + 1))).map V.int))=H6 at t6 HR hQ7 hr7 Qx hP7 ⊢;have Iz:=Qx.length;rw[ax,ae,ba] at Iz;refine⟨_,rfl,.inl ⟨rfl,_,bG.of HR⟩,_,rfl,_,rfl,_,rfl,(by show 3<=sizeLine; decide),fun p8 n8=>?_⟩;have s8:aF H6 (upd H6 p8 (.tup [.int i,.int b,.int am])):=aF.new n8;refine⟨pm,UD,_,rfl,rfl,s8 _ _ HR,jc (by lia),?_⟩;refine⟨_,_,UD ++ [.ref p8],rfl,(t6.trans s8).dk Y5,?_,ag,?_,?_,?_⟩
    ·rw[az Za]; exact s8 _ _ hQ7
    ·rw[pZ,aL,← bZ];exact cu ((Qx.mono (gh s8)).mono (dQ (s8 _ _ HR))) ⟨p8,rfl,dQ (s8 _ _ HR) _ _ ag⟩
    ·rw[az S9]; exact s8 _ _ hr7
    ·exact(hP7.mono (gh s8)).mono (dQ (s8 _ _ HR))
   ·rintro σ H5 ⟨y8,y9,UD,rfl,t5,Qw,Kt,EC,Oa,RM⟩;rw[Qp,aZ] at Qw EC;exact⟨_,_,_,_,_,UD,rfl,t5,by rw[CI]; exact Qw,Kt,by rw[tS]; exact EC⟩
  ·rintro σ H2 ⟨x5,x6,x7,x8,x9,ms,rfl,s3,hQ,hM,FI⟩;rw[ae] at FI;refine⟨_,rfl,?_⟩;exact k _ _ _ s3 hM FI
def M7 {X:Cx}{K:Frag}{es:List Expr}{k:Nat}{pos:Pos}{t:LN}{n:Nat}(hK:X.K=K)(hc:X.calm=true)(h:IJ X es t)(hn:(assignEach es X.env).length=n)(r6:(assignEach es X.env).findIdx? (·.1)=none):PG X (.Tuple es k pos) (OM K n t):=by
 subst hK;exact IK hc h hn r6
def gf {H H':Hp}{tb:Addr}{fp:List Addr}{pos:Pos}{qual:Str}(t:Tb H tb pos qual)(fr:Frame fp H H')(ht:tb∉fp)(hf: ∀a∈fp,∀φ,H a≠some (.ext φ)):Tb H' tb pos qual:=by
 obtain⟨ps,h1,h2,h3⟩:=t;refine⟨ps,fr _ _ ht h1,h2,?_⟩;rcases h3 with h3|⟨c',h3,h4⟩
 ·exact .inl h3
 ·exact .inr ⟨c',h3,fr _ _ (fun z=>hf _ z _ h4) h4⟩
def c8 {H:Hp}{tb:Addr}{pos:Pos}{qual:Str}(t:Tb H tb pos qual): ∃ps,H tb=some (.mY ps):=let⟨ps,e,_⟩:=t; ⟨ps,e⟩
def dH {fp Th:List Addr}{H H':Hp}(f:Frame fp H H')(h: ∀x∈fp,x∈Th):Frame Th H H':=fun b o hb e=>f b o (fun z=>hb (h b z)) e
def uJ {H:Hp}{p C D:Addr}{fs:List (Str×V)}{ys:List V}{o:HO}(h:eF H p C fs)(e:H D=some (.lst ys)):eF (upd H D o) p C fs:=let⟨dx,z⟩:=h; ⟨dx,by rw[az (mH z e (by intro q; cases q))]; exact z⟩
def gR.upd {A:dZ}{H:Hp}{S:Bk}{cs:List Nat}{qs:List Addr}{D:Addr}{ys:List V}{o:HO}(h:gR A H S cs qs)(e:H D=some (.lst ys)):gR A (L2.upd H D o) S cs qs:=Paired.gX h fun _ _ z=>uJ z e
def iO.upd {A:dZ}{H:Hp}{S:Bk}{cs:List Nat}{qs:List Addr}{D:Addr}{ys:List V}{o:HO}(h:iO A H S cs qs)(e:H D=some (.lst ys)):iO A (L2.upd H D o) S cs qs:=Paired.gX h fun _ _ z=>uJ z e
def gR.tb {A:dZ}{H H':Hp}{S:Bk}{cs:List Nat}{qs:List Addr}{tb:Addr}{pos:Pos}{qual:Str}(h:gR A H S cs qs)(t:Tb H tb pos qual)(fr:Frame [tb] H H'):gR A H' S cs qs:=Paired.gX h fun _ _ z=>z.frame fr (v9 t z)
def oN {rows:List Rw}{c:Nat}(h:c < rows.length):(rows.map fun r=>V.int r.d)[c]? =some (.int (rows.getD c default).d):=by
 rw[aC,af h,ak,af h]; rfl
def oO (rows:List Rw)(aH:Str)(key:Rw->Int):(inOrder rows aH key).length<=rows.length:=by
 have e:(inOrder rows aH key).length=((List.range rows.length).filter fun k=>decide ((rows.getD k default).aH=aH)).length:=by
  unfold inOrder gx;rw[ae,(dB _).length_eq,ae]
 have:=aW (fun k=>decide ((rows.getD k default).aH=aH)) (List.range rows.length);rw[dC] at this;lia
def mM (rows:List Rw)(k:Nat):Bool:=decide (0 < (rows.getD k default).d)
abbrev Kv:=List Int->List Int->List (List Bool)->List (Nat×Nat×Int)
def qx:Kv:=fun fs ls al=>(bV fs ls al fs.length).2
def CK:Kv:=fun fs ls al=>(cv fs ls al fs.length).2
structure Kw (way:Kv):Prop where
 lt: ∀fs ls al,∀t∈way fs ls al,t.1 < fs.length/\t.2.1 < ls.length
 len: ∀fs ls al,fs.length<=63->ls.length<=63->(way fs ls al).length<=4000
def Qy (way:Kv)(sp:Sp):Prop:= ∀(pf pl pa:Addr) (fs ls:List Int) (al:List (List Bool)) (H:Hp) (Q:VK),H pf=some (.lst (fs.map V.int))->H pl=some (.lst (ls.map V.int))->Rp H (.lst (al.map Au)) (.ref pa)->fs.length<=63->ls.length<=63->al.length=fs.length->(∀r∈al,r.length=ls.length)->
 (∀(pm:Addr) (ms:List V) (H':Hp),aF H H'->H' pm=some (.lst ms)->iw H' (way fs ls al) ms->Q (.ref pm) H')->sp [.ref pf,.ref pl,.ref pa] H Q E0
def je (H:Hp)(D:Addr)(al:List (List Bool))(rs:List V):Prop:=Paired (fun(r:List Bool) v=> ∃p,v= .ref p/\p≠D/\H p=some (.lst (r.map V.bl))) al rs
def je.upd {H:Hp}{D:Addr}{al:List (List Bool)}{rs:List V}{o:HO}(h:je H D al rs):je (L2.upd H D o) D al rs:=Paired.gX h fun _ _ ⟨p,e,n,z⟩=>⟨p,e,n,by rw[az n]; exact z⟩
def je.same {H H':Hp}{D:Addr}{al:List (List Bool)}{rs:List V}(h:je H D al rs)(s:aF H H'):je H' D al rs:=Paired.gX h fun _ _ ⟨p,e,n,z⟩=>⟨p,e,n,s _ _ z⟩
def yM {H:Hp}: ∀r:List Bool,gY H (r.map Dt.bl) (r.map V.bl)
 |[]=>cq.mpr rfl
 |b :: r=>br.mpr ⟨_,_,rfl,qW.mpr rfl,yM r⟩
def je.rp {H:Hp}{D:Addr}: ∀{al:List (List Bool)} {rs:List V},je H D al rs->gY H (al.map Au) rs
 |_,_,.nil=>cq.mpr rfl
 |_,_,.cons ⟨p,e,_,z⟩ t=>br.mpr ⟨_,_,rfl,e▸fb z (yM _),je.rp t⟩
def HS {S:Bk}{l:List (Nat×Nat×Int)}{i:Nat}{t:Nat×Nat×Int}(h:l[i]? =some t):kC S (l.take (i + 1))=(kC S (l.take i)).put t.1 t.2.1 t.2.2:=lR (fun(S:Bk) (t:Nat×Nat×Int)=>S.put t.1 t.2.1 t.2.2) l S h
def FK (S:Bk): ∀l,(kC S l).aE.length=S.aE.length/\(kC S l).credits.length=S.credits.length
 |[]=>⟨rfl,rfl⟩
 |t :: l=>by
  obtain⟨a,b⟩:=FK (S.put t.1 t.2.1 t.2.2) l;exact⟨a.trans fe,b.trans fe⟩
inductive Ay (P:Program)(w:World)(K:Frag)(mg:Str->Option Value)(base:Heap)(A:dZ)(tB tC:Addr)(vs:List V)(H:Hp)(Q:VK)(E':XK):Prop
 |mk (pw fa:Addr)(S:Bk)(f:eT)(n:Nat)(aH:Str)(way:Kv)(sp:Sp)(h1:vs=[.ref pw,.str aH,.ref fa])(h2:dG A H pw S f)(h3:WF S n)(h4:n<=62)(h5:lV H tB)(h6:mz H tC)(h7:Kw way)(h8:Yw P w K mg base 2 fa sp)(h9:Qy way sp)(Lj: ∀gs ts fs ls al,vm S aH gs ts fs ls al-> ∀D ms H',Frame (tB :: tC :: f.fp) H H'->lV H' tB->mz H' tC->dG A H' pw (kC S ((way fs ls al).map (me gs ts))) f->H D=none->H' D=some (.lst ms)->iw H' ((way fs ls al).map (me gs ts)) ms->Q (.ref D) H'):Ay P w K mg base A tB tC vs H Q E'
def kZ:aU ["self","who","way","givers","takers","frees","lefts","found","numbered","credit_number","bill_number","amount"] ["self","who","way"] (aA (mem 25 7)):={}
def CL (T:Txt K mg){A:dZ}{tB tC:Addr}(G:jI K mg A)(DB:qI K mg "bills_in_order" (top 17) tB)(DC:qI K mg "credits_in_order" (top 18) tC)(jy:tB≠tC)(KB:K.In base)(BM:BMain mg base):g9 sD P w K mg base A.work "one_round" 3 ["self","who","way"] (Ay P w K mg base A tB tC):=by
 have ja:fu P w K mg base "bills_in_order" 2 ["bills","who"] (uF A tB):=lU T G DB KB BM;have il:fu P w K mg base "credits_in_order" 2 ["all_credits","who"] (uG A tC):=kg T G DC KB BM;have xP:fu P w K mg base "row_of_fits" 2 ["credit","bills"] (Kj A):=xD T G;have Kf:g9 sD P w K mg base A.work "put" 1 ["self","credit_number","bill_number","amount"] (z7 A):=N3 G;refine MM (k:=2) G.rz G.bI kZ (fun f cY A' outer s H vs Q E hr h=>?_)
 ·obtain⟨pw,fa,S,g,n,aH,way,sp,rfl,hW,wf,hn,kr,jU,UE,hFv,hWC,k⟩:=h;have nd:=kZ.nd;have YQ:S.credits.length<=62:=by have:=wf.lc; lia
  have hlb:S.aE.length<=62:=by have:=wf.lb; lia
  refine⟨_,(ai (sv 3 nd (iF (tn:=["credit"]) (cn:=["self"]) (cj:=[0]) rfl (iG (zk:=[(".0",.local),("credit",.local),("self",.cell)])) (rh (fc il hr (aa (kE (pv 0)) (aa (pv 1) aw)))) (fun _ _ _ _=>(eB (i:=0) (show(["credit","self"]:List Str).Nodup by decide +kernel) rfl (Or.inl rfl))) (fun _ _ _ _=>(qd (a0 jB (kI (lG (K:=K) rfl) (fE (K:=K) rfl (pv 1) rfl) (fE (K:=K) rfl (pv 0) rfl) (fun _ _=>rfl)) aj (bb _)))) (fun _ _ _ _=>(pv 0))))
(ai (sv 4 nd (iF (tn:=["bill"]) (cn:=["self"]) (cj:=[0]) rfl (iG (zk:=[(".0",.local),("bill",.local),("self",.cell)])) (rh (fc ja hr (aa (kE (pv 0)) (aa (pv 1) aw)))) (fun _ _ _ _=>(eB (i:=0) (show(["bill","self"]:List Str).Nodup by decide +kernel) rfl (Or.inl rfl))) (fun _ _ _ _=>(qd (a0 jB (kI (lG (K:=K) rfl) (fE (K:=K) rfl (pv 1) rfl) (fE (K:=K) rfl (pv 0) rfl) (fun _ _=>rfl)) aj (bb _)))) (fun _ _ _ _=>(pv 0))))
(ai (ji (i:=5) nd rfl (Or.inl rfl) (tn:=["credit"]) (cn:=["self"]) (cj:=[0]) rfl (iG (zk:=[(".0",.local),("credit",.local),("self",.cell)])) (rh (pv 3)) (fun _ _ _ _=>(eB (i:=0) (show(["credit","self"]:List Str).Nodup by decide +kernel) rfl (Or.inl rfl))) (fun _ _ _ _=>k9) (fun _ _ _ _=>(kI (lG (K:=K) rfl) (fE (K:=K) rfl (pv 1) rfl) (fE (K:=K) rfl (pv 0) rfl) (fun _ _=>rfl))))
(ai (ji (i:=6) nd rfl (Or.inl rfl) (tn:=["bill"]) (cn:=["self"]) (cj:=[0]) rfl (iG (zk:=[(".0",.local),("bill",.local),("self",.cell)])) (rh (pv 4)) (fun _ _ _ _=>(eB (i:=0) (show(["bill","self"]:List Str).Nodup by decide +kernel) rfl (Or.inl rfl))) (fun _ _ _ _=>k9) (fun _ _ _ _=>(kI (lG (K:=K) rfl) (fE (K:=K) rfl (pv 1) rfl) (fE (K:=K) rfl (pv 0) rfl) (fun _ _=>rfl))))
(ai (sv 7 nd (P1 (i:=2) (k:=2) (hr.mono (by decide)) rfl (Or.inl rfl) (aa (pv 5) (aa (pv 6) (aa (iF (tn:=["credit"]) (cn:=["takers"]) (cj:=[4]) rfl (iG (zk:=[(".0",.local),("credit",.local),("row_of_fits",.globalImplicit),("takers",.cell)])) (rh (pv 3)) (fun _ _ _ _=>(eB (i:=0) (show(["credit","takers"]:List Str).Nodup by decide +kernel) rfl (Or.inl rfl))) (fun _ _ _ _=>k9) (fun _ _ _ _=>(fc xP hr (aa (pv 0) (aa (pv 1) aw))))) aw)))))
(ai (ji (i:=8) nd rfl (Or.inl rfl) (tn:=["giver","taker","amount"]) (cn:=["takers","givers"]) (cj:=[4,3]) rfl (Ak (zk:=[(".0",.local),("giver",.local),("taker",.local),("amount",.local),("givers",.cell),("takers",.cell)])) (rh (pv 7)) (fun _ _ _ _=>(M7 (K:=K) (n:=3) rfl rfl (bW (eB (i:=0) (show(["giver","taker","amount","takers","givers"]:List Str).Nodup by decide +kernel) rfl (Or.inl rfl) (Or.inr rfl)) (bW (eB (i:=1) (show(["giver","taker","amount","takers","givers"]:List Str).Nodup by decide +kernel) rfl (Or.inl rfl) (Or.inr rfl)) (bW (eB (i:=2) (show(["giver","taker","amount","takers","givers"]:List Str).Nodup by decide +kernel) rfl (Or.inl rfl) (Or.inr rfl)) gq))) rfl rfl)) (fun _ _ _ _=>k9) (fun _ _ _ _=>(cK (aa (fE (K:=K) rfl (kI (lG (K:=K) rfl) (pv 4) (pv 0) (fun _ _=>rfl)) rfl) (aa (fE (K:=K) rfl (kI (lG (K:=K) rfl) (pv 3) (pv 1) (fun _ _=>rfl)) rfl) (aa (pv 2) aw))))))
(ai (eJ bB rfl (rh (pv 8)) (gT (bW (gn 9 nd) (bW (gn 10 nd) (bW (gn 11 nd) gq))))
(av (bM (nQ Kf (hr.mono (by decide)) nz (pv 0) (aa (pv 9) (aa (pv 10) (aa (pv 11) aw)))))))
(av (a9 (pv 8)))))))))),?_⟩
  obtain⟨dw,hw⟩:=hW.obj;refine⟨_,rfl,pw,_,dw,_,_,rfl,hw,G.bI,G.cF,ij g,_,rfl,g.pc,g.cps,S,aH,rfl,hW.hc,hW.rc,(by lia),jU,fun D1 Zf H1 Kx kj UG HC JC=>?_⟩;have Ds:=wa hW (c8 jU) Kx;have Ky: ∀a∈[tC],∀φ,H a≠some (.ext φ):=fun a ha φ e=>by
   obtain⟨ps,z⟩:=c8 jU;rw[ao.mp ha,z] at e;cases e
  have jA:lV H1 tB:=gf kr Kx (by simpa using jy) Ky;have F1:Frame (tB :: tC :: g.fp) H H1:=dH Kx (by intro x hx; rw[List.mem_singleton.mp hx]; simp);clear Ky;refine⟨D1,rfl,⟨_,bG.of HC⟩,?_⟩;have M0:=oO S.credits aH (·.a);have Qz: ∀c∈inOrder S.credits aH (·.a),c < S.credits.length:=fun c hc=>(jj.mp hc).1;have Mi:=gN S.credits aH (·.a);generalize inOrder S.credits aH (·.a)=ord at JC M0 Qz Mi;have QA:=aO JC;refine dS (K:=K) (a:=D1) (xs:=Zf.map V.ref) (fun D i σ H6=>H1 D=none/\ ∃(v:Option V) (rs:List Addr),σ=[v,some (.ref pw)]/\aF H1 H6/\H6 D=some (.lst (rs.map V.ref))/\gR A H6 S ((ord.take i).filter (mM S.credits)) rs) (fun D hD=>⟨hD,none,[],rfl,aF.new hD,ag,.nil⟩) (fun D i σ H6 _ ⟨_,_,_,_,t3,_⟩=>bG.of (t3 _ _ HC)) ?_ ?_
  ·rintro D i x σ H6 hx ⟨hD,v,rs,rfl,t3,iA,QB⟩;rw[aC] at hx;obtain⟨q,hq,rfl⟩:=a8.mp hx;have hi:i < ord.length:=by have:=(ah.mp hq).1; lia
   have qH:=af hi;obtain⟨q',tE,lS⟩:=bK JC qH;rw[hq] at tE;obtain rfl:q=q':=aG tE;have pG:=gH (mM S.credits) qH;have rg:=Qz _ (bH hi);generalize ord[i]=c at lS pG rg;obtain⟨dq,M8⟩:=lS.same t3;have Kz:=Ds.same t3;obtain⟨QC,QD⟩:=Kz.obj;have Dk:rs.length<=1000:=by
    have e1:=aO QB;have e2:=aW (mM S.credits) (ord.take i);rw[ba] at e2;lia
   refine⟨_,rfl,pw,_,QC,_,_,rfl,QD,G.bI,G.fH,lN g,_,rfl,q,_,dq,_,_,rfl,M8,G.df,G.eU,oK _ _,g.pf,_,_,.int (S.cr c).d,rfl,rfl,bG.of Kz.hf,cw (oN rg),_,_,rfl,rfl,_,rfl,cG (fun z=>?_) (fun z=>?_)⟩
   ·have z':mM S.credits c=true:=z;rw[aY z'] at pG;refine⟨_,rfl,_,iA,bf (by rw[ae]; exact Dk),hD,_,rs ++ [q],rfl,t3.dk hD,(by rw[ag,aL]; rfl),?_⟩;rw[pG];exact cu (QB.upd iA) (uJ ⟨dq,M8⟩ iA)
   ·have z': ¬ mM S.credits c=true:=z;rw[aN z',cf] at pG;refine⟨hD,_,rs,rfl,t3,iA,?_⟩;rw[pG];exact QB
  rintro pg σ H2 npg ⟨_,v,rs,rfl,s2,WA,M9⟩;rw[ae,← QA,aZ] at M9;have egs:ord.filter (mM S.credits)=inTurn S.credits aH (·.a):=Mi.symm;rw[egs] at M9;clear Mi egs Qz M0 JC QA HC;have Qs:(inTurn S.credits aH (·.a)).length<=62:=by
   rw[gN];have e1:=aW (fun k=>decide (0 < (S.credits.getD k default).d)) (inOrder S.credits aH (·.a));have e2:=oO S.credits aH (·.a);lia
  have WB: ∀c∈inTurn S.credits aH (·.a),c < S.credits.length:=fun c hc=>(bP.mp hc).1;have Aq:=Ds.same s2;have kF:lV H2 tB:=bQ jA s2;have mV:mz H2 tC:=bQ kj s2;have F2:=F1.cS s2;clear Kx Ds jA kj s2 F1;obtain⟨Zg,RH⟩:=Aq.obj;refine⟨_,rfl,pw,_,Zg,_,_,rfl,RH,G.bI,G.dX,jn g,_,rfl,g.pb,g.iK,S,aH,rfl,Aq.hb,Aq.rb,(by lia),kF,fun D1 Zf H1 Kx jA UG HC JC=>?_⟩;have Ds:=wa Aq (c8 kF) Kx;have Ky: ∀a∈[tB],∀φ,H2 a≠some (.ext φ):=fun a ha φ e=>by
   obtain⟨ps,z⟩:=c8 kF;rw[ao.mp ha,z] at e;cases e
  have kj:mz H1 tC:=gf mV Kx (by simpa using jy.symm) Ky;have F1:Frame (tB :: tC :: g.fp) H H1:=F2.tr (dH Kx (by intro x hx; rw[List.mem_singleton.mp hx]; simp));have hG1:=M9.tb kF Kx;have UH:H1 pg=some (.lst (rs.map V.ref)):=Kx _ _ (fun z=>by
   obtain⟨ps,e⟩:=c8 kF;rw[ao.mp z,e] at WA;cases WA) WA
  clear Ky;refine⟨D1,rfl,⟨_,bG.of HC⟩,?_⟩;have M0:=oO S.aE aH (·.b);have Qz: ∀c∈inOrder S.aE aH (·.b),c < S.aE.length:=fun c hc=>(jj.mp hc).1;have Mi:=gN S.aE aH (·.b);generalize inOrder S.aE aH (·.b)=ord at JC M0 Qz Mi;have QA:=aO JC;refine dS (K:=K) (a:=D1) (xs:=Zf.map V.ref) (fun D i σ H6=>H1 D=none/\ ∃(v:Option V) (us:List Addr),σ=[v,some (.ref pw)]/\aF H1 H6/\H6 D=some (.lst (us.map V.ref))/\iO A H6 S ((ord.take i).filter (mM S.aE)) us) (fun D hD=>⟨hD,none,[],rfl,aF.new hD,ag,.nil⟩) (fun D i σ H6 _ ⟨_,_,_,_,t3,_⟩=>bG.of (t3 _ _ HC)) ?_ ?_
  ·rintro D i x σ H6 hx ⟨hD,v,us,rfl,t3,iA,QB⟩;rw[aC] at hx;obtain⟨q,hq,rfl⟩:=a8.mp hx;have hi:i < ord.length:=by have:=(ah.mp hq).1; lia
   have qH:=af hi;obtain⟨q',tE,lS⟩:=bK JC qH;rw[hq] at tE;obtain rfl:q=q':=aG tE;have pG:=gH (mM S.aE) qH;have rg:=Qz _ (bH hi);generalize ord[i]=c at lS pG rg;obtain⟨dq,M8⟩:=lS.same t3;have Kz:=Ds.same t3;obtain⟨QC,QD⟩:=Kz.obj;have Dk:us.length<=1000:=by
    have e1:=aO QB;have e2:=aW (mM S.aE) (ord.take i);rw[ba] at e2;lia
   refine⟨_,rfl,pw,_,QC,_,_,rfl,QD,G.bI,G.fG,lM g,_,rfl,q,_,dq,_,_,rfl,M8,G.d9,G.eX,lK _ _,g.pl,_,_,.int (S.bl c).d,rfl,rfl,bG.of Kz.hl,cw (oN rg),_,_,rfl,rfl,_,rfl,cG (fun z=>?_) (fun z=>?_)⟩
   ·have z':mM S.aE c=true:=z;rw[aY z'] at pG;refine⟨_,rfl,_,iA,bf (by rw[ae]; exact Dk),hD,_,us ++ [q],rfl,t3.dk hD,(by rw[ag,aL]; rfl),?_⟩;rw[pG];exact cu (QB.upd iA) (uJ ⟨dq,M8⟩ iA)
   ·have z': ¬ mM S.aE c=true:=z;rw[aN z',cf] at pG;refine⟨hD,_,us,rfl,t3,iA,?_⟩;rw[pG];exact QB
  rintro pt σ H3 npt ⟨_,v',us,rfl,s3,wL,Lr⟩;rw[ae,← QA,aZ] at Lr;have ets:ord.filter (mM S.aE)=inTurn S.aE aH (·.b):=Mi.symm;rw[ets] at Lr;clear Mi ets Qz M0 JC QA HC;have Zh:(inTurn S.aE aH (·.b)).length<=62:=by
   rw[gN];have e1:=aW (fun k=>decide (0 < (S.aE.getD k default).d)) (inOrder S.aE aH (·.b));have e2:=oO S.aE aH (·.b);lia
  have Ob: ∀c∈inTurn S.aE aH (·.b),c < S.aE.length:=fun c hc=>(bP.mp hc).1;have z8:=Ds.same s3;have rQ:lV H3 tB:=bQ jA s3;have rR:mz H3 tC:=bQ kj s3;have F3:=F1.cS s3;have UI:=hG1.same s3;have Na:=s3 _ _ UH;clear Kx Ds jA kj s3 F1 hG1 UH F2 Aq kF mV M9 WA RH;generalize hgs:inTurn S.credits aH (·.a)=gs at UI Qs WB;generalize hts:inTurn S.aE aH (·.b)=ts at Lr Zh Ob;have hgq:=aO UI;have htq:=aO Lr;have hR:vm S aH gs ts (gs.map fun g=>(S.cr g).d) (ts.map fun t=>(S.bl t).d) (gs.map fun g=>ts.map fun t=>S.de g t):=⟨hgs.symm,hts.symm,rfl,rfl,rfl⟩;refine⟨_,rfl,pg,rfl,⟨_,bG.of Na⟩,?_⟩;refine dS (K:=K) (a:=pg) (xs:=rs.map V.ref) (fun D i σ H6=>H3 D=none/\ ∃(v:Option V),σ=[v,some (.ref pw)]/\aF H3 H6/\H6 D=some (.lst (((gs.take i).map fun g=>(S.cr g).d).map V.int))) (fun D hD=>⟨hD,none,rfl,aF.new hD,ag⟩) (fun D i σ H6 _ ⟨_,_,_,t3,_⟩=>bG.of (t3 _ _ Na)) ?_ ?_
  ·rintro D i x σ H6 hx ⟨hD,v,rfl,t3,iA⟩;rw[aC] at hx;obtain⟨q,hq,rfl⟩:=a8.mp hx;have hi:i < gs.length:=by have:=(ah.mp hq).1; lia
   obtain⟨q',tE,lS⟩:=bK UI (af hi);rw[hq] at tE;obtain rfl:q=q':=aG tE;have pZ:=gU hi;have rg:=WB _ (bH hi);generalize gs[i]=c at lS pZ rg;obtain⟨dq,M8⟩:=lS.same t3;have Kz:=z8.same t3;obtain⟨QC,QD⟩:=Kz.obj;refine⟨_,rfl,pw,_,QC,_,_,rfl,QD,G.bI,G.fH,lN g,_,rfl,q,_,dq,_,_,rfl,M8,G.df,G.eU,oK _ _,g.pf,_,_,.int (S.cr c).d,rfl,rfl,bG.of Kz.hf,cw (oN rg),_,iA,bf (by rw[ae,ae,ba]; lia),hD,_,rfl,t3.dk hD,?_⟩;rw[ag,pZ,aL,aL];rfl
  rintro pf σ H4 Lw ⟨_,v4,rfl,s4,HE⟩;rw[ae,← hgq,aZ] at HE;have hG4:=UI.same s4;have Oc:=Lr.same s4;have Uv:=z8.same s4;have sS:lV H4 tB:=bQ rQ s4;have sT:mz H4 tC:=bQ rR s4;have F4:=F3.cS s4;have UJ:=s4 _ _ Na;have wj:=s4 _ _ wL;clear s4 F3 rQ rR z8 Lr UI Na wL;refine⟨_,rfl,pt,rfl,⟨_,bG.of wj⟩,?_⟩;refine dS (K:=K) (a:=pt) (xs:=us.map V.ref) (fun D i σ H6=>H4 D=none/\ ∃(v:Option V),σ=[v,some (.ref pw)]/\aF H4 H6/\H6 D=some (.lst (((ts.take i).map fun g=>(S.bl g).d).map V.int))) (fun D hD=>⟨hD,none,rfl,aF.new hD,ag⟩) (fun D i σ H6 _ ⟨_,_,_,t3,_⟩=>bG.of (t3 _ _ wj)) ?_ ?_
  ·rintro D i x σ H6 hx ⟨hD,v,rfl,t3,iA⟩;rw[aC] at hx;obtain⟨q,hq,rfl⟩:=a8.mp hx;have hi:i < ts.length:=by have:=(ah.mp hq).1; lia
   obtain⟨q',tE,lS⟩:=bK Oc (af hi);rw[hq] at tE;obtain rfl:q=q':=aG tE;have pZ:=gU hi;have rg:=Ob _ (bH hi);generalize ts[i]=c at lS pZ rg;obtain⟨dq,M8⟩:=lS.same t3;have Kz:=Uv.same t3;obtain⟨QC,QD⟩:=Kz.obj;refine⟨_,rfl,pw,_,QC,_,_,rfl,QD,G.bI,G.fG,lM g,_,rfl,q,_,dq,_,_,rfl,M8,G.d9,G.eX,lK _ _,g.pl,_,_,.int (S.bl c).d,rfl,rfl,bG.of Kz.hl,cw (oN rg),_,iA,bf (by rw[ae,ae,ba]; lia),hD,_,rfl,t3.dk hD,?_⟩;rw[ag,pZ,aL,aL];rfl
  rintro pl σ H5 npl ⟨_,v5,rfl,s5,iS⟩;rw[ae,← htq,aZ] at iS;have Zi:=hG4.same s5;have RP:=Oc.same s5;have hW5:=Uv.same s5;have KA:lV H5 tB:=bQ sS s5;have KC:mz H5 tC:=bQ sT s5;have F5:=F4.cS s5;have Nb:=s5 _ _ UJ;have QE:=s5 _ _ wj;have UK:=s5 _ _ HE;clear s5 F4 sS sT Uv Oc hG4 UJ wj HE;refine⟨fa,sp,rfl,hFv,_,rfl,_,rfl,_,rfl,pg,rfl,⟨_,bG.of Nb⟩,?_⟩;refine dS (K:=K) (a:=pg) (xs:=rs.map V.ref) (fun D i σ H6=>H5 D=none/\ ∃(v:Option V) (ws:List V),σ=[v,some (.ref pt)]/\aF H5 H6/\H6 D=some (.lst ws)/\je H6 D ((gs.take i).map fun g=>ts.map fun t=>S.de g t) ws) (fun D hD=>⟨hD,none,[],rfl,aF.new hD,ag,.nil⟩) (fun D i σ H6 _ ⟨_,_,_,_,t3,_⟩=>bG.of (t3 _ _ Nb)) ?_ ?_
  ·rintro D i x σ H6 hx ⟨hD,v,ws,rfl,t3,iA,RS⟩;rw[aC] at hx;obtain⟨q,hq,rfl⟩:=a8.mp hx;have hi:i < gs.length:=by have:=(ah.mp hq).1; lia
   obtain⟨q',tE,lS⟩:=bK Zi (af hi);rw[hq] at tE;obtain rfl:q=q':=aG tE;have pZ:=gU hi;have rg:=WB _ (bH hi);generalize gs[i]=c at lS pZ rg;have yo:=aO RS;rw[ae,ba] at yo;refine⟨_,rfl,_,rfl,q,pt,S,c,ts,us,rfl,lS.same t3,t3 _ _ QE,RP.same t3,(by lia),fun p H7 t7 np hp=>?_⟩;have Zj:(ts.map fun b=>pA (S.cr c) (S.bl b) b)=ts.map fun t=>S.de c t:=fT fun b hb=>yH wf rg (Ob b hb);rw[Zj] at hp;have RT:=t7 _ _ iA;have UL:p≠D:=(aJ iA np).symm;refine⟨_,RT,bf (by lia),hD,_,ws ++ [.ref p],rfl,(t3.trans t7).dk hD,ag,?_⟩;rw[pZ,aL];exact cu ((RS.same t7).upd) ⟨p,rfl,UL,by rw[az UL]; exact hp⟩
  rintro pa σ H6 npa ⟨_,v6,ws,rfl,s6,Nc,RS⟩;rw[ae,← hgq,aZ] at RS;refine hWC pf pl pa _ _ _ H6 _ (s6 _ _ UK) (s6 _ _ iS) (fb Nc RS.rp) (by rw[ae]; lia) (by rw[ae]; lia) (by rw[ae,ae]) (fun r hr=>by
   obtain⟨x,_,rfl⟩:=bJ.mp hr;rw[ae,ae]) fun pm ms H7 s7 UM FI=>?_
  have iD:=UE.lt (gs.map fun g=>(S.cr g).d) (ts.map fun t=>(S.bl t).d) (gs.map fun g=>ts.map fun t=>S.de g t);have hlen:=UE.len (gs.map fun g=>(S.cr g).d) (ts.map fun t=>(S.bl t).d) (gs.map fun g=>ts.map fun t=>S.de g t) (by rw[ae]; lia) (by rw[ae]; lia);rw[ae,ae] at iD;have kk:=k _ _ _ _ _ hR;generalize way (gs.map fun g=>(S.cr g).d) (ts.map fun t=>(S.bl t).d) (gs.map fun g=>ts.map fun t=>S.de g t)=fd at iD hlen FI kk;have xQ:=s6.trans s7;have hG7:=Zi.same xQ;have hT7:=RP.same xQ;have WC:=hW5.same xQ;have QF:lV H7 tB:=bQ KA xQ;have QG:mz H7 tC:=bQ KC xQ;have F7:=F5.cS xQ;have UN:=xQ _ _ Nb;have UO:=xQ _ _ QE;clear xQ s6 s7 F5 KA KC hW5 RP Zi Nb QE UK iS RS Nc k hWC hFv;have RK:=aO FI;refine⟨_,rfl,pm,rfl,⟨_,bG.of UM⟩,?_⟩;refine dS (K:=K) (a:=pm) (xs:=ms) (fun D i σ H6=>H7 D=none/\ ∃(v1 v2 v3:Option V) (ws:List V),σ=[v1,v2,v3,some (.ref pt),some (.ref pg)]/\aF H7 H6/\H6 D=some (.lst ws)/\iw H6 ((fd.take i).map (me gs ts)) ws) (fun D hD=>⟨hD,none,none,none,[],rfl,aF.new hD,ag,.nil⟩) (fun D i σ H6 _ ⟨_,_,_,_,_,_,t3,_⟩=>bG.of (t3 _ _ UM)) ?_ ?_
  ·rintro D i x σ H6 hx ⟨hD,v1,v2,v3,ws,rfl,t3,iA,HN⟩;have hi:i < fd.length:=by have:=(ah.mp hx).1; lia
   obtain⟨v',hv,p,rfl,hp⟩:=bK FI (af hi);rw[hx] at hv;obtain rfl:x= .ref p:=aG hv;have pZ:=gU hi;obtain⟨l1,l2⟩:=iD _ (bH hi);generalize fd[i]=t at hp pZ l1 l2;have yo:=aO HN;rw[ae,ba] at yo;have g1:gs[t.1]? =some (gs.getD t.1 0):=by rw[ak,af l1]; rfl
   have g2:ts[t.2.1]? =some (ts.getD t.2.1 0):=by rw[ak,af l2]; rfl
   obtain⟨q1,QA,i1⟩:=bK hG7 g1;obtain⟨q2,A7,i2⟩:=bK hT7 g2;obtain⟨d1,e1⟩:=i1.same t3;obtain⟨d2,e2⟩:=i2.same t3;refine⟨p,_,rfl,cE.of (t3 _ _ hp),rfl,_,_,rfl,_,_,rfl,_,_,rfl,rfl,?_⟩;refine⟨_,rfl,_,rfl,pg,_,_,.ref q1,rfl,rfl,bG.of (t3 _ _ UN),cw (by rw[aC,QA]; rfl),q1,_,d1,_,_,rfl,e1,G.df,G.eU,oK _ _,?_⟩;refine⟨_,rfl,_,rfl,pt,_,_,.ref q2,rfl,rfl,bG.of (t3 _ _ UO),cw (by rw[aC,A7]; rfl),q2,_,d2,_,_,rfl,e2,G.d9,G.eX,lK _ _,_,rfl,(by show 3<=sizeLine; decide),fun p8 n8=>?_⟩;have s8:=aF.new (o:= .tup [.int (gs.getD t.1 0:Nat),.int (ts.getD t.2.1 0:Nat),.int t.2.2]) n8;have hl8:=s8 _ _ iA;refine⟨_,hl8,jc (by lia),hD,_,_,_,ws ++ [.ref p8],rfl,(t3.trans s8).dk hD,ag,?_⟩;rw[pZ,aL];have tk:=dU (o:= .lst (ws ++ [.ref p8])) hl8;exact cu ((HN.mono s8.tk).mono tk) ⟨p8,rfl,tk _ _ ag⟩
  rintro pn σ H8 UP ⟨_,w1,w2,w3,ws,rfl,s8,Hy,UQ⟩;rw[← RK,aZ] at UQ;have RU:=WC.same s8;have HU:lV H8 tB:=bQ QF s8;have HV:mz H8 tC:=bQ QG s8;have F8:=F7.cS s8;have Zk:H pn=none:=by
   cases e:H pn with
   |none=>rfl
   |some o=>
    exfalso;by_cases kM:pn∈tB :: tC :: g.fp
    ·rcases au.mp kM with z|kM
     ·obtain⟨ps,q⟩:=c8 QF;rw[← z,UP] at q;cases q
     ·rcases au.mp kM with z|kM
      ·obtain⟨ps,q⟩:=c8 QG;rw[← z,UP] at q;cases q
      ·exact WC.new UP kM
    ·have q:=F7 _ _ kM e;rw[UP] at q;cases q
  have UR:pn∉g.fp:=WC.new UP;have Kp: ∀t∈fd.map (me gs ts),t.1 < S.credits.length/\t.2.1 < S.aE.length:=fun t ht=>by
   obtain⟨u,hu,rfl⟩:=bJ.mp ht;obtain⟨l1,l2⟩:=iD u hu;exact⟨WB _ (jZ l1),Ob _ (jZ l2)⟩
  have Kg:(fd.map (me gs ts)).length<=4000:=by rw[ae]; exact hlen
  generalize fd.map (me gs ts)=L at UQ kk Kp Kg;have yo:=aO UQ;clear iD hlen FI UM UN UO hG7 hT7 WC QF QG F7 s8;refine⟨_,rfl,pn,rfl,⟨_,bG.of Hy⟩,?_⟩;refine fA (K:=K) (a:=pn) (xs:=ws) (fun i σ H2=> ∃(x9 CM CO:Option V),σ=[some (.ref pw),some (.str aH),some (.ref fa),some (.ref pg),some (.ref pt),some (.ref pf),some (.ref pl),some (.ref pm),some (.ref pn),x9,CM,CO]/\Frame g.fp H8 H2/\dG A H2 pw (kC S (L.take i)) g)
   ⟨none,none,none,rfl,Frame.refl,RU⟩ (fun i σ H2 _ ⟨_,_,_,_,f2,_⟩=>bG.of (f2 _ _ UR Hy)) ?_ ?_
  ·rintro i x σ H2 hx ⟨x9,CM,CO,rfl,f2,Aq⟩;have hi:i < L.length:=by have:=(ah.mp hx).1; lia
   have qH:=af hi;obtain⟨v',hv,p,rfl,hp⟩:=bK UQ qH;rw[hx] at hv;obtain rfl:x= .ref p:=aG hv;have wL:=HS (S:=S) qH;obtain⟨m1,m2⟩:=Kp _ (bH hi);generalize L[i]=t at hp wL m1 m2;obtain⟨b1,b2⟩:=FK S (L.take i);have Iz:(kC S (L.take i)).made.length < sizeLine:=by
    rw[jQ,ax,ba];have:=wf.lm;exact jc (by lia)
   obtain⟨Zg,RH⟩:=Aq.obj;refine⟨p,_,rfl,cE.of (RU.tk f2 _ _ hp),rfl,_,_,rfl,_,_,rfl,_,_,rfl,rfl,?_⟩;refine⟨_,rfl,pw,Zg,_,rfl,RH,Kd g,_,rfl,_,rfl,_,rfl,pw,_,g,t.1,t.2.1,t.2.2,rfl,Aq,(by rw[b2]; exact m1),(by rw[b1]; exact m2),Iz,fun H3 f3 W3=>?_⟩;refine⟨_,_,_,rfl,f2.tr f3,?_⟩;rw[wL];exact W3
  ·rintro σ H2 ⟨x9,CM,CO,rfl,f2,Aq⟩;rw[← yo,aZ] at Aq;have ext2: ∀a∈g.fp,∀φ,H8 a≠some (.ext φ):=fun a ha φ e=>by
    obtain⟨xs,z⟩:=RU.lists a ha;rw[z] at e;cases e
   have HW:tB∉g.fp:=RU.off fun xs e=>by
    obtain⟨ps,z⟩:=c8 HU;rw[z] at e;cases e
   have HX:tC∉g.fp:=RU.off fun xs e=>by
    obtain⟨ps,z⟩:=c8 HV;rw[z] at e;cases e
   exact⟨_,rfl,kk pn ws H2 (F8.tr (dH f2 fun x hx=>by simp[hx])) (gf HU f2 HW ext2) (gf HV f2 HX ext2) Aq Zk (f2 _ _ UR Hy) (UQ.mono (RU.tk f2))⟩
def rT (g:eT):(lL g).lookup ("one_round":Str)=none:=by rfl
def pJ {α β:Type}{F:α->β->Prop}: ∀{l₁:List α} {r₁:List β} {l₂:List α} {r₂:List β},Paired F l₁ r₁->Paired F l₂ r₂->Paired F (l₁ ++ l₂) (r₁ ++ r₂)
 |_,_,_,_,.nil,h=>h
 |_,_,_,_,.cons a t,h=> .cons a (pJ t h)
def EF:Kw qx:=⟨fun fs ls al t h=>mf fs ls al _ t h,fun fs ls al h1 _=>by
 have:=L2.iu fs ls al fs.length;show(bV fs ls al fs.length).2.length<=4000;lia⟩
def KD:Kw CK:=⟨fun fs ls al t h=>vt fs ls al _ t h,fun fs ls al h1 h2=>by
 have:=qk fs ls al fs.length;have h3:fs.length * ls.length<=63 * 63:=qK h1 h2;show(cv fs ls al fs.length).2.length<=4000;lia⟩
def tU {H:Hp}: ∀{ms:List (Nat×Nat×Int)} {xs:List V},gY H (ms.map Kr) xs->iw H ms xs
 |[],_,h=>by
  rw[cq.mp h];exact .nil
 |t :: ms,_,h=>by
  obtain⟨v,r,rfl,h1,h2⟩:=br.mp h;obtain⟨a,ys,rfl,h3,h4⟩:=jW.mp h1;obtain⟨u1,r1,rfl,e1,h5⟩:=br.mp h4;obtain⟨u2,r2,rfl,e2,h6⟩:=br.mp h5;obtain⟨u3,r3,rfl,e3,h7⟩:=br.mp h6;obtain rfl:=cq.mp h7;obtain rfl:=dA.mp e1;obtain rfl:=dA.mp e2;obtain rfl:=dA.mp e3;exact .cons ⟨a,rfl,h3⟩ (tU h2)
def KG:Qy qx (wc K):=fun pf pl pa fs ls al H Q h1 h2 h3 h4 h5 h6 h7 k=>
 ⟨pf,pl,pa,fs,ls,al,rfl,bG.of h1,bG.of h2,h3,by lia,h6,h7,fun v H' s r=>by
  obtain⟨a,xs,rfl,e,r'⟩:=jX.mp r;exact k a xs H' s e (tU r')⟩
def QH:Qy CK (wg K):=fun pf pl pa fs ls al H Q h1 h2 h3 h4 h5 h6 h7 k=>
 ⟨pf,pl,pa,fs,ls,al,rfl,bG.of h1,bG.of h2,h3,h4,h5,h6,h7,fun pm ms H' s e r=>k pm ms H' s e r⟩
inductive Az (A:dZ)(tB tC:Addr)(vs:List V)(H:Hp)(Q:VK)(E':XK):Prop
 |mk (pw:Addr)(S:Bk)(f:eT)(n:Nat)(aH:Str)(h1:vs=[.ref pw,.str aH])(h2:dG A H pw S f)(h3:WF S n)(h4:n<=60)(h5:lV H tB)(h6:mz H tC)(h7: ∀D ms H',Frame (tB :: tC :: f.fp) H H'->lV H' tB->mz H' tC->dG A H' pw (S.dm aH) f->H D=none->H' D=some (.lst ms)->iw H' ((S.dm aH).made.drop S.made.length) ms->Q (.ref D) H'):Az A tB tC vs H Q E'
def pK:aU ["self","who","first","second"] ["self","who"] (aA (mem 25 6)):={}
def Nd (T:Txt K mg){A:dZ}{tB tC:Addr}(G:jI K mg A)(DB:qI K mg "bills_in_order" (top 17) tB)(DC:qI K mg "credits_in_order" (top 18) tC)(jy:tB≠tC)(KB:K.In base)(BM:BMain mg base):g9 sD P w K mg base A.work "sweep" 4 ["self","who"] (Az A tB tC):=by
 have tV:g9 sD P w K mg base A.work "one_round" 3 ["self","who","way"] (Ay P w K mg base A tB tC):=CL T G DB DC jy KB BM;obtain⟨f1,m1,V1⟩:=fu.fnv (M6 (P:=P) (w:=w) (base:=base) T);obtain⟨f2,m2,V2⟩:=fu.fnv (Ax (P:=P) (w:=w) (base:=base) T);refine MM (k:=3) G.xx G.bI pK (fun f cY A' outer s H vs Q E hr h=>?_)
 ·obtain⟨pw,S,g,n,aH,rfl,hW,wf,hn,kr,jU,k⟩:=h;have nd:=pK.nd;refine⟨_,(ai (sv 2 nd (nQ tV (hr.mono (by decide)) nz (pv 0) (aa (pv 1) (aa (ER (v:= .ref f1) rfl m1 rfl) aw))))
(ai (sv 3 nd (nQ tV (hr.mono (by decide)) nz (pv 0) (aa (pv 1) (aa (ER (v:= .ref f2) rfl m2 rfl) aw))))
(av (a9 (aQ k8 (pv 2) (pv 3)))))),?_⟩
  obtain⟨dw,hw⟩:=hW.obj;refine⟨_,rfl,pw,dw,_,rfl,hw,rT g,_,rfl,pw,f1,S,g,n,aH,qx,_,rfl,hW,wf,(by lia),kr,jU,EF,V1,KG,fun gs ts fs ls al R D1 Zl H1 F1 jA kj Ds UG HC FH=>?_⟩;obtain⟨er,lr⟩:=Jw R;have Zj:fs.length=gs.length:=by rw[R.ef,ae]
  have eS:kC S ((qx fs ls al).map (me gs ts))=bN aH S true:=by rw[er]; unfold qx; rw[Zj]
  have em:(bN aH S true).made=S.made ++ (qx fs ls al).map (me gs ts):=by rw[← eS]; exact jQ _ _
  obtain⟨_,l1,e1,b1,n1⟩:=qZ S aH true;have el1:l1=(qx fs ls al).map (me gs ts):=List.append_cancel_left (e1.symm.trans em);rw[eS] at Ds;rw[← el1] at FH;have hcb:S.credits.length * S.aE.length<=60 * 60:=qK (by have:=wf.lc; lia) (by have:=wf.lb; lia);have wf1:WF (bN aH S true) (n + 1):=by
   refine wf.later lr (fun t ht=>?_) (cM _) ?_
   ·rw[e1] at ht;rcases bc.mp ht with ht|ht
    ·exact wf.m t ht
    ·exact b1 t ht
   ·rw[e1,ax];have:=wf.lm;have:=wf.lc;lia
  obtain⟨dw1,T6⟩:=Ds.obj;refine⟨_,rfl,pw,dw1,_,rfl,T6,rT g,_,rfl,pw,f2,_,g,n + 1,aH,CK,_,rfl,Ds,wf1,(by lia),jA,kj,KD,V2,QH,fun US WD UT WE WG R2 D2 Ls H2 F2 kF mV Aq Dr En DT=>?_⟩;obtain⟨er2,lr2⟩:=Jy R2;have Zm:UT.length=US.length:=by rw[R2.ef,ae]
  have eS2:kC (bN aH S true) ((CK UT WE WG).map (me US WD))=S.dm aH:=by
   show _ =bN aH (bN aH S true) false;rw[er2]; unfold CK; rw[Zm]
  have em2:(S.dm aH).made=(bN aH S true).made ++ (CK UT WE WG).map (me US WD):=by rw[← eS2]; exact jQ _ _
  rw[eS2] at Aq;have Iz:(S.dm aH).made.length<=8000 * 60 + 8000:=by
   obtain⟨_,l3,e3,_,n3⟩:=nI S aH;rw[e3,ax];have:=wf.lm;have:=wf.lc;lia
  have Zn:D1∉tB :: tC :: g.fp:=fun z=>by
   rcases au.mp z with z|z
   ·obtain⟨ps,e⟩:=c8 kr;rw[← z,UG] at e;cases e
   ·rcases au.mp z with z|z
    ·obtain⟨ps,e⟩:=c8 jU;rw[← z,UG] at e;cases e
    ·exact hW.new UG z
  have Zo:=F2 _ _ Zn HC;have kt:cI H1 H2:=fun b xs e=>F2 b _ (fun z=>by
   rcases au.mp z with z|z
   ·obtain⟨ps,e'⟩:=c8 jA;rw[z,e'] at e;cases e
   ·rcases au.mp z with z|z
    ·obtain⟨ps,e'⟩:=c8 kj;rw[z,e'] at e;cases e
    ·obtain⟨ys,e'⟩:=Ds.lists b z;rw[e'] at e;cases e) e
  have t1:=aO FH;have t2:=aO DT;have hlen:(S.dm aH).made.length=S.made.length + l1.length + ((CK UT WE WG).map (me US WD)).length:=by
   rw[em2,e1,ax,ax]
  refine⟨_,rfl,_,rfl,D1,D2,Zl,Ls,rfl,rfl,Zo,En,?_,fun p np=>?_⟩
  ·have:Zl.length + Ls.length<=1000000:=by lia
   exact cJ (jc this)
  ·have s3:=aF.new (o:= .lst (Zl ++ Ls)) np;have F:=F1.tr F2;have np0:H p=none:=by
    cases e:H p with
    |none=>rfl
    |some o=>
     exfalso;by_cases kM:p∈tB :: tC :: g.fp
     ·rcases au.mp kM with z|kM
      ·obtain⟨ps,q⟩:=c8 kF;rw[← z,np] at q;cases q
      ·rcases au.mp kM with z|kM
       ·obtain⟨ps,q⟩:=c8 mV;rw[← z,np] at q;cases q
       ·exact Aq.new np kM
     ·have q:=F _ _ kM e;rw[np] at q;cases q
   refine k p _ _ (F.cS s3) (bQ kF s3) (bQ mV s3) (Aq.same s3) np0 ag ?_;have ed:(S.dm aH).made.drop S.made.length=l1 ++ (CK UT WE WG).map (me US WD):=by
    rw[em2,e1,bZ,List.drop_left]
   rw[ed];exact pJ ((FH.mono kt).mono s3.tk) (DT.mono s3.tk)
def AA (g:eT):(lL g).lookup ("tell_bill":Str)=none:=by rfl
def um (g:eT):(lL g).lookup ("tell_payment":Str)=none:=by rfl
def AB (g:eT):(lL g).lookup ("tell_note":Str)=none:=by rfl
def wm (g:eT):(lL g).lookup ("set_by_hand":Str)=none:=by rfl
def KH (g:eT):(lL g).lookup ("sweep":Str)=none:=by rfl
inductive uK (A:dZ)(K:Frag)(tB tC:Addr)(vs:List V)(H:Hp)(Q:VK)(E:XK):Prop
 |mk (pw pd:Addr)(S:Bk)(f:eT)(n:Nat)(d:bg)(h1:vs=[.ref pw,.ref pd])(h2:dG A H pw S f)(h3:WF S n)(h4:n<=60)(h5:lV H tB)(h6:mz H tC)(h7:H pd=some (.tup (bg.vs d)))(h8:d.tells=true)(h9:(S.bar d=""-> ∀v f' H',f'.fp=f.fp->Frame (tB :: tC :: f.fp) H H'->lV H' tB->mz H' tC->dG A H' pw (S.enter d) f'->lT H' (fun D=>H D=none) (S.Jz d) v->Q v H'))(Lj:(S.bar d≠""->MS A K E (S.bar d) H)):uK A K tB tC vs H Q E
def FL:aU ["work","deed","kind"] ["work","deed"] (aA (top 30)):={}
def KI (T:Txt K mg){A:dZ}{tB tC:Addr}(G:jI K mg A)(DB:qI K mg "bills_in_order" (top 17) tB)(DC:qI K mg "credits_in_order" (top 18) tC)(jy:tB≠tC)(KB:K.In base)(BM:BMain mg base):vK P w K mg base "done" 7 ["work","deed"] (uK A K tB tC):=by
 have CP:g9 (mU P w mg) P w K mg base A.work "tell_bill" 5 ["self","who","day","due","amount"] (z9 A K):=Cq T G;have wq:g9 (mU P w mg) P w K mg base A.work "tell_payment" 6 ["self","who","day","amount"] (Ab A K):=vP T G;have CQ:g9 (mU P w mg) P w K mg base A.work "tell_note" 6 ["self","bill_number","day","amount"] (Ac A K):=Cr T G;have xR:g9 (mU P w mg) P w K mg base A.work "set_by_hand" 5 ["self","credit_number","bill_number","amount"] (Ke A K):=xB T G;have Nf:g9 sD P w K mg base A.work "sweep" 4 ["self","who"] (Az A tB tC):=Nd T G DB DC jy KB BM;refine P6 (k:=6) T.PX FL (fun f cY A' outer s H vs Q E hr mJ h=>?_)
 ·obtain⟨pw,pd,S,g,n,d,rfl,hW,wf,hn,kr,jU,hd,ht,k1,k2⟩:=h;have nd:=FL.nd;obtain⟨dw,hw⟩:=hW.obj;refine⟨_,(ai (sv 2 nd (xt (pv 1) aj))
(ai (bT (a0 dg (pv 2) aR (bb _))
(av (a9 (nQ CP (hr.mono (by decide)) mJ.pass (pv 0) (aa (xt (pv 1) aj) (aa (xt (pv 1) aj) (aa (xt (pv 1) aj) (aa (xt (pv 1) aj) aw)))))))
bp)
(ai (bT (a0 dg (pv 2) aR (bb _))
(av (a9 (nQ wq (hr.mono (by decide)) mJ.pass (pv 0) (aa (xt (pv 1) aj) (aa (xt (pv 1) aj) (aa (xt (pv 1) aj) aw))))))
bp)
(ai (bT (a0 dg (pv 2) aR (bb _))
(av (a9 (nQ CQ (hr.mono (by decide)) mJ.pass (pv 0) (aa (xt (pv 1) aj) (aa (xt (pv 1) aj) (aa (xt (pv 1) aj) aw))))))
bp)
(ai (bT (a0 dg (pv 2) aR (bb _))
(av (a9 (nQ xR (hr.mono (by decide)) mJ.pass (pv 0) (aa (xt (pv 1) aj) (aa (xt (pv 1) aj) (aa (xt (pv 1) aj) aw))))))
bp)
(av (a9 (nQ Nf (hr.mono (by decide)) nz (pv 0) (aa (xt (pv 1) aj) aw))))))))),?_⟩
  have ext: ∀a∈g.fp,∀φ,H a≠some (.ext φ):=fun a ha φ e=>by
   obtain⟨xs,z⟩:=hW.lists a ha;rw[z] at e;cases e
  have HW:tB∉g.fp:=hW.off fun xs e=>by
   obtain⟨ps,z⟩:=c8 kr;rw[z] at e;cases e
  have HX:tC∉g.fp:=hW.off fun xs e=>by
   obtain⟨ps,z⟩:=c8 jU;rw[z] at e;cases e
  cases d with
  |gK n=>cases ht
  |ask o w d=>cases ht
  |hZ w d l=>cases ht
  |dM wh dy du am=>
   refine⟨_,rfl,pd,_,_,.str "bill",rfl,rfl,cE.of hd,rfl,?_⟩;refine⟨_,rfl,rfl,true,A6 _,fP ⟨_,rfl,pw,dw,_,rfl,hw,AA g,_,rfl,pd,_,_,.str wh,rfl,rfl,cE.of hd,rfl,_,rfl,pd,_,_,.int dy,rfl,rfl,cE.of hd,rfl,_,rfl,pd,_,_,.int du,rfl,rfl,cE.of hd,rfl,_,rfl,pd,_,_,.int am,rfl,rfl,cE.of hd,rfl,pw,S,g,wh,dy,du,am,rfl,hW,(by have:=wf.lb; lia),fun hb f1 H1 e1 F1 W1=>?_,k2⟩⟩;exact k1 hb _ f1 H1 e1 (dH F1 fun x hx=>by simp[hx]) (gf kr F1 HW ext) (gf jU F1 HX ext) W1 rfl
  |pz wh dy am=>
   refine⟨_,rfl,pd,_,_,.str "pay",rfl,rfl,cE.of hd,rfl,?_⟩;refine⟨_,rfl,rfl,false,jK (show("pay":Str)≠"bill" by decide +kernel),bX ?_⟩;refine⟨_,rfl,rfl,true,A6 _,fP ⟨_,rfl,pw,dw,_,rfl,hw,um g,_,rfl,pd,_,_,.str wh,rfl,rfl,cE.of hd,rfl,_,rfl,pd,_,_,.int dy,rfl,rfl,cE.of hd,rfl,_,rfl,pd,_,_,.int am,rfl,rfl,cE.of hd,rfl,pw,S,g,wh,dy,am,rfl,hW,(by have:=wf.lc; lia),fun hb f1 H1 e1 F1 W1=>?_,k2⟩⟩;exact k1 hb _ f1 H1 e1 (dH F1 fun x hx=>by simp[hx]) (gf kr F1 HW ext) (gf jU F1 HX ext) W1 rfl
  |note b dy am=>
   refine⟨_,rfl,pd,_,_,.str "note",rfl,rfl,cE.of hd,rfl,?_⟩;refine⟨_,rfl,rfl,false,jK (show("note":Str)≠"bill" by decide +kernel),bX ?_⟩;refine⟨_,rfl,rfl,false,jK (show("note":Str)≠"pay" by decide +kernel),bX ?_⟩;refine⟨_,rfl,rfl,true,A6 _,fP ⟨_,rfl,pw,dw,_,rfl,hw,AB g,_,rfl,pd,_,_,.int b,rfl,rfl,cE.of hd,rfl,_,rfl,pd,_,_,.int dy,rfl,rfl,cE.of hd,rfl,_,rfl,pd,_,_,.int am,rfl,rfl,cE.of hd,rfl,pw,S,g,b,dy,am,rfl,hW,(by have:=wf.lc; lia),fun hb f1 H1 e1 F1 W1=>?_,k2⟩⟩;exact k1 hb _ f1 H1 e1 (dH F1 fun x hx=>by simp[hx]) (gf kr F1 HW ext) (gf jU F1 HX ext) W1 rfl
  |set c b am=>
   refine⟨_,rfl,pd,_,_,.str "set",rfl,rfl,cE.of hd,rfl,?_⟩;refine⟨_,rfl,rfl,false,jK (show("set":Str)≠"bill" by decide +kernel),bX ?_⟩;refine⟨_,rfl,rfl,false,jK (show("set":Str)≠"pay" by decide +kernel),bX ?_⟩;refine⟨_,rfl,rfl,false,jK (show("set":Str)≠"note" by decide +kernel),bX ?_⟩;refine⟨_,rfl,rfl,true,A6 _,fP ⟨_,rfl,pw,dw,_,rfl,hw,wm g,_,rfl,pd,_,_,.int c,rfl,rfl,cE.of hd,rfl,_,rfl,pd,_,_,.int b,rfl,rfl,cE.of hd,rfl,_,rfl,pd,_,_,.int am,rfl,rfl,cE.of hd,rfl,pw,S,g,n,c,b,am,rfl,hW,wf,(jc (by have:=wf.lm; lia)),fun hb f1 H1 e1 F1 W1=>?_,k2⟩⟩;exact k1 hb _ f1 H1 e1 (dH F1 fun x hx=>by simp[hx]) (gf kr F1 HW ext) (gf jU F1 HX ext) W1 rfl
  |bU wh=>
   refine⟨_,rfl,pd,_,_,.str "sweep",rfl,rfl,cE.of hd,rfl,?_⟩;refine⟨_,rfl,rfl,false,jK (show("sweep":Str)≠"bill" by decide +kernel),bX ?_⟩;refine⟨_,rfl,rfl,false,jK (show("sweep":Str)≠"pay" by decide +kernel),bX ?_⟩;refine⟨_,rfl,rfl,false,jK (show("sweep":Str)≠"note" by decide +kernel),bX ?_⟩;refine⟨_,rfl,rfl,false,jK (show("sweep":Str)≠"set" by decide +kernel),bX ?_⟩;refine⟨_,rfl,pw,dw,_,rfl,hw,KH g,_,rfl,pd,_,_,.str wh,rfl,rfl,cE.of hd,rfl,pw,S,g,n,wh,rfl,hW,wf,(by lia),kr,jU,fun D ms H1 F1 jA kj W1 nD hD hT=>?_⟩;exact k1 rfl _ g H1 rfl F1 jA kj W1 ⟨D,ms,rfl,nD,hD,hT⟩
def KJ {α:Type}(x:α)(xs:List α):uv (x :: xs) 0=some x:=cw (xs:=x :: xs) (j:=0) rfl
def lx (H:Hp)(ss:List (Int×bg))(bh:List (Key×V)):Prop:=Paired (fun(st:Int×bg) (kv:Key×V)=>kv.1=Sum.inl st.1/\ ∃pd,kv.2= .ref pd/\H pd=some (.tup (bg.vs st.2))/\st.2.tells=true) ss bh
def lx.mono {H H':Hp}{ss:List (Int×bg)}{bh:List (Key×V)}(h:lx H ss bh)(k:cI H H'):lx H' ss bh:=Paired.gX h fun _ _ ⟨e,p,e2,z,t⟩=>⟨e,p,e2,k _ _ z,t⟩
structure fR (A:dZ)(H:Hp)(pb pk pw:Addr)(T:gZ)(f:eT):Prop where
 obj:eF H pb A.book (eZ pk pw)
 kept: ∃bh,H pk=some (.dK bh)/\lx H T.steps bh
 wk:dG A H pw T.bk f
def fR.same {A:dZ}{H H':Hp}{pb pk pw:Addr}{T:gZ}{f:eT}(h:fR A H pb pk pw T f)(s:aF H H'):fR A H' pb pk pw T f:=by
 obtain⟨bh,k1,k2⟩:=h.kept;exact⟨h.obj.same s,⟨bh,s _ _ k1,k2.mono s.tk⟩,h.wk.same s⟩
def FN {A:dZ}{H H':Hp}{pw:Addr}{S:Bk}{f:eT}(h:dG A H pw S f)(kl: ∀a xs,H a=some (.lst xs)->H' a=some (.lst xs))(ki: ∀a C dx fs,fs.length=5->H a=some (.ins C dx fs)->H' a=some (.ins C dx fs))(kt:cI H H'):dG A H' pw S f:=by
 obtain⟨dw,hw⟩:=h.obj;obtain⟨ms,m1,m2⟩:=h.hm;exact⟨⟨dw,ki _ _ _ _ rfl hw⟩,kl _ _ h.hb,kl _ _ h.hc,kl _ _ h.hl,kl _ _ h.hf,⟨ms,kl _ _ m1,m2.mono kt⟩,⟨h.rb.1,fun i p e=>let⟨dx,z⟩:=h.rb.2 i p e; ⟨dx,ki _ _ _ _ rfl z⟩⟩,⟨h.rc.1,fun i p e=>let⟨dx,z⟩:=h.rc.2 i p e; ⟨dx,ki _ _ _ _ rfl z⟩⟩,h.nd⟩
def KL (o:HO):Prop:=(∀xs,o≠ .lst xs)/\(∀xs,o≠ .tup xs)/\ ∀C dx fs,fs.length=5->o≠ .ins C dx fs
def wt {A:dZ}{H:Hp}{pw p:Addr}{S:Bk}{f:eT}{o u:HO}(h:dG A H pw S f)(e:H p=some o)(n:KL o):dG A (upd H p u) pw S f:=
 FN h (fun a xs z=>by rw[az (fun q=>by rw[q,e] at z; exact n.1 xs (aG z))]; exact z) (fun a C dx fs hl z=>by rw[az (fun q=>by rw[q,e] at z; exact n.2.2 C dx fs hl (aG z))]; exact z)
  (fun a xs z=>by rw[az (fun q=>by rw[q,e] at z; exact n.2.1 xs (aG z))]; exact z)
def uL (bh:List (Key×V)):KL (.dK bh):=⟨fun _ z=>(by cases z),fun _ z=>(by cases z),fun _ _ _ _ z=>(by cases z)⟩
def KN (φ:Heap->Prop):KL (.ext φ):=⟨fun _ z=>(by cases z),fun _ z=>(by cases z),fun _ _ _ _ z=>(by cases z)⟩
def yN (C dx pk pw:Addr):KL (.ins C dx (eZ pk pw)):=⟨fun _ z=>(by cases z),fun _ z=>(by cases z),fun _ _ fs hl z=>(by injection z with _ _ z; rw[← z] at hl; cases hl)⟩
def AD {H:Hp}{p:Addr}{o u:HO}(e:H p=some o)(n:KL o):cI H (upd H p u):=fun a xs z=>by rw[az (fun q=>by rw[q,e] at z; exact n.2.1 xs (aG z))]; exact z
def sU {H:Hp}{m:Int}: ∀{ss:List (Int×bg)} {bh:List (Key×V)},lx H ss bh->gu bh (Sum.inl m:Key)=none-> ∀st∈ss,st.1≠m
 |_,_,.nil,_,_,h=>by cases h
 |_,_,.cons (a:=a) (b:=kv) ⟨e,_⟩ t,hv,st,h=>by
  by_cases q:kv.1=(Sum.inl m:Key)
  ·rw[fO q] at hv;cases hv
  ·rw[fB q] at hv;rcases au.mp h with rfl|h
   ·intro z;rw[e,z] at q;exact q rfl
   ·exact sU t hv st h
def yO {H:Hp}{m:Int}{v:V}: ∀{ss:List (Int×bg)} {bh:List (Key×V)},lx H ss bh->gu bh (Sum.inl m:Key)=some v-> ∃st∈ss,st.1=m/\ ∃pd,v= .ref pd/\H pd=some (.tup (bg.vs st.2))/\st.2.tells=true
 |_,_,.nil,hv=>by cases hv
 |_,_,.cons (a:=a) (b:=kv) ⟨e,pd,e2,z,tl⟩ t,hv=>by
  by_cases q:kv.1=(Sum.inl m:Key)
  ·rw[fO q] at hv;rw[e] at q;refine⟨a,aS,by injection q,pd,?_,z,tl⟩;rw[← aG hv,e2]
  ·rw[fB q] at hv;obtain⟨st,h1,h2⟩:=yO t hv;exact⟨st,aI _ h1,h2⟩
def CS {H:Hp}{m:Int}: ∀{ss:List (Int×bg)} {bh:List (Key×V)},lx H ss bh->(∀st∈ss,st.1≠m)->gu bh (Sum.inl m:Key)=none
 |_,_,.nil,_=>rfl
 |_,_,.cons (a:=a) (b:=kv) ⟨e,_⟩ t,h=>by
  rw[fB (fun q=>by
   rw[e] at q;exact h a aS (by injection q))]
  exact CS t fun st hs=>h st (aI _ hs)
def yP {H:Hp}{m:Int}: ∀{ss:List (Int×bg)} {bh:List (Key×V)},lx H ss bh->lx H (ss.filter fun st=>decide (st.1≠m)) (lE bh (Sum.inl m:Key))
 |_,_,.nil=> .nil
 |_,_,.cons (a:=a) (b:=kv) ⟨e,r⟩ t=>by
  have ih:=yP (m:=m) t;unfold lE at ih ⊢;by_cases q:a.1=m
  ·have q':kv.1=(Sum.inl m:Key):=by rw[e,q]
   rw[List.filter_cons_of_neg (by simp[q]),List.filter_cons_of_neg (by simp[q'])];exact ih
  ·have q': ¬ kv.1=(Sum.inl m:Key):=by rw[e]; intro z; exact q (by injection z)
   rw[List.filter_cons_of_pos (by simp[q]),List.filter_cons_of_pos (by simp[q'])];exact .cons ⟨e,r⟩ ih
def wu: ∀{ss:List (Int×bg)},ss.Pairwise (fun a b=>a.1 < b.1)-> ∀{x y:Int×bg},x∈ss->y∈ss->x.1=y.1->x=y
 |[],_,_,_,h,_,_=>by cases h
 |a :: ss,hp,x,y,hx,hy,e=>by
  rw[fq] at hp;rcases au.mp hx with hx|hx
  ·rcases au.mp hy with hy|hy
   ·rw[hx,hy]
   ·have:=hp.1 y hy;rw[hx] at e;lia
  ·rcases au.mp hy with hy|hy
   ·have:=hp.1 x hx;rw[hy] at e;lia
   ·exact wu hp.2 hx hy e
def HY (ss:List (Int×bg))(m:Int):Bool:=ss.any fun st=>decide (st.1=m) && st.2.isSet
def qy (ss:List (Int×bg))(m:Int):(ss.filter (cD m)).length=ss.length↔HY ss m=false:=by
 rw[List.length_filter_eq_length_iff];unfold HY;rw[se];constructor
 ·intro h st hs;have:=h st hs;unfold cD at this;cases h2:decide (st.1=m) && st.2.isSet
  ·simp
  ·rw[h2] at this;cases this
 ·intro h st hs;have:=h st hs;unfold cD;cases h2:decide (st.1=m) && st.2.isSet
  ·rfl
  ·exact absurd h2 this
def KO {ss:List (Int×bg)}{m:Int}{st:Int×bg}(hp:ss.Pairwise (fun a b=>a.1 < b.1))(hs:st∈ss)(e:st.1=m):HY ss m=st.2.isSet:=by
 unfold HY;cases h:st.2.isSet with
 |true=>exact List.any_eq_true.mpr ⟨st,hs,by simp[e,h]⟩
 |false=>
  rw[se];intro x hx z;have z':x.1=m/\x.2.isSet=true:=by simpa using z
  have q:=wu hp hx hs (z'.1.trans e.symm);rw[q,h] at z';cases z'.2
def CU {ss:List (Int×bg)}{m:Int}(h: ∀st∈ss,st.1≠m):HY ss m=false:=by
 unfold HY;rw[se];intro x hx z;have z':x.1=m/\x.2.isSet=true:=by simpa using z
 exact h x hx z'.1
def KP {ss:List (Int×bg)}{m:Int}(hp:ss.Pairwise (fun a b=>a.1 < b.1))(h:HY ss m=true):ss.filter (cD m)=ss.filter fun st=>decide (st.1≠m):=by
 apply iZ;intro st hs;unfold cD;by_cases e:st.1=m
 ·rw[← KO hp hs e,h];simp[e]
 ·simp[e]
def CV (pk pw:Addr):(eZ pk pw).lookup ("in_force":Str)=none:=by rfl
def Ng (pk pw:Addr):(eZ pk pw).lookup ("undo":Str)=none:=by rfl
def UU (pk pw:Addr):(eZ pk pw).lookup ("do":Str)=none:=by rfl
inductive sV (A:dZ)(vs:List V)(H:Hp)(Q:VK)(E':XK):Prop
 |mk (pb pk pw:Addr)(T:gZ)(f:eT)(n:Nat)(m:Int)(h1:vs=[.ref pb,.int m])(h2:fR A H pb pk pw T f)(h3:Good T n)(h4: ∀H',aF H H'->Q (.bl (HY T.steps m)) H'):sV A vs H Q E'
def sW:aU ["self","number"] ["self","number"] (aA (mem 29 3)):={}
def EG {A:dZ}(G:jI K mg A):g9 sD P w K mg base A.book "in_force" 1 ["self","number"] (sV A):=by
 refine MM (k:=0) G.sM G.eY sW (fun f cY A' outer s H vs Q E hr h=>?_)
 ·obtain⟨pb,pk,pw,T,g,n,m,rfl,hB,hG,k⟩:=h;have hu:=kK hr;obtain⟨db,hb⟩:=hB.obj;obtain⟨bh,hk,hK⟩:=hB.kept;refine⟨_,(av (a9 (su (OJ (O6 hu (pv 1) (kE (pv 0)))) (pX (fL oF (xt (cH hu (kE (pv 0)) (pv 1) (fun _ _=>rfl)) aj) (cK (aa aR (aa aR aw))) (by rfl)))))),?_⟩;refine⟨_,rfl,_,rfl,pb,_,db,_,_,rfl,hb,G.eY,G.gP,uH _ _,pk,_,rfl,mS.k (k:=(Sum.inl m:Key)) hk,_,rfl,?_⟩;cases hv:gu bh (Sum.inl m:Key) with
  |none=>
   refine bX ?_;have q:=k H (aF.refl _);rw[CU (sU hK hv)] at q;exact q
  |some v=>
   refine fP ?_;obtain⟨st,hs,e,pd,rfl,IA,ht⟩:=yO hK hv;obtain⟨r,er⟩:=uE (.inl ht);rw[er] at IA;refine⟨_,rfl,pb,_,db,_,_,rfl,hb,G.eY,G.gP,uH _ _,_,rfl,pk,.ref pd,rfl,(by have z:=mS.k (k:=(Sum.inl m:Key)) hk; rw[hv] at z; exact z),pd,_,_,.str (bg.word st.2),rfl,rfl,cE.of IA,KJ _ _,(by show 2<=sizeLine; decide),fun p np=>?_⟩;have s1:=aF.new (o:= .tup [.str "set",.str "sweep"]) np;refine⟨p,_,rfl,.inr (cE.of ag),rfl,rfl,?_⟩;have q:=k _ s1;rw[KO hG.inc hs e,← FF ht] at q;exact q
inductive QI (A:dZ)(K:Frag)(tB tC:Addr)(vs:List V)(H:Hp)(Q:VK)(E:XK):Prop
 |mk (pb pd pk pw:Addr)(T:gZ)(f:eT)(n:Nat)(d:bg)(h1:vs=[.ref pb,.int n,.ref pd])(h2:fR A H pb pk pw T f)(h3:Good T n)(h4:n<=59)(h5:lV H tB)(h6:mz H tC)(h7:H pd=some (.tup (bg.vs d)))(h8:d.tells=true)(h9:(T.bk.bar d=""-> ∀v f' H',f'.fp=f.fp->Frame (tB :: tC :: pk :: f.fp) H H'->lV H' tB->mz H' tC->fR A H' pb pk pw ⟨T.steps ++ [((n:Int),d)],T.bk.enter d⟩ f'->lT H' (fun D=>H D=none) (T.bk.Jz d) v->Q v H'))(Lj:(T.bk.bar d≠""->MS A K E (T.bk.bar d) H)):QI A K tB tC vs H Q E
def wx:aU ["self","number","deed","answer"] ["self","number","deed"] (aA (mem 29 1)):={}
def Zp (T:Txt K mg){A:dZ}{tB tC:Addr}(G:jI K mg A)(DB:qI K mg "bills_in_order" (top 17) tB)(DC:qI K mg "credits_in_order" (top 18) tC)(jy:tB≠tC)(KB:K.In base)(BM:BMain mg base):g9 (mU P w mg) P w K mg base A.book "do" 8 ["self","number","deed"] (QI A K tB tC):=by
 have EH:vK P w K mg base "done" 7 ["work","deed"] (uK A K tB tC):=KI T G DB DC jy KB BM;refine rB (k:=7) G.Ef G.eY wx (fun f cY A' outer s H vs Q E hr mJ h=>?_)
 ·obtain⟨pb,pd,pk,pw,T,g,n,d,rfl,hB,hG,hn,kr,jU,hd,ht,k1,k2⟩:=h;have hu:=kK hr;have nd:=wx.nd;obtain⟨db,hb⟩:=hB.obj;obtain⟨bh,hk,hK⟩:=hB.kept;have hW:=hB.wk;refine⟨_,(ai (sv 3 nd (sN EH (hr.mono (by decide)) rfl mJ.pass (aa (kE (pv 0)) (aa (pv 2) aw))))
(ai (E8 hu (kE (pv 0)) (pv 1) (pv 2) rfl)
(av (a9 (pv 3))))),?_⟩
  refine⟨_,rfl,pb,_,db,_,_,rfl,hb,G.eY,G.gQ,uI _ _,_,rfl,pw,pd,T.bk,g,n,d,rfl,hW,hG.wf (by lia),(by lia),kr,jU,hd,ht,fun o7 v f1 H1 e1 F1 jA kj W1 hA=>?_,k2⟩;have QJ: ∀a o,H a=some o->(∀xs,o≠ .lst xs)->(∀ps,o≠ .mY ps)->a∉tB :: tC :: g.fp:=fun a o e n1 n2 z=>by
   rcases au.mp z with z|z
   ·obtain⟨ps,q⟩:=c8 kr;rw[z,q] at e;exact n2 ps (aG e).symm
   ·rcases au.mp z with z|z
    ·obtain⟨ps,q⟩:=c8 jU;rw[z,q] at e;exact n2 ps (aG e).symm
    ·obtain⟨xs,q⟩:=hW.lists a z;rw[q] at e;exact n1 xs (aG e).symm
  have kt:cI H H1:=fun a xs e=>F1 _ _ (QJ _ _ e (fun _ z=>by cases z) (fun _ z=>by cases z)) e;have UW:=F1 _ _ (QJ _ _ hb (fun _ z=>by cases z) (fun _ z=>by cases z)) hb;have HZ:=F1 _ _ (QJ _ _ hk (fun _ z=>by cases z) (fun _ z=>by cases z)) hk;have hK1:=hK.mono kt;have ma:=kt _ _ hd;have Iy:=aO hK;have hlen:=hG.len;refine⟨_,rfl,_,rfl,pb,_,db,_,_,rfl,UW,G.eY,G.gP,uH _ _,_,rfl,pk,_,rfl,GD.k (k:=(Sum.inl (n:Int):Key)) HZ (bf (by lia)),?_⟩;rw[Ji _ (CS hK1 fun st hs=>by have:=(hG.lt st hs).2; lia)];have s2: ∀a o,a≠pk->H1 a=some o->upd H1 pk (.dK (bh ++ [(Sum.inl (n:Int),V.ref pd)])) a=some o:=fun a o hn e=>by rw[az hn]; exact e
  have nbk:pb≠pk:=mH UW HZ (by intro z; cases z);have Zq:=AD (u:= .dK (bh ++ [(Sum.inl (n:Int),V.ref pd)])) HZ (uL bh);refine⟨_,rfl,k1 o7 v f1 _ e1 ((dH F1 fun x hx=>?_).tr (Frame.upd (by simp))) (gf jA (Frame.upd (fp:=[pk]) (by simp)) (fun z=>?_) (fun a ha φ e=>?_)) (gf kj (Frame.upd (fp:=[pk]) (by simp)) (fun z=>?_) (fun a ha φ e=>?_)) ⟨⟨db,s2 _ _ nbk UW⟩,⟨_,ag,?_⟩,wt W1 HZ (uL bh)⟩ ?_⟩
  ·rcases au.mp hx with hx|hx
   ·simp[hx]
   ·rcases au.mp hx with hx|hx
    ·simp[hx]
    ·simp[hx]
  ·obtain⟨ps,q⟩:=c8 jA;rw[ao.mp z,HZ] at q;cases q
  ·rw[ao.mp ha,HZ] at e;cases e
  ·obtain⟨ps,q⟩:=c8 kj;rw[ao.mp z,HZ] at q;cases q
  ·rw[ao.mp ha,HZ] at e;cases e
  ·exact cu (hK1.mono Zq) ⟨rfl,pd,rfl,Zq _ _ ma,ht⟩
  ·exact hA.keep (fun D xs o e=>⟨o,s2 _ _ (mH e HZ (by intro z; cases z)) e⟩) Zq
def CW: ∀{ss:List (Int×bg)} {B S:Bk} {i:Nat} {k:Int} {d:bg},cy (ss.take i) B=some S->ss[i]? =some (k,d)->S.bar d≠""->iJ ss B=S.bar d/\cy ss B=none
 |[],_,_,_,_,_,_,h,_=>by simp at h
 |(k0,d0) :: ss,B,S,0,k,d,hw,h,hb=>by
  cases hw;have e:(k0,d0)=(k,d):=by simpa using h
  cases e;unfold iJ cy;rw[aN hb,aN hb];exact⟨rfl,rfl⟩
 |(k0,d0) :: ss,B,S,i + 1,k,d,hw,h,hb=>by
  rw[List.take_succ_cons] at hw;unfold cy at hw;split at hw
  ·rename_i q;have ih:=CW hw (by simpa using h) hb;unfold iJ cy;rw[aY q,aY q];exact ih
  ·cases hw
def CY {ss:List (Int×bg)}{B S:Bk}{i:Nat}{k:Int}{d:bg}(hw:cy (ss.take i) B=some S)(h:ss[i]? =some (k,d))(hb:S.bar d=""):cy (ss.take (i + 1)) B=some (S.enter d):=by
 obtain⟨hi,e⟩:=ah.mp h;rw[gU hi,lh,hw,e];show(if S.bar d="" then some (S.enter d) else none)=_;rw[aY hb]
def Zr (A:dZ)(K:Frag)(tB tC:Addr)(fp:List Addr)(E:XK)(t:Str)(H:Hp):Prop:= ∀C dx H',g8 K C A.refusal->Frame fp H H'->lV H' tB->mz H' tC->H dx=none->H' dx=some (.xd [("text",.str t)])->E (.ref C) (some dx) H'
inductive AE (A:dZ)(K:Frag)(tB tC:Addr)(vs:List V)(H:Hp)(Q:VK)(E:XK):Prop
 |mk (pk:Addr)(ss:List (Int×bg))(bh:List (Key×V))(h1:vs=[.ref pk])(h2:H pk=some (.dK bh))(h3:lx H ss bh)(h4:ss.length<=59)(h5:(iJ ss Bk.new=""∨iJ ss Bk.new="too much"))(h6:lV H tB)(h7:mz H tC)(h8:(∀S,cy ss Bk.new=some S-> ∀pw f H',Frame [tB,tC] H H'->lV H' tB->mz H' tC->dG A H' pw S f->H pw=none->(∀b∈f.fp,H b=none)->Q (.ref pw) H'))(h9:(cy ss Bk.new=none->Zr A K tB tC [tB,tC,pk] E "needed" H)):AE A K tB tC vs H Q E
def pL:aU ["kept","work","deed"] ["kept"] (aA (top 31)):={}
def Od {H:Hp}{tb d:Addr}{pos:Pos}{qual:Str}{φ:Heap->Prop}{u:HO}(t:Tb H tb pos qual)(e:H d=some (.ext φ))(n: ∀q:Str,φ≠fun h=>h.CodeRec (.ref d) q):Tb (upd H d u) tb pos qual:=by
 obtain⟨ps,h1,h2,h3⟩:=t;refine⟨ps,by rw[az (mH h1 e (by intro z; cases z))]; exact h1,h2,?_⟩;rcases h3 with h3|⟨c',h3,h4⟩
 ·exact .inl h3
 ·refine .inr ⟨c',h3,?_⟩;by_cases z:c'=d
  ·subst z;rw[e] at h4;have h5:=aG h4;injection h5 with h5;exact absurd h5 (n qual)
  ·rw[az z];exact h4
def AF (T:Txt K mg){A:dZ}{tB tC:Addr}(G:jI K mg A)(DB:qI K mg "bills_in_order" (top 17) tB)(DC:qI K mg "credits_in_order" (top 18) tC)(jy:tB≠tC)(hnd:A.i9≠A.tooMuch)(KB:K.In base)(BM:BMain mg base):vK P w K mg base "done_again" 8 ["kept"] (AE A K tB tC):=by
 have EH:vK P w K mg base "done" 7 ["work","deed"] (uK A K tB tC):=KI T G DB DC jy KB BM;have EA:ui P w K mg base "Work" A.work 1 ["self"] (uC A):=Ki G;refine P6 (k:=7) T.zC pL (fun f cY A' outer s H vs Q E hr mJ h=>?_)
 ·obtain⟨pk,ss,bh,rfl,hk,hK,hl,hfb,kr,jU,k1,k2⟩:=h;have nd:=pL.nd;refine⟨_,(ai (sv 1 nd (JY EA (hr.mono (by decide)) rfl))
(ai (MA mJ.own rfl (pv 0) (gn 2 nd)
(av (BL mJ rfl rfl G.vJ G.qq (show mg "Needed"≠some (.ref A.tooMuch) from fun z=>hnd (by rw[G.yE] at z; injection z with z; injection z)) (Hx T G) (hr.h.mono (by decide)) rfl (fun xe pn E hx=>av (bM (sN EH (hr.mono (by decide)) rfl hx (aa (pv 1) (aa (pv 2) aw))))))))
(av (a9 (pv 1))))),?_⟩
  intro xw Y2 M4 Qr ne;have s1:=lQ (C:=A.work) (fs:=[]) M4 Qr ne;refine⟨xw,Y2,rfl,ag,fun g H1 F1 W1 nf=>⟨rfl,?_⟩⟩;have fg: ∀b∈g.fp,H b=none:=fun b hb=>s1.free (nf b hb);have S1:aF H H1:=fun b o e=>F1 b o (by simpa using aJ e M4) (s1 b o e);clear F1 nf s1;refine⟨_,rfl,?_⟩;have HZ:=S1 _ _ hk;have hlen:=aO hK;refine JS (td:=fun _ _ _=>True) HZ fun φ hφ=>⟨fun i σ H2=> ∃(S:Bk) (f:eT) (x2:Option V),σ=[some (.ref pk),some (.ref xw),x2]/\cy (ss.take i) Bk.new=some S/\dG A H2 xw S f/\(∀b∈f.fp,H b=none)/\Frame [tB,tC,pk] H H2/\H2 pk=some (.ext φ)/\lV H2 tB/\mz H2 tC,?_,?_,?_,?_⟩
  ·have ext: ∀a∈[pk],∀φ,H1 a≠some (.ext φ):=fun a ha φ e=>by
    rw[ao.mp ha,HZ] at e;cases e
   have nB:tB∉[pk]:=fun z=>by
    obtain⟨ps,q⟩:=c8 kr;rw[ao.mp z,hk] at q;cases q
   have nC:tC∉[pk]:=fun z=>by
    obtain⟨ps,q⟩:=c8 jU;rw[ao.mp z,hk] at q;cases q
   exact⟨Bk.new,g,none,rfl,rfl,wt W1 HZ (uL bh),fg,(S1.frame (fp:=[tB,tC,pk])).tr (Frame.upd (by simp)),ag,gf (bQ kr S1) (Frame.upd (fp:=[pk]) (by simp)) nB ext,gf (bQ jU S1) (Frame.upd (fp:=[pk]) (by simp)) nC ext⟩
  ·rintro i σ H2 ⟨S,f,x2,_,_,_,_,_,e,_⟩;exact e
  ·rintro i x σ H2 hx ⟨S,f,x2,rfl,hw,hW,hf,F2,e2,kF,mV⟩;rw[aC] at hx;obtain⟨kv,Wo,rfl⟩:=a8.mp hx;have hi:i < ss.length:=by have:=(ah.mp Wo).1; lia
   have qH:=af hi;obtain⟨kv',UX,ek,pd,epd,IA,ht⟩:=bK hK qH;rw[Wo] at UX;obtain rfl:kv=kv':=aG UX;generalize ss[i]=st at qH ek IA ht;obtain⟨sn,d⟩:=st;rw[epd];have Qf:H2 pd=some (.tup (bg.vs d)):=F2 _ _ (fun z=>by
    simp only[List.mem_cons,List.not_mem_nil,or_false] at z;rcases z with z|z|z
    ·obtain⟨ps,q⟩:=c8 kr;rw[← z,IA] at q;cases q
    ·obtain⟨ps,q⟩:=c8 jU;rw[← z,IA] at q;cases q
    ·rw[z,hk] at IA;cases IA) IA
   have wf:WF S (0 + (ss.take i).length):=sJ _ WF.new hw (by rw[ba]; lia);refine⟨_,rfl,_,rfl,xw,pd,S,f,_,d,rfl,hW,wf,(by rw[ba]; lia),kF,mV,Qf,ht,fun hb v f' H3 e3 F3 rQ rR W3 _=>?_,fun hb=>?_⟩
   ·refine⟨S.enter d,f',_,rfl,CY hw qH hb,W3,(by rw[e3]; exact hf),F2.trans F3 (fun x hx=>?_),F3 _ _ (fun z=>?_) e2,rQ,rR⟩
    ·rcases au.mp hx with hx|hx
     ·exact .inl (by simp[hx])
     ·rcases au.mp hx with hx|hx
      ·exact .inl (by simp[hx])
      ·exact .inr (hf x hx)
    ·rcases au.mp z with z|z
     ·obtain⟨ps,q⟩:=c8 kF;rw[← z,e2] at q;cases q
     ·rcases au.mp z with z|z
      ·obtain⟨ps,q⟩:=c8 mV;rw[← z,e2] at q;cases q
      ·have:=hf _ z;rw[hk] at this;cases this
   ·obtain⟨ef,ew⟩:=CW hw qH hb;have et:S.bar d="too much":=(hfb.resolve_left (by rw[ef]; exact hb)).symm.trans ef |>.symm;intro C hC hCt dx H3 s3 nd3 N8;have VW:C=A.tooMuch:=hCt et;refine⟨by rw[VW],fun Zs n2=>?_⟩;have s4:=aF.new (o:= .xd [("text",.str "needed")]) n2;have KQ:=s3.trans s4;refine k2 ew A.i9 Zs _ G.yF (F2.cS KQ) (bQ kF KQ) (bQ mV KQ) ?_ ag;have UY:=s3.free n2;cases e:H Zs with
    |none=>rfl
    |some o=>
     exfalso;by_cases kM:Zs∈[tB,tC,pk]
     ·simp only[List.mem_cons,List.not_mem_nil,or_false] at kM;rcases kM with z|z|z
      ·obtain⟨ps,q⟩:=c8 kF;rw[← z,UY] at q;cases q
      ·obtain⟨ps,q⟩:=c8 mV;rw[← z,UY] at q;cases q
      ·rw[z,e2] at UY;cases UY
     ·have q:=F2 _ _ kM e;rw[UY] at q;cases q
  ·rintro σ H2 ⟨S,f,x2,rfl,hw,hW,hf,F2,e2,kF,mV⟩;rw[← hlen,aZ] at hw;refine⟨_,rfl,k1 S hw xw f _ (fun b o hb e=>?_) (Od kF e2 hφ.2) (Od mV e2 hφ.2) (wt hW e2 (KN φ)) M4 hf⟩;by_cases z:b=pk
   ·subst z;rw[hk] at e;rw[ag];exact e
   ·rw[az z];exact F2 _ _ (by simp only[List.mem_cons,List.not_mem_nil,or_false,not_or] at hb ⊢; exact⟨hb.1,hb.2,z⟩) e
def QK (pk pw r9:Addr):eK "work" (.ref r9) (eZ pk pw)=eZ pk r9:=by rfl
def QL (pk wy pw:Addr):eK "kept" (.ref wy) (eZ pk pw)=eZ wy pw:=by rfl
inductive EI (A:dZ)(K:Frag)(tB tC:Addr)(vs:List V)(H:Hp)(Q:VK)(E:XK):Prop
 |mk (pb pk pw:Addr)(T:gZ)(f:eT)(n:Nat)(m:Int)(h1:vs=[.ref pb,.int m])(h2:fR A H pb pk pw T f)(h3:Good T n)(h4:n<=59)(h5:lV H tB)(h6:mz H tC)(h7:(HY T.steps m=true-> ∀S,cy (T.steps.filter (cD m)) Bk.new=some S-> ∀wy r9 f' H',Frame [tB,tC,pb] H H'->lV H' tB->mz H' tC->fR A H' pb wy r9 ⟨T.steps.filter (cD m),S⟩ f'->H wy=none->(∀b∈f'.fp,H b=none)->Q (.str "undone") H'))(h8:(HY T.steps m=true->cy (T.steps.filter (cD m)) Bk.new=none->Zr A K tB tC [tB,tC] E "needed" H))(h9:(HY T.steps m=false->Zr A K tB tC [tB,tC] E "no setting" H)):EI A K tB tC vs H Q E
def rV:aU ["self","number","kept"] ["self","number"] (aA (mem 29 2)):={}
def QM (T:Txt K mg){A:dZ}{tB tC:Addr}(G:jI K mg A)(DB:qI K mg "bills_in_order" (top 17) tB)(DC:qI K mg "credits_in_order" (top 18) tC)(jy:tB≠tC)(hnd:A.i9≠A.tooMuch)(KB:K.In base)(BM:BMain mg base):g9 (mU P w mg) P w K mg base A.book "undo" 9 ["self","number"] (EI A K tB tC):=by
 have AG:vK P w K mg base "done_again" 8 ["kept"] (AE A K tB tC):=AF T G DB DC jy hnd KB BM;have EJ:g9 sD P w K mg base A.book "in_force" 1 ["self","number"] (sV A):=EG G;refine rB (k:=8) G.zS G.eY rV (fun f cY A' outer s H vs Q E hr mJ h=>?_)
 ·obtain⟨pb,pk,pw,TT,g,n,m,rfl,hB,hG,hn,kr,jU,k1,k2,k3⟩:=h;have hu:=kK hr;have nd:=rV.nd;obtain⟨db,hb⟩:=hB.obj;refine⟨_,(ai (bT (jw (fM (nQ EJ (hr.mono (by decide)) nz (pv 0) (aa (pv 1) aw))))
(av (j8 mJ (zW T G) (hr.h.mono (by decide)) rfl rfl))
bp)
(ai (sv 2 nd (iq BV (by rfl) T.PZ (by rfl) (aa (kE (pv 0)) aw)))
(ai (bM (Jk (pv 2) (pv 1) ⟨rfl,rfl,rfl,rfl⟩))
(ai (mj (pv 0) (sN AG (hr.mono (by decide)) rfl mJ.pass (aa (pv 2) aw)))
(ai (mj (pv 0) (pv 2))
(av (a9 aR))))))),?_⟩
  refine⟨_,rfl,pb,db,_,rfl,hb,CV _ _,_,rfl,pb,pk,pw,TT,g,n,m,rfl,hB,hG,fun H1 s1=>⟨_,rfl,?_⟩⟩;refine cG (fun z=>?_) (fun z=>?_)
  ·have z':HY TT.steps m=false:=by simpa using z
   intro dx nn;have s2:=s1.trans (aF.new (o:= .xd [("text",.str "no setting")]) nn);exact k3 z' A.jT dx _ G.rm s2.frame (bQ kr s2) (bQ jU s2) (s1.free nn) ag
  have z':HY TT.steps m=true:=by simpa using z
  have N6:=hB.same s1;obtain⟨bh,hk,hK⟩:=N6.kept;have UW:=s1 _ _ hb;refine⟨_,rfl,pb,_,db,_,_,rfl,UW,G.eY,G.gP,uH _ _,pk,bh,rfl,hk,fun p2 np2=>?_⟩;have s2:=aF.new (o:= .dK bh) np2;have yn:upd H1 p2 (.dK bh) p2=some (.dK bh):=ag;have n2:H p2=none:=s1.free np2;have S2:=s1.trans s2;have hK2:=hK.mono s2.tk;generalize upd H1 p2 (.dK bh)=H2 at yn S2 hK2;clear s2;cases hv:gu bh (Sum.inl m:Key) with
  |none=>
   have:=CU (sU hK hv);rw[z'] at this;cases this
  |some v=>
  refine⟨_,rfl,p2,rfl,.inl ⟨bh,.inl yn⟩,_,rfl,bh,(Sum.inl m:Key),v,yn,rfl,hv,?_⟩;have WH:=(yP (m:=m) hK2).mono (AD (u:= .dK (lE bh (Sum.inl m:Key))) yn (uL bh));rw[← KP hG.inc z'] at WH;have S3:aF H (upd H2 p2 (.dK (lE bh (Sum.inl m:Key)))):=S2.dk n2;have RN:upd H2 p2 (.dK (lE bh (Sum.inl m:Key))) p2=some (.dK (lE bh (Sum.inl m:Key))):=ag;generalize upd H2 p2 (.dK (lE bh (Sum.inl m:Key)))=H3 at WH S3 RN;have RK:=aW (cD m) TT.steps;have Qs:=hG.len;have UZ:(cy TT.steps Bk.new).isSome=true:=by rw[hG.w]; rfl
  refine⟨_,rfl,p2,_,_,rfl,RN,WH,(by lia),Pp m TT.steps (nJ.refl Bk.new) UZ,bQ kr S3,bQ jU S3,fun S hS r9 f' H4 F4 sS sT W4 npw nf4=>?_,fun hS=>?_⟩
  case refine_2=>
   intro C dx H4 hC F4 sS sT nd4 hd4;refine k2 z' hS C dx H4 hC ((S3.frame (fp:=[tB,tC])).trans F4 (fun x hx=>?_)) sS sT (S3.free nd4) hd4;simp only[List.mem_cons,List.not_mem_nil,or_false] at hx;rcases hx with hx|hx|hx
   ·exact .inl (by simp[hx])
   ·exact .inl (by simp[hx])
   ·exact .inr (by rw[hx]; exact n2)
  have off: ∀a o,H3 a=some o->(∀ps,o≠ .mY ps)->a∉[tB,tC]:=fun a o e n1 z=>by
   simp only[List.mem_cons,List.not_mem_nil,or_false] at z;rcases z with z|z
   ·obtain⟨ps,q⟩:=c8 (bQ kr S3);rw[z,q] at e;exact n1 ps (aG e).symm
   ·obtain⟨ps,q⟩:=c8 (bQ jU S3);rw[z,q] at e;exact n1 ps (aG e).symm
  have AH:=F4 _ _ (off _ _ (S3 _ _ hb) (fun _ z=>by cases z)) (S3 _ _ hb);have WI:=F4 _ _ (off _ _ RN (fun _ z=>by cases z)) RN;have hK4:=WH.mono (fun a xs e=>F4 _ _ (off _ _ e (fun _ z=>by cases z)) e);have F4':Frame [tB,tC,pb] H H4:=dH ((S3.frame (fp:=[tB,tC])).tr F4) (by simp);refine⟨_,rfl,pb,_,db,_,rfl,AH,G.eY,G.gQ,(by show 2 < 1000; decide),?_⟩;rw[QK];have e5:upd H4 pb (.ins A.book db (eZ pk r9)) pb=some (.ins A.book db (eZ pk r9)):=ag;have U0:=yN A.book db pk pw;have W5:=wt (u:= .ins A.book db (eZ pk r9)) W4 AH U0;have nb2:p2≠pb:=(aJ hb n2).symm;have RV:upd H4 pb (.ins A.book db (eZ pk r9)) p2=some (.dK (lE bh (Sum.inl m:Key))):=by rw[az nb2]; exact WI
  have hK5:=hK4.mono (AD (u:= .ins A.book db (eZ pk r9)) AH U0);have U1: ∀a∈[pb],∀φ,H4 a≠some (.ext φ):=fun a ha φ e=>by
   rw[ao.mp ha,AH] at e;cases e
  have nB:tB∉[pb]:=fun z=>by
   obtain⟨ps,q⟩:=c8 sS;rw[ao.mp z,AH] at q;cases q
  have nC:tC∉[pb]:=fun z=>by
   obtain⟨ps,q⟩:=c8 sT;rw[ao.mp z,AH] at q;cases q
  have KA:lV (upd H4 pb (.ins A.book db (eZ pk r9))) tB:=gf sS (Frame.upd (fp:=[pb]) (by simp)) nB U1;have KC:mz (upd H4 pb (.ins A.book db (eZ pk r9))) tC:=gf sT (Frame.upd (fp:=[pb]) (by simp)) nC U1;have F5:Frame [tB,tC,pb] H (upd H4 pb (.ins A.book db (eZ pk r9))):=F4'.tr (Frame.upd (by simp));generalize upd H4 pb (.ins A.book db (eZ pk r9))=H5 at e5 W5 RV hK5 KA KC F5;refine⟨_,rfl,_,rfl,pb,_,db,_,rfl,e5,G.eY,G.gP,(by show 2 < 1000; decide),?_⟩;rw[QL];have Oe:=yN A.book db pk r9;have U2: ∀a∈[pb],∀φ,H5 a≠some (.ext φ):=fun a ha φ e=>by
   rw[ao.mp ha,e5] at e;cases e
  refine k1 z' S hS p2 r9 f' _ (F5.tr (Frame.upd (by simp))) (gf KA (Frame.upd (fp:=[pb]) (by simp)) nB U2) (gf KC (Frame.upd (fp:=[pb]) (by simp)) nC U2) ⟨⟨db,ag⟩,⟨_,by rw[az nb2]; exact RV,hK5.mono (AD e5 Oe)⟩,wt W5 e5 Oe⟩ n2 (fun b hb=>S3.free (nf4 b hb))
def Dt.v:Dt->V
 | .int i=> .int i
 | .str s=> .str s
 | .bl b=> .bl b
 |_=> .eA
def Dt.flat:Dt->Bool
 | .int _=>true
 | .str _=>true
 | .bl _=>true
 |_=>false
def wz {H:Hp}: ∀{ds:List Dt} {xs:List V},ds.all Dt.flat=true->gY H ds xs->xs=ds.map Dt.v
 |[],_,_,h=>cq.mp h
 |d :: ds,_,hf,h=>by
  obtain⟨v,r,rfl,h1,h2⟩:=br.mp h;rw[List.all_cons,ID] at hf;rw[wz hf.2 h2];cases d with
  |int i=>rw[dA.mp h1]; rfl
  |str s=>rw[fj.mp h1]; rfl
  |bl b=>rw[qW.mp h1]; rfl
  |eA=>cases hf.1
  |lst _=>cases hf.1
  |tup _=>cases hf.1
def sX (H:Hp)(pd:Addr):bg->Prop
 | .hZ w dy l=> ∃pl,H pd=some (.tup [.str "ages",.str w,.int dy,.ref pl])/\H pl=some (.tup (l.map V.int))
 |d=>H pd=some (.tup (bg.vs d))
def FO {H:Hp}{d:bg}{v:V}(h:Rp H d.dt v): ∃pd,v= .ref pd/\sX H pd d:=by
 cases d with
 |hZ w dy l=>
  obtain⟨a,xs,rfl,h1,h2⟩:=jW.mp h;obtain⟨v1,r1,rfl,e1,h2⟩:=br.mp h2;obtain⟨v2,r2,rfl,e2,h2⟩:=br.mp h2;obtain⟨v3,r3,rfl,e3,h2⟩:=br.mp h2;obtain⟨v4,r4,rfl,e4,h2⟩:=br.mp h2;obtain rfl:=cq.mp h2;obtain rfl:=fj.mp e1;obtain rfl:=fj.mp e2;obtain rfl:=dA.mp e3;obtain⟨pl,ys,rfl,h4,h5⟩:=jW.mp e4;have e5:=wz (by rw[List.all_map]; exact List.all_eq_true.mpr fun _ _=>rfl) h5;rw[e5,ff] at h4;exact⟨a,rfl,pl,h1,h4⟩
 |_=>
  obtain⟨a,xs,rfl,h1,h2⟩:=jW.mp h;have e5:=wz (by rfl) h2;rw[e5] at h1;exact⟨a,rfl,h1⟩
def sX.mono {H H':Hp}{pd:Addr}{d:bg}(h:sX H pd d)(k:cI H H'):sX H' pd d:=by
 cases d with
 |hZ w dy l=>
  obtain⟨pl,h1,h2⟩:=h;exact⟨pl,k _ _ h1,k _ _ h2⟩
 |_=>exact k _ _ h
def lW {A:dZ}{H H':Hp}{pb pk pw:Addr}{T:gZ}{f:eT}(h:fR A H pb pk pw T f)(k: ∀a o,H a=some o->(∀ps,o≠ .mY ps)->H' a=some o):fR A H' pb pk pw T f:=by
 obtain⟨db,hb⟩:=h.obj;obtain⟨bh,k1,k2⟩:=h.kept;have kt:cI H H':=fun a xs e=>k _ _ e (fun _ z=>by cases z);exact⟨⟨db,k _ _ hb (fun _ z=>by cases z)⟩,⟨bh,k _ _ k1 (fun _ z=>by cases z),k2.mono kt⟩,FN h.wk (fun a xs e=>k _ _ e (fun _ z=>by cases z)) (fun a C dx fs _ e=>k _ _ e (fun _ z=>by cases z)) kt⟩
def yQ {H H':Hp}{fp:List Addr}{a:Addr}{o:HO}(F:Frame fp H H')(ht: ∀t∈fp,∃ps,H t=some (.mY ps))(e:H a=some o)(n: ∀ps,o≠ .mY ps):H' a=some o:=F _ _ (fun z=>by
 obtain⟨ps,q⟩:=ht a z;rw[q] at e;exact n ps (aG e).symm) e
def Nh {d:bg}(h:d.tells=true):bg.word d≠"owed"/\bg.word d≠"free"/\bg.word d≠"ages"/\bg.word d≠"undo":=by
 cases d with
 |dM _ _ _ _=>show("bill":Str)≠"owed"/\("bill":Str)≠"free"/\("bill":Str)≠"ages"/\("bill":Str)≠"undo"; decide +kernel
 |pz _ _ _=>show("pay":Str)≠"owed"/\("pay":Str)≠"free"/\("pay":Str)≠"ages"/\("pay":Str)≠"undo"; decide +kernel
 |note _ _ _=>show("note":Str)≠"owed"/\("note":Str)≠"free"/\("note":Str)≠"ages"/\("note":Str)≠"undo"; decide +kernel
 |set _ _ _=>show("set":Str)≠"owed"/\("set":Str)≠"free"/\("set":Str)≠"ages"/\("set":Str)≠"undo"; decide +kernel
 |bU _=>show("sweep":Str)≠"owed"/\("sweep":Str)≠"free"/\("sweep":Str)≠"ages"/\("sweep":Str)≠"undo"; decide +kernel
 |gK _=>cases h
 |ask _ _ _=>cases h
 |hZ _ _ _=>cases h
inductive wA (A:dZ)(tB tC:Addr)(vs:List V)(H:Hp)(Q:VK)(E':XK):Prop
 |mk (pb pd pk pw:Addr)(T:gZ)(f:eT)(n:Nat)(d:bg)(h1:vs=[.ref pb,.int n,.ref pd])(h2:fR A H pb pk pw T f)(h3:Good T n)(h4:n<=59)(h5:lV H tB)(h6:mz H tC)(h7:sX H pd d)(h8:d.ok)(h9: ∀v wy r9 f' H',Frame (tB :: tC :: pb :: pk :: f.fp) H H'->lV H' tB->mz H' tC->fR A H' pb wy r9 (cV T n d).2 f'->(∀x∈wy :: f'.fp,x∈pk :: f.fp∨H x=none)->lT H' (fun D=>H D=none/\D∉wy :: f'.fp) (cV T n d).1 v->Q v H'):wA A tB tC vs H Q E'
def rW:aU ["book","number","deed","kind","refusal"] ["book","number","deed"] (aA (top 35)):={}
def CZ (T:Txt K mg){A:dZ}{tB tC:Addr}(G:jI K mg A)(DB:qI K mg "bills_in_order" (top 17) tB)(DC:qI K mg "credits_in_order" (top 18) tC)(jy:tB≠tC)(hnd:A.i9≠A.tooMuch)(KB:K.In base)(BM:BMain mg base):fu P w K mg base "answer_of" 10 ["book","number","deed"] (wA A tB tC):=by
 have QN:g9 (mU P w mg) P w K mg base A.book "undo" 9 ["self","number"] (EI A K tB tC):=QM T G DB DC jy hnd KB BM;have Zt:g9 (mU P w mg) P w K mg base A.book "do" 8 ["self","number","deed"] (QI A K tB tC):=Zp T G DB DC jy KB BM;have sR:fu P w K mg base "owed_at" 5 ["work","who","day"] (Ao A tB):=yK T G DB KB BM;have Ia:fu P w K mg base "free_at" 5 ["work","who","day"] (Es A tC):=HP T G DC KB BM;have Ib:fu P w K mg base "ages_at" 6 ["work","who","day","limits"] (Ex A tB):=HQ T G DB KB BM;refine T.BN.fQ (k:=9) rW (fun f cY A' outer s H vs Q E hr h=>?_)
 ·obtain⟨pb,pd,pk,pw,TT,g,n,d,rfl,hB,hG,hn,kr,jU,hd,cB,k⟩:=h;have nd:=rW.nd;refine⟨_,(ai (sv 3 nd (xt (pv 2) aj))
(ai (bT (a0 dg (pv 3) aR (bb _))
(av (a9 (fc sR hr (aa (kE (pv 0)) (aa (xt (pv 2) aj) (aa (xt (pv 2) aj) aw))))))
bp)
(ai (bT (a0 dg (pv 3) aR (bb _))
(av (a9 (fc Ia hr (aa (kE (pv 0)) (aa (xt (pv 2) aj) (aa (xt (pv 2) aj) aw))))))
bp)
(ai (bT (a0 dg (pv 3) aR (bb _))
(av (a9 (fc Ib hr (aa (kE (pv 0)) (aa (xt (pv 2) aj) (aa (xt (pv 2) aj) (aa (xt (pv 2) aj) aw)))))))
bp)
(av (G3 (i:=4) rfl rfl rfl nd rfl rfl rfl G.fV G.Ec (fun xe pn E hx=>(ai (bT (a0 dg (pv 3) aR (bb _))
(av (a9 (nQ QN (hr.mono (by decide)) hx (pv 0) (aa (kI (ux (K:=K) rfl) (pv 2) aj (fun _ _=>rfl)) aw))))
bp)
(av (a9 (nQ Zt (hr.mono (by decide)) hx (pv 0) (aa (pv 1) (aa (pv 2) aw))))))))))))),?_⟩
  obtain⟨db,hb⟩:=hB.obj;have hW:=hB.wk;have Of: ∀t∈[tB,tC],∃ps,H t=some (.mY ps):=fun t z=>by
   simp only[List.mem_cons,List.not_mem_nil,or_false] at z;rcases z with rfl|rfl
   ·exact c8 kr
   ·exact c8 jU
  have big: ∀x∈[tB,tC],x∈tB :: tC :: pb :: pk :: g.fp:=fun x z=>by
   simp only[List.mem_cons,List.not_mem_nil,or_false] at z;rcases z with rfl|rfl <;> simp
  have U3: ∀a∈[tB],∀φ,H a≠some (.ext φ):=fun a ha φ e=>by
   obtain⟨ps,q⟩:=c8 kr;rw[ao.mp ha,q] at e;cases e
  have Zu: ∀a∈[tC],∀φ,H a≠some (.ext φ):=fun a ha φ e=>by
   obtain⟨ps,q⟩:=c8 jU;rw[ao.mp ha,q] at e;cases e
  obtain⟨bh,hk,hK⟩:=hB.kept;have NX: ∀D,H D=none->D∉pk :: g.fp:=fun D e z=>by
   rcases au.mp z with z|z
   ·rw[z,hk] at e;cases e
   ·exact hW.new e z
  have wf:=hG.wf (by lia:n<=60);by_cases ht:d.tells=true
  ·have Gq:H pd=some (.tup (bg.vs d)):=by cases d <;> first|exact hd|cases ht
   obtain⟨r,er⟩:=uE (.inl ht);have Wu:H pd=some (.tup (.str (bg.word d) :: r)):=by rw[← er]; exact Gq
   obtain⟨w1,w2,w3,w4⟩:=Nh ht;rw[vY ht] at k;refine⟨_,rfl,pd,_,_,.str (bg.word d),rfl,rfl,cE.of Wu,KJ _ _,?_⟩;refine⟨_,rfl,rfl,false,jK w1,bX ?_⟩;refine⟨_,rfl,rfl,false,jK w2,bX ?_⟩;refine⟨_,rfl,rfl,false,jK w3,bX ?_⟩;refine⟨_,rfl,rfl,false,jK w4,bX ⟨_,rfl,pb,db,_,rfl,hb,UU _ _,_,rfl,_,rfl,pb,pd,pk,pw,TT,g,n,d,rfl,hB,hG,hn,kr,jU,Gq,ht,fun o7 v f1 H1 e1 F1 jA kj N6 hA=>?_,fun o7=>?_⟩⟩
   ·rw[aY o7] at k;refine k v pk pw f1 H1 (dH F1 fun x z=>?_) jA kj N6 (by rw[e1]; exact fun x hx=> .inl hx) (hA.keep (fun D xs o e=>⟨⟨o,by rw[e1]; exact NX D o⟩,e⟩) fun _ _ e=>e);rcases au.mp z with z|z
    ·simp[z]
    ·rcases au.mp z with z|z
     ·simp[z]
     ·rcases au.mp z with z|z
      ·simp[z]
      ·simp[z]
   ·rw[aN o7] at k;intro C hC _ dx H1 s1 JZ Dn;exact⟨C,dx,_,rfl,rfl,hC,Dn,k _ pk pw g H1 s1.frame (bQ kr s1) (bQ jU s1) (hB.same s1) (fun x hx=> .inl hx) rfl⟩
  cases d with
  |dM _ _ _ _=>exact absurd rfl ht
  |pz _ _ _=>exact absurd rfl ht
  |note _ _ _=>exact absurd rfl ht
  |set _ _ _=>exact absurd rfl ht
  |bU _=>exact absurd rfl ht
  |ask o wh dy=>
   have hd:H pd=some (.tup (bg.vs (.ask o wh dy))):=hd;cases o with
   |true=>
    refine⟨_,rfl,pd,_,_,.str "owed",rfl,rfl,cE.of hd,rfl,?_⟩;refine⟨_,rfl,rfl,true,A6 _,fP ⟨_,rfl,pb,_,db,_,_,rfl,hb,G.eY,G.gQ,uI _ _,_,rfl,pd,_,_,.str wh,rfl,rfl,cE.of hd,rfl,_,rfl,pd,_,_,.int dy,rfl,rfl,cE.of hd,rfl,pw,TT.bk,g,n,wh,dy,rfl,hW,wf,(by lia),kr,fun D ms H1 F1 jA nD hD hP=>?_⟩⟩;have F2:Frame [tB,tC] H H1:=dH F1 (by simp);exact k _ pk pw g H1 (dH F2 big) jA (gf jU F1 (by simpa using jy.symm) U3) (lW hB fun a o e z=>yQ F2 Of e z) (fun x hx=> .inl hx) ⟨D,ms,rfl,⟨nD,NX D nD⟩,hD,hP⟩
   |false=>
    refine⟨_,rfl,pd,_,_,.str "free",rfl,rfl,cE.of hd,rfl,?_⟩;refine⟨_,rfl,rfl,false,jK (show("free":Str)≠"owed" by decide +kernel),bX ?_⟩;refine⟨_,rfl,rfl,true,A6 _,fP ⟨_,rfl,pb,_,db,_,_,rfl,hb,G.eY,G.gQ,uI _ _,_,rfl,pd,_,_,.str wh,rfl,rfl,cE.of hd,rfl,_,rfl,pd,_,_,.int dy,rfl,rfl,cE.of hd,rfl,pw,TT.bk,g,n,wh,dy,rfl,hW,wf,(by lia),jU,fun D ms H1 F1 kj nD hD hP=>?_⟩⟩;have F2:Frame [tB,tC] H H1:=dH F1 (by simp);exact k _ pk pw g H1 (dH F2 big) (gf kr F1 (by simpa using jy) Zu) kj (lW hB fun a o e z=>yQ F2 Of e z) (fun x hx=> .inl hx) ⟨D,ms,rfl,⟨nD,NX D nD⟩,hD,hP⟩
  |hZ wh dy di=>
   obtain⟨pl,hd,iS⟩:=hd;refine⟨_,rfl,pd,_,_,.str "ages",rfl,rfl,cE.of hd,rfl,?_⟩;refine⟨_,rfl,rfl,false,jK (show("ages":Str)≠"owed" by decide +kernel),bX ?_⟩;refine⟨_,rfl,rfl,false,jK (show("ages":Str)≠"free" by decide +kernel),bX ?_⟩;refine⟨_,rfl,rfl,true,A6 _,fP ⟨_,rfl,pb,_,db,_,_,rfl,hb,G.eY,G.gQ,uI _ _,_,rfl,pd,_,_,.str wh,rfl,rfl,cE.of hd,rfl,_,rfl,pd,_,_,.int dy,rfl,rfl,cE.of hd,rfl,_,rfl,pd,_,_,.ref pl,rfl,rfl,cE.of hd,rfl,pw,pl,TT.bk,g,n,wh,dy,di,rfl,hW,wf,(by lia),kr,iS,cB.1,fun D H1 F1 jA nD hD=>?_⟩⟩;have F2:Frame [tB,tC] H H1:=dH F1 (by simp);exact k _ pk pw g H1 (dH F2 big) jA (gf jU F1 (by simpa using jy.symm) U3) (lW hB fun a o e z=>yQ F2 Of e z) (fun x hx=> .inl hx) ⟨D,rfl,⟨nD,NX D nD⟩,hD⟩
  |gK m=>
   have hd:H pd=some (.tup (bg.vs (.gK m))):=hd;refine⟨_,rfl,pd,_,_,.str "undo",rfl,rfl,cE.of hd,rfl,?_⟩;refine⟨_,rfl,rfl,false,jK (show("undo":Str)≠"owed" by decide +kernel),bX ?_⟩;refine⟨_,rfl,rfl,false,jK (show("undo":Str)≠"free" by decide +kernel),bX ?_⟩;refine⟨_,rfl,rfl,false,jK (show("undo":Str)≠"ages" by decide +kernel),bX ?_⟩;have Zv:cV TT n (.gK m)=if(TT.steps.filter (cD m)).length=TT.steps.length then(mT.txt "no setting",TT) else
     match cy (TT.steps.filter (cD m)) Bk.new with
     |none=>(.txt "needed",TT)
     |some S=>(.txt "undone",⟨TT.steps.filter (cD m),S⟩):=rfl
   refine⟨_,rfl,rfl,true,A6 _,fP ⟨_,rfl,pb,db,_,rfl,hb,Ng _ _,_,rfl,pd,_,_,.int m,rfl,rfl,cE.of hd,rfl,pb,pk,pw,TT,g,n,m,rfl,hB,hG,hn,kr,jU,fun hF S hS wy r9 f' H1 F1 jA kj N6 nk nf=>?_,fun hF hS=>?_,fun hF=>?_⟩⟩
   ·have T4: ¬ (TT.steps.filter (cD m)).length=TT.steps.length:=fun z=>by
     rw[(qy _ _).mp z] at hF;cases hF
    rw[Zv,aN T4,hS] at k;refine k _ wy r9 f' H1 (dH F1 (fun x z=>?_)) jA kj N6 (fun x hx=> .inr ?_) rfl
    ·simp only[List.mem_cons,List.not_mem_nil,or_false] at z;rcases z with rfl|rfl|rfl <;> simp
    ·rcases au.mp hx with hx|hx
     ·rw[hx]; exact nk
     ·exact nf x hx
   ·have T4: ¬ (TT.steps.filter (cD m)).length=TT.steps.length:=fun z=>by
     rw[(qy _ _).mp z] at hF;cases hF
    rw[Zv,aN T4,hS] at k;intro C dx H1 hC F1 jA kj JZ Dn;exact⟨C,dx,_,rfl,rfl,hC,Dn,k _ pk pw g H1 (dH F1 big) jA kj (lW hB fun a o e z=>yQ F1 Of e z) (fun x hx=> .inl hx) rfl⟩
   ·rw[Zv,aY ((qy _ _).mpr hF)] at k;intro C dx H1 hC F1 jA kj JZ Dn;exact⟨C,dx,_,rfl,rfl,hC,Dn,k _ pk pw g H1 (dH F1 big) jA kj (lW hB fun a o e z=>yQ F1 Of e z) (fun x hx=> .inl hx) rfl⟩
def yR (d:bg): ∀(l:List bg) (T:gZ) (n:Nat),dN (l ++ [d]) T n=((dN l T n).1 ++ [(cV (dN l T n).2 ((n + l.length:Nat):Int) d).1],(cV (dN l T n).2 ((n + l.length:Nat):Int) d).2)
 |[],T,n=>rfl
 |e :: l,T,n=>by
  show((cV T n e).1 :: (dN (l ++ [d]) (cV T n e).2 (n + 1)).1,(dN (l ++ [d]) (cV T n e).2 (n + 1)).2)=_;rw[yR d l,show n + 1 + l.length=n + (e :: l).length by rw[bO]; lia];rfl
def yS {ds:List bg}{i:Nat}(hi:i < ds.length):dN (ds.take (i + 1)) gZ.new 0=((dN (ds.take i) gZ.new 0).1 ++ [(cV (dN (ds.take i) gZ.new 0).2 (i:Int) ds[i]).1],(cV (dN (ds.take i) gZ.new 0).2 (i:Int) ds[i]).2):=by
 rw[gU hi,yR,ba,Nat.zero_add,oV (cJ hi)]
def Ic {A:dZ}{H:Hp}{pb pk pw pt:Addr}{T:gZ}{f:eT}{ws:List V}{o:HO}(h:fR A H pb pk pw T f)(e:H pt=some (.lst ws))(n:pt∉f.fp):fR A (upd H pt o) pb pk pw T f:=by
 obtain⟨db,hb⟩:=h.obj;obtain⟨bh,k1,k2⟩:=h.kept;have kt:cI H (upd H pt o):=dU e;have ki: ∀{a C dx:Addr} {gs:List (Str×V)},H a=some (.ins C dx gs)->upd H pt o a=some (.ins C dx gs):=fun{a C dx gs} z=>by rw[az (mH z e (by intro q; cases q))]; exact z
 have kl: ∀p∈f.fp,∀xs,H p=some (.lst xs)->upd H pt o p=some (.lst xs):=fun p hp xs z=>by rw[az (fun(q:p=pt)=>n (q▸hp))]; exact z
 obtain⟨dw,hw⟩:=h.wk.obj;obtain⟨ms,m1,m2⟩:=h.wk.hm;have hW:=h.wk;exact⟨⟨db,ki hb⟩,⟨bh,by rw[az (mH k1 e (by intro q; cases q))]; exact k1,k2.mono kt⟩,
  ⟨⟨dw,ki hw⟩,kl _ (by simp[eT.fp]) _ hW.hb,kl _ (by simp[eT.fp]) _ hW.hc,kl _ (by simp[eT.fp]) _ hW.hl,kl _ (by simp[eT.fp]) _ hW.hf,⟨ms,kl _ (by simp[eT.fp]) _ m1,m2.mono kt⟩,hW.rb.keep fun _ _ _ z=>ki z,hW.rc.keep fun _ _ _ z=>ki z,hW.nd⟩⟩
def FP {A:dZ}{H:Hp}{pb pk pw tB tC a:Addr}{T:gZ}{f:eT}(h:fR A H pb pk pw T f)(kr:lV H tB)(jU:mz H tC)(z:a∈tB :: tC :: pb :: pk :: f.fp):(∃ps,H a=some (.mY ps))∨(∃C dx fs,H a=some (.ins C dx fs))∨(∃bh,H a=some (.dK bh))∨(∃xs,H a=some (.lst xs))/\a∈f.fp:=by
 rcases au.mp z with rfl|z
 ·exact .inl (c8 kr)
 rcases au.mp z with rfl|z
 ·exact .inl (c8 jU)
 rcases au.mp z with rfl|z
 ·obtain⟨db,hb⟩:=h.obj;exact .inr (.inl ⟨_,_,_,hb⟩)
 rcases au.mp z with rfl|z
 ·obtain⟨bh,k1,_⟩:=h.kept;exact .inr (.inr (.inl ⟨_,k1⟩))
 ·exact .inr (.inr (.inr ⟨h.wk.lists a z,z⟩))
def KR {A:dZ}{H H':Hp}{pb pk pw tB tC:Addr}{T:gZ}{f:eT}(h:fR A H pb pk pw T f)(kr:lV H tB)(jU:mz H tC)(F:Frame (tB :: tC :: pb :: pk :: f.fp) H H'):cI H H':=fun a xs e=>F _ _ (fun z=>by
 rcases FP h kr jU z with⟨_,q⟩|⟨_,_,_,q⟩|⟨_,q⟩|⟨⟨_,q⟩,_⟩ <;> (rw[e] at q; cases q)) e
def EK {A:dZ}{H H':Hp}{pb pk pw tB tC a:Addr}{T:gZ}{f:eT}{xs:List V}(h:fR A H pb pk pw T f)(kr:lV H tB)(jU:mz H tC)(F:Frame (tB :: tC :: pb :: pk :: f.fp) H H')(e:H a=some (.lst xs))(n:a∉pk :: f.fp):H' a=some (.lst xs):=F _ _ (fun z=>by
 rcases FP h kr jU z with⟨_,q⟩|⟨_,_,_,q⟩|⟨_,q⟩|⟨_,q⟩
 ·rw[e] at q; cases q
 ·rw[e] at q; cases q
 ·rw[e] at q; cases q
 ·exact n (aI _ q)) e
inductive AI (A:dZ)(tB tC:Addr)(vs:List V)(H:Hp)(Q:VK)(E':XK):Prop
 |mk (pb pk pw ps:Addr)(f:eT)(ds:List bg)(ms:List V)(h1:vs=[.ref pb,.ref ps])(h2:fR A H pb pk pw gZ.new f)(h3:H ps=some (.lst ms))(h4:ps∉f.fp)(h5:eD H ds ms)(h6:ds.length<=60)(h7:(∀d∈ds,d.ok))(h8:lV H tB)(h9:mz H tC)(Lj: ∀pt ws wy r9 f' H',Frame (tB :: tC :: pb :: pk :: f.fp) H H'->lV H' tB->mz H' tC->H pt=none->H' pt=some (.lst ws)->Paired (lT H' (fun D=>D≠pt/\(D∈pk :: f.fp∨H D=none))) (dN ds gZ.new 0).1 ws->fR A H' pb wy r9 (dN ds gZ.new 0).2 f'->Q (.ref pt) H'):AI A tB tC vs H Q E'
def pM:aU ["book","deeds","told","number","deed"] ["book","deeds"] (aA (top 34)):={}
def eD.get {H:Hp}{i:Nat}: ∀{ds:List bg} {ms:List V},eD H ds ms-> ∀{d:bg},ds[i]? =some d-> ∃v,ms[i]? =some v/\Rp H d.dt v:=fun{ds ms} h {d} e=>gY.get h (by rw[aC,e]; rfl)
def AJ (T:Txt K mg){A:dZ}{tB tC:Addr}(G:jI K mg A)(DB:qI K mg "bills_in_order" (top 17) tB)(DC:qI K mg "credits_in_order" (top 18) tC)(jy:tB≠tC)(hnd:A.i9≠A.tooMuch)(KB:K.In base)(BM:BMain mg base):fu P w K mg base "answers_in" 11 ["book","deeds"] (AI A tB tC):=by
 have C0:fu P w K mg base "answer_of" 10 ["book","number","deed"] (wA A tB tC):=CZ T G DB DC jy hnd KB BM;refine T.zD.fQ (k:=10) pM (fun f cY A' outer s H vs Q E hr h=>?_)
 ·obtain⟨pb,pk,pw,ps,g,ds,ms,rfl,hB,mZ,Ez,KS,hl,cB,kr,jU,k⟩:=h;have nd:=pM.nd;refine⟨_,(ai (sv 2 nd (bS aw))
(ai (eJ bB rfl (qU rfl T.jm (aa (pv 1) aw)) (gT (bW (gn 3 nd) (bW (gn 4 nd) gq)))
(av (bM (qo (pv 2) (fc C0 hr (aa (pv 0) (aa (pv 3) (aa (pv 4) aw))))))))
(av (a9 (pv 2))))),?_⟩
  refine⟨bq _,fun pt nt=>?_⟩;have s1:=aF.new (o:= .lst []) nt;have hlen:=eD.length KS;obtain⟨bh,hk,_⟩:=hB.kept;have npk:ps∉pk :: g.fp:=fun z=>by
   rcases au.mp z with z|z
   ·rw[z,hk] at mZ;cases mZ
   ·exact Ez z
  have ntk:pt∉pk :: g.fp:=fun z=>by
   rcases au.mp z with z|z
   ·rw[z,hk] at nt;cases nt
   ·exact hB.wk.new nt z
  refine⟨_,rfl,ps,rfl,⟨_,bG.of (s1 _ _ mZ)⟩,?_⟩;refine nA (K:=K) (a:=ps) (xs:=ms) (fun i σ H2=> ∃(x3 x4:Option V) (wy r9:Addr) (f':eT) (ws:List V),σ=[some (.ref pb),some (.ref ps),some (.ref pt),x3,x4]/\Frame (tB :: tC :: pb :: pk :: g.fp) H H2/\H2 pt=some (.lst ws)/\fR A H2 pb wy r9 (dN (ds.take i) gZ.new 0).2 f'/\Good (dN (ds.take i) gZ.new 0).2 i/\(∀x∈wy :: f'.fp,(x∈pk :: g.fp∨H x=none)/\x≠pt)/\lV H2 tB/\mz H2 tC/\Paired (lT H2 (fun D=>D≠pt/\D∉wy :: f'.fp/\(D∈pk :: g.fp∨H D=none))) (dN (ds.take i) gZ.new 0).1 ws)
   ⟨none,none,pk,pw,g,[],rfl,s1.frame,ag,hB.same s1,Good.new,fun x hx=>⟨.inl hx,fun z=>ntk (z▸hx)⟩,bQ kr s1,bQ jU s1,.nil⟩ (fun i σ H2 _ ⟨_,_,_,_,_,_,_,f2,_⟩=>bG.of (EK hB kr jU f2 mZ npk)) ?_ ?_
  ·rintro i x p σ H2 hx hp ⟨x3,x4,wy,r9,f',ws,rfl,F2,wL,Lv,M9,WJ,kF,mV,yL⟩;have hi:i < ds.length:=by have:=(ah.mp hx).1; lia
   have qH:=af hi;obtain⟨v',hv,Yt⟩:=eD.get KS qH;rw[hx] at hv;obtain rfl:x=v':=aG hv;obtain⟨pd,rfl,hd⟩:=FO Yt;have hd2:=hd.mono (KR hB kr jU F2);have Ni:=cB _ (bH hi);have WK:=yS hi;have pH:Good (cV (dN (ds.take i) gZ.new 0).2 (i:Int) ds[i]).2 (i + 1):=M9.step ds[i];rw[WK];generalize ds[i]=d at hd2 Ni pH;have Dk:(dN (ds.take i) gZ.new 0).1.length<=100:=by rw[jk,ba]; lia
   generalize dN (ds.take i) gZ.new 0=R at Lv M9 yL pH Dk;have s3:=aF.new (o:= .tup [.int i,.ref pd]) hp;refine⟨p,_,rfl,cE.of ag,rfl,_,_,rfl,_,_,rfl,rfl,?_⟩;have F3:=F2.cS s3;have KU:=s3 _ _ wL;have KW:=Lv.same s3;have rQ:lV _ tB:=bQ kF s3;have rR:mz _ tC:=bQ mV s3;have N8:=hd2.mono s3.tk;have RW:Paired (lT (upd H2 p (.tup [.int i,.ref pd])) (fun D=>D≠pt/\D∉wy :: f'.fp/\(D∈pk :: g.fp∨H D=none))) R.1 ws:=Paired.gX yL fun _ _ z=>z.keep (fun D xs o e=>⟨o,s3 _ _ e⟩) s3.tk;generalize upd H2 p (.tup [.int i,.ref pd])=H3 at F3 KU KW rQ rR N8 RW;have yo:=aO RW;refine⟨_,rfl,.inl ⟨rfl,_,bG.of KU⟩,_,rfl,_,rfl,_,rfl,pb,pd,wy,r9,R.2,f',i,d,rfl,KW,M9,(by lia),rQ,rR,N8,Ni,fun v pk2 pw2 f2 H4 F4 sS sT Zw kM hA4=>?_⟩;have Zx:pt∉wy :: f'.fp:=fun z=>(WJ pt z).2 rfl;have wj:=EK KW rQ rR F4 KU Zx;have kt4:=KR KW rQ rR F4;refine⟨pt,ws,v,rfl,rfl,wj,bf (by lia),?_⟩;have frees: ∀x,H3 x=none->x∈pk :: g.fp∨H x=none:=fun x h1=>by
    by_cases q:x∈pk :: g.fp
    ·exact .inl q
    ·right;cases e:H x with
     |none=>rfl
     |some o=>
      exfalso;by_cases q2:x∈tB :: tC :: pb :: pk :: g.fp
      ·rcases au.mp q2 with q2|q2
       ·obtain⟨_,z⟩:=c8 rQ;rw[← q2,h1] at z;cases z
       rcases au.mp q2 with q2|q2
       ·obtain⟨_,z⟩:=c8 rR;rw[← q2,h1] at z;cases z
       rcases au.mp q2 with q2|q2
       ·obtain⟨_,z⟩:=KW.obj;rw[← q2,h1] at z;cases z
       exact q q2
      ·have z:=F3 _ _ q2 e;rw[h1] at z;cases z
   have U4: ∀x∈pk2 :: f2.fp,(x∈pk :: g.fp∨H x=none)/\x≠pt:=fun x hx=>by
    rcases kM x hx with h1|h1
    ·exact WJ x h1
    ·exact⟨frees x h1,fun z=>by rw[z,KU] at h1; cases h1⟩
   have Zy:pt∉f2.fp:=fun z=>(U4 pt (aI _ z)).2 rfl;have U5: ∀a∈[pt],∀φ,H4 a≠some (.ext φ):=fun a ha φ e=>by
    rw[ao.mp ha,wj] at e;cases e
   have nB:tB∉[pt]:=fun z=>by
    obtain⟨_,q⟩:=c8 sS;rw[ao.mp z,wj] at q;cases q
   have nC:tC∉[pt]:=fun z=>by
    obtain⟨_,q⟩:=c8 sT;rw[ao.mp z,wj] at q;cases q
   have F34:Frame (tB :: tC :: pb :: pk :: g.fp) H (upd H4 pt (.lst (ws ++ [v]))):=(F3.trans F4 fun x hx=>by
    rcases au.mp hx with hx|hx
    ·exact .inl (by simp[hx])
    rcases au.mp hx with hx|hx
    ·exact .inl (by simp[hx])
    rcases au.mp hx with hx|hx
    ·exact .inl (by simp[hx])
    rcases(WJ x hx).1 with h1|h1
    ·exact .inl (by simp[List.mem_cons.mp h1])
    ·exact .inr h1).trans (Frame.upd (fp:=[pt]) (by simp)) (fun x hx=> .inr (by rw[List.mem_singleton.mp hx]; exact nt))
   refine⟨_,_,pk2,pw2,f2,ws ++ [v],rfl,F34,ag,Ic Zw wj Zy,pH,U4,gf sS (Frame.upd (fp:=[pt]) (by simp)) nB U5,gf sT (Frame.upd (fp:=[pt]) (by simp)) nC U5,?_⟩;have ktl:=dU (o:= .lst (ws ++ [v])) wj;refine cu (Paired.gX RW fun _ _ z=>z.keep (fun D xs o e=>?_) (kt4.trans ktl)) (hA4.keep (fun D xs o e=>?_) ktl)
   ·have e4:=EK KW rQ rR F4 e o.2.1;refine⟨⟨o.1,fun q=>?_,o.2.2⟩,by rw[az o.1]; exact e4⟩;rcases kM D q with h1|h1
    ·exact o.2.1 h1
    ·rw[e] at h1;cases h1
   ·have nD:D≠pt:=fun z=>by
     have:=o.1;rw[z,KU] at this;cases this
    exact⟨⟨nD,o.2,frees D o.1⟩,by rw[az nD]; exact e⟩
  ·rintro σ H2 ⟨x3,x4,wy,r9,f',ws,rfl,F2,wL,Lv,M9,WJ,kF,mV,yL⟩;rw[← hlen,aZ] at yL Lv;refine⟨_,rfl,k pt ws wy r9 f' H2 F2 kF mV nt wL (Paired.gX yL fun _ _ z=>z.keep (fun D xs o e=>⟨⟨o.1,o.2.2⟩,e⟩) fun _ _ e=>e) Lv⟩
inductive sY (A:dZ)(tB tC:Addr)(vs:List V)(H:Hp)(Q:VK)(E':XK):Prop
 |mk (ps:Addr)(ds:List bg)(ms:List V)(h1:vs=[.ref ps])(h2:H ps=some (.lst ms))(h3:eD H ds ms)(h4:ds.length<=60)(h5:(∀d∈ds,d.ok))(h6:lV H tB)(h7:mz H tC)(h8: ∀pt ws H',Frame [tB,tC] H H'->lV H' tB->mz H' tC->H pt=none->H' pt=some (.lst ws)->Paired (lT H' (fun D=>D≠pt/\H D=none)) (dN ds gZ.new 0).1 ws->Q (.ref pt) H'):sY A tB tC vs H Q E'
def wB:aU ["deeds","book"] ["deeds"] (aA (top 33)):={}
def Ie (T:Txt K mg){A:dZ}{tB tC:Addr}(G:jI K mg A)(DB:qI K mg "bills_in_order" (top 17) tB)(DC:qI K mg "credits_in_order" (top 18) tC)(jy:tB≠tC)(hnd:A.i9≠A.tooMuch)(KB:K.In base)(BM:BMain mg base):fu P w K mg base "answers" 12 ["deeds"] (sY A tB tC):=by
 have AK:fu P w K mg base "answers_in" 11 ["book","deeds"] (AI A tB tC):=AJ T G DB DC jy hnd KB BM;have QO:ui P w K mg base "Book" A.book 3 ["self"] (As A):=Qq G;refine T.G9.fQ (k:=11) wB (fun f cY A' outer s H vs Q E hr h=>?_)
 ·obtain⟨ps,ds,ms,rfl,mZ,KS,hl,cB,kr,jU,k⟩:=h;have nd:=wB.nd;refine⟨_,(ai (sv 1 nd (JY QO (hr.mono (by decide)) rfl))
(av (a9 (fc AK hr (aa (pv 1) (aa (pv 0) aw)))))),?_⟩
  intro xb dxb Zz ZA ne;have s1:=lQ (C:=A.book) (fs:=[]) Zz ZA ne;refine⟨xb,dxb,rfl,ag,fun pk pw g H1 F1 hx hk hW nk npw nf npk=>⟨rfl,?_⟩⟩;have S1:aF H H1:=fun b o e=>F1 b o (by simpa using aJ e Zz) (s1 b o e);have fr: ∀b∈g.fp,H b=none:=fun b hb=>s1.free (nf b hb);have nk0:H pk=none:=s1.free nk;refine⟨_,rfl,_,rfl,xb,pk,pw,ps,g,ds,ms,rfl,⟨⟨dxb,hx⟩,⟨[],hk,.nil⟩,hW⟩,S1 _ _ mZ,(fun z=>by
   have:=fr _ z;rw[mZ] at this;cases this),KS.mono S1.tk,hl,cB,bQ kr S1,bQ jU S1,fun pt ws _ _ _ H2 F2 kF mV nt wL hA _=>?_⟩
  refine k pt ws H2 ((S1.frame (fp:=[tB,tC])).trans F2 fun x hx=>?_) kF mV (S1.free nt) wL (Paired.gX hA fun _ _ z=>z.keep (fun D xs o e=>⟨⟨o.1,o.2.elim (fun q=>(au.mp q).elim (fun q=>by rw[q]; exact nk0) (fr D)) S1.free⟩,e⟩) fun _ _ e=>e);rcases au.mp hx with hx|hx
  ·exact .inl (by simp[hx])
  rcases au.mp hx with hx|hx
  ·exact .inl (by simp[hx])
  rcases au.mp hx with hx|hx
  ·exact .inr (by rw[hx]; exact Zz)
  rcases au.mp hx with hx|hx
  ·exact .inr (by rw[hx]; exact nk0)
  ·exact .inr (fr x hx)
inductive KY (K:Frag)(vs:List V)(H:Hp)(Q:VK)(E':XK):Prop
 |mk (a:Addr)(xs:List V)(m b:Int)(h1:vs=[.ref a,.int m,.int b])(h2:bG K H a xs)(h3:xs.length<=63)(h4:Q (.int m) H):KY K vs H Q E'
inductive AL (vs:List V)(H:Hp)(Q:VK)(E':XK):Prop
 |mk (d v:_)(h1:vs=[v])(h2:Rp H d v)(h3:Q (.bl (isW d)) H):AL vs H Q E'
def AM:aU ["_law_script","_law_most","_law_bound"] ["_law_script","_law_most","_law_bound"] (aA (top 43)):={}
def C1 (T:Txt K mg):fu P w K mg base "_law_room" 1 ["_law_script","_law_most","_law_bound"] (KY K):=by
 refine T.BP.fQ (k:=0) AM (fun f cY A outer s H vs Q E hr h=>?_)
 ·obtain⟨a,xs,m,b,rfl,hS,hz,k⟩:=h;refine⟨_,(ai (bT (a0 jB (oJ T.eE (pv 0)) aj (bb _))
   (av (a9 (pv 2)))
   bp)
   (av (a9 (pv 1)))),?_⟩
  refine⟨_,rfl,a,xs,rfl,.inl hS,_,_,rfl,rfl,_,rfl,?_⟩;refine cG (fun c=>?_) (fun c=>?_)
  ·have c':(63:Int) < (xs.length:Int):=a6 c;lia
  ·exact⟨_,rfl,k⟩
def xS:aU ["_law_found"] ["_law_found"] (aA (top 45)):={}
def AN (T:Txt K mg):fu P w K mg base "_law_whole" 1 ["_law_found"] AL:=by
 refine T.zE.fQ (k:=0) xS (fun f cY A outer s H vs Q E hr h=>?_)
 ·obtain⟨d,v,rfl,r,k⟩:=h;refine⟨_,(av (a9 (su (vB T.dz T.yB boot_int (pv 0)) (pX (OK (vB T.dz T.PY boot_bool (pv 0))))))),?_⟩;refine⟨_,rfl,v,_,_,isI d,rfl,r.ty,S8 d,_,rfl,?_⟩;cases d with
  |int i=>exact fP ⟨_,rfl,v,_,_,false,rfl,r.ty,NR (.int i),_,rfl,k⟩
  |bl i=>exact fP ⟨_,rfl,v,_,_,true,rfl,r.ty,NR (.bl i),_,rfl,k⟩
  |eA=>exact bX k
  |str x=>exact bX k
  |tup ds=>exact bX k
  |lst ds=>exact bX k
inductive FQ (vs:List V)(H:Hp)(Q:VK)(E':XK):Prop
 |mk (d v1 v2:_)(h1:vs=[v1,v2])(h2:Rp H d v1)(h3:Rp H d v2)(h4:d.size<=100000)(h5:d.plain=true)(h6: ∀H',aF H H'->Q (.bl true) H'):FQ vs H Q E'
def pN:aU ["_law_found","_law_due","_law_todo","_law_pair","_law_k"] ["_law_found","_law_due"] (aA (top 46)):={}
def AO (T:Txt K mg):fu P w K mg base "_law_alike" 2 ["_law_found","_law_due"] FQ:=by
 have AQ:fu P w K mg base "_law_whole" 1 ["_law_found"] AL:=AN T;refine T.zF.fQ (k:=1) pN (fun f cY A outer s H vs Q E hr h=>?_)
 ·obtain⟨d,v1,v2,rfl,r1,r2,hsz,iS,k⟩:=h;have hu:=kK hr;have nd:=pN.nd;refine⟨_,(ai (sv 2 nd (bS (aa (cK (aa (pv 0) (aa (pv 1) aw))) aw)))
(ai (IL bB (a0 (Jo hu) (pv 2) (bS aw) (bb _))
(ai (sv 3 nd (O1 PySem.F.plainAttrs_list PySem.F.slot_list_pop PySem.F.type_list_pop O4 (pv 2)))
(av (bT (fM (gv DW (by rfl) T.dz boot_isinstance (aa (xt (pv 3) aj) (aa (cK (aa (yZ (v:= .ty "list") (by rfl) T.vF boot_list rfl) (aa (yZ (v:= .ty "tuple") (by rfl) T.uy boot_tuple rfl) aw))) aw))))
(ai (bT (a0 qO (vB T.dz T.vF boot_list (xt (pv 3) aj)) (vB T.dz T.vF boot_list (xt (pv 3) aj)) (bb _))
(av (a9 kG))
bp)
(ai (bT (a0 qO (vB T.dz T.uy boot_tuple (xt (pv 3) aj)) (vB T.dz T.uy boot_tuple (xt (pv 3) aj)) (bb _))
(av (a9 kG))
bp)
(ai (bT (a0 qO (oJ T.eE (xt (pv 3) aj)) (oJ T.eE (xt (pv 3) aj)) (bb _))
(av (a9 kG))
bp)
(av (eJ bB rfl (i0 rfl T.mm (aa (oJ T.eE (xt (pv 3) aj)) aw)) (gn 4 nd)
(av (bM (qo (pv 2) (cK (aa (kI NQ (xt (pv 3) aj) (pv 4) (fun _ _=>rfl)) (aa (kI NQ (xt (pv 3) aj) (pv 4) (fun _ _=>rfl)) aw)))))))))))
(av (bT (fM (vB T.dz T.Fv boot_str (xt (pv 3) aj)))
(av (bT (PW.pt (pw_or (jw (fM (vB T.dz T.Fv boot_str (xt (pv 3) aj)))) (pw_or1 (a0 qO (xt (pv 3) aj) (xt (pv 3) aj) (bb _)))))
(av (a9 kG))
bp))
(av (bT (PW.pt (pw_or (jw (fM (fc AQ hr (aa (xt (pv 3) aj) aw)))) (pw_or1 (a0 qO (xt (pv 3) aj) (xt (pv 3) aj) (bb _)))))
(av (a9 kG))
bp))))))))
(av (a9 kG)))),?_⟩
  refine⟨_,rfl,_,rfl,(by show 2<=sizeLine; decide),fun t0 nt0=>⟨(by show 1<=sizeLine; decide),fun l nl=>?_⟩⟩;have sA:aF H (upd H t0 (.tup [v1,v2])):=aF.new nt0;have hl0:H l=none:=sA.free nl;refine⟨fun m σ H2=> ∃td ds x3 x4,σ=[some v1,some v2,some (.ref l),x3,x4]/\aF H H2/\H2 l=some (.lst td)/\Paired (l9 H H2) ds td/\Dt.fC ds=m/\m<=100000/\ ∀d∈ds,d.plain=true,
   ⟨d.size,[.ref t0],[d],none,none,rfl,sA.trans (aF.new nl),ag,.cons ⟨t0,v1,v2,rfl,Jq nl _ _ ag,r1,r2⟩ .nil,by simp[Dt.fC],hsz,by simpa using iS⟩,?_⟩
  rintro m σ H2 ⟨td,ds,x3,x4,rfl,s1,hl,hp,hm,YI,U6⟩;refine⟨_,rfl,bq _,fun p3 n3=>?_⟩;have s2:aF H2 (upd H2 p3 (.lst [])):=aF.new n3;refine⟨l,p3,td,rfl,rfl,bG.of (s2 _ _ hl),bG.of ag,_,rfl,?_⟩;generalize RI:upd H2 p3 (.lst [])=H3 at s2 ⊢;have Ar:=s2 _ _ hl;cases htd:td with
  |nil=>exact bX (k _ (s1.trans s2))
  |cons z zs=>
  refine fP ⟨fun σ' H'=> ∃m',m' < m/\ ∃td ds x3 x4,σ'=[some v1,some v2,some (.ref l),x3,x4]/\aF H H'/\H' l=some (.lst td)/\Paired (l9 H H') ds td/\Dt.fC ds=m'/\m'<=100000/\ ∀d∈ds,d.plain=true,fun _ _ h=>h,?_⟩;have jy:td.length - 1 < td.length:=by rw[htd]; simp
  obtain⟨y,hy⟩: ∃y,td[td.length - 1]? =some y:=⟨_,af jy⟩;obtain⟨Nj,c,ZC,⟨t,u1,u2,ey,ht,q1,q2⟩,N4⟩:=tG hp hy;subst ey;have TN:c.plain=true:=U6 c (by rw[ZC]; simp);have Wj: ∀d∈Nj,d.plain=true:=fun d hd=>U6 d (by rw[ZC]; simp[hd]);have hmm:Dt.fC Nj + c.size=m:=by
   have:=hm;rw[ZC,Dt.iH] at this;simpa[Dt.fC] using this
  refine⟨_,rfl,.inl ⟨rfl,_,bG.of Ar⟩,l,td,.ref t,rfl,rfl,Ar,hy,?_⟩;have ht3:=s2 _ _ ht;have s4:aF H (upd H3 l (.lst td.dropLast)):=(s1.trans s2).dk hl0;have ZD:upd H3 l (.lst td.dropLast) t=some (.tup [u1,u2]):=dQ Ar _ _ ht3;have WI:Paired (l9 H (upd H3 l (.lst td.dropLast))) Nj td.dropLast:=Paired.gX N4 fun d v h=>h.mono fun b xs e=>dQ Ar _ _ (s2 _ _ e);have hl4:upd H3 l (.lst td.dropLast) l=some (.lst td.dropLast):=ag;generalize upd H3 l (.lst td.dropLast)=H4 at s4 ZD WI hl4 ⊢;clear RI Ar ht3 s2 n3 hp hl ht;refine⟨_,rfl,t,_,_,u2,rfl,rfl,cE.of ZD,rfl,(by show 2<=sizeLine; decide),fun p5 n5=>?_⟩;have s5:aF H4 (upd H4 p5 (.tup [.ty "list",.ty "tuple"])):=aF.new n5;have q25:=Rp.mono (s4.trans s5) c q2;have q15:=Rp.mono (s4.trans s5) c q1;refine⟨u2,p5,["list","tuple"],_,isLT c,rfl,ag,q25.ty,Ph c,_,rfl,?_⟩;have Du:=s5 _ _ ZD;have ZE:=s5 _ _ hl4;have RV:Paired (l9 H (upd H4 p5 (.tup [.ty "list",.ty "tuple"]))) Nj td.dropLast:=Paired.gX WI fun d v h=>h.mono fun b xs e=>s5 _ _ e;have s6:=s4.trans s5;generalize upd H4 p5 (.tup [.ty "list",.ty "tuple"])=H5 at s5 q25 q15 Du ZE RV s6 ⊢;clear s5 n5;refine cG (fun U7=>?_) (fun U7=>?_)
  ·
   obtain⟨a1,ZF,e1,S1,R1⟩:=Fc q1 U7;obtain⟨a2,QP,e2,S2,R2⟩:=Fc q2 U7;refine⟨_,rfl,t,_,_,u1,rfl,rfl,cE.of Du,rfl,u1,_,_,XU c,rfl,q15.ty,Fb c,_,rfl,t,_,_,u2,rfl,rfl,cE.of Du,rfl,u2,_,_,XU c,rfl,q25.ty,Fb c,rfl,_,rfl,BB rfl ?_⟩;refine⟨_,rfl,t,_,_,u1,rfl,rfl,cE.of Du,rfl,u1,_,_,XW c,rfl,q15.ty,Jp c,_,rfl,t,_,_,u2,rfl,rfl,cE.of Du,rfl,u2,_,_,XW c,rfl,q25.ty,Jp c,rfl,_,rfl,BB rfl ?_⟩;have hlen:ZF.length=QP.length:=by rw[← R1.length,← R2.length]
   refine⟨_,rfl,t,_,_,u1,rfl,rfl,cE.of Du,rfl,a1,ZF,by rw[e1],S1 K H5 s6,_,rfl,t,_,_,u2,rfl,rfl,cE.of Du,rfl,a2,QP,by rw[e2],S2 K H5 s6,rfl,_,rfl,BB (by rw[hlen]) ?_⟩;have NO:QP.length=(kids c).length:=R2.length.symm;have hks:=GQ U7;have Iy:=Dt.qV (kids c);refine⟨_,rfl,t,_,_,u2,rfl,rfl,cE.of Du,rfl,a2,QP,by rw[e2],S2 K H5 s6,(QP.length:Int),rfl,by lia,by lia,?_⟩;rw[cW];refine jO (lo:=0) (n:=QP.length) (fun i σ H6=> ∃Og x4,σ=[some v1,some v2,some (.ref l),some (.ref t),x4]/\aF H H6/\H6 l=some (.lst Og)/\H6 t=some (.tup [u1,u2])/\Paired (l9 H H6) (Nj ++ (kids c).take i) Og)
    ⟨td.dropLast,x4,rfl,s6,ZE,Du,by simpa using RV⟩ ?_ ?_
   ·rintro i σ H6 hi ⟨Og,x4',rfl,s7,iA,WL,N9⟩;have XY:i < (kids c).length:=by lia
    have g0:(kids c)[i]? =some (kids c)[i]:=af XY;obtain⟨w1,g1,z1⟩:=R1.get g0;obtain⟨w2,g2,z2⟩:=R2.get g0;have Ku:Og.length < sizeLine:=by
     have h1:=N9.length;have h2:=Dt.qV (Nj ++ (kids c).take i);have h3:=w9 (kids c) i;rw[Dt.iH] at h2;exact jc (by lia)
    refine⟨_,rfl,.inl ⟨rfl,_,bG.of iA⟩,?_⟩;refine⟨_,rfl,t,_,_,u1,rfl,rfl,cE.of WL,rfl,_,rfl,a1,ZF,_,w1,e1,rfl,S1 K H6 s7,by rw[jN]; exact cw g1,_,rfl,t,_,_,u2,rfl,rfl,cE.of WL,rfl,_,rfl,a2,QP,_,w2,e2,rfl,S2 K H6 s7,by rw[jN]; exact cw g2,(by show 2<=sizeLine; decide),fun p7 n7=>?_⟩;have s8:aF H6 (upd H6 p7 (.tup [w1,w2])):=aF.new n7;have RT:=s8 _ _ iA;refine⟨l,Og,.ref p7,rfl,rfl,RT,Ku,?_⟩;refine⟨Og ++ [.ref p7],_,rfl,(s7.trans s8).dk hl0,ag,dQ RT _ _ (s8 _ _ WL),?_⟩;rw[uf g0,← bZ];exact cu (Paired.gX N9 fun d v h=>h.mono fun b xs e=>dQ RT _ _ (s8 _ _ e)) ⟨p7,w1,w2,rfl,dQ RT _ _ ag,z1,z2⟩
   ·rintro σ H6 ⟨Og,x4',rfl,s7,iA,WL,N9⟩;rw[NO,aZ] at N9;refine⟨Dt.fC (Nj ++ kids c),?_,Og,_,_,_,rfl,s7,iA,N9,rfl,?_,?_⟩
    ·rw[Dt.iH]; lia
    ·rw[Dt.iH]; lia
    ·intro d hd;rcases bc.mp hd with hd|hd
     ·exact Wj d hd
     ·exact DX TN d hd
  ·
   have fin:(fun σ' H'=> ∃m',m' < m/\ ∃td ds x3 x4,σ'=[some v1,some v2,some (.ref l),x3,x4]/\aF H H'/\H' l=some (.lst td)/\Paired (l9 H H') ds td/\Dt.fC ds=m'/\m'<=100000/\ ∀d∈ds,d.plain=true) [some v1,some v2,some (.ref l),some (.ref t),x4] H5:=by
    have:=c.size_pos;exact⟨Dt.fC Nj,by lia,_,Nj,_,_,rfl,s6,ZE,RV,rfl,by lia,Wj⟩
   refine⟨_,rfl,t,_,_,u2,rfl,rfl,cE.of Du,rfl,u2,_,_,V9 c,rfl,q25.ty,yt c,_,rfl,?_⟩;refine cG (fun hS=>?_) (fun hS=>?_)
   ·have ec: ∃x,c= .str x:=by cases c <;> first|exact⟨_,rfl⟩|cases hS
    obtain⟨x,rfl⟩:=ec;obtain rfl:=fj.mp q1;obtain rfl:=fj.mp q2;refine⟨_,rfl,t,_,_,_,rfl,rfl,cE.of Du,rfl,_,_,_,true,rfl,mQ.str x,yt (.str x),_,rfl,bX ?_⟩;refine⟨_,rfl,t,_,_,_,rfl,rfl,cE.of Du,rfl,_,rfl,t,_,_,_,rfl,rfl,cE.of Du,rfl,rfl,_,rfl,BB rfl ?_⟩;exact fin
   ·have ec: ∃x,c= .int x:=by cases c <;> first|exact⟨_,rfl⟩|exact absurd rfl hS|exact absurd rfl U7|cases TN
    obtain⟨x,rfl⟩:=ec;obtain rfl:=dA.mp q1;obtain rfl:=dA.mp q2;refine⟨_,rfl,t,_,_,_,rfl,rfl,cE.of Du,rfl,.int x,_,rfl,dA.mpr rfl,_,rfl,bX ?_⟩;refine⟨_,rfl,t,_,_,_,rfl,rfl,cE.of Du,rfl,_,rfl,t,_,_,_,rfl,rfl,cE.of Du,rfl,rfl,_,rfl,BB rfl ?_⟩;exact fin
inductive wC (K:Frag)(vs:List V)(H:Hp)(Q:VK)(E':XK):Prop
 |mk (po:Addr)(os:List Str)(aH:Str)(cell i:Int)(h1:vs=[.ref po,.str aH,.int cell,.int i])(h2:bG K H po (os.map V.str))(h3:os.length<=1000)(h4: ∀(n:Int) (H':Hp),aF H H'->Q (.int n) H'):wC K vs H Q E'
def oo:aU ["_law_owners","_law_who","_law_cell","_law_k","_law_rest","_law_number","_law_spot","_law_one"] ["_law_owners","_law_who","_law_cell","_law_k"] (aA (top 49)):={}
def xT (T:Txt K mg):fu P w K mg base "_law_chosen" 1 ["_law_owners","_law_who","_law_cell","_law_k"] (wC K):=by
 refine T.xq.fQ (k:=0) oo (fun f cY A outer s H vs Q E hr h=>?_)
 ·obtain⟨po,os,aH,cell,i,rfl,hS,ho,k⟩:=h;have nd:=oo.nd;refine⟨_,(ai (sv 4 nd (aQ jG (pv 2) aj))
(ai (sv 5 nd (aQ cm (aQ dj (aQ jG (pv 4) aj) (pv 3)) (aQ dj (oJ T.eE (pv 0)) aj)))
(ai (eJ bB rfl (i0 rfl T.mm (aa (oJ T.eE (pv 0)) aw)) (gn 6 nd)
(ai (sv 7 nd (aQ cm (aQ dj (pv 5) (pv 6)) (oJ T.eE (pv 0))))
(av (bT (PW.pt (pw_and (a0 dg (xl (pv 0) (pv 7)) (pv 1) (bb _)) (pw_and1 (a0 jB (aQ cm (pv 2) aj) aj (bb _)))))
(av (a9 (pv 7)))
bp))))
(ai (bT (a0 dg (aQ cm (pv 2) aj) aj (bb _))
(av (sv 5 nd (xl (bS (aa (pq k6 aj) (aa (aQ iE aj aj) (aa (aQ fN (pq k6 aj) (aQ cm (pv 4) (aQ iE aj aj))) aw)))) (aQ cm (pv 4) aj))))
bp)
(av (a9 (pv 5))))))),?_⟩
  refine⟨_,rfl,_,_,rfl,rfl,⟨by decide,by decide⟩,?_⟩;refine⟨_,rfl,_,_,rfl,rfl,⟨by decide,by decide⟩,_,rfl,_,_,rfl,rfl,_,rfl,po,_,rfl,.inl hS,_,_,rfl,rfl,_,_,rfl,rfl,(by show(0:Int) < ((os.map V.str).length:Int) + 1; lia),?_⟩;generalize ZG:(cell / 16 / 2 + i) % (((os.map V.str).length:Int) + 1)=num;show _;refine⟨_,rfl,po,_,rfl,.inl hS,((os.map V.str).length:Int),rfl,by lia,by rw[ae]; lia,?_⟩;rw[cW];refine jO (lo:=0) (n:=(os.map V.str).length) (fun j σ H2=> ∃x6 x7,σ=[some (.ref po),some (.str aH),some (.int cell),some (.int i),some (.int (cell / 16)),some (.int num),x6,x7]/\H2=H)
   ⟨none,none,by rw[← ZG]; rfl,rfl⟩ ?_ ?_
  ·rintro j σ H2 hj ⟨x6,x7,rfl,rfl⟩;have hm:0 < ((os.map V.str).length:Int):=by lia
   obtain⟨y,_,hy⟩:=kP (g:=V.str) (xs:=os) (m:=((os.map V.str).length:Int)) (x:=num + (0 + (j:Int))) (by rw[ae]) hm;refine⟨_,rfl,_,rfl,_,_,rfl,rfl,_,rfl,po,_,rfl,.inl hS,_,_,rfl,rfl,hm,?_⟩;refine⟨_,rfl,_,rfl,po,_,_,.str y,rfl,rfl,hS,hy,_,rfl,rfl,_,rfl,cG (fun c=>?_) (fun c=>bX ⟨_,_,rfl,rfl⟩)⟩;refine⟨_,rfl,_,_,rfl,rfl,(by show(0:Int) < 5; decide),_,_,rfl,rfl,_,rfl,cG (fun c=>?_) (fun c=>⟨_,_,rfl,rfl⟩)⟩;exact⟨_,rfl,k _ _ (aF.refl _)⟩
  ·rintro σ H2 ⟨x6,x7,rfl,rfl⟩;refine⟨_,rfl,_,_,rfl,rfl,(by show(0:Int) < 47; decide),rfl,_,rfl,cG (fun c=>?_) (fun c=>⟨_,rfl,k _ _ (aF.refl _)⟩)⟩;refine⟨_,rfl,_,_,rfl,rfl,⟨by decide,by decide,by decide⟩,_,rfl,_,rfl,_,_,rfl,rfl,⟨by decide,by decide,by decide⟩,_,_,rfl,rfl,(by show(0:Int) < _; decide +kernel),_,_,rfl,rfl,(by show 3<=sizeLine; decide),fun p4 n4=>?_⟩;obtain⟨y,_,hy⟩:=at3 (-1) (10 ^ (9:Int).toNat) (-2 - cell / 16 % 10 ^ (60:Int).toNat) (cell / 16);refine⟨_,rfl,_,_,rfl,rfl,(by show(0:Int) < 3; decide),p4,_,_,.int y,rfl,rfl,bG.of ag,hy,?_⟩;exact⟨_,rfl,k _ _ (aF.new n4)⟩
inductive AR (vs:List V)(H:Hp)(Q:VK)(E':XK):Prop
 |mk (c:Int)(h1:vs=[.int c])(h2: ∀r:Int,(r=0∨r=1)->Q (.int r) H):AR vs H Q E'
def xU:aU ["_law_cell"] ["_law_cell"] (aA (top 50)):={}
def AS (T:Txt K mg):fu P w K mg base "_law_hasty" 1 ["_law_cell"] AR:=by
 refine T.zG.fQ (k:=0) xU (fun f cY A outer s H vs Q E hr h=>?_)
 ·obtain⟨c,rfl,k⟩:=h;refine⟨_,(av (a9 (iq lD (by rfl) T.yB boot_int (aa (Sh (fL dg (aQ cm (pv 0) aj) aj (bb _)) (pX (su (fL dg (aQ cm (pv 0) aj) aj (bb _)) (pX (fL dg (aQ cm (aQ jG (pv 0) aj) aj) aj (bb _)))))) aw)))),?_⟩;have fin: ∀b:Bool,Q (.int (if b then 1 else 0)) H:=fun b=>k _ (by cases b <;> simp);refine⟨_,rfl,_,_,rfl,rfl,(by show(0:Int) < 29; decide),rfl,_,rfl,cG (fun c=> .inr ⟨_,rfl,fin _⟩) (fun c=>?_)⟩;refine⟨_,rfl,_,_,rfl,rfl,(by show(0:Int) < 41; decide),rfl,_,rfl,cG (fun c=>?_) (fun c=> .inr ⟨_,rfl,fin _⟩)⟩;exact⟨_,rfl,_,_,rfl,rfl,⟨by decide,by decide⟩,_,_,rfl,rfl,(by show(0:Int) < 2; decide),rfl,.inr ⟨_,rfl,fin _⟩⟩
inductive AU (K:Frag)(vs:List V)(H:Hp)(Q:VK)(E':XK):Prop
 |mk (a:Addr)(cs:List Int)(i:Nat)(h1:vs=[.ref a,.int i])(h2:bG K H a (cs.map V.int))(h3:i < cs.length)(h4: ∀n:Int,Q (.int n) H):AU K vs H Q E'
def oq:aU ["_law_cells","_law_k","_law_days"] ["_law_cells","_law_k"] (aA (top 51)):={}
def xV (T:Txt K mg):fu P w K mg base "_law_due_in" 2 ["_law_cells","_law_k"] (AU K):=by
 have AV:fu P w K mg base "_law_hasty" 1 ["_law_cell"] AR:=AS T;refine T.xr.fQ (k:=1) oq (fun f cY A outer s H vs Q E hr h=>?_)
 ·obtain⟨a,cs,i,rfl,hS,hi,k⟩:=h;have nd:=oq.nd;refine⟨_,(ai (sv 2 nd (aQ cm (aQ dj (xl (pv 0) (aQ cm (aQ dj (pv 1) aj) (oJ T.eE (pv 0)))) (pv 1)) aj))
(jH (bT (a0 dg (aQ cm (xl (pv 0) (pv 1)) aj) aj (bb _))
(av (sv 2 nd (aQ cm (xl (pv 0) (aQ cm (aQ dj (pv 1) aj) (oJ T.eE (pv 0)))) (aQ iE aj aj))))
bp)
(av (a9 (aQ fN (pv 2) (aQ jx (aQ dj (pv 2) aj) (fc AV hr (aa (xl (pv 0) (pv 1)) aw)))))))),?_⟩
  have hm:0 < ((cs.map V.int).length:Int):=by rw[ae]; lia
  obtain⟨y,_,hy⟩:=kP (g:=V.int) (xs:=cs) (m:=((cs.map V.int).length:Int)) (x:=(i:Int) + 1) (by rw[ae]) hm;refine⟨_,rfl,_,rfl,_,_,rfl,rfl,_,rfl,a,_,rfl,.inl hS,_,_,rfl,rfl,hm,a,_,_,.int y,rfl,rfl,hS,hy,_,rfl,_,_,rfl,rfl,_,_,rfl,rfl,(by show(0:Int) < 9; decide),?_⟩;refine⟨fun σ' H'=>H'=H/\ ∃d:Int,σ'=[some (.ref a),some (.int i),some (.int d)],?_,?_⟩
  ·refine⟨_,rfl,_,rfl,a,_,_,_,rfl,rfl,hS,sO hi,_,_,rfl,rfl,(by show(0:Int) < 13; decide),rfl,_,rfl,cG (fun c=>?_) (fun c=>⟨rfl,_,rfl⟩)⟩;refine⟨_,rfl,_,rfl,_,_,rfl,rfl,_,rfl,a,_,rfl,.inl hS,_,_,rfl,rfl,hm,a,_,_,.int y,rfl,rfl,hS,hy,_,_,rfl,rfl,⟨by decide,by decide,by decide⟩,_,_,rfl,rfl,(by show(0:Int) < _; decide +kernel),?_⟩;exact⟨rfl,_,rfl⟩
  rintro σ' H' ⟨rfl,d,rfl⟩;refine⟨_,rfl,_,rfl,_,_,rfl,rfl,_,rfl,_,rfl,a,_,_,_,rfl,rfl,hS,sO hi,_,rfl,fun r ZH=>?_⟩;exact⟨_,_,rfl,rfl,.inr (by rcases ZH with rfl|rfl <;> exact⟨by decide,by decide⟩),_,_,rfl,rfl,k _⟩
def uo (H:Hp)(a pm lX:Addr)(i:Nat)(σ:L2.St)(H2:Hp):Prop:=
 ∃(pb ph:Addr) (bs hs:List Str) (sp:List Int) (ds:List bg) (ms:List V) (x5 x6 x7 x8 x9 CM CO xW FR AW C2 AX:Option V),σ=[some (.ref a),some (.ref pm),some (.ref pb),some (.ref ph),some (.ref lX),x5,x6,x7,x8,x9,CM,CO,xW,FR,AW,C2,AX]/\aF H H2/\
  H2 pm=some (.lst ms)/\eD H2 ds ms/\ds.length=i/\(∀d∈ds,d.ok)/\H2 pb=some (.lst (bs.map V.str))/\bs.length<=i/\H2 ph=some (.lst (hs.map V.str))/\hs.length<=i/\H2 lX=some (.lst (sp.map V.int))/\sp.length<=i/\pb≠pm/\pb≠lX/\ph≠pm/\ph≠lX
def uo.mk' {H:Hp}{a pm lX pb ph:Addr}{i:Nat}{H4 H6:Hp}{bs hs:List Str}{sp:List Int}{ds:List bg}{d:bg}{ms:List V}{p8:Addr}{x5 x6 x7 x8 x9 CM CO xW FR AW C2 AX:Option V}
  (hR:eD H4 ds ms) (hl:ds.length=i) (cB: ∀d∈ds,d.ok) (kp:cI H4 H6) (s6:aF H H6) (hM:H6 pm=some (.lst (ms ++ [.ref p8]))) (hd:Rp H6 d.dt (.ref p8)) (hdo:d.ok)
  (hb:H6 pb=some (.lst (bs.map V.str))) (HB:bs.length<=i + 1) (hh:H6 ph=some (.lst (hs.map V.str))) (hhl:hs.length<=i + 1) (Md:H6 lX=some (.lst (sp.map V.int))) (Ku:sp.length<=i + 1)
  (n1:pb≠pm) (n2:pb≠lX) (n3:ph≠pm) (n4:ph≠lX):
  uo H a pm lX (i + 1) [some (.ref a),some (.ref pm),some (.ref pb),some (.ref ph),some (.ref lX),x5,x6,x7,x8,x9,CM,CO,xW,FR,AW,C2,AX] H6:=by
 refine⟨pb,ph,bs,hs,sp,ds ++ [d],ms ++ [.ref p8],x5,x6,x7,x8,x9,CM,CO,xW,FR,AW,C2,AX,rfl,s6,hM,(hR.mono kp).snoc hd,by rw[ax,hl]; rfl,fun d' Gq=>?_,hb,HB,hh,hhl,Md,Ku,n1,n2,n3,n4⟩;rcases bc.mp Gq with h|h
 ·exact cB d' h
 ·rw[ao.mp h]; exact hdo
def di (r:Int)(j:Nat):List Int:=(List.range j).map fun(t:Nat)=>1 + r % 9 + (0 + (t:Int)) * (2 + r % 30)
def C3 (r:Int)(j:Nat):(di r j).length=j:=by unfold di; rw[List.length_map,List.length_range]
def Nk {w:Str}{d:Int}(r:Int)(j:Nat)(hj:j<=11):(bg.hZ w d (di r j)).ok:=by
 have h9:=kB r (show(9:Int)≠0 by decide);have h30:=kB r (show(30:Int)≠0 by decide);refine⟨by rw[C3]; exact hj,?_,fun x hx=>?_⟩
 ·unfold di;rw[sj];refine List.pairwise_lt_range.imp fun{a b} Iw=>?_;have:(0 + (a:Int)) * (2 + r % 30) < (0 + (b:Int)) * (2 + r % 30):=Int.mul_lt_mul_of_pos_right (by lia) (by lia);lia
 ·unfold di at hx;obtain⟨t,_,rfl⟩:=bJ.mp hx;have:0<=(0 + (t:Int)) * (2 + r % 30):=Int.mul_nonneg (by lia) (by lia);lia
def U8 (x y:Int)(b:Bool):True/\uv [V.int x,V.int y] (if b=true then 1 else 0)=some (V.int (if b=true then y else x)):=⟨trivial,by cases b <;> rfl⟩
def Oh {H H4:Hp}{pm p8 lX pb ph:Addr}{ms xs b' h' s':List V}(nm:H pm=none)(s4:aF H H4)(rP:H4 pm=some (.lst ms))(n8:H4 p8=none)(n1:pb≠pm)(n3:ph≠pm)(FT:lX≠pm)
  (AH:H4 pb=some (.lst b')) (IB:H4 ph=some (.lst h')) (ou:H4 lX=some (.lst s')):
  cI H4 (upd (upd H4 p8 (.tup xs)) pm (.lst (ms ++ [.ref p8])))/\aF H (upd (upd H4 p8 (.tup xs)) pm (.lst (ms ++ [.ref p8])))/\upd (upd H4 p8 (.tup xs)) pm (.lst (ms ++ [.ref p8])) pm=some (.lst (ms ++ [.ref p8]))/\
  upd (upd H4 p8 (.tup xs)) pm (.lst (ms ++ [.ref p8])) p8=some (.tup xs)/\upd (upd H4 p8 (.tup xs)) pm (.lst (ms ++ [.ref p8])) pb=some (.lst b')/\upd (upd H4 p8 (.tup xs)) pm (.lst (ms ++ [.ref p8])) ph=some (.lst h')/\
  upd (upd H4 p8 (.tup xs)) pm (.lst (ms ++ [.ref p8])) lX=some (.lst s'):=by
 have s8:=aF.new (o:= .tup xs) n8;refine⟨s8.tk.trans (dU (s8 _ _ rP)),(s4.trans s8).dk nm,ag,dQ (s8 _ _ rP) _ _ ag,?_,?_,?_⟩
 ·rw[az n1]; exact s8 _ _ AH
 ·rw[az n3]; exact s8 _ _ IB
 ·rw[az FT]; exact s8 _ _ ou
def U9 {H H4:Hp}{pm lX pb ph:Addr}{ms b' h':List V}{sp:List Int}{x:Int}(WM:H lX=none)(s4:aF H H4)(rP:H4 pm=some (.lst ms))(n2:pb≠lX)(n4:ph≠lX)(FT:lX≠pm)
  (AH:H4 pb=some (.lst b')) (IB:H4 ph=some (.lst h')) (ou:H4 lX=some (.lst (sp.map V.int))):
  cI H4 (upd H4 lX (.lst (sp.map V.int ++ [.int x])))/\aF H (upd H4 lX (.lst (sp.map V.int ++ [.int x])))/\upd H4 lX (.lst (sp.map V.int ++ [.int x])) pm=some (.lst ms)/\upd H4 lX (.lst (sp.map V.int ++ [.int x])) pb=some (.lst b')/\
  upd H4 lX (.lst (sp.map V.int ++ [.int x])) ph=some (.lst h')/\upd H4 lX (.lst (sp.map V.int ++ [.int x])) lX=some (.lst ((sp ++ [x]).map V.int)):=by
 refine⟨dU ou,s4.dk WM,?_,?_,?_,?_⟩
 ·rw[az FT.symm]; exact rP
 ·rw[az n2]; exact AH
 ·rw[az n4]; exact IB
 ·rw[ag,aL]; rfl
def hJ {H:Hp}{d:Dt}{v:V}{ds:List Dt}{vs:List V}(h:Rp H d v)(r:gY H ds vs):gY H (d :: ds) (v :: vs):=br.mpr ⟨_,_,rfl,h,r⟩
def rI {H:Hp}(i:Int):Rp H (.int i) (.int i):=dA.mpr rfl
def rS {H:Hp}(x:Str):Rp H (.str x) (.str x):=fj.mpr rfl
def r0 {H:Hp}:gY H [] []:=cq.mpr rfl
def FU {H9:Hp}{p9 pb:Addr}{bs:List Str}{aH:Str}{b:Bool}{Q:VK}(h9:H9 p9=some (.lst [V.str aH]))(hb:H9 pb=some (.lst (bs.map V.str)))(hl:bs.length<=100)
  (q: ∀(KZ:Addr) (Va:Hp) (n:Nat),n<=1->aF H9 Va->H9 KZ=none->Va KZ=some (.lst ((bs ++ List.replicate n aH).map V.str))->Q (.ref KZ) Va):
  SH (.ref p9) (.int (if b=true then 1 else 0)) H9 (fun v H=>SG (.ref pb) v H Q):=by
 have hk:(if b=true then(1:Int) else 0).toNat<=1:=by split <;> decide
 refine⟨p9,_,_,rfl,rfl,h9,(by split <;> decide),(by split <;> decide),(by show 1 * _<=sizeLine; split <;> decide),fun RX ZI=>?_⟩;generalize (if b=true then(1:Int) else 0).toNat=n at hk ⊢;rw[Ml];have Cy:=aF.new (o:= .lst ((List.replicate n aH).map V.str)) ZI;refine⟨pb,RX,_,_,rfl,rfl,Cy _ _ hb,ag,?_,fun KZ IC=>?_⟩
 ·refine cJ (bf ?_);rw[ae,ae,iR];lia
 ·rw[← aL];exact q KZ _ n hk (Cy.trans (aF.new IC)) (Cy.free IC) ag
inductive FV (K:Frag)(vs:List V)(H:Hp)(Q:VK)(E':XK):Prop
 |mk (a:Addr)(cs:List Int)(h1:vs=[.ref a])(h2:bG K H a (cs.map V.int))(h3:cs.length<=100)(h4: ∀(pd:Addr) (ds:List bg) (ms:List V) (H':Hp),aF H H'->H' pd=some (.lst ms)->eD H' ds ms->ds.length=cs.length->(∀d∈ds,d.ok)->Q (.ref pd) H'):FV K vs H Q E'
def pO:aU ["_law_cells","_law_made","_law_bills","_law_held","_law_spots","_law_k","_law_rest","_law_pick","_law_who","_law_day","_law_amount","_law_bill","_law_due","_law_part","_law_credit","_law_menu","_law_limits"] ["_law_cells"] (aA (top 52)):={}
def AY (T:Txt K mg):fu P w K mg base "_law_deeds" 3 ["_law_cells"] (FV K):=by
 have xX:fu P w K mg base "_law_penned" 2 ["_law_cells","_law_k"] (vN K):=xA T;have pP:fu P w K mg base "_law_chosen" 1 ["_law_owners","_law_who","_law_cell","_law_k"] (wC K):=xT T;have xY:fu P w K mg base "_law_due_in" 2 ["_law_cells","_law_k"] (AU K):=xV T;refine T.zH.fQ (k:=2) pO (fun f cY A outer s H vs Q E hr h=>?_)
 ·obtain⟨a,cs,rfl,hS,hc,k⟩:=h;have nd:=pO.nd;refine⟨_,(ai (sv 1 nd (bS aw))
(ai (sv 2 nd (bS aw))
(ai (sv 3 nd (bS aw))
(ai (sv 4 nd (bS aw))
(ai (eJ bB rfl (i0 rfl T.mm (aa (oJ T.eE (pv 0)) aw)) (gn 5 nd)
(ai (sv 6 nd (aQ cm (aQ jG (xl (pv 0) (pv 5)) aj) (aQ iE aj aj)))
(ai (sv 7 nd (aQ cm (aQ dj (xl (pv 0) (pv 5)) (aQ jx aj (pv 5))) aj))
(ai (ng (fc xX hr (aa (pv 0) (aa (pv 5) aw))) (gT (bW (gn 8 nd) (bW (gn 9 nd) (bW (gn 10 nd) gq)))))
(ai (sv 11 nd (fc pP hr (aa (pv 2) (aa (pv 8) (aa (xl (pv 0) (pv 5)) (aa (pv 5) aw))))))
(av (bT (a0 kH (pv 7) aj (bb _))
(ai (sv 12 nd (aQ dj (pv 9) (fc xY hr (aa (pv 0) (aa (pv 5) aw)))))
(ai (bM (qo (pv 1) (cK (aa aR (aa (pv 8) (aa (pv 9) (aa (pv 12) (aa (pv 10) aw))))))))
(av (sv 2 nd (aQ k8 (pv 2) (aQ zh (bS (aa (pv 8) aw)) (iq lD (by rfl) T.yB boot_int (aa (su (fL jB (pv 10) aj (bb _)) (pX (fL IQ (pv 12) (pv 9) (bb _)))) aw))))))))
(av (bT (a0 kH (pv 7) aj (bb _))
(ai (bM (qo (pv 1) (cK (aa aR (aa (pv 8) (aa (pv 9) (aa (pv 10) aw)))))))
(av (sv 3 nd (aQ k8 (pv 3) (aQ zh (bS (aa (pv 8) aw)) (iq lD (by rfl) T.yB boot_int (aa (fL jB (pv 10) aj (bb _)) aw)))))))
(av (bT (a0 dg (pv 7) aj (bb _))
(ai (bM (qo (pv 1) (cK (aa aR (aa (pv 11) (aa (pv 9) (aa (pv 10) aw)))))))
(av (bT (PW.pt (pw_and (a0 yd aj (pv 11) (bb _)) (pw_and (a0 kH (pv 11) (oJ T.eE (pv 2)) (bb _)) (pw_and1 (a0 jB (pv 10) aj (bb _))))))
(av (sv 3 nd (aQ k8 (pv 3) (bS (aa (xl (pv 2) (pv 11)) aw)))))
bp)))
(av (bT (a0 kH (pv 7) aj (bb _))
(ai (bM (qo (pv 4) (pv 5)))
(jH (sv 13 nd (xl (bS (aa (pv 10) (aa (aQ dj aj (aQ cm (pv 6) aj)) aw))) (iq lD (by rfl) T.yB boot_int (aa (su (fL jB (pv 10) aj (bb _)) (pX (fL jB (aQ cm (pv 6) aj) aj (bb _)))) aw))))
(ai (sv 14 nd (fc pP hr (aa (pv 3) (aa (pv 8) (aa (xl (pv 0) (pv 5)) (aa (aQ dj (pv 5) aj) aw))))))
(jH (bT (a0 dg (aQ cm (xl (pv 0) (pv 5)) aj) aj (bb _))
(av (sv 14 nd (aQ cm (aQ jG (pv 6) aj) (aQ dj (oJ T.eE (pv 3)) aj))))
bp)
(av (bM (qo (pv 1) (cK (aa aR (aa (pv 14) (aa (pv 11) (aa (pv 13) aw))))))))))))
(av (bT (a0 kH (pv 7) aj (bb _))
(ai (bM (qo (pv 4) (pv 5)))
(av (bM (qo (pv 1) (cK (aa aR (aa (pv 8) aw)))))))
(av (bT (a0 dg (pv 7) aj (bb _))
(ai (sv 15 nd (aQ k8 (pv 4) (bS (aa (pv 5) (aa (pq k6 aj) (aa (aQ iE aj aj) (aa aj (aa (aQ fN (pv 5) aj) (aa (aQ cm (aQ jG (pv 6) aj) (aQ dj (pv 5) aj)) (aa (aQ fN (pq k6 aj) (pv 6)) aw))))))))))
(av (bM (qo (pv 1) (cK (aa aR (aa (xl (pv 15) (aQ cm (pv 6) (oJ T.eE (pv 15)))) aw)))))))
(av (bT (a0 dg (pv 7) aj (bb _))
(av (bM (qo (pv 1) (cK (aa (xl (bS (aa aR (aa aR aw))) (aQ cm (pv 6) aj)) (aa (pv 8) (aa (pv 9) aw)))))))
(ai (ji (i:=16) nd rfl (Or.inl rfl) (tn:=["_law_j"]) (cn:=["_law_rest"]) (cj:=[6]) rfl (iG (zk:=[(".0",.local),("_law_j",.local),("_law_rest",.cell)])) (i0 rfl T.mm (aa (aQ cm (pv 6) aj) aw)) (fun _ _ _ _=>(eB (i:=0) (show(["_law_j","_law_rest"]:List Str).Nodup by decide +kernel) rfl (Or.inl rfl))) (fun _ _ _ _=>k9) (fun _ _ _ _=>(aQ dj (aQ dj aj (aQ cm (pv 1) aj)) (aQ jx (pv 0) (aQ dj aj (aQ cm (pv 1) aj))))))
(av (bM (qo (pv 1) (cK (aa aR (aa (pv 8) (aa (pv 9) (aa (iq w6 (by rfl) T.uy boot_tuple (aa (pv 16) aw)) aw))))))))))))))))))))))))))))
(av (a9 (pv 1)))))))),?_⟩
  refine⟨bq _,fun pm nm=>⟨bq _,fun pb nb=>⟨bq _,fun ph nh=>⟨bq _,fun lX RY=>?_⟩⟩⟩⟩;have s1:aF H (upd H pm (.lst [])):=aF.new nm;have t2:=aF.new (o:= .lst []) nb;have t3:=aF.new (o:= .lst []) nh;have t4:=aF.new (o:= .lst []) RY;have s4:=((s1.trans t2).trans t3).trans t4;have WM:H lX=none:=((s1.trans t2).trans t3).free RY;have g1:=((t2.trans t3).trans t4) _ _ (ag (H:=H) (a:=pm) (o:= .lst []));have g2:=(t3.trans t4) _ _ (ag (H:=upd H pm (.lst [])) (a:=pb) (o:= .lst []));have g3:=t4 _ _ (ag (H:=upd (upd H pm (.lst [])) pb (.lst [])) (a:=ph) (o:= .lst []));have g4:=ag (H:=upd (upd (upd H pm (.lst [])) pb (.lst [])) ph (.lst [])) (a:=lX) (o:= .lst []);have e12:pb≠pm:=(aJ ag nb).symm;have e13:ph≠pm:=(aJ (t2 _ _ ag) nh).symm;have FT:lX≠pm:=(aJ ((t2.trans t3) _ _ ag) RY).symm;have e24:pb≠lX:=aJ (t3 _ _ ag) RY;have e34:ph≠lX:=aJ ag RY;generalize upd (upd (upd (upd H pm (.lst [])) pb (.lst [])) ph (.lst [])) lX (.lst [])=H4 at s4 g1 g2 g3 g4 ⊢;refine⟨_,rfl,a,_,rfl,.inl (s4.seq hS),((cs.map V.int).length:Int),rfl,by lia,by rw[ae]; lia,?_⟩;rw[cW];refine jO (lo:=0) (n:=(cs.map V.int).length) (uo H a pm lX)
   ⟨pb,ph,[],[],[],[],[],none,none,none,none,none,none,none,none,none,none,none,none,rfl,s4,g1,r0,rfl,(fun _ h=>by cases h),g2,aD _,g3,aD _,g4,aD _,e12,e24,e13,e34⟩ ?_ ?_
  ·clear t2 t3 t4 s1 g1 g2 g3 g4 s4 H4 e12 e24 e13 e34 nb nh RY pb ph;rintro i σ H2 hi ⟨pb,ph,bs,hs,sp,ds,ms,x5,x6,x7,x8,x9,CM,CO,xW,FR,AW,C2,AX,rfl,s2,hM,hR,FW,cB,hb,HB,hh,hhl,y3,aeT,n1,n2,n3,n4⟩;have ZJ:i < cs.length:=by rwa [ae] at hi
   have RZ:uv (cs.map V.int) (0 + (i:Int))=some (.int (cs.getD i 0)):=by rw[jN]; exact sO ZJ
   have PQ:=s2.seq hS;generalize mI:cs.getD i 0=cell at RZ;refine⟨_,rfl,_,rfl,a,_,_,.int cell,rfl,rfl,PQ,RZ,_,_,rfl,rfl,⟨by decide,by decide⟩,_,_,rfl,rfl,⟨by decide,by decide,by decide⟩,_,_,rfl,rfl,(by show(0:Int) < _; decide +kernel),?_⟩;refine⟨_,rfl,_,rfl,a,_,_,.int cell,rfl,rfl,PQ,RZ,_,rfl,_,_,rfl,rfl,.inl ⟨by decide,by decide⟩,_,_,rfl,rfl,_,_,rfl,rfl,(by show(0:Int) < 16; decide),?_⟩;refine⟨_,rfl,_,rfl,a,cs,i,(by rw[jN]; rfl),PQ,ZJ,fun p aH day dP H3 s3 hp lP=>?_⟩;refine⟨p,_,rfl,cE.of hp,rfl,_,_,rfl,_,_,rfl,_,_,rfl,rfl,?_⟩;refine⟨_,rfl,_,rfl,_,rfl,_,rfl,a,_,_,.int cell,rfl,rfl,s3.seq PQ,RZ,_,rfl,pb,bs,aH,cell,_,rfl,bG.of (s3 _ _ hb),by lia,fun bl H4 s4'=>?_⟩;have KQ:=s3.trans s4';have s4:=s2.trans KQ;have rP:=KQ _ _ hM;have Nl:=hR.mono KQ.tk;have AH:=KQ _ _ hb;have IB:=KQ _ _ hh;have ou:=KQ _ _ y3;have hS4:=s4.seq hS;have ZK:=hS;have Iz:ms.length<=100:=by have:=hR.length; lia
   clear KQ s3 s4' hp hM hR hb hh y3 s2 PQ H2 H3;refine⟨_,rfl,_,_,rfl,rfl,_,rfl,cG (fun c1=>?_) (fun c1=>?_)⟩
   ·
    refine⟨_,rfl,_,rfl,_,rfl,a,cs,i,(by rw[jN]; rfl),hS4,ZJ,fun n=>⟨_,_,rfl,rfl,?_⟩⟩;refine⟨_,rfl,.inl ⟨rfl,_,bG.of rP⟩,_,rfl,_,rfl,_,rfl,_,rfl,(by show 5<=sizeLine; decide),fun p8 n8=>?_⟩;refine⟨pm,ms,_,rfl,rfl,aF.new n8 _ _ rP,bf (by lia),?_⟩;obtain⟨k5,s5,we,h8,A8,Dv,mB⟩:=Oh (xs:=[V.str "bill",.str aH,.int day,.int (day + n),.int dP]) nm s4 rP n8 n1 n3 FT AH IB ou;refine⟨_,rfl,_,rfl,(by show 1<=sizeLine; decide),fun p9 n9=>?_⟩;have t9:=aF.new (o:= .lst [V.str aH]) n9;refine⟨_,rfl,_,_,rfl,rfl,_,rfl,cG (fun c=>⟨_,rfl,_,rfl,_,_,rfl,rfl,.inr ⟨_,rfl,?_⟩⟩) (fun c=> .inr ⟨_,rfl,?_⟩)⟩
    all_goals
     refine FU ag (t9 _ _ A8) (by lia) fun KZ Va n hn ZL IC ZM=>?_;have tR:=t9.trans ZL;exact uo.mk' (d:= .dM aH day _ dP) (pb:=KZ) Nl FW cB (k5.trans tR.tk) (s5.trans tR) (tR _ _ we) (eL (tR _ _ h8) (hJ (rS _) (hJ (rS _) (hJ (rI _) (hJ (rI _) (hJ (rI _) r0)))))) lP ZM (by rw[ax,iR]; lia) (tR _ _ Dv) (by lia) (tR _ _ mB) (by lia) (aJ (t9 _ _ we) IC).symm (aJ (t9 _ _ mB) IC).symm n3 n4
   refine⟨_,rfl,_,_,rfl,rfl,_,rfl,cG (fun c2=>?_) (fun c2=>?_)⟩
   ·
    refine⟨_,rfl,.inl ⟨rfl,_,bG.of rP⟩,_,rfl,_,rfl,_,rfl,(by show 4<=sizeLine; decide),fun p8 n8=>?_⟩;refine⟨pm,ms,_,rfl,rfl,aF.new n8 _ _ rP,bf (by lia),?_⟩;obtain⟨k5,s5,we,h8,A8,Dv,mB⟩:=Oh (xs:=[V.str "pay",.str aH,.int day,.int dP]) nm s4 rP n8 n1 n3 FT AH IB ou;refine⟨_,rfl,_,rfl,(by show 1<=sizeLine; decide),fun p9 n9=>?_⟩;have t9:=aF.new (o:= .lst [V.str aH]) n9;refine⟨_,rfl,_,_,rfl,rfl,.inr ⟨_,rfl,?_⟩⟩;refine FU ag (t9 _ _ Dv) (by lia) fun KZ Va n hn ZL IC ZM=>?_;have tR:=t9.trans ZL;exact uo.mk' (d:= .pz aH day dP) (ph:=KZ) Nl FW cB (k5.trans tR.tk) (s5.trans tR) (tR _ _ we) (eL (tR _ _ h8) (hJ (rS _) (hJ (rS _) (hJ (rI _) (hJ (rI _) r0))))) lP (tR _ _ A8) (by lia) ZM (by rw[ax,iR]; lia) (tR _ _ mB) (by lia) n1 n2 (aJ (t9 _ _ we) IC).symm (aJ (t9 _ _ mB) IC).symm
   refine⟨_,rfl,rfl,_,rfl,cG (fun c3=>?_) (fun c3=>?_)⟩
   ·
    refine⟨_,rfl,.inl ⟨rfl,_,bG.of rP⟩,_,rfl,_,rfl,_,rfl,(by show 4<=sizeLine; decide),fun p8 n8=>?_⟩;refine⟨pm,ms,_,rfl,rfl,aF.new n8 _ _ rP,bf (by lia),?_⟩;obtain⟨k5,s5,we,h8,A8,Dv,mB⟩:=Oh (xs:=[V.str "note",.int bl,.int day,.int dP]) nm s4 rP n8 n1 n3 FT AH IB ou;have no:=fun(xW FR AW C2 AX x5 x6 x7 x8 x9 CM CO:Option V)=>uo.mk' (a:=a) (x5:=x5) (x6:=x6) (x7:=x7) (x8:=x8) (x9:=x9) (CM:=CM) (CO:=CO) (xW:=xW) (FR:=FR) (AW:=AW) (C2:=C2) (AX:=AX) (d:= .note bl day dP) Nl FW cB k5 s5 we (eL h8 (hJ (rS _) (hJ (rI _) (hJ (rI _) (hJ (rI _) r0))))) lP A8 (by lia) Dv (by lia) mB (by lia) n1 n2 n3 n4;refine⟨_,rfl,_,_,rfl,rfl,_,rfl,cG (fun d1=>?_) (fun d1=>bX (no ..))⟩;refine⟨_,rfl,_,rfl,pb,_,rfl,.inl (bG.of A8),_,_,rfl,rfl,_,rfl,cG (fun d2=>?_) (fun d2=>bX (no ..))⟩;refine⟨_,rfl,_,_,rfl,rfl,_,rfl,cG (fun d3=>?_) (fun d3=>no ..)⟩;have T9:0<=bl:=a6 d1;have YM:bl < ((bs.map V.str).length:Int):=a6 d2;obtain⟨bn,rfl⟩:=cA T9;have hbn:bn < bs.length:=by rw[ae] at YM; lia
    refine⟨_,rfl,_,rfl,_,rfl,pb,_,_,.str bs[bn],rfl,rfl,bG.of A8,cw (by rw[aC,af hbn]; rfl),(by show 1<=sizeLine; decide),fun p9 n9=>?_⟩;have t9:=aF.new (o:= .lst [V.str bs[bn]]) n9;refine⟨ph,p9,_,_,rfl,rfl,t9 _ _ Dv,ag,cJ (bf (by rw[ae]; show hs.length + 1<=1000; lia)),fun KZ IC=>?_⟩;have tR:=t9.trans (aF.new (o:= .lst (hs.map V.str ++ [V.str bs[bn]])) IC);exact uo.mk' (d:= .note (bn:Int) day dP) (ph:=KZ) (hs:=hs ++ [bs[bn]]) Nl FW cB (k5.trans tR.tk) (s5.trans tR) (tR _ _ we) (eL (tR _ _ h8) (hJ (rS _) (hJ (rI _) (hJ (rI _) (hJ (rI _) r0))))) lP (tR _ _ A8) (by lia) (by rw[aL]; exact ag) (by rw[ax]; show hs.length + 1<=_; lia) (tR _ _ mB) (by lia) n1 n2 (aJ (t9 _ _ we) IC).symm (aJ (t9 _ _ mB) IC).symm
   refine⟨_,rfl,_,_,rfl,rfl,_,rfl,cG (fun c4=>?_) (fun c4=>?_)⟩
   ·
    refine⟨_,rfl,.inl ⟨rfl,_,bG.of ou⟩,_,rfl,lX,_,_,rfl,rfl,ou,bf (by rw[ae]; lia),?_⟩;obtain⟨k0,s0,Lx,WN,R0,Nm⟩:=U9 (x:=0 + (i:Int)) WM s4 rP n2 n4 FT AH IB ou;have hR0:=Nl.mono k0;have ZN:=s0.seq ZK;generalize upd H4 lX (.lst (sp.map V.int ++ [.int (0 + (i:Int))]))=H5 at s0 Lx WN R0 Nm hR0 ZN ⊢;refine⟨fun σ' H'=>aF H5 H'/\ ∃part:Int,σ'=[some (.ref a),some (.ref pm),some (.ref pb),some (.ref ph),some (.ref lX),some (.int (0 + (i:Int))),some (.int (cell / 16 % 10 ^ (60:Int).toNat)),some (.int ((cell + 5 * (0 + (i:Int))) % 16)),some (.str aH),some (.int day),some (.int dP),some (.int bl),xW,some (.int part),AW,C2,AX],?_,?_⟩
    ·refine⟨_,rfl,_,rfl,_,_,rfl,rfl,(by show(0:Int) < 3; decide),_,_,rfl,rfl,(by show 2<=sizeLine; decide),fun p9 n9=>?_⟩;refine⟨_,rfl,_,_,rfl,rfl,_,rfl,cG (fun d=>⟨_,rfl,_,_,rfl,rfl,(by show(0:Int) < 4; decide),_,_,rfl,rfl,.inr ⟨_,rfl,p9,_,_,_,rfl,rfl,bG.of ag,(U8 _ _ _).2,?_⟩⟩) (fun d=> .inr ⟨_,rfl,p9,_,_,_,rfl,rfl,bG.of ag,(U8 _ _ _).2,?_⟩)⟩
     ·exact⟨aF.new n9,_,rfl⟩
     ·exact⟨aF.new n9,_,rfl⟩
    rintro σ' H6 ⟨ZO,part,rfl⟩;refine⟨_,rfl,_,rfl,_,rfl,_,rfl,a,_,_,.int cell,rfl,rfl,ZO.seq ZN,RZ,_,rfl,_,_,rfl,rfl,ph,hs,aH,cell,_,rfl,bG.of (ZO _ _ R0),by lia,fun cr0 H7 s67=>?_⟩;have xQ:=ZO.trans s67;refine⟨fun σ' H'=>H'=H7/\ ∃cr:Int,σ'=[some (.ref a),some (.ref pm),some (.ref pb),some (.ref ph),some (.ref lX),some (.int (0 + (i:Int))),some (.int (cell / 16 % 10 ^ (60:Int).toNat)),some (.int ((cell + 5 * (0 + (i:Int))) % 16)),some (.str aH),some (.int day),some (.int dP),some (.int bl),xW,some (.int part),some (.int cr),C2,AX],?_,?_⟩
    ·refine⟨_,rfl,_,rfl,a,_,_,.int cell,rfl,rfl,xQ.seq ZN,RZ,_,_,rfl,rfl,(by show(0:Int) < 41; decide),rfl,_,rfl,cG (fun d=>?_) (fun d=>⟨rfl,_,rfl⟩)⟩;refine⟨_,rfl,_,_,rfl,rfl,⟨by decide,by decide⟩,_,rfl,ph,_,rfl,.inl (bG.of (xQ _ _ R0)),_,_,rfl,rfl,_,_,rfl,rfl,(by show(0:Int) < ((hs.map V.str).length:Int) + 1; lia),?_⟩;exact⟨rfl,_,rfl⟩
    rintro σ' H' ⟨rfl,cr,rfl⟩;have HR:=xQ _ _ Lx;refine⟨_,rfl,.inl ⟨rfl,_,bG.of HR⟩,_,rfl,_,rfl,_,rfl,(by show 4<=sizeLine; decide),fun p8 n8=>?_⟩;refine⟨pm,ms,_,rfl,rfl,aF.new n8 _ _ HR,bf (by lia),?_⟩;obtain⟨k5,s5,we,h8,A8,Dv,mB⟩:=Oh (xs:=[V.str "set",.int cr,.int bl,.int part]) nm (s0.trans xQ) HR n8 n1 n3 FT (xQ _ _ WN) (xQ _ _ R0) (xQ _ _ Nm);exact uo.mk' (d:= .set cr bl part) (hR0.mono xQ.tk) FW cB k5 s5 we (eL h8 (hJ (rS _) (hJ (rI _) (hJ (rI _) (hJ (rI _) r0))))) trivial A8 (by lia) Dv (by lia) mB (by rw[ax]; show sp.length + 1<=_; lia) n1 n2 n3 n4
   refine⟨_,rfl,_,_,rfl,rfl,_,rfl,cG (fun c5=>?_) (fun c5=>?_)⟩
   ·
    refine⟨_,rfl,.inl ⟨rfl,_,bG.of ou⟩,_,rfl,lX,_,_,rfl,rfl,ou,bf (by rw[ae]; lia),?_⟩;obtain⟨k0,s0,Lx,WN,R0,Nm⟩:=U9 (x:=0 + (i:Int)) WM s4 rP n2 n4 FT AH IB ou;refine⟨_,rfl,.inl ⟨rfl,_,bG.of Lx⟩,_,rfl,(by show 2<=sizeLine; decide),fun p8 n8=>?_⟩;refine⟨pm,ms,_,rfl,rfl,aF.new n8 _ _ Lx,bf (by lia),?_⟩;obtain⟨k5,s5,we,h8,A8,Dv,mB⟩:=Oh (xs:=[V.str "sweep",.str aH]) nm s0 Lx n8 n1 n3 FT WN R0 Nm;exact uo.mk' (d:= .bU aH) (Nl.mono k0) FW cB k5 s5 we (eL h8 (hJ (rS _) (hJ (rS _) r0))) trivial A8 (by lia) Dv (by lia) mB (by rw[ax]; show sp.length + 1<=_; lia) n1 n2 n3 n4
   refine⟨_,rfl,rfl,_,rfl,cG (fun c6=>?_) (fun c6=>?_)⟩
   ·
    refine⟨_,rfl,_,rfl,_,rfl,_,_,rfl,rfl,⟨by decide,by decide,by decide⟩,_,rfl,_,_,rfl,rfl,_,rfl,_,_,rfl,rfl,⟨by decide,by decide⟩,_,rfl,_,_,rfl,rfl,_,_,rfl,rfl,(by show(0:Int) < 0 + (i:Int) + 1; lia),_,rfl,_,rfl,_,_,rfl,rfl,(by show 7<=sizeLine; decide),fun p9 n9=>?_⟩;refine⟨lX,p9,_,_,rfl,rfl,aF.new n9 _ _ ou,ag,cJ (bf (by rw[ae]; show sp.length + 7<=1000; lia)),fun RX ZI=>?_⟩;have Cy:=(aF.new (o:= .lst [V.int (0 + (i:Int)),.int (-1),.int (10 ^ (9:Int).toNat),.int 0,.int (0 + (i:Int) - 1),.int ((cell / 16 % 10 ^ (60:Int).toNat) / 3 % (0 + (i:Int) + 1)),.int (-2 - (cell / 16 % 10 ^ (60:Int).toNat))]) n9).trans (aF.new (o:= .lst (sp.map V.int ++ [V.int (0 + (i:Int)),.int (-1),.int (10 ^ (9:Int).toNat),.int 0,.int (0 + (i:Int) - 1),.int ((cell / 16 % 10 ^ (60:Int).toNat) / 3 % (0 + (i:Int) + 1)),.int (-2 - (cell / 16 % 10 ^ (60:Int).toNat))])) ZI);have Vb:=ag (H:=upd H4 p9 (.lst [V.int (0 + (i:Int)),.int (-1),.int (10 ^ (9:Int).toNat),.int 0,.int (0 + (i:Int) - 1),.int ((cell / 16 % 10 ^ (60:Int).toNat) / 3 % (0 + (i:Int) + 1)),.int (-2 - (cell / 16 % 10 ^ (60:Int).toNat))])) (a:=RX) (o:= .lst (sp.map V.int ++ [V.int (0 + (i:Int)),.int (-1),.int (10 ^ (9:Int).toNat),.int 0,.int (0 + (i:Int) - 1),.int ((cell / 16 % 10 ^ (60:Int).toNat) / 3 % (0 + (i:Int) + 1)),.int (-2 - (cell / 16 % 10 ^ (60:Int).toNat))]));generalize upd (upd H4 p9 (.lst [V.int (0 + (i:Int)),.int (-1),.int (10 ^ (9:Int).toNat),.int 0,.int (0 + (i:Int) - 1),.int ((cell / 16 % 10 ^ (60:Int).toNat) / 3 % (0 + (i:Int) + 1)),.int (-2 - (cell / 16 % 10 ^ (60:Int).toNat))])) RX (.lst (sp.map V.int ++ [V.int (0 + (i:Int)),.int (-1),.int (10 ^ (9:Int).toNat),.int 0,.int (0 + (i:Int) - 1),.int ((cell / 16 % 10 ^ (60:Int).toNat) / 3 % (0 + (i:Int) + 1)),.int (-2 - (cell / 16 % 10 ^ (60:Int).toNat))]))=H5 at Cy Vb ⊢;have Vc:sp.map V.int ++ [V.int (0 + (i:Int)),.int (-1),.int (10 ^ (9:Int).toNat),.int 0,.int (0 + (i:Int) - 1),.int ((cell / 16 % 10 ^ (60:Int).toNat) / 3 % (0 + (i:Int) + 1)),.int (-2 - (cell / 16 % 10 ^ (60:Int).toNat))]=(sp ++ [0 + (i:Int),-1,10 ^ (9:Int).toNat,0,0 + (i:Int) - 1,(cell / 16 % 10 ^ (60:Int).toNat) / 3 % (0 + (i:Int) + 1),-2 - (cell / 16 % 10 ^ (60:Int).toNat)]).map V.int:=by rw[aL]; rfl
    rw[Vc] at Vb;generalize Ta:sp ++ [0 + (i:Int),-1,10 ^ (9:Int).toNat,0,0 + (i:Int) - 1,(cell / 16 % 10 ^ (60:Int).toNat) / 3 % (0 + (i:Int) + 1),-2 - (cell / 16 % 10 ^ (60:Int).toNat)]=mn at Vb;have aeX:0 < mn.length:=by rw[← Ta,ax]; show 0 < sp.length + 7; lia
    have hmp:0 < ((mn.map V.int).length:Int):=by rw[ae]; lia
    obtain⟨y,_,hy⟩:=kP (g:=V.int) (xs:=mn) (m:=((mn.map V.int).length:Int)) (x:=(cell / 16 % 10 ^ (60:Int).toNat)) (by rw[ae]) hmp;have QQ:=Cy _ _ rP;refine⟨_,rfl,.inl ⟨rfl,_,bG.of QQ⟩,_,rfl,_,rfl,_,rfl,RX,_,rfl,.inl (bG.of Vb),_,_,rfl,rfl,hmp,RX,_,_,.int y,rfl,rfl,bG.of Vb,hy,(by show 2<=sizeLine; decide),fun p8 n8=>?_⟩;refine⟨pm,ms,_,rfl,rfl,aF.new n8 _ _ QQ,bf (by lia),?_⟩;obtain⟨k5,s5,we,h8,A8,Dv,mB⟩:=Oh (xs:=[V.str "undo",.int y]) nm (s4.trans Cy) QQ n8 n1 n3 FT (Cy _ _ AH) (Cy _ _ IB) (Cy _ _ ou);exact uo.mk' (d:= .gK y) (Nl.mono Cy.tk) FW cB k5 s5 we (eL h8 (hJ (rS _) (hJ (rI _) r0))) trivial A8 (by lia) Dv (by lia) mB (by lia) n1 n2 n3 n4
   refine⟨_,rfl,rfl,_,rfl,cG (fun c7=>?_) (fun c7=>?_)⟩
   ·
    refine⟨_,rfl,.inl ⟨rfl,_,bG.of rP⟩,(by show 2<=sizeLine; decide),fun p9 n9=>?_⟩;have t9:=aF.new (o:= .lst [V.str "owed",.str "free"]) n9;obtain⟨y,YH,hy⟩:=kP (g:=fun o:Bool=>V.str (if o then "owed" else "free")) (xs:=[true,false]) (m:=2) (x:=(cell / 16 % 10 ^ (60:Int).toNat)) rfl (by decide);refine⟨_,rfl,_,_,rfl,rfl,(by show(0:Int) < 2; decide),p9,_,_,_,rfl,rfl,bG.of ag,hy,_,rfl,_,rfl,(by show 3<=sizeLine; decide),fun p8 n8=>?_⟩;have hM9:=t9 _ _ rP;refine⟨pm,ms,_,rfl,rfl,aF.new n8 _ _ hM9,bf (by lia),?_⟩;obtain⟨k5,s5,we,h8,A8,Dv,mB⟩:=Oh (xs:=[V.str (if y then "owed" else "free"),.str aH,.int day]) nm (s4.trans t9) hM9 n8 n1 n3 FT (t9 _ _ AH) (t9 _ _ IB) (t9 _ _ ou);exact uo.mk' (d:= .ask y aH day) (Nl.mono t9.tk) FW cB k5 s5 we (eL h8 (hJ (rS _) (hJ (rS _) (hJ (rI _) r0)))) trivial A8 (by lia) Dv (by lia) mB (by lia) n1 n2 n3 n4
   ·
    obtain⟨R3,ZP,aeY⟩:=zY (cell / 16 % 10 ^ (60:Int).toNat) 12 (by decide);refine⟨_,rfl,_,_,rfl,rfl,(by show(0:Int) < 12; decide),_,rfl,l5 (by decide) (kB _ (by decide)),Int.lt_trans (qF _ (by decide)) (by decide),?_⟩;show yq (NH 0 ((cell / 16 % 10 ^ (60:Int).toNat) % 12).toNat) _ _ _ _ _ _;rw[ZP,cW];refine DR (lo:=0) (n:=R3) (fun D j σ H6=>H4 D=none/\ ∃v,σ=[v,some (.int (cell / 16 % 10 ^ (60:Int).toNat))]/\aF H4 H6/\H6 D=some (.lst ((di (cell / 16 % 10 ^ (60:Int).toNat) j).map V.int))) (fun D hD=>⟨hD,none,rfl,aF.new hD,ag⟩) ?_ ?_
    ·rintro D j σ H6 hj ⟨hD,v,rfl,t3,hl⟩;refine⟨_,rfl,_,_,rfl,rfl,(by show(0:Int) < 9; decide),_,_,rfl,rfl,_,rfl,_,rfl,_,_,rfl,rfl,(by show(0:Int) < 30; decide),_,_,rfl,rfl,_,_,rfl,rfl,.inl ⟨by lia,by lia⟩,_,_,rfl,rfl,?_⟩;refine⟨_,hl,bf (by rw[ae,C3]; lia),hD,_,rfl,t3.dk hD,?_⟩;rw[ag];unfold di;rw[wR,aL,aL]; rfl
    ·rintro D σ H6 _ ⟨hD,v,rfl,t3,hl⟩;have Kt:=t3 _ _ rP;refine⟨_,rfl,.inl ⟨rfl,_,bG.of Kt⟩,_,rfl,_,rfl,_,rfl,D,_,rfl,.inl ⟨bG.of hl,fun pt npt=>?_⟩⟩;have t7:=t3.trans (aF.new (o:= .tup ((di (cell / 16 % 10 ^ (60:Int).toNat) R3).map V.int)) npt);have g7:=ag (H:=H6) (a:=pt) (o:= .tup ((di (cell / 16 % 10 ^ (60:Int).toNat) R3).map V.int));generalize upd H6 pt (.tup ((di (cell / 16 % 10 ^ (60:Int).toNat) R3).map V.int))=H7 at t7 g7 ⊢;refine⟨(by show 4<=sizeLine; decide),fun p8 n8=>?_⟩;have HR:=t7 _ _ rP;refine⟨pm,ms,_,rfl,rfl,aF.new n8 _ _ HR,bf (by lia),?_⟩;obtain⟨k5,s5,we,h8,A8,Dv,mB⟩:=Oh (xs:=[V.str "ages",.str aH,.int day,.ref pt]) nm (s4.trans t7) HR n8 n1 n3 FT (t7 _ _ AH) (t7 _ _ IB) (t7 _ _ ou);exact uo.mk' (d:= .hZ aH day (di (cell / 16 % 10 ^ (60:Int).toNat) R3)) (Nl.mono t7.tk) FW cB k5 s5 we (eL h8 (hJ (rS _) (hJ (rS _) (hJ (rI _) (hJ (eL (k5 _ _ g7) (gY.ints _)) r0))))) (Nk (cell / 16 % 10 ^ (60:Int).toNat) R3 (by lia)) A8 (by lia) Dv (by lia) mB (by lia) n1 n2 n3 n4
  ·rintro σ H2 ⟨pb,ph,bs,hs,sp,ds,ms,x5,x6,x7,x8,x9,CM,CO,xW,FR,AW,C2,AX,rfl,s2,hM,hR,FW,cB,_⟩;rw[ae] at FW;refine⟨_,rfl,?_⟩;exact k pm ds ms H2 s2 hM hR FW cB
def lT.rp {H:Hp}{ok:Addr->Prop}{a:mT}{v:V}(h:lT H ok a v):Rp H a.dt v:=by
 cases a with
 |int i=>exact dA.mpr h
 |txt s=>exact fj.mpr h
 |sets l=>
  obtain⟨D,ms,rfl,_,z,t⟩:=h;exact fb z (iw.Lq t)
 |pairs l=>
  obtain⟨D,ms,rfl,_,z,t⟩:=h;exact fb z (eN.Lq t)
 |«ints» l=>
  obtain⟨D,rfl,_,z⟩:=h;exact fb z (CC l)
def lY {α:Type}(f:α->Dt)(n:Nat): ∀l:List α,(∀x∈l,(f x).size<=n)->Dt.fC (l.map f)<=l.length * n
 |[],_=>bq _
 |x :: l,h=>by
  have h1:=lY f n l fun y hy=>h y (aI _ hy);have h2:=h x aS;rw[cL,bO,wO];show(f x).size + Dt.fC (l.map f)<=_;lia
def mC {α:Type}(f:α->Dt)(l:List α)(h: ∀x∈l,(f x).plain=true):Dt.nE (l.map f)=true:=by
 rw[Dt.qf];intro d hd;obtain⟨x,hx,rfl⟩:=bJ.mp hd;exact h x hx
def Ig {H:Hp}{pd:Addr}{d:bg}(h:sX H pd d): ∃r,H pd=some (.tup (.str (bg.word d) :: r)):=by
 cases d with
 |hZ w dy l=>
  obtain⟨pl,h1,_⟩:=h;exact⟨_,h1⟩
 |_=>exact⟨_,h⟩
def yT (d:bg):wZ (.str (bg.word d)) [.str "bill",.str "pay",.str "note",.str "set",.str "sweep"]=d.tells:=by
 cases d with
 |dM _ _ _ _=>show wZ (.str "bill") _ =true; decide +kernel
 |pz _ _ _=>show wZ (.str "pay") _ =true; decide +kernel
 |note _ _ _=>show wZ (.str "note") _ =true; decide +kernel
 |set _ _ _=>show wZ (.str "set") _ =true; decide +kernel
 |bU _=>show wZ (.str "sweep") _ =true; decide +kernel
 |gK _=>show wZ (.str "undo") _ =false; decide +kernel
 |ask o _ _=>
  cases o
  ·show wZ (.str "free") _ =false; decide +kernel
  ·show wZ (.str "owed") _ =false; decide +kernel
 |hZ _ _ _=>show wZ (.str "ages") _ =false; decide +kernel
def Nn (xs:List V)(a b:Nat)(h:a<=b):(mR xs (some (a:Int)) (some (b:Int))).length<=b - a:=by
 unfold mR;rw[HT.oC,HT.oC,ba];lia
def Np (ns:List Int)(lo hi:Option Int): ∃cs:List Int,mR (ns.map V.int) lo hi=cs.map V.int:=by
 unfold mR;rw[← List.map_drop,← List.map_take];exact⟨_,rfl⟩
def K0 {H:Hp}{ok:Addr->Prop}: ∀{as:List mT} {ws:List V},Paired (lT H ok) as ws->gY H (as.map mT.dt) ws
 |_,_,.nil=>cq.mpr rfl
 |_,_,.cons h t=>br.mpr ⟨_,_,rfl,h.rp,K0 t⟩
def K1 {H:Hp}{tb:Addr}{pos:Pos}{qual:Str}(h:H tb=some (.mY #[])):Tb H tb pos qual:=⟨#[],h,True.intro,.inl rfl⟩
def K2 (K:Frag)(cps:List (Addr×Addr)):Sp:=fun vs H Q _=> ∃(a:Addr) (ns:List Int),vs=[.ref a]/\bG K H a (ns.map V.int)/\ns.length<=63/\(∀cp∈cps,H cp.2=some (.mY #[]))/\ ∀H',Q (.bl true) H'
def FX {H:Hp}{sd p:Addr}{S:Bk}{f:fJ}{ws:List V}{o:HO}(h:dr H sd S f)(e:H p=some (.lst ws))(n:p∉f.fp):dr (upd H p o) sd S f:=
 h.keep (fun b u hb z=>by
  have nb:b≠p:=by
   rcases hb with hb|hb
   ·rw[hb];exact mH h.dict e (by intro q; cases q)
   ·exact fun q=>n (q▸hb)
  rw[az nb];exact z) (dU e)
inductive K3 (vs:List V)(H:Hp)(Q:VK)(E':XK):Prop
 |mk (pa:Addr)(ds:List bg)(ms:List V)(h1:vs=[.ref pa])(h2:H pa=some (.lst ms))(h3:eD H ds ms)(h4:ds.length<=59)(h5:(∀d∈ds,d.ok))(h6: ∀(t:Addr) (v:V) (ps sd:Addr) (us:List V) (f:fJ) (H':Hp),aF H H'->H' t=some (.tup [v,.ref ps,.ref sd])->H' ps=some (.lst us)->gS H' (dN ds gZ.new 0).2.steps us->dr H' sd (dN ds gZ.new 0).2.bk f->(∀x∈f.fp,H x=none)->ps∉f.fp->Good (dN ds gZ.new 0).2 ds.length->Q (.ref t) H'):K3 vs H Q E'
def jq:aU ["_law_asked","_law_steps","_law_state","_law_due","_law_number","_law_deed","_law_answer"] ["_law_asked"] (aA (top 63)):={}
def o8 (T:Txt K mg):fu P w K mg base "_law_gone_through" 6 ["_law_asked"] K3:=by
 have mx:=rE (P:=P) (w:=w) (base:=base) T;have AZ:=Ai (P:=P) (w:=w) (base:=base) T;have C4:=Cz (P:=P) (w:=w) (base:=base) T;refine T.o4.fQ (k:=5) jq (fun f cY A outer s H vs Q E hr h=>?_)
 ·obtain⟨pa,ds,ms,rfl,Nc,KS,FW,cB,k⟩:=h;have nd:=jq.nd;have Iz:=eD.length KS;refine⟨_,(ai (sv 1 nd (bS aw))
(ai (sv 2 nd (Jn mx (hr.mono (by decide)) rfl))
(ai (sv 3 nd (bS aw))
(ai (eJ bB rfl (i0 rfl T.mm (aa (oJ T.eE (pv 0)) aw)) (gn 4 nd)
(ai (sv 5 nd (xl (pv 0) (pv 4)))
(ai (sv 6 nd aR)
(jH (bT (PW.pt (pw_or (fM (fc AZ hr (aa (pv 5) aw))) (pw_or1 (a0 dg (xt (pv 5) aj) aR (bb _)))))
(av (ng (fc C4 hr (aa (pv 1) (aa (pv 2) (aa (pv 4) (aa (pv 5) aw))))) (gT (bW (gn 6 nd) (bW (gn 1 nd) (bW (gn 2 nd) gq))))))
bp)
(av (bM (qo (pv 3) (pv 6))))))))
(av (a9 (cK (aa (pv 3) (aa (pv 1) (aa (pv 2) aw)))))))))),?_⟩
  refine⟨bq _,fun ps Ez=>?_⟩;have s6:=aF.new (o:= .lst []) Ez;have QR:upd H ps (.lst []) ps=some (.lst []):=ag;generalize upd H ps (.lst [])=H6 at s6 QR;refine⟨rfl,fun sd g H7 s7 Vd MD nf=>?_⟩;have Ve:=s7 _ _ QR;have xQ:=s6.trans s7;have ZQ:ps∉g.fp:=fun z=>by
   have:=nf _ z;rw[QR] at this;cases this
  have nf5: ∀b∈g.fp,H b=none:=fun b hb=>s6.free (nf b hb);refine⟨bq _,fun pu WO=>?_⟩;have s8:=aF.new (o:= .lst []) WO;have Vf:upd H7 pu (.lst []) pu=some (.lst []):=ag;have Vg:=s8 _ _ Ve;have EL:=Vd.same s8;have ZR:pu∉g.fp:=Vd.off WO;have ZS:pu≠ps:=(aJ Ve WO).symm;have ZT:=xQ.trans s8;have ZU:H pu=none:=xQ.free WO;generalize upd H7 pu (.lst [])=H8 at s8 Vf Vg EL ZT;refine⟨_,rfl,pa,_,rfl,.inl (bG.of (ZT _ _ Nc)),(ms.length:Int),rfl,by lia,by lia,?_⟩;rw[cW];refine jO (lo:=0) (n:=ms.length) (fun i σ H2=> ∃(ps sd:Addr) (us ws:List V) (f:fJ) (x4 x5 x6:Option V),σ=[some (.ref pa),some (.ref ps),some (.ref sd),some (.ref pu),x4,x5,x6]/\aF H H2/\H2 ps=some (.lst us)/\gS H2 (dN (ds.take i) gZ.new 0).2.steps us/\dr H2 sd (dN (ds.take i) gZ.new 0).2.bk f/\(∀x∈f.fp,H x=none)/\ps∉f.fp/\Good (dN (ds.take i) gZ.new 0).2 i/\H2 pu=some (.lst ws)/\ws.length=i/\pu∉f.fp/\pu≠ps)
   ⟨ps,sd,[],[],g,none,none,none,rfl,ZT,Vg,.nil,EL,nf5,ZQ,Good.new,Vf,rfl,ZR,ZS⟩ ?_ ?_
  ·rintro i σ H2 hi ⟨ps,sd,us,ws,f,x4,x5,x6,rfl,s2,mZ,QS,hB,Oi,Ez,hG,hpu,yo,Lw,ZV⟩;rw[jN];have zq:i < ds.length:=by lia
   have qH:=af zq;obtain⟨v0,Yb,UC⟩:=eD.get KS qH;obtain⟨pd,rfl,hd5⟩:=FO UC;have hd:=hd5.mono s2.tk;have Ni:=cB _ (bH zq);have WK:=yS zq;have pH:Good (cV (dN (ds.take i) gZ.new 0).2 (i:Int) ds[i]).2 (i + 1):=hG.step ds[i];rw[WK];generalize ds[i]=d at hd Ni pH;generalize (dN (ds.take i) gZ.new 0).2=TT at QS hB hG pH;clear WK UC hd5 qH;refine⟨_,rfl,_,rfl,pa,_,_,.ref pd,rfl,rfl,bG.of (s2 _ _ Nc),cw Yb,?_⟩;refine⟨fun σ' H'=> ∃(v:V) (vX Dq:Addr) (Aj:List V) (f':fJ),σ'=[some (.ref pa),some (.ref vX),some (.ref Dq),some (.ref pu),some (.int (i:Int)),some (.ref pd),some v]/\aF H H'/\H' vX=some (.lst Aj)/\gS H' (cV TT i d).2.steps Aj/\dr H' Dq (cV TT i d).2.bk f'/\(∀x∈f'.fp,H x=none)/\vX∉f'.fp/\H' pu=some (.lst ws)/\pu∉f'.fp/\pu≠vX,?_,?_⟩
   ·obtain⟨r,hdw⟩:=Ig hd;refine⟨_,rfl,pd,bg.word d,r,rfl,hdw,fun H3 s3=>⟨_,rfl,?_⟩⟩;have N8:=hd.mono s3.tk;have ZW:=s3 _ _ hdw;have HF:=s3 _ _ mZ;have Nq:gS H3 TT.steps us:=QS.mono s3.tk;have KW:=hB.same s3;have WQ:=s2.trans s3;have K4:=s3 _ _ hpu;have Oj: ∀(R:VK),(∀t v vX Dq Aj f' H',H' t=some (.tup [v,.ref vX,.ref Dq])->aF H H'->H' vX=some (.lst Aj)->gS H' (cV TT i d).2.steps Aj->dr H' Dq (cV TT i d).2.bk f'->(∀x∈f'.fp,H x=none)->vX∉f'.fp->H' pu=some (.lst ws)->pu∉f'.fp->pu≠vX->R (.ref t) H')->N7 R H3 ps f (cV TT i d):=fun R h t v vX Dq f' Aj H' ht hv hp hS hb fr fi np nq=>
     h t v vX Dq Aj f' H' ht (fr.same WQ Oi) hp hS hb (fun x hx=>(fi x hx).elim (Oi x) fun z=>WQ.free z) np (fr _ _ Lw K4) (fun z=>(fi pu z).elim Lw fun q=>by rw[K4] at q; cases q) (fun z=>ZV (z.trans (nq pu _ Lw K4 z.symm)))
    by_cases ht:d.tells=true
    ·rw[yT,ht];have Gq:H3 pd=some (.tup (bg.vs d)):=by cases d <;> first|exact N8|cases ht
     refine fP (fP ⟨_,rfl,_,rfl,_,rfl,_,rfl,ps,sd,pd,i,TT,us,f,d,rfl,HF,Nq,KW,Ez,Gq,.inl ht,hG,(by lia),Oj _ fun t v vX Dq Aj f' H' ht Md hp hS hb hn ZX u1 u2 u3=>?_⟩);refine⟨t,_,rfl,cE.of ht,rfl,_,_,rfl,_,_,rfl,_,_,rfl,rfl,?_⟩;exact⟨v,vX,Dq,Aj,f',rfl,Md,hp,hS,hb,hn,ZX,u1,u2,u3⟩
    ·rw[yT,Bool.eq_false_iff.mpr ht];refine bX ⟨_,rfl,pd,_,_,.str (bg.word d),rfl,rfl,cE.of ZW,KJ _ _,rfl,?_⟩;cases d with
     |dM _ _ _ _=>exact absurd rfl ht
     |pz _ _ _=>exact absurd rfl ht
     |note _ _ _=>exact absurd rfl ht
     |set _ _ _=>exact absurd rfl ht
     |bU _=>exact absurd rfl ht
     |gK m=>
      refine⟨true,A6 _,fP ⟨_,rfl,_,rfl,_,rfl,_,rfl,ps,sd,pd,i,TT,us,f,.gK m,rfl,HF,Nq,KW,Ez,N8,.inr ⟨m,rfl⟩,hG,(by lia),Oj _ fun t v vX Dq Aj f' H' ht Md hp hS hb hn ZX u1 u2 u3=>?_⟩⟩;refine⟨t,_,rfl,cE.of ht,rfl,_,_,rfl,_,_,rfl,_,_,rfl,rfl,?_⟩;exact⟨v,vX,Dq,Aj,f',rfl,Md,hp,hS,hb,hn,ZX,u1,u2,u3⟩
     |ask o wh dy=>
      refine⟨false,jK (by cases o; exact(show("free":Str)≠"undo" by decide +kernel); exact(show("owed":Str)≠"undo" by decide +kernel)),bX ?_⟩;exact⟨_,ps,sd,us,f,rfl,WQ,HF,Nq,KW,Oi,Ez,K4,Lw,ZV⟩
     |hZ wh dy di=>
      refine⟨false,jK (show("ages":Str)≠"undo" by decide +kernel),bX ?_⟩;exact⟨_,ps,sd,us,f,rfl,WQ,HF,Nq,KW,Oi,Ez,K4,Lw,ZV⟩
   ·rintro σ' H' ⟨v,vX,Dq,Aj,f',rfl,s',N4,ZK,Vh,ZY,ZZ,u1,u2,u3⟩;refine⟨_,rfl,.inl ⟨rfl,_,bG.of u1⟩,_,rfl,pu,ws,v,rfl,rfl,u1,bf (by lia),?_⟩;exact⟨vX,Dq,Aj,ws ++ [v],f',_,_,_,rfl,s'.dk ZU,by rw[az u3.symm]; exact N4,ZK.mono (dU u1),FX Vh u1 u2,ZY,ZZ,pH,ag,by rw[ax,yo]; rfl,u2,u3⟩
  ·rintro σ H2 ⟨ps,sd,us,ws,f,x4,x5,x6,rfl,s2,mZ,QS,hB,Oi,Ez,hG,hpu,_⟩;rw[← Iz,aZ] at QS hB hG;refine⟨_,rfl,_,rfl,_,rfl,(by show 3<=sizeLine; decide),fun t nt=>?_⟩;have s9:=aF.new (o:= .tup [V.ref pu,.ref ps,.ref sd]) nt;exact k t _ ps sd us f _ (s2.trans s9) ag (s9 _ _ mZ) (QS.mono s9.tk) (hB.same s9) Oi Ez hG
end
end eV
namespace L2
open PySem
def C5 (ms:List (Nat×Nat×Int))(k:Nat):Int:=((ms.filter fun t=>decide (t.2.1=k)).map (·.2.2)).sum
def C6 (ms:List (Nat×Nat×Int))(k:Nat):Int:=((ms.filter fun t=>decide (t.1=k)).map (·.2.2)).sum
def Ih (ms:List (Nat×Nat×Int))(t:Nat×Nat×Int)(k:Nat):C5 (ms ++ [t]) k=C5 ms k + if t.2.1=k then t.2.2 else 0:=by
 unfold C5;rw[gj,aL,LC];by_cases h:t.2.1=k <;> simp[h]
def Ij (ms:List (Nat×Nat×Int))(t:Nat×Nat×Int)(k:Nat):C6 (ms ++ [t]) k=C6 ms k + if t.1=k then t.2.2 else 0:=by
 unfold C6;rw[gj,aL,LC];by_cases h:t.1=k <;> simp[h]
def Ik {ms:List (Nat×Nat×Int)}{k:Nat}(h: ∀t∈ms,t.2.1≠k):C5 ms k=0:=by
 unfold C5;rw[List.filter_eq_nil_iff.mpr fun t ht=>by simp[h t ht]];rfl
def Il {ms:List (Nat×Nat×Int)}{k:Nat}(h: ∀t∈ms,t.1≠k):C6 ms k=0:=by
 unfold C6;rw[List.filter_eq_nil_iff.mpr fun t ht=>by simp[h t ht]];rfl
structure Acc (S:Bk):Prop where
 m: ∀t∈S.made,t.1 < S.credits.length/\t.2.1 < S.aE.length/\1<=t.2.2/\S.de t.1 t.2.1=true
 b: ∀k,k < S.aE.length->(S.bl k).d=(S.bl k).c - C5 S.made k/\0<=(S.bl k).d
 c: ∀k,k < S.credits.length->(S.cr k).d=(S.cr k).b - C6 S.made k/\0<=(S.cr k).d
def Acc.new:Acc Bk.new:=⟨(fun _ h=>by cases h),fun _ h=>absurd h (en _),fun _ h=>absurd h (en _)⟩
def Acc.iz {S:Bk}(h:Acc S){r:Rw}(e:r.d=r.c)(p:0<=r.d):Acc (S.iz r):=by
 have len:(S.iz r).aE.length=S.aE.length + 1:=by simp[Bk.iz]
 have old: ∀k,k < S.aE.length->(S.iz r).bl k=S.bl k:=fun k hk=>getD_snoc hk;refine⟨fun t ht=>?_,fun k hk=>?_,h.c⟩
 ·obtain⟨a,b,c,d⟩:=h.m t ht;refine⟨a,by rw[len]; lia,c,?_⟩;rw[← d];unfold Bk.de;rw[old _ b];rfl
 ·by_cases q:k < S.aE.length
  ·rw[old k q];exact h.b k q
  ·have q':k=S.aE.length:=by lia
   have e2:(S.iz r).bl k=r:=by rw[q']; exact getD_last
   rw[e2,show(S.iz r).made=S.made from rfl,Ik fun t ht=>by have:=(h.m t ht).2.1; lia];lia
def Acc.fU {S:Bk}(h:Acc S){r:Rw}(e:r.d=r.b)(p:0<=r.d):Acc (S.fU r):=by
 have len:(S.fU r).credits.length=S.credits.length + 1:=by simp[Bk.fU]
 have old: ∀k,k < S.credits.length->(S.fU r).cr k=S.cr k:=fun k hk=>getD_snoc hk;refine⟨fun t ht=>?_,h.b,fun k hk=>?_⟩
 ·obtain⟨a,b,c,d⟩:=h.m t ht;refine⟨by rw[len]; lia,b,c,?_⟩;rw[← d];unfold Bk.de;rw[old _ a];rfl
 ·by_cases q:k < S.credits.length
  ·rw[old k q];exact h.c k q
  ·have q':k=S.credits.length:=by lia
   have e2:(S.fU r).cr k=r:=by rw[q']; exact getD_last
   rw[e2,show(S.fU r).made=S.made from rfl,Il fun t ht=>by have:=(h.m t ht).1; lia];lia
def Acc.put {S:Bk}(h:Acc S){c b:Nat}{x:Int}(hc:c < S.credits.length)(hb:b < S.aE.length)(hx:1<=x)(x1:x<=(S.cr c).d)(x2:x<=(S.bl b).d)(hg:S.de c b=true):Acc (S.put c b x):=by
 have L:Later S (S.put c b x):=Later.put hb hc (by lia);refine⟨fun t ht=>?_,fun k hk=>?_,fun k hk=>?_⟩
 ·rw[L.cl,L.bl,L.de];rcases bc.mp (show t∈S.made ++ [(c,b,x)] from ht) with ht|ht
  ·exact h.m t ht
  ·rw[ao.mp ht];exact⟨hc,hb,hx,hg⟩
 ·rw[L.bl] at hk;rw[show(S.put c b x).made=S.made ++ [(c,b,x)] from rfl,Ih,lg hb];have:=h.b k hk;by_cases e:k=b
  ·subst e;rw[aY rfl,aY rfl];show(S.bl k).d - x=(S.bl k).c - (C5 S.made k + x)/\0<=(S.bl k).d - x;lia
  ·rw[aN e,aN (fun z=>e z.symm)];lia
 ·rw[L.cl] at hk;rw[show(S.put c b x).made=S.made ++ [(c,b,x)] from rfl,Ij,nG hc];have:=h.c k hk;by_cases e:k=c
  ·subst e;rw[aY rfl,aY rfl];show(S.cr k).d - x=(S.cr k).b - (C6 S.made k + x)/\0<=(S.cr k).d - x;lia
  ·rw[aN e,aN (fun z=>e z.symm)];lia
def sZ {ex:Bool}{c:Nat}: ∀{l:List Nat} {S:Bk},l.Nodup->Acc S->c < S.credits.length->(∀b∈l,b < S.aE.length/\0 < (S.bl b).d)->Acc (l.foldl (bu ex c) S)/\(l.foldl (bu ex c) S).credits.length=S.credits.length/\(l.foldl (bu ex c) S).aE.length=S.aE.length
 |[],S,_,h,_,_=>⟨h,rfl,rfl⟩
 |b :: l,S,nd,h,hc,hl=>by
  rw[cz];rw[dI] at nd;obtain⟨hb,pb⟩:=hl b aS;by_cases q:0 < (S.cr c).d/\S.de c b=true/\((S.cr c).d=(S.bl b).d∨ex=false)
  ·have e:bu ex c S b=S.put c b (eR (S.cr c).d (S.bl b).d):=aY q;rw[e];have mn:1<=eR (S.cr c).d (S.bl b).d/\eR (S.cr c).d (S.bl b).d<=(S.cr c).d/\eR (S.cr c).d (S.bl b).d<=(S.bl b).d:=by
    unfold eR;split <;> lia
   have L:Later S (S.put c b (eR (S.cr c).d (S.bl b).d)):=Later.put hb hc (by lia);obtain⟨r1,r2,r3⟩:=sZ (ex:=ex) nd.2 (h.put hc hb mn.1 mn.2.1 mn.2.2 q.2.1) (by rw[L.cl]; exact hc) (fun b' l8=>by
    obtain⟨u1,u2⟩:=hl b' (aI _ l8);refine⟨by rw[L.bl]; exact u1,?_⟩;have nb:b'≠b:=fun z=>nd.1 (z▸l8);rw[lg hb,aN nb];exact u2)
   exact⟨r1,r2.trans L.cl,r3.trans L.bl⟩
  ·have e:bu ex c S b=S:=aN q;rw[e];exact sZ nd.2 h hc fun b' l8=>hl b' (aI _ l8)
def ow {ex:Bool}{aH:Str}: ∀{l:List Nat} {S:Bk},Acc S->(∀c∈l,c < S.credits.length)->Acc (l.foldl (bC aH ex) S)
 |[],_,h,_=>h
 |c :: l,S,h,hl=>by
  rw[cz];obtain⟨r1,r2,_⟩:=sZ (ex:=ex) (gO S.aE aH (·.b)) h (hl c aS) (fun b hb=>⟨(bP.mp hb).1,(bP.mp hb).2.2⟩);exact ow r1 fun c' Bi=>by
   show c' < (bC aH ex S c).credits.length;rw[show(bC aH ex S c).credits.length=S.credits.length from r2];exact hl c' (aI _ Bi)
def Acc.dm {S:Bk}(h:Acc S)(aH:Str):Acc (S.dm aH):=
 ow (ow h fun c hc=>(bP.mp hc).1) fun c hc=>(bP.mp hc).1
def Acc.enter {S:Bk}(h:Acc S){d:bg}(hb:S.bar d=""):Acc (S.enter d):=by
 cases d with
 |dM w dy u a=>
  refine h.iz rfl ?_;have l8:(if a < 1 then("no amount":Str) else if u < dy then("too early":Str) else("":Str))="":=hb;split at l8
  ·exact absurd l8 n4
  ·show 0<=a; lia
 |pz w dy a=>
  refine h.fU rfl ?_;have l8:(if a < 1 then("no amount":Str) else("":Str))="":=hb;split at l8
  ·exact absurd l8 n4
  ·show 0<=a; lia
 |note b dy a=>
  refine h.fU rfl ?_;have:=(oG hb).2;show 0<=a;lia
 |set c b a=>
  obtain⟨⟨c1,c2⟩,⟨b1,b2⟩,g,x,m1,m2⟩:=lI hb;exact h.put (by lia) (by lia) x m1 m2 g
 |bU w=>exact h.dm w
 |gK m=>exact h
 |ask o w d=>exact h
 |hZ w d l=>exact h
def wD: ∀(l:List (Int×bg)) {S T:Bk},Acc S->cy l S=some T->Acc T
 |[],S,T,h,e=>by
  cases e;exact h
 |(k,d) :: l,S,T,h,e=>by
  unfold cy at e;split at e
  ·rename_i hb;exact wD l (h.enter hb) e
  ·cases e
def Good.acc {T:gZ}{n:Nat}(h:Good T n):Acc T.bk:=wD T.steps Acc.new h.w
def Quiet (S:Bk)(w:Str):Prop:= ∀c b,(S.cr c).aH=w->(S.bl b).aH=w->S.de c b=true->(S.cr c).d<=0∨(S.bl b).d<=0
def Quiet.later {S T:Bk}{w:Str}(h:Quiet S w)(l:Later S T):Quiet T w:=fun c b h1 h2 h3=>by
 rw[(l.c c).1.1] at h1;rw[(l.b b).1.1] at h2;rw[l.de] at h3;have:=(l.c c).2;have:=(l.b b).2;rcases h c b h1 h2 h3 with z|z
 ·exact .inl (by lia)
 ·exact .inr (by lia)
def tW {ex:Bool}{c:Nat}{S:Bk}: ∀{l:List Nat},(∀b∈l,S.de c b=true->(S.cr c).d<=0)->l.foldl (bu ex c) S=S
 |[],_=>rfl
 |b :: l,h=>by
  rw[cz];have e:bu ex c S b=S:=by
   unfold bu;rw[aN];rintro⟨z1,z2,_⟩;have:=h b aS z2;lia
  rw[e];exact tW fun b' l8=>h b' (aI _ l8)
def pQ {ex:Bool}{w:Str}{S:Bk}(q:Quiet S w): ∀{l:List Nat},(∀c∈l,(S.cr c).aH=w)->l.foldl (bC w ex) S=S
 |[],_=>rfl
 |c :: l,h=>by
  rw[cz];have e:bC w ex S c=S:=tW fun b hb hg=>by
   obtain⟨_,b2,b3⟩:=bP.mp hb;rcases q c b (h c aS) b2 hg with z|z
   ·exact z
   ·have:0 < (S.bl b).d:=b3;lia
  rw[e];exact pQ q fun c' Bi=>h c' (aI _ Bi)
def Quiet.round {S:Bk}{w:Str}(q:Quiet S w)(ex:Bool):bN w S ex=S:=pQ q fun c hc=>(bP.mp hc).2.1
def Quiet.dm {S:Bk}{w:Str}(q:Quiet S w):S.dm w=S:=by
 unfold Bk.dm;rw[q.round,q.round]
def yU {c:Nat}: ∀{l:List Nat} {S:Bk},l.Nodup->c < S.credits.length->(∀b∈l,b < S.aE.length/\0 < (S.bl b).d)->Later S (l.foldl (bu false c) S)/\ ∀b∈l,S.de c b=true->((l.foldl (bu false c) S).cr c).d<=0∨((l.foldl (bu false c) S).bl b).d<=0
 |[],S,_,_,_=>⟨Later.refl _,fun b h=>by cases h⟩
 |b :: l,S,nd,hc,hl=>by
  rw[cz];rw[dI] at nd;obtain⟨hb,pb⟩:=hl b aS;have key: ∀{T:Bk},Later S T->(∀b',b'≠b->T.bl b'=S.bl b')->(S.de c b=true->(T.cr c).d<=0∨(T.bl b).d<=0)->Later S (l.foldl (bu false c) T)/\ ∀b'∈b :: l,S.de c b'=true->((l.foldl (bu false c) T).cr c).d<=0∨((l.foldl (bu false c) T).bl b').d<=0:=fun{T} L ho hd=>by
   obtain⟨L2,r⟩:=yU (S:=T) nd.2 (by rw[L.cl]; exact hc) (fun b' l8=>by
    obtain⟨u1,u2⟩:=hl b' (aI _ l8);exact⟨by rw[L.bl]; exact u1,by rw[ho b' fun z=>nd.1 (z▸l8)]; exact u2⟩)
   refine⟨L.trans L2,fun b' l8 hg=>?_⟩;rcases au.mp l8 with rfl|l8
   ·have h1:=(L2.c c).2;have h2:=(L2.b b').2;rcases hd hg with z|z
    ·exact .inl (by lia)
    ·exact .inr (by lia)
   ·exact r b' l8 (by rw[L.de]; exact hg)
  by_cases q:0 < (S.cr c).d/\S.de c b=true/\((S.cr c).d=(S.bl b).d∨false=false)
  ·have e:bu false c S b=S.put c b (eR (S.cr c).d (S.bl b).d):=aY q;rw[e];have mn:0<=eR (S.cr c).d (S.bl b).d:=by
    unfold eR;split <;> lia
   refine key (Later.put hb hc mn) (fun b' nb=>by rw[lg hb,aN nb]) fun _=>?_;rw[lg hb,nG hc,aY rfl,aY rfl];show(S.cr c).d - eR (S.cr c).d (S.bl b).d<=0∨(S.bl b).d - eR (S.cr c).d (S.bl b).d<=0;unfold eR;split <;> lia
  ·have e:bu false c S b=S:=aN q;rw[e];refine key (Later.refl S) (fun _ _=>rfl) fun hg=> .inl ?_;exact Classical.byContradiction fun z=>q ⟨by lia,hg,.inr rfl⟩
def tX {w:Str}: ∀{l:List Nat} {S:Bk},(∀c∈l,c < S.credits.length)->Later S (l.foldl (bC w false) S)/\ ∀c∈l,∀b,b < S.aE.length->(S.bl b).aH=w->S.de c b=true->((l.foldl (bC w false) S).cr c).d<=0∨((l.foldl (bC w false) S).bl b).d<=0
 |[],S,_=>⟨Later.refl _,fun c h=>by cases h⟩
 |c :: l,S,hl=>by
  rw[cz];obtain⟨L1,r1⟩:=yU (gO S.aE w (·.b)) (hl c aS) (fun b hb=>⟨(bP.mp hb).1,(bP.mp hb).2.2⟩);have L1:Later S (bC w false S c):=L1;obtain⟨L2,r2⟩:=tX (w:=w) (l:=l) (S:=bC w false S c) (fun c' Bi=>by rw[L1.cl]; exact hl c' (aI _ Bi));refine⟨L1.trans L2,fun c' Bi b hb hw hg=>?_⟩;rcases au.mp Bi with rfl|Bi
  ·have h1:=(L2.c c').2;have h2:=(L2.b b).2;by_cases p:0 < (S.bl b).d
   ·have h3:((bC w false S c').cr c').d<=0∨((bC w false S c').bl b).d<=0:=r1 b (bP.mpr ⟨hb,hw,p⟩) hg;rcases h3 with z|z
    ·exact .inl (by lia)
    ·exact .inr (by lia)
   ·have h3:=(L1.b b).2;exact .inr (by lia)
  ·exact r2 c' Bi b (by rw[L1.bl]; exact hb) (by rw[(L1.b b).1.1]; exact hw) (by rw[L1.de]; exact hg)
def Ol {l:List Rw}{k:Nat}(h: ¬ k < l.length):(l.getD k default).d=0:=by
 rw[ak,l4 (by lia)];rfl
def C7 (S:Bk)(w:Str):Quiet (S.dm w) w:=by
 have L0:=(qZ S w true).1;unfold Bk.dm;generalize bN w S true=T at L0;obtain⟨L,r⟩:=tX (w:=w) (l:=inTurn T.credits w (·.a)) (S:=T) (fun c hc=>(bP.mp hc).1);have L:Later T (bN w T false):=L;intro c b h1 h2 h3;have h4:=(L.c c).2;have h5:=(L.b b).2;rw[(L.c c).1.1] at h1;rw[(L.b b).1.1] at h2;rw[L.de] at h3;by_cases hb:b < T.aE.length
 ·by_cases hc:c < T.credits.length
  ·by_cases p:0 < (T.cr c).d
   ·exact r c (bP.mpr ⟨hc,h1,p⟩) b hb h2 h3
   ·exact .inl (by lia)
  ·have:(T.cr c).d=0:=Ol hc;exact .inl (by lia)
 ·have:(T.bl b).d=0:=Ol hb;exact .inr (by lia)
def fW (S:Bk)(ws:List Str):Bk:=ws.foldl Bk.dm S
def C8 (S:Bk)(ws:List Str)(w:Str):fW S (ws ++ [w])=(fW S ws).dm w:=by
 unfold fW;rw[lB];rfl
def jL: ∀(ws:List Str) (S:Bk),Later S (fW S ws)
 |[],S=>Later.refl S
 |w :: ws,S=>(nI S w).1.trans (jL ws (S.dm w))
def rX: ∀(ws:List Str) (S:Bk) (w:Str),w∈ws->Quiet (fW S ws) w
 |w' :: ws,S,w,h=>by
  rcases au.mp h with rfl|h
  ·exact(C7 S w).later (jL ws _)
  ·exact rX ws (S.dm w') w h
def wF: ∀(ws:List Str) {S:Bk},Acc S->Acc (fW S ws)
 |[],_,h=>h
 |w :: ws,S,h=>wF ws (h.dm w)
structure mN (S:Bk)(D:Int):Prop where
 b: ∀k,k < S.aE.length->(S.bl k).a<=D
 c: ∀k,k < S.credits.length->(S.cr k).a<=D
def mN.ni {S T:Bk}{D:Int}(h:mN S D)(l:Later S T):mN T D:=⟨fun k hk=>by rw[(l.b k).1.2.1]; exact h.b k (by rw[← l.bl]; exact hk),fun k hk=>by rw[(l.c k).1.2.1]; exact h.c k (by rw[← l.cl]; exact hk)⟩
def A0 {l:List Rw}{r:Rw}{D:Int}(h: ∀k,k < l.length->(l.getD k default).a<=D)(hr:r.a<=D)(k:Nat)(hk:k < (l ++ [r]).length):((l ++ [r]).getD k default).a<=D:=by
 rw[ax] at hk;by_cases q:k < l.length
 ·rw[getD_snoc q];exact h k q
 ·have q':k=l.length:=by have e:[r].length=1:=rfl; lia
  rw[q',getD_last];exact hr
def mN.enter {S:Bk}{d:bg}(h:mN S eu)(hk:d.ok)(hb:S.bar d=""):mN (S.enter d) eu:=by
 cases d with
 |dM w dy u a=>exact⟨A0 h.b hk,h.c⟩
 |pz w dy a=>exact⟨h.b,A0 h.c hk⟩
 |note b dy a=>exact⟨h.b,A0 h.c hk⟩
 |set c b a=>exact h.ni (i7 (d:= .set c b a) rfl hb)
 |bU w=>exact h.ni (i7 (d:= .bU w) rfl hb)
 |gK m=>exact h
 |ask o w d=>exact h
 |hZ w d l=>exact h
def wG: ∀(l:List (Int×bg)) {S T:Bk},(∀st∈l,st.2.ok)->mN S eu->cy l S=some T->mN T eu
 |[],S,T,_,h,e=>by
  cases e;exact h
 |(k,d) :: l,S,T,hk,h,e=>by
  unfold cy at e;split at e
  ·rename_i hb;exact wG l (fun st hs=>hk st (aI _ hs)) (h.enter (hk (k,d) aS) hb) e
  ·cases e
def K5 {T:gZ}{n:Int}{d:bg}(h: ∀st∈T.steps,st.2.ok)(hd:d.ok): ∀st∈(cV T n d).2.steps,st.2.ok:=by
 have add: ∀(a:mT) (b:mT) (B:Bk) (c:Prop) [Decidable c],∀st∈(if c then(a,(⟨T.steps ++ [(n,d)],B⟩:gZ)) else(b,T)).2.steps,st.2.ok:=fun a b B c _=>by
  split
  ·intro st hs;rcases bc.mp hs with hs|hs
   ·exact h st hs
   ·rw[ao.mp hs];exact hd
  ·exact h
 cases d with
 |gK m=>
  show ∀st∈(if(T.steps.filter (cD m)).length=T.steps.length then(mT.txt "no setting",T) else
   match cy (T.steps.filter (cD m)) Bk.new with
   |none=>(.txt "needed",T)
   |some S=>(.txt "undone",⟨T.steps.filter (cD m),S⟩)).2.steps,st.2.ok
  split
  ·exact h
  ·split
   ·exact h
   ·exact fun st hs=>h st (ee.mp hs).1
 |ask o w d=>exact h
 |hZ w d l=>exact h
 |dM w d u a=>exact add _ _ _ _
 |pz w d a=>exact add _ _ _ _
 |note b d a=>exact add _ _ _ _
 |set c b a=>exact add _ _ _ _
 |bU w=>exact add _ _ _ _
def FY: ∀(l:List bg) {T:gZ} {n:Nat},(∀d∈l,d.ok)->(∀st∈T.steps,st.2.ok)-> ∀st∈(dN l T n).2.steps,st.2.ok
 |[],_,_,_,h=>h
 |d :: l,T,n,hk,h=>FY l (fun e he=>hk e (aI _ he)) (K5 h (hk d aS))
def Good.day {T:gZ}{n:Nat}(h:Good T n)(hk: ∀st∈T.steps,st.2.ok):mN T.bk eu:=
 wG T.steps hk ⟨fun _ z=>absurd z (en _),fun _ z=>absurd z (en _)⟩ h.w
def C9 {S:Bk}{D:Int}(h:Acc S)(hd:mN S D){o:Bool}{k:Nat}(hk:k < (S.rows o).length):S.rest o k D=((S.rows o).getD k default).d:=by
 unfold Bk.rest;have e:S.made.filter (S.cnt o k D)=S.made.filter fun t=>decide (spotOf o t=k):=by
  apply iZ;intro t ht;obtain⟨m1,m2,_⟩:=h.m t ht;have l1:=hd.c _ m1;have l2:=hd.b _ m2;have l:S.gp t<=D:=by
   unfold Bk.gp;split <;> assumption
  unfold Bk.cnt;rw[aK l,Bool.and_true]
 rw[e];cases o with
 |true=>
  have h1:=(h.b k hk).1;show(S.bl k).c - C5 S.made k=(S.bl k).d;lia
 |false=>
  have h1:=(h.c k hk).1;show(S.cr k).b - C6 S.made k=(S.cr k).d;lia
def tf {S:Bk}{D:Int}(h:Acc S)(hd:mN S D)(o:Bool)(aH:Str):S.eM o aH D=(inTurn (S.rows o) aH (keyOf o)).map fun k=>(k,((S.rows o).getD k default).d):=by
 unfold Bk.eM;rw[gN];have hk: ∀k∈inOrder (S.rows o) aH (keyOf o),k < (S.rows o).length:=fun k z=>(jj.mp z).1;have e:((inOrder (S.rows o) aH (keyOf o)).filter fun k=>decide (((S.rows o).getD k default).a<=D) && decide (0 < S.rest o k D))=(inOrder (S.rows o) aH (keyOf o)).filter fun k=>decide (0 < ((S.rows o).getD k default).d):=by
  apply iZ;intro k z;have l:((S.rows o).getD k default).a<=D:=by
   cases o
   ·exact hd.c k (hk k z)
   ·exact hd.b k (hk k z)
  rw[C9 h hd (hk k z),aK l,Dy]
 rw[e];apply fT;intro k z;rw[C9 h hd (hk k (ee.mp z).1)]
def eG (l:List Rw):Nat:=(l.filter fun r=>decide (0 < r.d)).length
def oP (r:Rw)(l:List Rw):eG (r :: l)=eG l + if 0 < r.d then 1 else 0:=by
 unfold eG;by_cases h:0 < r.d
 ·rw[List.filter_cons_of_pos (by simpa using h),if_pos h]; rfl
 ·rw[List.filter_cons_of_neg (by simpa using h),if_neg h]; rfl
def wH: ∀{l:List Rw} {i:Nat} {r:Rw},i < l.length->r.d<=(l.getD i default).d->eG (l.set i r)<=eG l/\(0 < (l.getD i default).d->r.d<=0->eG (l.set i r) + 1=eG l)
 |[],_,_,h,_=>absurd h (en _)
 |x :: l,0,r,_,hd=>by
  have Gq:r.d<=x.d:=hd;show eG (r :: l)<=eG (x :: l)/\(0 < x.d->r.d<=0->eG (r :: l) + 1=eG (x :: l));rw[oP,oP];by_cases a:0 < r.d
  ·rw[aY a,aY (by lia)];exact⟨aD _,fun _ h=>by lia⟩
  ·rw[aN a];by_cases b:0 < x.d
   ·rw[aY b];exact⟨by lia,fun _ _=>rfl⟩
   ·rw[aN b];exact⟨aD _,fun h=>absurd h b⟩
 |x :: l,i + 1,r,h,hd=>by
  obtain⟨h1,h2⟩:=wH (l:=l) (i:=i) (r:=r) (Nat.lt_of_succ_lt_succ h) hd;show eG (x :: l.set i r)<=eG (x :: l)/\(0 < (l.getD i default).d->r.d<=0->eG (x :: l.set i r) + 1=eG (x :: l));rw[oP,oP];exact⟨by lia,fun a b=>by have:=h2 a b; lia⟩
def Bk.wI (S:Bk):Nat:=S.made.length + eG S.aE + eG S.credits
def FZ {S:Bk}{c b:Nat}{x:Int}(hc:c < S.credits.length)(hb:b < S.aE.length)(hx:0<=x):(S.put c b x).wI<=S.wI + 1/\(0 < (S.cr c).d->0 < (S.bl b).d->x=eR (S.cr c).d (S.bl b).d->(S.put c b x).wI<=S.wI):=by
 obtain⟨b1,b2⟩:=wH (l:=S.aE) (i:=b) (r:=(S.bl b).less x) hb (by show(S.bl b).d - x<=(S.bl b).d; lia);obtain⟨c1,c2⟩:=wH (l:=S.credits) (i:=c) (r:=(S.cr c).less x) hc (by show(S.cr c).d - x<=(S.cr c).d; lia);have e:(S.put c b x).wI=S.made.length + 1 + eG (S.aE.set b ((S.bl b).less x)) + eG (S.credits.set c ((S.cr c).less x)):=by
  show(S.made ++ [(c,b,x)]).length + _ + _ =_;rw[ax];rfl
 rw[e];unfold Bk.wI;refine⟨by lia,fun h1 h2 h3=>?_⟩;by_cases q:(S.bl b).d < (S.cr c).d
 ·have hz:((S.bl b).less x).d<=0:=by
   show(S.bl b).d - x<=0;rw[h3];unfold eR;rw[aY q];lia
  have:=b2 h2 hz;lia
 ·have hz:((S.cr c).less x).d<=0:=by
   show(S.cr c).d - x<=0;rw[h3];unfold eR;rw[aN q];lia
  have:=c2 h1 hz;lia
def tj {ex:Bool}{c:Nat}: ∀{l:List Nat} {S:Bk},l.Nodup->c < S.credits.length->(∀b∈l,b < S.aE.length/\0 < (S.bl b).d)->(l.foldl (bu ex c) S).wI<=S.wI/\(l.foldl (bu ex c) S).credits.length=S.credits.length
 |[],S,_,_,_=>⟨aD _,rfl⟩
 |b :: l,S,nd,hc,hl=>by
  rw[cz];rw[dI] at nd;obtain⟨hb,pb⟩:=hl b aS;by_cases q:0 < (S.cr c).d/\S.de c b=true/\((S.cr c).d=(S.bl b).d∨ex=false)
  ·have e:bu ex c S b=S.put c b (eR (S.cr c).d (S.bl b).d):=aY q;rw[e];have mn:0<=eR (S.cr c).d (S.bl b).d:=by
    unfold eR;split <;> lia
   have L:Later S (S.put c b (eR (S.cr c).d (S.bl b).d)):=Later.put hb hc mn;have p:=(FZ hc hb mn).2 q.1 pb rfl;obtain⟨r1,r2⟩:=tj (ex:=ex) (S:=S.put c b (eR (S.cr c).d (S.bl b).d)) nd.2 (by rw[L.cl]; exact hc) (fun b' l8=>by
    obtain⟨u1,u2⟩:=hl b' (aI _ l8);refine⟨by rw[L.bl]; exact u1,?_⟩;have nb:b'≠b:=fun z=>nd.1 (z▸l8);rw[lg hb,aN nb];exact u2)
   exact⟨aV r1 p,r2.trans L.cl⟩
  ·have e:bu ex c S b=S:=aN q;rw[e];exact tj nd.2 hc fun b' l8=>hl b' (aI _ l8)
def ox {ex:Bool}{aH:Str}: ∀{l:List Nat} {S:Bk},(∀c∈l,c < S.credits.length)->(l.foldl (bC aH ex) S).wI<=S.wI
 |[],_,_=>aD _
 |c :: l,S,hl=>by
  rw[cz];obtain⟨r1,r2⟩:=tj (ex:=ex) (gO S.aE aH (·.b)) (hl c aS) (fun b hb=>⟨(bP.mp hb).1,(bP.mp hb).2.2⟩);refine aV (ox fun c' Bi=>?_) r1;show c' < (bC aH ex S c).credits.length;rw[show(bC aH ex S c).credits.length=S.credits.length from r2];exact hl c' (aI _ Bi)
def tq (S:Bk)(aH:Str):(S.dm aH).wI<=S.wI:=
 aV (ox fun c hc=>(bP.mp hc).1) (ox fun c hc=>(bP.mp hc).1)
def tu (l:List Rw)(r:Rw):eG (l ++ [r])<=eG l + 1:=by
 unfold eG;rw[gj,ax];have:=aW (fun r:Rw=>decide (0 < r.d)) [r];have e:[r].length=1:=rfl;lia
def Io {S:Bk}{d:bg}(hb:S.bar d=""):(S.enter d).wI<=S.wI + 1:=by
 cases d with
 |dM w dy u a=>
  have:=tu S.aE ⟨w,dy,u,a,a⟩;show S.made.length + eG (S.aE ++ [_]) + eG S.credits<=S.made.length + eG S.aE + eG S.credits + 1;lia
 |pz w dy a=>
  have:=tu S.credits ⟨w,dy,a,-1,a⟩;show S.made.length + eG S.aE + eG (S.credits ++ [_])<=S.made.length + eG S.aE + eG S.credits + 1;lia
 |note b dy a=>
  have:=tu S.credits ⟨(S.bl b.toNat).aH,dy,a,b,a⟩;show S.made.length + eG S.aE + eG (S.credits ++ [_])<=S.made.length + eG S.aE + eG S.credits + 1;lia
 |set c b a=>
  obtain⟨⟨c1,c2⟩,⟨b1,b2⟩,g,x,m1,m2⟩:=lI hb;exact(FZ (by lia) (by lia) (by lia)).1
 |bU w=>exact sk (tq S w)
 |gK m=>exact cM _
 |ask o w d=>exact cM _
 |hZ w d l=>exact cM _
def wJ: ∀(l:List (Int×bg)) {S T:Bk},cy l S=some T->T.wI<=S.wI + l.length
 |[],S,T,e=>by
  cases e;exact aD _
 |(k,d) :: l,S,T,e=>by
  unfold cy at e;split at e
  ·rename_i hb;have h1:=wJ l e;have h2:=Io hb;rw[bO];lia
  ·cases e
end L2
namespace eV
open PySem L2 PyProof.Rows Lk
seal L2.pj L2.PS L2.PE L2.PT L2.PW L2.PA L2.PC L2.PG L2.IJ L2.PI L2.L6 L2.Lg L2.PO L2.oX L2.NK L2.ip L2.Jc L2.NM
section
variable {P:Program}{w:World}{K:Frag}{mg:Str->Option Value}{base:Heap}
def jM (pr:List (Str×Int)):List bg:=pr.flatMap fun x=>[.ask true x.1 x.2,.ask false x.1 x.2]
def Iq (pr:List (Str×Int))(x:Str×Int):jM (pr ++ [x])=jM pr ++ [.ask true x.1 x.2,.ask false x.1 x.2]:=by
 unfold jM;rw[List.flatMap_append];simp
def rY (pr:List (Str×Int)):(jM pr).length=2 * pr.length:=by
 induction pr with
 |nil=>rfl
 |cons x pr ih=>
  have e:jM (x :: pr)= .ask true x.1 x.2 :: .ask false x.1 x.2 :: jM pr:=rfl;rw[e,bO,bO,ih,bO];lia
def Dc: ∀{pr:List (Str×Int)} {k:Nat} {x:Str×Int},pr[k]? =some x->(jM pr)[2 * k]? =some (.ask true x.1 x.2)/\(jM pr)[2 * k + 1]? =some (.ask false x.1 x.2)
 |[],_,_,h=>by simp at h
 |y :: pr,0,x,h=>by
  have e:y=x:=by simpa using h
  subst e;exact⟨rfl,rfl⟩
 |y :: pr,k + 1,x,h=>by
  have e:jM (y :: pr)= .ask true y.1 y.2 :: .ask false y.1 y.2 :: jM pr:=rfl;have ih:=Dc (pr:=pr) (k:=k) (x:=x) (by simpa using h);rw[e,show 2 * (k + 1)=2 * k + 1 + 1 by lia];exact⟨by simpa using ih.1,by simpa using ih.2⟩
def k4: ∀(l m:List bg) (T:gZ) (n:Nat),dN (l ++ m) T n=((dN l T n).1 ++ (dN m (dN l T n).2 (n + l.length)).1,(dN m (dN l T n).2 (n + l.length)).2)
 |[],m,T,n=>rfl
 |d :: l,m,T,n=>by
  show((cV T n d).1 :: (dN (l ++ m) (cV T n d).2 (n + 1)).1,(dN (l ++ m) (cV T n d).2 (n + 1)).2)=_;rw[k4 l m,show n + 1 + l.length=n + (d :: l).length by rw[bO]; lia];rfl
def yV: ∀(m:List bg) (T:gZ) (n:Nat),(∀d∈m,(∃o w y,d= .ask o w y)∨ ∃w y l,d= .hZ w y l)->(dN m T n).2=T/\ ∀(i:Nat) (d:bg),m[i]? =some d->(dN m T n).1[i]? =some (cV T 0 d).1
 |[],T,n,_=>⟨rfl,fun i d h=>by simp at h⟩
 |e :: m,T,n,h=>by
  have he:(cV T n e).2=T/\(cV T n e).1=(cV T 0 e).1:=by
   rcases h e aS with⟨o,w,y,rfl⟩|⟨w,y,l,rfl⟩
   ·exact⟨rfl,rfl⟩
   ·exact⟨rfl,rfl⟩
  obtain⟨h1,h2⟩:=yV m T (n + 1) fun d hd=>h d (aI _ hd);have eq:dN (e :: m) T n=((cV T n e).1 :: (dN m T (n + 1)).1,(dN m T (n + 1)).2):=by
   show((cV T n e).1 :: (dN m (cV T n e).2 (n + 1)).1,(dN m (cV T n e).2 (n + 1)).2)=_;rw[he.1]
  rw[eq];refine⟨h1,fun i d hd=>?_⟩;cases i with
  |zero=>
   have e2:e=d:=by simpa using hd
   subst e2;show some (cV T n e).1=_;rw[he.2]
  |succ i=>exact h2 i d (by simpa using hd)
def yW {H:Hp}{rs:List Rw}{ps:List Addr}(h:eW H rs ps){a:Addr}(ha:a∈ps): ∃xs,H a=some (.lst xs):=by
 induction h with
 |nil=>cases ha
 | @cons r p rs ps hr t ih=>
  rcases au.mp ha with ha|ha
  ·rw[ha];exact⟨_,hr⟩
  ·exact ih ha
def Nr {H:Hp}{sd a:Addr}{S:Bk}{f:fJ}(h:dr H sd S f)(hb:a∈f.fp): ∃xs,H a=some (.lst xs):=by
 obtain⟨ms,m1,_⟩:=h.hm;unfold fJ.fp at hb;rcases au.mp hb with z|z
 ·rw[z]; exact⟨_,h.hb⟩
 rcases au.mp z with z|z
 ·rw[z]; exact⟨_,h.hc⟩
 rcases au.mp z with z|z
 ·rw[z]; exact⟨_,m1⟩
 rcases bc.mp z with z|z
 ·exact yW h.rb z
 ·exact yW h.rc z
def QT {H H':Hp}{sd:Addr}{S:Bk}{f:fJ}(h:dr H sd S f)(k: ∀a o,H a=some o->(∀ps,o≠ .mY ps)->H' a=some o):dr H' sd S f:=by
 refine h.keep (fun b o hb e=>?_) (fun a xs e=>k _ _ e (fun _ z=>by cases z));refine k _ _ e (fun ps z=>?_);rcases hb with hb|hb
 ·rw[hb,h.dict,z] at e;cases e
 ·obtain⟨xs,q⟩:=Nr h hb;rw[q,z] at e;cases e
def eO:Bk->List Str->List mT
 |_,[]=>[]
 |S,w :: ws=> .sets ((S.dm w).made.drop S.made.length) :: eO (S.dm w) ws
def pS: ∀(ws:List Str) (S:Bk) (w:Str),eO S (ws ++ [w])=eO S ws ++ [.sets (((fW S ws).dm w).made.drop (fW S ws).made.length)]
 |[],S,w=>rfl
 |v :: ws,S,w=>by
  show _ :: eO (S.dm v) (ws ++ [w])=_;rw[pS ws];rfl
def mD: ∀(ws:List Str) (S:Bk),(eO S ws).length=ws.length
 |[],_=>rfl
 |w :: ws,S=>cU (· + 1) (mD ws (S.dm w))
def qz: ∀(ws:List Str) (T:gZ) (n:Nat),(dN (ws.map bg.bU) T n).1=eO T.bk ws/\(dN (ws.map bg.bU) T n).2.bk=fW T.bk ws
 |[],T,n=>⟨rfl,rfl⟩
 |w :: ws,T,n=>by
  have e:cV T n (.bU w)=(T.bk.Jz (.bU w),⟨T.steps ++ [((n:Int),.bU w)],T.bk.dm w⟩):=by
   show(if T.bk.bar (.bU w)="" then(T.bk.Jz (.bU w),(⟨T.steps ++ [((n:Int),bg.bU w)],T.bk.enter (.bU w)⟩:gZ)) else(.txt (T.bk.bar (.bU w)),T))=_;rw[aY (show T.bk.bar (.bU w)="" from rfl)];rfl
  obtain⟨h1,h2⟩:=qz ws (cV T n (.bU w)).2 (n + 1);show(cV T n (.bU w)).1 :: (dN (ws.map bg.bU) (cV T n (.bU w)).2 (n + 1)).1=_/\(dN (ws.map bg.bU) (cV T n (.bU w)).2 (n + 1)).2.bk=_;rw[h1,h2,e];exact⟨rfl,rfl⟩
def oy: ∀(ws:List Str) (S:Bk),(∀w∈ws,Quiet S w)->eO S ws=ws.map fun _=> .sets []
 |[],_,_=>rfl
 |w :: ws,S,h=>by
  have q:=(h w aS).dm;show .sets ((S.dm w).made.drop S.made.length) :: eO (S.dm w) ws=_;rw[q,List.drop_length,oy ws S fun v hv=>h v (aI _ hv)];rfl
def qA: ∀(ws:List Str) (S:Bk),(fW S ws).wI<=S.wI
 |[],S=>aD _
 |w :: ws,S=>aV (qA ws (S.dm w)) (tq S w)
def Dd (S:Bk):S.made.length<=S.wI:=by unfold Bk.wI; lia
def ly: ∀(ws:List Str) (S:Bk),S.wI<=60-> ∀a∈eO S ws,a.dt.size<=300/\a.dt.plain=true
 |[],_,_,a,h=>by cases h
 |w :: ws,S,hp,a,h=>by
  have h1:=tq S w;rcases au.mp h with rfl|h
  ·have h2:=Dd (S.dm w);have h3:=lY (fun t:Nat×Nat×Int=>Dt.tup [.int t.1,.int t.2.1,.int t.2.2]) 4 ((S.dm w).made.drop S.made.length) (fun x _=>aD _);rw[hV] at h3;refine⟨?_,mC _ _ fun x _=>rfl⟩;show 1 + Dt.fC (((S.dm w).made.drop S.made.length).map fun t=>Dt.tup [.int t.1,.int t.2.1,.int t.2.2])<=300;lia
  ·exact ly ws (S.dm w) (by lia) a h
def Nt (xs:List V)(n:Nat)(h:n<=xs.length):mR xs none (some (n:Int))=xs.take n:=by
 unfold mR;rw[HT.Bu,HT.oC,oV h,OB,Nat.sub_zero]
def QU {α:Type}{l:List α}{i:Nat}{x y:α}(h1:l[i]? =some x)(h2:l[i + 1]? =some y):(l.drop i).take 2=[x,y]:=by
 obtain⟨a1,a2⟩:=ah.mp h1;obtain⟨b1,b2⟩:=ah.mp h2;rw[jv a1,a2,jv b1,b2];rfl
def K6 (xs:List V)(n:Nat){x y:V}(h1:xs[n]? =some x)(h2:xs[n + 1]? =some y):mR xs (some (n:Int)) (some ((n + 2:Nat):Int))=[x,y]:=by
 have a1:=(ah.mp h1).1;have b1:=(ah.mp h2).1;unfold mR;rw[HT.oC,HT.oC,oV (by lia),oV (by lia),show n + 2 - n=2 by lia,QU h1 h2]
def tY {α β:Type}{F:α->β->Prop}: ∀{l₁:List α} {l₂:List β} (n:Nat),Paired F l₁ l₂->Paired F (l₁.take n) (l₂.take n)
 |_,_,0,_=> .nil
 |_,_,_ + 1,.nil=> .nil
 |_,_,n + 1,.cons h t=> .cons h (tY n t)
def K7 {H:Hp}{sd pn:Addr}{S:Bk}{f:fJ}{ws:List Str}(h:dr H sd S f)(e:H pn=some (.lst (ws.map V.str)))(hn:ws≠[]):pn∉f.fp:=fun z=>by
 obtain⟨ms,m1,m2⟩:=h.hm;have rows: ∀(rs:List Rw) (ps:List Addr),eW H rs ps->pn∈ps->False:=fun rs ps hr hp=>by
  obtain⟨i,hi⟩:=jf hp;have iD:i < rs.length:=by
   rw[hr.length];exact(ah.mp hi).1
  obtain⟨q,e1,e2⟩:=hr.at iD;rw[e1] at hi;cases hi;rw[e] at e2;have e3:ws.map V.str=(rs.getD i default).vs:=by injection (aG e2)
  rcases ws with _|⟨a,_|⟨b,l⟩⟩
  ·exact hn rfl
  ·have:=cU List.length e3;cases this
  ·have e4:=(List.cons.inj (List.cons.inj e3).2).1;cases e4
 have refs: ∀{ps:List V},H pn=some (.lst ps)->(∀v∈ps,∃a,v= .ref a)->False:=fun{ps} q hp=>by
  rw[e] at q;have e3:ws.map V.str=ps:=by injection (aG q)
  rcases ws with _|⟨a,l⟩
  ·exact hn rfl
  ·obtain⟨b,hb⟩:=hp (.str a) (by rw[← e3]; exact aS);cases hb
 have rf: ∀(l:List Addr),∀v∈l.map V.ref,∃a,v= .ref a:=fun l v hv=>by
  obtain⟨a,_,rfl⟩:=bJ.mp hv;exact⟨a,rfl⟩
 unfold fJ.fp at z;rcases au.mp z with z|z
 ·exact refs (z▸h.hb) (rf _)
 rcases au.mp z with z|z
 ·exact refs (z▸h.hc) (rf _)
 rcases au.mp z with z|z
 ·refine refs (z▸m1) fun v hv=>?_;obtain⟨i,hi⟩:=jf hv;have hl:=aO m2;have iD:i < S.made.length:=by
   rw[hl];exact(ah.mp hi).1
  obtain⟨v',e1,p,e2,_⟩:=bK m2 (af iD);rw[hi] at e1;cases e1;exact⟨p,e2⟩
 rcases bc.mp z with z|z
 ·exact rows _ _ h.rb z
 ·exact rows _ _ h.rc z
def De {S:Bk}{o:Bool}{aH:Str}{D:Int}{t:Nat×Int}(ha:Acc S)(hd:mN S D)(h:t∈S.eM o aH D):t.1 < (S.rows o).length/\((S.rows o).getD t.1 default).aH=aH/\0 < ((S.rows o).getD t.1 default).d:=by
 rw[tf ha hd] at h;obtain⟨k,hk,rfl⟩:=bJ.mp h;exact bP.mp hk
def K8:aU ["_law_script","_law_cells","_law_asked","_law_state","_law_names","_law_more","_law_who","_law_found","_law_many","_law_due","_law_k","_law_owed","_law_bill","_law_free","_law_credit","_law_spot","_law_amount","_law_left"] ["_law_script"] (aA (top 64)):={}
def QV {cps:List (Addr×Addr)}{f:Addr}{fd:FuncData}(F:gw K "law" "law" (top 64) f fd)(T:Txt K mg){A:dZ}{tB tC:Addr}(G:jI K mg A)(DB:qI K mg "bills_in_order" (top 17) tB)(DC:qI K mg "credits_in_order" (top 18) tC)(jy:tB≠tC)(hnd:A.i9≠A.tooMuch)(KB:K.In base)(BM:BMain mg base)(Yh: ∃c,(c,tB)∈cps)(hcC: ∃c,(c,tC)∈cps):l7 P w K mg base sD 13 f fd ["_law_script"] (K2 K cps):=by
 have Ir:fu P w K mg base "answers" 12 ["deeds"] (sY A tB tC):=Ie T G DB DC jy hnd KB BM;have Dg:=C1 (P:=P) (w:=w) (base:=base) T;have A1:=AY (P:=P) (w:=w) (base:=base) T;have mE:=AO (P:=P) (w:=w) (base:=base) T;have lq:=pB (P:=P) (w:=w) (base:=base) T;have mv:=rH (P:=P) (w:=w) (base:=base) T;have gG:=nY (P:=P) (w:=w) (base:=base) T;have jo:=nX (P:=P) (w:=w) (base:=base) T;have o9:=o8 (P:=P) (w:=w) (base:=base) T;refine F.ok (k:=12) K8 (fun vs H Q E h=>?_) (fun cY A' outer s H vs Q E hr h=>?_)
 ·obtain⟨a,ns,rfl,_⟩:=h;rfl
 ·obtain⟨a,ns,rfl,hS,hz,hO,k⟩:=h;have kr:lV H tB:=let⟨c,hc⟩:=Yh; K1 (hO _ hc)
  have jU:mz H tC:=let⟨c,hc⟩:=hcC; K1 (hO _ hc)
  have nd:=K8.nd;have hu:=kK hr;refine⟨_,(ai (sv 1 nd (jh NZ (pv 0) (jb aj) (jb (aQ dj aj (fc Dg hr (aa (pv 0) (aa aj (aa aj aw))))))))
(ai (sv 2 nd (fc A1 hr (aa (pv 1) aw)))
(ai (sv 3 nd (xt (fc o9 hr (aa (pv 2) aw)) aj))
(ai (sv 4 nd (fc lq hr (aa (pv 1) aw)))
(ai (ji (i:=5) nd rfl (Or.inl rfl) (tn:=["_law_who"]) (cn:=[]) (cj:=[]) rfl zj (rh (pv 4)) (fun _ _ _ _=>(eB (i:=0) (show(["_law_who"]:List Str).Nodup by decide +kernel) rfl (Or.inl rfl))) (fun _ _ _ _=>k9) (fun _ _ _ _=>(cK (aa aR (aa (pv 0) aw)))))
(ai (eJ bB rfl (rh (pv 4)) (gn 6 nd)
(av (sv 5 nd (aQ k8 (pv 5) (bS (aa (cK (aa aR (aa (pv 6) (aa (aQ iE aj aj) aw)))) (aa (cK (aa aR (aa (pv 6) (aa (aQ iE aj aj) aw)))) aw)))))))
(ai (sv 5 nd (aQ k8 (pv 5) (iF (tn:=["_law_who"]) (cn:=[]) (cj:=[]) rfl zj (rh (pv 4)) (fun _ _ _ _=>(eB (i:=0) (show(["_law_who"]:List Str).Nodup by decide +kernel) rfl (Or.inl rfl))) (fun _ _ _ _=>k9) (fun _ _ _ _=>(cK (aa aR (aa (pv 0) aw)))))))
(ai (sv 7 nd (fc Ir hr (aa (aQ k8 (pv 2) (pv 5)) aw)))
(ai (sv 8 nd (oJ T.eE (pv 4)))
(ai (bT (PW.pt (pw_or (jw (fM (vB T.dz T.vF boot_list (pv 7)))) (pw_or1 (a0 qO (oJ T.eE (pv 7)) (aQ dj (oJ T.eE (pv 2)) (aQ jx aj (pv 8))) (bb _)))))
(av (a9 kG))
bp)
(ai (sv 7 nd (jh NZ (pv 7) (jb (oJ T.eE (pv 2))) oE))
(ai (ji (i:=9) nd rfl (Or.inl rfl) (tn:=["_law_who"]) (cn:=["_law_state"]) (cj:=[3]) rfl (iG (zk:=[(".0",.local),("_law_who",.local),("_law_swept",.globalImplicit),("_law_state",.cell)])) (rh (pv 4)) (fun _ _ _ _=>(eB (i:=0) (show(["_law_who","_law_state"]:List Str).Nodup by decide +kernel) rfl (Or.inl rfl))) (fun _ _ _ _=>k9) (fun _ _ _ _=>(fc mv hr (aa (pv 1) (aa (pv 0) aw)))))
(ai (bT (PW.pt (pw_or (jw (fM (fc mE hr (aa (jh NZ (pv 7) oE (jb (pv 8))) (aa (pv 9) aw))))) (pw_or1 (jw (fM (fc mE hr (aa (jh NZ (pv 7) (jb (aQ jx aj (pv 8))) oE) (aa (aQ zh (bS (aa (bS aw) aw)) (pv 8)) aw))))))))
(av (a9 kG))
bp)
(ai (eJ bB rfl (i0 rfl T.mm (aa (pv 8) aw)) (gn 10 nd)
(ai (sv 11 nd (bS aw))
(ai (eJ bB rfl (rh (fc gG hr (aa (cH hu (pv 3) aR (fun _ _=>rfl)) (aa (xl (pv 4) (pv 10)) (aa aj aw))))) (gn 12 nd)
(av (bM (qo (pv 11) (cK (aa (pv 12) (aa (xl (xl (cH hu (pv 3) aR (fun _ _=>rfl)) (pv 12)) aj) aw)))))))
(ai (sv 13 nd (bS aw))
(ai (eJ bB rfl (rh (fc gG hr (aa (cH hu (pv 3) aR (fun _ _=>rfl)) (aa (xl (pv 4) (pv 10)) (aa aj aw))))) (gn 14 nd)
(av (bM (qo (pv 13) (cK (aa (pv 14) (aa (xl (xl (cH hu (pv 3) aR (fun _ _=>rfl)) (pv 14)) aj) aw)))))))
(ai (sv 15 nd (aQ dj (pv 8) (aQ jx aj (pv 10))))
(ai (bT (jw (fM (fc mE hr (aa (jh NZ (pv 7) (jb (pv 15)) (jb (aQ dj (pv 15) aj))) (aa (bS (aa (pv 11) (aa (pv 13) aw))) aw)))))
(av (a9 kG))
bp)
(av (eJ bB rfl (rh (xl (pv 7) (aQ dj (pv 15) aj))) (gT (bW (gn 14 nd) (bW (gn 16 nd) gq)))
(av (eJ bB rfl (rh (xl (pv 7) (pv 15))) (gT (bW (gn 12 nd) (bW (gn 17 nd) gq)))
(av (bT (fM (fc jo hr (aa (pv 3) (aa (pv 14) (aa (pv 12) aw)))))
(av (a9 kG))
bp)))))))))))))
(av (a9 kG)))))))))))))))),?_⟩
  refine⟨_,rfl,_,rfl,_,rfl,a,_,30,140,rfl,hS,(by rw[ae]; exact hz),_,_,rfl,rfl,_,rfl,a,_,rfl,hS,fun pc nc=>?_⟩;obtain⟨cs,ecs⟩:=Np ns (some 1) (some (1 + 30));have rg:cs.length<=30:=by
   have h:=Nn (ns.map V.int) 1 31 (by decide);have e:mR (ns.map V.int) (some ((1:Nat):Int)) (some ((31:Nat):Int))=cs.map V.int:=ecs;rw[e,ae] at h;exact h
  rw[ecs];have s1:=aF.new (o:= .lst (cs.map V.int)) nc;have WR:upd H pc (.lst (cs.map V.int)) pc=some (.lst (cs.map V.int)):=ag;generalize upd H pc (.lst (cs.map V.int))=H1 at s1 WR;refine⟨_,rfl,pc,cs,rfl,bG.of WR,(by lia),fun pa ds ms H2 s2 Nc KS FW cB=>?_⟩;have S2:=s1.trans s2;have Vi:=s2 _ _ WR;refine⟨_,rfl,pa,ds,ms,rfl,Nc,KS,(by lia),cB,fun t v ps sd us g H3 s3 ht mZ QS Vd Oi Ez hG=>?_⟩;refine⟨t,_,_,.ref sd,rfl,rfl,cE.of ht,rfl,?_⟩;have Vj:=s3 _ _ Nc;have QW:=KS.mono s3.tk;have Vk:=s3 _ _ Vi;have S3:=S2.trans s3;have rQ:lV H3 tB:=bQ kr S3;have rR:mz H3 tC:=bQ jU S3;clear s1 s2 s3 S2 S3 kr jU Nc KS WR Vi hS ht mZ QS Ez Oi;have Iz:=eD.length QW;refine⟨_,rfl,pc,cs,rfl,bG.of Vk,fun pn names H4 s4 Hy Z0 T4=>?_⟩;have Vl:=s4 _ _ Vj;have Vm:=QW.mono s4.tk;have sS:lV H4 tB:=bQ rQ s4;have sT:mz H4 tC:=bQ rR s4;have Vn:=Vd.same s4;clear s4 Vj QW rQ rR Vk Vd;have Vo: ∀{H':Hp} {q:Addr} {aH:Str},H' q=some (.tup [.str "sweep",.str aH])->Rp H' (bg.dt (.bU aH)) (.ref q):=fun e=>eL e (br.mpr ⟨_,_,rfl,fj.mpr rfl,br.mpr ⟨_,_,rfl,fj.mpr rfl,cq.mpr rfl⟩⟩);refine⟨_,rfl,pn,rfl,⟨_,bG.of Hy⟩,?_⟩;refine dS (K:=K) (a:=pn) (xs:=names.map V.str) (fun D i σ H'=>H4 D=none/\ ∃(v:Option V) (ws:List V),σ=[v]/\aF H4 H'/\H' D=some (.lst ws)/\eD H' ((names.take i).map bg.bU) ws) (fun D hD=>⟨hD,none,[],rfl,aF.new hD,ag,cq.mpr rfl⟩) (fun D i σ H' _ ⟨_,_,_,_,t3,_⟩=>bG.of (t3 _ _ Hy)) ?_ ?_
  ·rintro D i x σ H' hx ⟨hD,v,ws,rfl,t3,Ar,hM⟩;rw[aC] at hx;obtain⟨aH,hw,rfl⟩:=a8.mp hx;have hi:i < names.length:=(ah.mp hw).1;have yo:=eD.length hM;rw[ae,ba] at yo;refine⟨_,rfl,(by show 2<=sizeLine; decide),fun q nq=>?_⟩;have u:=aF.new (o:= .tup [V.str "sweep",.str aH]) nq;refine⟨ws,u _ _ Ar,bf (by lia),hD,_,ws ++ [.ref q],rfl,(t3.trans u).dk hD,ag,?_⟩;rw[gU hi,(ah.mp hw).2,aL];exact(hM.mono (u.tk.trans (dU (u _ _ Ar)))).snoc (Vo (dU (u _ _ Ar) _ _ ag))
  rintro pm0 σ H5 YK ⟨_,v5,mw0,rfl,s5,Vp,Lx⟩;rw[ae,aZ] at Lx;have Nu:=s5 _ _ Hy;have e62:(10:Int) ^ (62:Int).toNat=eu:=rfl;refine⟨_,rfl,pn,rfl,⟨_,bG.of Nu⟩,?_⟩;refine fA (K:=K) (a:=pn) (xs:=names.map V.str) (fun i σ H'=> ∃(x6:Option V) (pm:Addr) (mw:List V),σ=[some (.ref a),some (.ref pc),some (.ref pa),some (.ref sd),some (.ref pn),some (.ref pm),x6,none,none,none,none,none,none,none,none,none,none,none]/\aF H5 H'/\H' pm=some (.lst mw)/\eD H' (names.map bg.bU ++ jM ((names.take i).map fun n=>(n,eu))) mw)
   ⟨_,pm0,mw0,rfl,aF.refl _,Vp,by simpa[jM] using Lx⟩ (fun i σ H' _ ⟨_,_,_,_,t2,_⟩=>bG.of (t2 _ _ Nu)) ?_ ?_
  ·rintro i x σ H' hx ⟨x6,pm,mw,rfl,t2,UM,hM⟩;rw[aC] at hx;obtain⟨aH,hw,rfl⟩:=a8.mp hx;have hi:i < names.length:=(ah.mp hw).1;have QX:=eD.length hM;rw[ax,ae,rY,ae,ba] at QX;refine⟨_,rfl,_,rfl,_,_,rfl,rfl,⟨by decide,by decide,by decide⟩,(by show 3<=sizeLine; decide),fun q1 n1=>?_⟩;have u1:=aF.new (o:= .tup [V.str "owed",.str aH,.int eu]) n1;refine⟨_,rfl,_,_,rfl,rfl,⟨by decide,by decide,by decide⟩,(by show 3<=sizeLine; decide),fun q2 n2=>?_⟩;have u2:=aF.new (o:= .tup [V.str "free",.str aH,.int eu]) n2;refine⟨(by show 2<=sizeLine; decide),fun q3 n3=>?_⟩;have u3:=aF.new (o:= .lst [V.ref q1,.ref q2]) n3;have Z1:=(u1.trans u2).trans u3;refine⟨pm,q3,mw,_,rfl,rfl,Z1 _ _ UM,ag,?_,fun q4 n4=>?_⟩
   ·refine cJ (bf ?_);show mw.length + 2<=1000;lia
   have u4:=aF.new (o:= .lst (mw ++ [V.ref q1,.ref q2])) n4;refine⟨_,q4,mw ++ [.ref q1,.ref q2],rfl,(t2.trans Z1).trans u4,ag,?_⟩;rw[gU hi,(ah.mp hw).2,aL,cL,qC,Iq,← bZ];have e1:Rp _ (bg.dt (.ask true aH eu)) (.ref q1):=eL ((u2.trans (u3.trans u4)) _ _ ag) (br.mpr ⟨_,_,rfl,fj.mpr rfl,br.mpr ⟨_,_,rfl,fj.mpr rfl,br.mpr ⟨_,_,rfl,dA.mpr rfl,cq.mpr rfl⟩⟩⟩);have e2:Rp _ (bg.dt (.ask false aH eu)) (.ref q2):=eL ((u3.trans u4) _ _ ag) (br.mpr ⟨_,_,rfl,fj.mpr rfl,br.mpr ⟨_,_,rfl,fj.mpr rfl,br.mpr ⟨_,_,rfl,dA.mpr rfl,cq.mpr rfl⟩⟩⟩);have h3:=((hM.mono (Z1.trans u4).tk).snoc e1).snoc e2;rw[show mw ++ [V.ref q1] ++ [V.ref q2]=mw ++ [V.ref q1,.ref q2] by rw[bZ]; rfl,bZ,bZ] at h3;rw[bZ];exact h3
  rintro σ H6 ⟨x6,pm1,Nv,rfl,s6,Vq,WS⟩;rw[ae,aZ] at WS;have QY:=s6 _ _ Nu;refine⟨_,rfl,_,rfl,pn,rfl,⟨_,bG.of QY⟩,?_⟩;refine dS (K:=K) (a:=pn) (xs:=names.map V.str) (fun D i σ H'=>H6 D=none/\ ∃(v:Option V) (ws:List V),σ=[v]/\aF H6 H'/\H' D=some (.lst ws)/\eD H' ((names.take i).map bg.bU) ws) (fun D hD=>⟨hD,none,[],rfl,aF.new hD,ag,cq.mpr rfl⟩) (fun D i σ H' _ ⟨_,_,_,_,t3,_⟩=>bG.of (t3 _ _ QY)) ?_ ?_
  ·rintro D i x σ H' hx ⟨hD,v,ws,rfl,t3,Ar,hM⟩;rw[aC] at hx;obtain⟨aH,hw,rfl⟩:=a8.mp hx;have hi:i < names.length:=(ah.mp hw).1;have yo:=eD.length hM;rw[ae,ba] at yo;refine⟨_,rfl,(by show 2<=sizeLine; decide),fun q nq=>?_⟩;have u:=aF.new (o:= .tup [V.str "sweep",.str aH]) nq;refine⟨ws,u _ _ Ar,bf (by lia),hD,_,ws ++ [.ref q],rfl,(t3.trans u).dk hD,ag,?_⟩;rw[gU hi,(ah.mp hw).2,aL];exact(hM.mono (u.tk.trans (dU (u _ _ Ar)))).snoc (Vo (dU (u _ _ Ar) _ _ ag))
  rintro pm2 σ H7 nm2 ⟨_,v7,Nw,rfl,s7,Vr,WT⟩;rw[ae,aZ] at WT;have Vs:=WS.mono s7.tk;have MR:=eD.length WS;have V5:=eD.length WT;rw[ax,ae,rY,ae] at MR;rw[ae] at V5;refine⟨pm1,pm2,Nv,Nw,rfl,rfl,s7 _ _ Vq,Vr,?_,fun pm npm=>?_⟩
  ·refine cJ (bf ?_);lia
  have u8:=aF.new (o:= .lst (Nv ++ Nw)) npm;have Om:=((s5.trans s6).trans s7).trans u8;have Nx:upd H7 pm (.lst (Nv ++ Nw)) pm=some (.lst (Nv ++ Nw)):=ag;have WU:eD (upd H7 pm (.lst (Nv ++ Nw))) (names.map bg.bU ++ jM (names.map fun n=>(n,eu)) ++ names.map bg.bU) (Nv ++ Nw):=by
   unfold eD;rw[aL];exact gY.append (Vs.mono u8.tk) (WT.mono u8.tk)
  generalize upd H7 pm (.lst (Nv ++ Nw))=H8 at Om Nx WU;have QZ:=Om _ _ Vl;have Vt:=Vm.mono Om.tk;have HU:lV H8 tB:=bQ sS Om;have HV:mz H8 tC:=bQ sT Om;have EL:=Vn.same Om;have Vu:=Om _ _ Hy;have QX:(Nv ++ Nw).length=4 * names.length:=by rw[ax]; lia
  generalize Nv ++ Nw=mw at Nx WU QX;clear s5 s6 s7 u8 Om Vp Vq Vr Lx WS WT Vs MR V5 Hy Nu QY Vl Vm sS sT Vn YK nm2 npm;refine⟨_,rfl,_,rfl,pa,pm,ms,mw,rfl,rfl,QZ,Nx,?_,fun ph nh=>?_⟩
  ·refine cJ (bf ?_);lia
  have u9:=aF.new (o:= .lst (ms ++ mw)) nh;have hda:eD (upd H8 ph (.lst (ms ++ mw))) (ds ++ (names.map bg.bU ++ jM (names.map fun n=>(n,eu)) ++ names.map bg.bU)) (ms ++ mw):=by
   unfold eD;rw[aL];exact gY.append (Vt.mono u9.tk) (WU.mono u9.tk)
  have Vv: ∀d∈names.map bg.bU ++ jM (names.map fun n=>(n,eu)) ++ names.map bg.bU,d.ok:=fun d hd=>by
   have sw:d∈names.map bg.bU->d.ok:=fun z=>by
    obtain⟨_,_,rfl⟩:=bJ.mp z;exact trivial
   rcases bc.mp hd with hd|hd
   ·rcases bc.mp hd with hd|hd
    ·exact sw hd
    ·unfold jM at hd;obtain⟨y,_,hy⟩:=List.mem_flatMap.mp hd;simp only[List.mem_cons,List.not_mem_nil,or_false] at hy;rcases hy with rfl|rfl <;> exact trivial
   ·exact sw hd
  have K9:(names.map bg.bU ++ jM (names.map fun n=>(n,eu)) ++ names.map bg.bU).length=4 * names.length:=by
   rw[ax,ax,rY,ae,ae];lia
  refine⟨ph,_,ms ++ mw,rfl,ag,hda,(by rw[ax,K9]; lia),(fun d hd=>(bc.mp hd).elim (cB d) (Vv d)),bQ HU u9,bQ HV u9,fun pt vs Up F10 Vw Vx nt wL hA=>?_⟩;have Of: ∀t∈[tB,tC],∃ps,(upd H8 ph (.lst (ms ++ mw))) t=some (.mY ps):=fun t z=>by
   simp only[List.mem_cons,List.not_mem_nil,or_false] at z;rcases z with rfl|rfl
   ·exact c8 (bQ HU u9)
   ·exact c8 (bQ HV u9)
  have kk: ∀a o,H8 a=some o->(∀ps,o≠ .mY ps)->Up a=some o:=fun a o e n=>yQ F10 Of (u9 _ _ e) n;have La:=kk _ _ QZ (fun _ z=>by cases z);have Lb:=kk _ _ Vu (fun _ z=>by cases z);have F6:=QT EL kk;have Q0:=EL.same u9;have hvl:=aO hA;rw[jk,ax,K9] at hvl;have Q1:=hG.acc;have lP:=hG.day (FY ds cB (fun _ z=>by cases z));have wf:=hG.wf (by lia:ds.length<=60);have Ny:(dN ds gZ.new 0).2.bk.wI<=60:=by
   have h1:=wJ _ hG.w;have h2:=hG.len;have h3:Bk.new.wI=0:=rfl;lia
  have yL:=kX ds.length hA;have Vy:=jk ds gZ.new 0;rw[k4,IG (by lia),List.drop_of_length_le (by lia),Ly,k4,k4] at yL;dsimp only at yL;generalize (dN ds gZ.new 0).2=T0 at yL F6 EL Q0 Q1 lP wf Ny;clear Vy hG;obtain⟨r1,r2⟩:=qz names T0 (0 + ds.length);rw[r1] at yL;generalize (dN (names.map bg.bU) T0 (0 + ds.length)).2=T1 at yL r2;have FH:T1.bk=fW T0.bk names:=r2;obtain⟨r3,r4⟩:=yV (jM (names.map fun n=>(n,eu))) T1 (0 + ds.length + (names.map bg.bU).length) (fun d hd=>by
   unfold jM at hd;obtain⟨y,_,hy⟩:=List.mem_flatMap.mp hd;simp only[List.mem_cons,List.not_mem_nil,or_false] at hy;rcases hy with rfl|rfl
   ·exact .inl ⟨_,_,_,rfl⟩
   ·exact .inl ⟨_,_,_,rfl⟩)
  rw[r3,(qz names T1 _).1,r2] at yL;have hq: ∀w∈names,Quiet (fW T0.bk names) w:=fun w hw=>rX names T0.bk w hw;rw[oy names _ hq] at yL;have F9: ∀(i:Nat) (d:bg),(jM (names.map fun n=>(n,eu)))[i]? =some d->(dN (jM (names.map fun n=>(n,eu))) T1 (0 + ds.length + (names.map bg.bU).length)).1[i]? =some (cV T1 0 d).1:=r4;have Rv:(dN (jM (names.map fun n=>(n,eu))) T1 (0 + ds.length + (names.map bg.bU).length)).1.length=2 * names.length:=by rw[jk,rY,ae]
  generalize (dN (jM (names.map fun n=>(n,eu))) T1 (0 + ds.length + (names.map bg.bU).length)).1=A2 at yL F9 Rv;have Ku:=mD names T0.bk;have hL:=jL names T0.bk;have Dh:=wF names Q1;have Di:=lP.ni hL;have Vz:=qA names T0.bk;have hrp:Rp Up (.lst ((dN (ds ++ (names.map bg.bU ++ jM (names.map fun n=>(n,eu)) ++ names.map bg.bU)) gZ.new 0).1.map mT.dt)) (.ref pt):=fb wL (K0 hA);refine⟨_,rfl,pn,_,rfl,.inl (bG.of Lb),?_⟩;rw[ae];refine⟨_,rfl,_,_,_,true,rfl,hrp.ty,Fb (.lst _),_,rfl,bX ?_⟩;refine⟨_,rfl,pt,_,rfl,.inl (bG.of wL),_,rfl,pa,_,rfl,.inl (bG.of La),_,rfl,_,_,rfl,rfl,.inl ⟨by decide,by decide⟩,_,_,rfl,rfl,rfl,_,rfl,cG (fun z=>?_) (fun _=>?_)⟩
  ·exfalso;have e:(vs.length:Int)=(ms.length:Int) + 4 * (names.length:Int):=by lia
   simp[e] at z
  refine⟨_,rfl,_,rfl,pa,_,rfl,.inl (bG.of La),_,rfl,pt,_,rfl,bG.of wL,fun pf Lw=>?_⟩;rw[show((ms.length:Nat):Int)=((ds.length:Nat):Int) by lia,sQ vs ds.length (by lia)] at *;have R4:=aF.new (o:= .lst (vs.drop ds.length)) Lw;have HE:upd Up pf (.lst (vs.drop ds.length)) pf=some (.lst (vs.drop ds.length)):=ag;have VA:pf∉g.fp:=F6.off Lw;have Nz:=Paired.gX yL fun _ _ q=>lT.keep (RL:=fun D=>D∉g.fp) q (fun b xs ok e=>⟨Q0.off ok.2,R4 _ _ e⟩) R4.tk;have yX:=F6.same R4;have yY:=R4 _ _ Lb;have RK:(vs.drop ds.length).length=4 * names.length:=by rw[hV]; lia
  generalize upd Up pf (.lst (vs.drop ds.length))=H12 at R4 HE Nz yX yY;generalize vs.drop ds.length=fw at HE Nz RK;clear hA yL hrp wL La Lb F6 Q0 EL kk Of u9 hda F10 Vw Vx HU HV QZ Nx Vu Vt WU nt nh R4 Lw r1 r2 r3 r4 Vv K9 cB;have Q2:pn∉g.fp:=K7 yX yY Z0;refine⟨_,rfl,pn,rfl,⟨_,bG.of yY⟩,?_⟩;refine dS (K:=K) (a:=pn) (xs:=names.map V.str) (fun D i σ H'=>H12 D=none/\ ∃(v:Option V) (us:List V),σ=[v,some (.ref sd)]/\Frame g.fp H12 H'/\dr H' sd (fW T0.bk (names.take i)) g/\H' D=some (.lst us)/\Paired (lT H' (fun b=>b≠D/\b∉g.fp)) (eO T0.bk (names.take i)) us) (fun D hD=>⟨hD,none,[],rfl,(aF.new hD).frame,yX.same (aF.new hD),ag,.nil⟩) (fun D i σ H' _ ⟨_,_,_,_,f3,_⟩=>bG.of (f3 _ _ Q2 yY)) ?_ ?_
  ·rintro D i x σ H' hx ⟨hD,v,Aj,rfl,f3,Vh,Ar,hU⟩;rw[aC] at hx;obtain⟨aH,hw,rfl⟩:=a8.mp hx;have hi:i < names.length:=(ah.mp hw).1;have nDg:D∉g.fp:=yX.off hD;have hul:=aO hU;rw[mD,ba] at hul;have hLi:=jL (names.take i) T0.bk;have hpi:=qA (names.take i) T0.bk;have hmi:=Dd (fW T0.bk (names.take i));have hlb:=wf.lb;have YQ:=wf.lc;refine⟨_,rfl,_,rfl,sd,_,g,aH,rfl,Vh,(by rw[hLi.cl]; lia),(by rw[hLi.bl]; lia),(by rw[eP]; lia),fun D2 Ls H4 F4 Zw Dr En DT=>?_⟩;have WV:=F4 _ _ nDg Ar;refine⟨Aj,WV,bf (by lia),hD,_,Aj ++ [.ref D2],rfl,?_,?_,ag,?_⟩
   ·exact fun b o hb e=>by
     have nb:b≠D:=aJ e hD;rw[az nb];exact F4 _ _ hb (f3 _ _ hb e)
   ·rw[gU hi,(ah.mp hw).2,C8];exact FX Zw WV nDg
   ·rw[gU hi,(ah.mp hw).2,pS];have nD:D2≠D:=fun z=>by rw[z,Ar] at Dr; cases Dr
    refine cu (Paired.gX hU fun _ _ q=>q.keep (fun b xs ok e=>⟨ok,by rw[az ok.1]; exact F4 _ _ ok.2 e⟩) ((Vh.tk F4).trans (dU WV))) ⟨D2,Ls,rfl,⟨nD,Vh.off Dr⟩,by rw[az nD]; exact En,DT.mono (dU WV)⟩
  rintro pD σ H14 npD ⟨_,v14,ae_,rfl,VB,Lc,UL,hU⟩;rw[ae,aZ] at hU Lc;have Ga:=VB _ _ VA HE;have Oo:=VB _ _ Q2 yY;have NA:=Paired.gX Nz fun _ _ q=>lT.keep (RL:=fun _=>True) q (fun b xs ok e=>⟨trivial,VB _ _ ok e⟩) (yX.tk VB);clear HE yY Nz yX VB VA Q2 npD;have Z2:(fw.take names.length).length=names.length:=by rw[ba]; lia
  refine⟨_,rfl,_,rfl,_,rfl,pf,_,rfl,bG.of Ga,fun p1 n1=>?_⟩;rw[Nt fw names.length (by lia)];have u1:=aF.new (o:= .lst (fw.take names.length)) n1;have RO:Paired (lT H14 (fun _=>True)) (eO T0.bk names) (fw.take names.length):=by
   have:=tY names.length NA;rwa [bZ,List.take_append_of_le_length (by lia),List.take_of_length_le (by lia)] at this
  have Q3:(Dt.lst ((eO T0.bk names).map mT.dt)).size<=100000/\(Dt.lst ((eO T0.bk names).map mT.dt)).plain=true:=by
   have h1:=lY mT.dt 300 (eO T0.bk names) fun a ha=>(ly names T0.bk Ny a ha).1;rw[Ku] at h1;refine⟨?_,mC _ _ fun a ha=>(ly names T0.bk Ny a ha).2⟩;show 1 + Dt.fC _<=100000;lia
  refine⟨_,rfl,_,.ref p1,.ref pD,rfl,fb ag (gY.mono u1 _ (K0 RO)),fb (u1 _ _ UL) (gY.mono u1 _ (K0 hU)),Q3.1,Q3.2,fun H15 Q4=>⟨_,rfl,bX ?_⟩⟩;have Q4:=u1.trans Q4;have Oq:=Q4 _ _ Ga;refine⟨_,rfl,_,rfl,_,_,rfl,rfl,.inl ⟨by decide,by decide⟩,_,rfl,pf,_,rfl,bG.of Oq,fun p2 n2=>?_⟩;rw[show(3:Int) * ((names.length:Nat):Int)=((3 * names.length:Nat):Int) by lia,sQ fw (3 * names.length) (by lia)];have u2:=aF.new (o:= .lst (fw.drop (3 * names.length))) n2;refine⟨bq _,fun e0 ne0=>?_⟩;have u3:=aF.new (o:= .lst []) ne0;refine⟨(by show 1<=sizeLine; decide),fun e1 ne1=>?_⟩;have u4:=aF.new (o:= .lst [V.ref e0]) ne1;refine⟨_,rfl,e1,_,_,rfl,rfl,ag,(by lia),(by lia),?_,fun p3 n3=>?_⟩
  ·rw[cW];refine cJ (bf ?_);show 1 * names.length<=1000;lia
  rw[cW];have u5:=aF.new (o:= .lst (List.replicate names.length [V.ref e0]).flatten) n3;have RW:Paired (lT H15 (fun _=>True)) (names.map fun _=>mT.sets []) (fw.drop (3 * names.length)):=by
   have h1:=kX (3 * names.length) NA;rw[IG (by rw[ax]; lia),List.drop_of_length_le (by rw[ax]; lia),Ly] at h1;exact Paired.gX h1 fun _ _ q=>lT.keep (RL:=fun _=>True) q (fun b xs ok e=>⟨trivial,Q4 _ _ e⟩) Q4.tk
  have Q5:(Dt.lst ((names.map fun _=>mT.sets []).map mT.dt)).size<=100000/\(Dt.lst ((names.map fun _=>mT.sets []).map mT.dt)).plain=true:=by
   rw[ff];have h1:=lY (mT.dt ∘ fun _:Str=>mT.sets []) 1 names fun a ha=>aD _;refine⟨?_,mC _ _ fun a ha=>rfl⟩;show 1 + Dt.fC _<=100000;lia
  have VC: ∀{H':Hp},H' e0=some (.lst [])-> ∀l:List Str,gY H' ((l.map fun _=>mT.sets []).map mT.dt) (List.replicate l.length [V.ref e0]).flatten:=fun{H'} z l=>by
   induction l with
   |nil=>exact cq.mpr rfl
   |cons x l ih=>exact br.mpr ⟨_,_,rfl,fb z (cq.mpr rfl),ih⟩
  have Z3:=(u3.trans u4).trans u5;have Z4:=u2.trans Z3;refine⟨_,.ref p2,.ref p3,rfl,fb (Z3 _ _ ag) (gY.mono Z4 _ (K0 RW)),fb ag (VC ((u4.trans u5) _ _ ag) names),Q5.1,Q5.2,fun Iu t16=>⟨_,rfl,bX ?_⟩⟩;have R5:=(Q4.trans Z4).trans t16;have Ld:=R5 _ _ Ga;have Ot:=R5 _ _ Oo;have mO:=Lc.same R5;have Q7:=Paired.gX NA fun _ _ q=>lT.keep (RL:=fun _=>True) q (fun b xs ok e=>⟨trivial,R5 _ _ e⟩) R5.tk;clear Ga Oo Lc NA RO RW hU UL Oq Q4 t16 R5 u1 u2 u3 u4 u5 Z3 Z4 Q3 Q5 VC Z2;have lc:=mO.rc.length;have lb:=mO.rb.length;have VD:(fW T0.bk names).aE.length<=60:=by rw[hL.bl]; have:=wf.lb; lia
  have VE:(fW T0.bk names).credits.length<=60:=by rw[hL.cl]; have:=wf.lc; lia
  have VF: ∀(i:Nat) (aH:Str),names[i]? =some aH-> ∃D1 m1 D2 m2,fw[names.length + 2 * i]? =some (.ref D1)/\Iu D1=some (.lst m1)/\eN Iu ((fW T0.bk names).eM true aH eu) m1/\fw[names.length + 2 * i + 1]? =some (.ref D2)/\Iu D2=some (.lst m2)/\eN Iu ((fW T0.bk names).eM false aH eu) m2:=fun i aH hw=>by
   have hi:i < names.length:=(ah.mp hw).1;obtain⟨g1,g2⟩:=Dc (pr:=names.map fun n=>(n,eu)) (k:=i) (x:=(aH,eu)) (by rw[aC,hw]; rfl);have a1:=F9 _ _ g1;have a2:=F9 _ _ g2;have b1:(eO T0.bk names ++ A2 ++ names.map fun _=>mT.sets [])[names.length + 2 * i]? =some (mT.pairs (T1.bk.eM true aH eu)):=by
    rw[bZ,fZ (by lia),Ku,show names.length + 2 * i - names.length=2 * i by lia,ju (by lia)];exact a1
   have b2:(eO T0.bk names ++ A2 ++ names.map fun _=>mT.sets [])[names.length + 2 * i + 1]? =some (mT.pairs (T1.bk.eM false aH eu)):=by
    rw[bZ,fZ (by lia),Ku,show names.length + 2 * i + 1 - names.length=2 * i + 1 by lia,ju (by lia)];exact a2
   rw[FH] at b1 b2;obtain⟨v1,e1,D1,m1,rfl,_,f1,f2⟩:=bK Q7 b1;obtain⟨v2,e2,D2,m2,rfl,_,f3,f4⟩:=bK Q7 b2;exact⟨D1,m1,D2,m2,e1,f1,f2,e2,f3,f4⟩
  generalize fW T0.bk names=S at VF mO Dh Di hq lc lb VD VE;clear Q7 F9 Ny Vz hL Q1 lP wf Rv Ku;have VG: ∀(o:Bool) (aH:Str),(mT.pairs (S.eM o aH eu)).dt.size<=1000/\(mT.pairs (S.eM o aH eu)).dt.plain=true:=fun o aH=>by
   have h1:=lY (fun t:Nat×Int=>Dt.tup [.int t.1,.int t.2]) 3 (S.eM o aH eu) (fun x _=>aD _);have h2:(S.eM o aH eu).length<=(S.rows o).length:=HI;have h3:(S.rows o).length<=60:=by
    cases o
    ·exact VE
    ·exact VD
   refine⟨?_,mC _ _ fun x _=>rfl⟩;show 1 + Dt.fC ((S.eM o aH eu).map fun t=>Dt.tup [.int t.1,.int t.2])<=1000;lia
  refine⟨_,rfl,(names.length:Int),rfl,by lia,by lia,?_⟩;rw[cW];refine jO (lo:=0) (n:=names.length) (fun i σ H'=> ∃(CM CO xW FR AW C2 AX NB:Option V),σ=[some (.ref a),some (.ref pc),some (.ref pa),some (.ref sd),some (.ref pn),some (.ref pm),x6,some (.ref pf),some (.int (names.length:Int)),some (.ref pD),CM,CO,xW,FR,AW,C2,AX,NB]/\aF Iu H') ⟨_,_,_,_,_,_,_,_,rfl,aF.refl _⟩ ?_ ?_
  ·rintro i σ H' hi ⟨CM,CO,xW,FR,AW,C2,AX,NB,rfl,t1⟩;rw[jN];have hw:=af hi;have hwm:=bH hi;obtain⟨D1,m1,D2,m2,e1,f1,f2,e2,f3,f4⟩:=VF i _ hw;have hqw:=hq _ hwm;generalize names[i]=aH at hw f2 f4 hqw;have hwv:(names.map V.str)[i]? =some (.str aH):=by rw[aC,hw]; rfl
   refine⟨bq _,fun po npo=>?_⟩;have v1:=aF.new (o:= .lst []) npo;have Uu:upd H' po (.lst []) po=some (.lst []):=ag;have t2:=t1.trans v1;have VH:Iu po=none:=t1.free npo;generalize upd H' po (.lst [])=Ha at v1 Uu t2;refine⟨_,rfl,sd,_,rfl,(mO.same t2).gB,_,rfl,_,rfl,pn,_,_,.str aH,rfl,rfl,bG.of (t2 _ _ Ot),cw hwv,g.pb,g.iK,S.aE,aH,2,(·.b),rfl,(mO.same t2).hb,(mO.same t2).rb,(by lia),(fun r=>rfl),fun Z5 Hb t3 nDb Z6=>?_⟩;have VI:=t3 _ _ Uu;have Z7:Z5≠po:=fun z=>by rw[z,Uu] at nDb; cases nDb
   have VJ:=t2.trans t3;refine⟨Z5,rfl,⟨_,bG.of Z6⟩,?_⟩;refine fA (K:=K) (a:=Z5) (xs:=(inTurn S.aE aH (·.b)).map fun(k:Nat)=>V.int (k:Int)) (fun j σ qe=> ∃(xW:Option V) (ws:List V),σ=[some (.ref a),some (.ref pc),some (.ref pa),some (.ref sd),some (.ref pn),some (.ref pm),x6,some (.ref pf),some (.int (names.length:Int)),some (.ref pD),some (.int (i:Int)),some (.ref po),xW,FR,AW,C2,AX,NB]/\Frame [po] Hb qe/\qe po=some (.lst ws)/\eN qe (((inTurn S.aE aH (·.b)).take j).map fun k=>(k,(S.bl k).d)) ws)
    ⟨_,[],rfl,Frame.refl,VI,.nil⟩ (fun j σ qe _ ⟨_,_,_,f5,_⟩=>bG.of (f5 _ _ (by simpa using Z7) Z6)) ?_ ?_
   ·rintro j x σ qe hx ⟨y12,ws,rfl,f5,NC,VL⟩;rw[aC] at hx;obtain⟨b,My,rfl⟩:=a8.mp hx;have hj:j < (inTurn S.aE aH (·.b)).length:=(ah.mp My).1;have HB:=(bP.mp (ez My)).1;have t5:aF Iu qe:=fun c o e=>f5 _ _ (by simpa using aJ e VH) (VJ _ _ e);have Q8:=mO.same t5;obtain⟨q,q1,q2,q3⟩:=Q8.lb HB;have yo:=aO VL;rw[ae,ba] at yo;have Zh:=ig S.aE aH (·.b);refine⟨_,rfl,.inl ⟨rfl,_,bG.of NC⟩,_,rfl,_,rfl,sd,_,rfl,Q8.gB,_,rfl,g.pb,_,_,.ref q,rfl,rfl,bG.of Q8.hb,q2,q,_,_,.int (S.bl b).d,rfl,rfl,bG.of q3,rfl,(by show 2<=sizeLine; decide),fun p8 n8=>?_⟩;have u8:=aF.new (o:= .tup [V.int (b:Int),.int (S.bl b).d]) n8;refine⟨po,ws,_,rfl,rfl,u8 _ _ NC,bf (by lia),?_⟩;have tk:=u8.tk.trans (dU (o:= .lst (ws ++ [V.ref p8])) (u8 _ _ NC));refine⟨_,ws ++ [.ref p8],rfl,(f5.cS u8).tr (Frame.upd (by simp)),ag,?_⟩;rw[gU hj,(ah.mp My).2,aL];exact cu (eN.mono VL tk) ⟨p8,rfl,dU (u8 _ _ NC) _ _ ag⟩
   rintro σ Hc ⟨y12,wo,rfl,f6,Q9,WW⟩;rw[ae,aZ] at WW;have t6:aF Iu Hc:=fun c o e=>f6 _ _ (by simpa using aJ e VH) (VJ _ _ e);have eo:((inTurn S.aE aH (·.b)).map fun k=>(k,(S.bl k).d))=S.eM true aH eu:=(tf Dh Di true aH).symm;rw[eo] at WW;refine⟨bq _,fun pr Z8=>?_⟩;have w1:=aF.new (o:= .lst []) Z8;have Eo:upd Hc pr (.lst []) pr=some (.lst []):=ag;have t7:=t6.trans w1;have VM:Iu pr=none:=t6.free Z8;have Ra:=w1 _ _ Q9;have Rb:=eN.mono WW w1.tk;generalize upd Hc pr (.lst [])=Hd at w1 Eo t7 Ra Rb;refine⟨_,rfl,sd,_,rfl,(mO.same t7).gC,_,rfl,_,rfl,pn,_,_,.str aH,rfl,rfl,bG.of (t7 _ _ Ot),cw hwv,g.pc,g.cps,S.credits,aH,1,(·.a),rfl,(mO.same t7).hc,(mO.same t7).rc,(by lia),(fun r=>rfl),fun Z9 He t8 nDc hDc=>?_⟩;have Rc:=t8 _ _ Eo;have aab:Z9≠pr:=fun z=>by rw[z,Eo] at nDc; cases nDc
   have aac:po≠pr:=aJ Q9 Z8;have VN:=t8 _ _ Ra;have VO:=eN.mono Rb t8.tk;have RG:=t7.trans t8;refine⟨Z9,rfl,⟨_,bG.of hDc⟩,?_⟩;refine fA (K:=K) (a:=Z9) (xs:=(inTurn S.credits aH (·.a)).map fun(k:Nat)=>V.int (k:Int)) (fun j σ qe=> ∃(AW:Option V) (ws:List V),σ=[some (.ref a),some (.ref pc),some (.ref pa),some (.ref sd),some (.ref pn),some (.ref pm),x6,some (.ref pf),some (.int (names.length:Int)),some (.ref pD),some (.int (i:Int)),some (.ref po),y12,some (.ref pr),AW,C2,AX,NB]/\Frame [pr] He qe/\qe pr=some (.lst ws)/\eN qe (((inTurn S.credits aH (·.a)).take j).map fun k=>(k,(S.cr k).d)) ws)
    ⟨_,[],rfl,Frame.refl,Rc,.nil⟩ (fun j σ qe _ ⟨_,_,_,f5,_⟩=>bG.of (f5 _ _ (by simpa using aab) hDc)) ?_ ?_
   ·rintro j x σ qe hx ⟨y14,ws,rfl,f5,ND,VL⟩;rw[aC] at hx;obtain⟨b,My,rfl⟩:=a8.mp hx;have hj:j < (inTurn S.credits aH (·.a)).length:=(ah.mp My).1;have HB:=(bP.mp (ez My)).1;have t5:aF Iu qe:=fun c o e=>f5 _ _ (by simpa using aJ e VM) (RG _ _ e);have Q8:=mO.same t5;obtain⟨q,q1,q2,q3⟩:=Q8.lc HB;have yo:=aO VL;rw[ae,ba] at yo;have Zh:=ig S.credits aH (·.a);refine⟨_,rfl,.inl ⟨rfl,_,bG.of ND⟩,_,rfl,_,rfl,sd,_,rfl,Q8.gC,_,rfl,g.pc,_,_,.ref q,rfl,rfl,bG.of Q8.hc,q2,q,_,_,.int (S.cr b).d,rfl,rfl,bG.of q3,rfl,(by show 2<=sizeLine; decide),fun p8 n8=>?_⟩;have u8:=aF.new (o:= .tup [V.int (b:Int),.int (S.cr b).d]) n8;refine⟨pr,ws,_,rfl,rfl,u8 _ _ ND,bf (by lia),?_⟩;have tk:=u8.tk.trans (dU (o:= .lst (ws ++ [V.ref p8])) (u8 _ _ ND));refine⟨_,ws ++ [.ref p8],rfl,(f5.cS u8).tr (Frame.upd (by simp)),ag,?_⟩;rw[gU hj,(ah.mp My).2,aL];exact cu (eN.mono VL tk) ⟨p8,rfl,dU (u8 _ _ ND) _ _ ag⟩
   rintro σ Hf ⟨y14,wf',rfl,f9,aad,hPr⟩;rw[ae,aZ] at hPr;have t9:aF Iu Hf:=fun c o e=>f9 _ _ (by simpa using aJ e VM) (RG _ _ e);have ef:((inTurn S.credits aH (·.a)).map fun k=>(k,(S.cr k).d))=S.eM false aH eu:=(tf Dh Di false aH).symm;rw[ef] at hPr;have aaf:=f9 _ _ (by simpa using aac) VN;have aag:eN Hf (S.eM true aH eu) wo:=eN.mono VO (fun c xs e=>f9 _ _ (fun z=>by rw[ao.mp z,Rc] at e; cases e) e);clear WW Rb VO Uu VI Q9 Ra VN Eo Rc f6 f9 t2 t3 t6 t7 t8 VJ RG v1 w1 Z6 hDc eo ef;refine⟨_,rfl,_,rfl,_,_,rfl,rfl,.inl ⟨by decide,by decide⟩,_,_,rfl,rfl,?_⟩;dsimp only;rw[show(names.length:Int) + 2 * (i:Int)=((names.length + 2 * i:Nat):Int) by lia];generalize afe:names.length + 2 * i=rG at e1 e2;refine⟨_,rfl,_,rfl,_,rfl,_,rfl,_,_,rfl,rfl,_,rfl,pf,_,rfl,bG.of (t9 _ _ Ld),fun p5 n5=>?_⟩;rw[show(rG:Int) + 2=((rG + 2:Nat):Int) by lia,K6 fw rG e1 e2];have u5:=aF.new (o:= .lst [V.ref D1,.ref D2]) n5;refine⟨_,rfl,_,rfl,(by show 2<=sizeLine; decide),fun p6 n6=>?_⟩;have u6:=aF.new (o:= .lst [V.ref po,.ref pr]) n6;have VP:=u5.trans u6;have VQ:=t9.trans VP;obtain⟨z1,pl1⟩:=VG true aH;obtain⟨z2,pl2⟩:=VG false aH;refine⟨.lst [(mT.pairs (S.eM true aH eu)).dt,(mT.pairs (S.eM false aH eu)).dt],.ref p5,.ref p6,rfl,fb (u6 _ _ ag) (br.mpr ⟨_,_,rfl,fb (VQ _ _ f1) (eN.Lq (eN.mono f2 VQ.tk)),br.mpr ⟨_,_,rfl,fb (VQ _ _ f3) (eN.Lq (eN.mono f4 VQ.tk)),cq.mpr rfl⟩⟩),fb ag (br.mpr ⟨_,_,rfl,fb (VP _ _ aaf) (eN.Lq (eN.mono aag VP.tk)),br.mpr ⟨_,_,rfl,fb (VP _ _ aad) (eN.Lq (eN.mono hPr VP.tk)),cq.mpr rfl⟩⟩),?_,?_,fun H19 t19=>⟨_,rfl,bX ?_⟩⟩
   ·simp only[Dt.size,Dt.fC] at z1 z2 ⊢;lia
   ·simp only[Dt.plain,Dt.nE,Bool.and_true] at pl1 pl2 ⊢;rw[pl1,pl2];rfl
   have t20:=VQ.trans t19;have MR:=aO f2;have V5:=aO f4;refine⟨_,rfl,_,rfl,_,_,rfl,rfl,pf,_,_,.ref D2,rfl,rfl,bG.of (t20 _ _ Ld),(by rw[show(rG:Int) + 1=((rG + 1:Nat):Int) by lia]; exact cw e2),D2,rfl,⟨_,bG.of (t20 _ _ f3)⟩,?_⟩;refine fA (K:=K) (a:=D2) (xs:=m2) (fun j σ qe=> ∃(xW AW AX NB:Option V),σ=[some (.ref a),some (.ref pc),some (.ref pa),some (.ref sd),some (.ref pn),some (.ref pm),x6,some (.ref pf),some (.int (names.length:Int)),some (.ref pD),some (.int (i:Int)),some (.ref po),xW,some (.ref pr),AW,some (.int (rG:Int)),AX,NB]/\aF Iu qe) ⟨_,_,_,_,rfl,t20⟩ (fun j σ qe _ ⟨_,_,_,_,_,t⟩=>bG.of (t _ _ f3)) ?_ ?_
   ·rintro j x σ qe hx ⟨z12,z14,z16,z17,rfl,R6⟩;have hj:j < (S.eM false aH eu).length:=by have:=(ah.mp hx).1; lia
    obtain⟨v',VZ,p,rfl,hp⟩:=bK f4 (af hj);rw[hx] at VZ;obtain rfl:x= .ref p:=aG VZ;obtain⟨c1,c2,c3⟩:=De Dh Di (bH hj);generalize (S.eM false aH eu)[j]=tc at hp c1 c2 c3;refine⟨p,_,rfl,cE.of (R6 _ _ hp),rfl,_,_,rfl,_,_,rfl,rfl,?_⟩;refine⟨_,rfl,_,rfl,pf,_,_,.ref D1,rfl,rfl,bG.of (R6 _ _ Ld),cw e1,D1,rfl,⟨_,bG.of (R6 _ _ f1)⟩,?_⟩;refine fA (K:=K) (a:=D1) (xs:=m1) (fun l σ WX=> ∃(xW NB:Option V),σ=[some (.ref a),some (.ref pc),some (.ref pa),some (.ref sd),some (.ref pn),some (.ref pm),x6,some (.ref pf),some (.int (names.length:Int)),some (.ref pD),some (.int (i:Int)),some (.ref po),xW,some (.ref pr),some (.int (tc.1:Int)),some (.int (rG:Int)),some (.int tc.2),NB]/\aF Iu WX) ⟨_,_,rfl,R6⟩ (fun l σ WX _ ⟨_,_,_,t⟩=>bG.of (t _ _ f1)) ?_ ?_
    ·rintro l x σ WX hx2 ⟨w12,w17,rfl,VR⟩;have hl:l < (S.eM true aH eu).length:=by have:=(ah.mp hx2).1; lia
     obtain⟨v'',VS,p',rfl,N4⟩:=bK f2 (af hl);rw[hx2] at VS;obtain rfl:x= .ref p':=aG VS;obtain⟨b1,b2,b3⟩:=De Dh Di (bH hl);generalize (S.eM true aH eu)[l]=tb at N4 b1 b2 b3;refine⟨p',_,rfl,cE.of (VR _ _ N4),rfl,_,_,rfl,_,_,rfl,rfl,?_⟩;refine⟨_,rfl,_,rfl,_,rfl,sd,S,g,tc.1,tb.1,rfl,mO.same VR,c1,b1,fun H4' VJ=>⟨_,rfl,cG (fun z=>?_) (fun _=>⟨_,_,rfl,VR.trans VJ⟩)⟩⟩;exfalso;have z1:0 < (S.cr tc.1).d:=c3;have z2:0 < (S.bl tb.1).d:=b3;rcases hqw tc.1 tb.1 c2 b2 z with y|y <;> lia
    ·rintro σ WX ⟨w12,w17,rfl,VR⟩;exact⟨_,_,_,_,rfl,VR⟩
   ·rintro σ qe ⟨z12,z14,z16,z17,rfl,R6⟩;exact⟨_,_,_,_,_,_,_,_,rfl,R6⟩
  ·rintro σ H' ⟨CM,CO,xW,FR,AW,C2,AX,NB,rfl,_⟩;exact k H'
section
variable {h:Heap}{x q:Str}{st:Stmt}{f C R:Addr}{oc kV dc pm cd ct:Value}{od an:Option Addr}{sl:Array (Option Value)}
abbrev Ou (K:Frag)(f:Addr)(x q:Str)(st:Stmt)(oc:Value)(od an:Option Addr)(kV dc pm cd ct:Value)(sl:Array (Option Value)):Prop:=K.lookup f=some ⟨oc,od,.func (fnOf x q (gJ st) (dF st) (aA st) .none kV dc pm an cd ct),sl⟩
def dh (X:K.In h)(G:h.Ns mainGlobals mg)(a:nsIn K mainGlobals x=some (some (.ref f)))(l:Ou K f x x st oc od an kV dc pm cd ct sl)(c:codeIn K cd x=true)(k:keepIn K (.ref f)=true):Df K mg x st:=⟨_,_,qc l c k,c9 X G a⟩
def lZ (a:findIn K (.ref C) x=some (some (.ref f)))(i:PySem.W.isFn K (.ref f)=true)(l:Ou K f x q st oc od an kV dc pm cd ct sl)(c:codeIn K cd q=true)(k:keepIn K (.ref f)=true): ∃f fd,gw K x q st f fd/\Meth K C x f:=⟨_,_,qc l c k,a,i,k⟩
def Gb (a:findIn K (.ref C) "__init__"=some (some (.ref f)))(i:PySem.W.isFn K (.ref f)=true)(l:Ou K f "__init__" q st oc od an kV dc pm cd ct sl)(c:codeIn K cd q=true)(k:keepIn K (.ref f)=true)(m:makesIn K C=true)(kc:keepIn K (.ref C)=true): ∃f fd,gw K "__init__" q st f fd/\Mk K C f:=⟨_,_,qc l c k,m,a,i,kc⟩
def tZ (a:findIn K (.ref C) "__init__"=some (some (.ref f)))(t:typeIn K (.ref f)=some (.type "function"))(l:Ou K f "__init__" q st oc od an kV dc pm cd ct sl)(c:codeIn K cd q=true)(k:keepIn K (.ref f)=true): ∃f fd,gw K "__init__" q st f fd/\findIn K (.ref C) "__init__"=some (some (.ref f))/\typeIn K (.ref f)=some (.type "function"):=⟨_,_,qc l c k,a,t⟩
def Rf (r:readsIn K C (.type "type")=true)(s:specialIn K (.ref C) "__getattribute__"=some (some (.builtin "type.__getattribute__")))(a:findCls K (.ref C) (.type "type") "__init__"=some (.val (.ref f)))(l:Ou K f "__init__" q st oc od an kV dc pm cd ct sl)(c:codeIn K cd q=true)(k:keepIn K (.ref f)=true): ∃f fd,gw K "__init__" q st f fd/\Fq K C f:=⟨_,_,qc l c k,r,s,a,k⟩
def ua {nm:Str}{N:Addr}{bs:List Value}{sn:List Str}{sub:List Value}{ab:Bool}{col:Option Bool}{dd:Option Addr}{k0 k1 k2 k3 k5:Option Value}(o:K.lookup C=some (excClassObj nm q C N bs [.ref R,.type "Exception",.type "BaseException",.type "object"] true sn sub ab col dd k0 k1 k2 k3 k5 "Exception.__new__"))
  (a:findIn K (.ref C) "__setattr__"=some (some (.builtin "object.__setattr__"))) (b:findIn K (.ref C) "__getattribute__"=some (some (.builtin "BaseException.__getattribute__"))) (c:findIn K (.ref C) "__getattr__"=some none) (d:findIn K (.ref C) "text"=some none):g8 K C R:=⟨⟨_,_,_,_,_,_,_,_,_,_,_,_,_,_,_,o,.inr rfl⟩,a,b,c,d⟩
def Rg {nm:Str}{N:Addr}{bs:List Value}{sn:List Str}{sub:List Value}{ab:Bool}{col:Option Bool}{dd:Option Addr}{k0 k1 k2 k3 k5:Option Value}(o:K.lookup C=some (excClassObj nm q C N bs [.type "Exception",.type "BaseException",.type "object"] true sn sub ab col dd k0 k1 k2 k3 k5 "Exception.__new__"))
  (a:findIn K (.ref C) "__setattr__"=some (some (.builtin "object.__setattr__"))) (b:findIn K (.ref C) "__getattribute__"=some (some (.builtin "BaseException.__getattribute__"))) (c:findIn K (.ref C) "__getattr__"=some none) (d:findIn K (.ref C) "text"=some none):g8 K C C:=⟨⟨_,_,_,_,_,_,_,_,_,_,_,_,_,_,_,o,.inl ⟨rfl,rfl⟩⟩,a,b,c,d⟩
def Ov {c tb:Addr}(X:K.In h)(G:h.Ns mainGlobals mg)(a:nsIn K mainGlobals x=some (some (.ref f)))(l:Ou K f x x st oc od an kV dc pm (.ref c) ct sl)(cd:codeIn K (.ref c) x=true)(k:keepIn K (.ref f)=true)(hd:codeHdIn K c tb=true)(n:K.lookup tb=none):qI K mg x st tb/\ ∃c,codeHdIn K c tb=true/\K.lookup tb=none:=⟨⟨f,c,oc,od,kV,dc,pm,an,ct,sl,l,cd,k,c9 X G a,hd⟩,c,hd,n⟩
end
end
def Rh {K:Frag}{mg:Str->Option Value}{mF iP fX mG eI km oz jr ko kq l0 js oA:Addr}(h1:mg "Refusal"=some (.ref eI))(h2:g8 K eI eI)(h3:keepIn K (.ref eI)=true)(h4: ∃f fd,gw K "__init__" "Refusal.__init__" (mem 3 0) f fd/\Fq K eI f)(h5:mg "NoCredit"=some (.ref km))(h6:g8 K km eI)(h7:keepIn K (.ref km)=true)(h8: ∃f fd,gw K "__init__" "NoCredit.__init__" (mem 4 0) f fd/\findIn K (.ref km) "__init__"=some (some (.ref f))/\typeIn K (.ref f)=some (.type "function"))(h9:mg "NoBill"=some (.ref oz))(Lj:g8 K oz eI)(X4:keepIn K (.ref oz)=true)(We: ∃f fd,gw K "__init__" "NoBill.__init__" (mem 5 0) f fd/\findIn K (.ref oz) "__init__"=some (some (.ref f))/\typeIn K (.ref f)=some (.type "function"))(h13:mg "NotTheirs"=some (.ref jr))(h14:g8 K jr eI)(XI:keepIn K (.ref jr)=true)(h16: ∃f fd,gw K "__init__" "NotTheirs.__init__" (mem 6 0) f fd/\findIn K (.ref jr) "__init__"=some (some (.ref f))/\typeIn K (.ref f)=some (.type "function"))(h17:mg "NoAmount"=some (.ref ko))(h18:g8 K ko eI)(h19:keepIn K (.ref ko)=true)(h20: ∃f fd,gw K "__init__" "NoAmount.__init__" (mem 7 0) f fd/\findIn K (.ref ko) "__init__"=some (some (.ref f))/\typeIn K (.ref f)=some (.type "function"))(h21:mg "TooEarly"=some (.ref kq))(h22:g8 K kq eI)(h23:keepIn K (.ref kq)=true)(YB: ∃f fd,gw K "__init__" "TooEarly.__init__" (mem 8 0) f fd/\findIn K (.ref kq) "__init__"=some (some (.ref f))/\typeIn K (.ref f)=some (.type "function"))(h25:mg "TooMuch"=some (.ref l0))(h26:g8 K l0 eI)(h27:keepIn K (.ref l0)=true)(h28: ∃f fd,gw K "__init__" "TooMuch.__init__" (mem 9 0) f fd/\findIn K (.ref l0) "__init__"=some (some (.ref f))/\typeIn K (.ref f)=some (.type "function"))(h29:mg "NoSetting"=some (.ref js))(h30:g8 K js eI)(h31:keepIn K (.ref js)=true)(h32: ∃f fd,gw K "__init__" "NoSetting.__init__" (mem 10 0) f fd/\findIn K (.ref js) "__init__"=some (some (.ref f))/\typeIn K (.ref f)=some (.type "function"))(h33:mg "Needed"=some (.ref oA))(YC:g8 K oA eI)(h35:keepIn K (.ref oA)=true)(h36: ∃f fd,gw K "__init__" "Needed.__init__" (mem 11 0) f fd/\findIn K (.ref oA) "__init__"=some (some (.ref f))/\typeIn K (.ref f)=some (.type "function"))(h37:mg "Bill"=some (.ref mF))(h38:wX K mF)(h39:b9 K mF "number")(h40:b9 K mF "who")(h41:b9 K mF "day")(h42:b9 K mF "due")(h43:b9 K mF "amount")(h44: ∃f fd,gw K "__init__" "Bill.__init__" (mem 13 0) f fd/\Mk K mF f)(h45:mg "Credit"=some (.ref iP))(h46:wX K iP)(h47:b9 K iP "number")(h48:b9 K iP "who")(h49:b9 K iP "day")(h50:b9 K iP "amount")(h51:b9 K iP "only")(h52: ∃f fd,gw K "__init__" "Credit.__init__" (mem 14 0) f fd/\Mk K iP f)(h53:mg "Work"=some (.ref fX))(YD:wX K fX)(h55:b9 K fX "bills")(h56:b9 K fX "all_credits")(h57:b9 K fX "lefts")(h58:b9 K fX "frees")(h59:b9 K fX "made")(h60: ∃f fd,gw K "__init__" "Work.__init__" (mem 25 0) f fd/\Mk K fX f)(h61: ∃f fd,gw K "tell_bill" "Work.tell_bill" (mem 25 1) f fd/\Meth K fX "tell_bill" f)(h62: ∃f fd,gw K "tell_payment" "Work.tell_payment" (mem 25 2) f fd/\Meth K fX "tell_payment" f)(h63: ∃f fd,gw K "tell_note" "Work.tell_note" (mem 25 3) f fd/\Meth K fX "tell_note" f)(Dl: ∃f fd,gw K "tell_credit" "Work.tell_credit" (mem 25 4) f fd/\Meth K fX "tell_credit" f)(h65: ∃f fd,gw K "set_by_hand" "Work.set_by_hand" (mem 25 5) f fd/\Meth K fX "set_by_hand" f)(h66: ∃f fd,gw K "sweep" "Work.sweep" (mem 25 6) f fd/\Meth K fX "sweep" f)(h67: ∃f fd,gw K "one_round" "Work.one_round" (mem 25 7) f fd/\Meth K fX "one_round" f)(h68: ∃f fd,gw K "put" "Work.put" (mem 25 8) f fd/\Meth K fX "put" f)(h69: ∃f fd,gw K "credit_at" "Work.credit_at" (mem 25 9) f fd/\Meth K fX "credit_at" f)(h70: ∃f fd,gw K "bill_at" "Work.bill_at" (mem 25 10) f fd/\Meth K fX "bill_at" f)(h71:mg "Book"=some (.ref mG))(h72:wX K mG)(h73:b9 K mG "kept")(h74:b9 K mG "work")(h75: ∃f fd,gw K "__init__" "Book.__init__" (mem 29 0) f fd/\Mk K mG f)(h76: ∃f fd,gw K "do" "Book.do" (mem 29 1) f fd/\Meth K mG "do" f)(h77: ∃f fd,gw K "undo" "Book.undo" (mem 29 2) f fd/\Meth K mG "undo" f)(h78: ∃f fd,gw K "in_force" "Book.in_force" (mem 29 3) f fd/\Meth K mG "in_force" f):jI K mg ⟨mF,iP,fX,mG,eI,km,oz,jr,ko,kq,l0,js,oA⟩:=⟨h1,h2,h3,h4,h5,h6,h7,h8,h9,Lj,X4,We,h13,h14,XI,h16,h17,h18,h19,h20,h21,h22,h23,YB,h25,h26,h27,h28,h29,h30,h31,h32,h33,YC,h35,h36,h37,h38,h39,h40,h41,h42,h43,h44,h45,h46,h47,h48,h49,h50,h51,h52,h53,YD,h55,h56,h57,h58,h59,h60,h61,h62,h63,Dl,h65,h66,h67,h68,h69,h70,h71,h72,h73,h74,h75,h76,h77,h78⟩
def all_mk {l:PySem.W.OpenLaw}{w:World}{K:Frag}{h:Heap}{mg:Str->Option Value}{f fa:Addr}{oc kV dc pm cd ct:Value}{od an:Option Addr}{sl:Array (Option Value)}(X:K.In h)(G:h.Ns mainGlobals mg)(Z2:mg "law"=some (.ref fa)){A:dZ}(GP:jI K mg A)(hnd:A.i9≠A.tooMuch)(T:Txt K mg)(DB:qI K mg "bills_in_order" (top 17) 249/\ ∃c,codeHdIn K c 249=true/\K.lookup 249=none)(DC:qI K mg "credits_in_order" (top 18) 254/\ ∃c,codeHdIn K c 254=true/\K.lookup 254=none)(a:nsIn K mainGlobals "law"=some (some (.ref f)))(lk:Ou K f "law" "law" (top 64) oc od an kV dc pm cd ct sl)(c:codeIn K cd "law"=true)(k:keepIn K (.ref f)=true):
  ∃(fd:FuncData) (cps:List (Addr×Addr)),(∀cp∈cps,cp.2∈[254,249])/\(∀cp∈cps,codeHdIn K cp.1 cp.2=true/\K.lookup cp.2=none)/\(∀(s:Shared) (u:Value),BindsTo s fd ⟨[u],[]⟩ [("_law_script",u)])/\
   ∀base:Heap,K.In base->base.Ns mainGlobals mg->BMain mg base->l7 l.prog w K mg base sD 13 fa fd ["_law_script"] (K2 K cps):=by
 have e:=Z2.symm.trans (c9 X G a);cases e;obtain⟨DB,cb,b1,b2⟩:=DB;obtain⟨DC,cc,c1,c2⟩:=DC;refine⟨_,[(cb,249),(cc,254)],fun cp hc=>?_,fun cp hc=>?_,fun s v=> .of_eq rfl,fun base KB _ BM=>QV (qc (st:=top 64) lk c k) T GP DB DC (by decide) hnd KB BM ⟨cb,by simp⟩ ⟨cc,by simp⟩⟩
 ·simp only[List.mem_cons,List.not_mem_nil,or_false] at hc;rcases hc with rfl|rfl <;> simp
 ·simp only[List.mem_cons,List.not_mem_nil,or_false] at hc;rcases hc with rfl|rfl
  ·exact⟨b1,b2⟩
  ·exact⟨c1,c2⟩
end eV
open PySem PySem.W PyProof.Rows L2
set_option maxRecDepth 100000 in
set_option maxHeartbeats 0 in
theorem PySem.Challenge.cw_spikebook_k08_whole_sweeps_leave_nothing_holds : PySem.Challenge.rw_spikebook_k08_whole_sweeps_leave_nothing.Holds := by
 w_on; o_law; k_head; (case hw=>w_witness2)
 k_fill
 refine L2.JO (n:=63) (k:=13) (ts:=[254,249]) (x:="_law_script") (sp:=fun K cps=>eV.K2 K cps) rfl (by decide) rfl ⟨rfl,by decide,by decide⟩ (fun w h Y=>⟨PySem.W.km_in_of Y,PySem.W.km_tabs_of Y⟩) ?F (fun _ cps _ a ns hl hO hS=>⟨a,ns,rfl,hS,hl,hO,fun _=>rfl⟩)
 case F=>
  intro w mg fa h KX G SS
  refine' eV.all_mk KX G SS (eV.Rh (c9 KX G ?q1) (eV.Rg ?q2 ?q3 ?q4 ?q5 ?q6) ?q7 (eV.Rf ?q8 ?q9 ?q10 ?q11 ?q12 ?q13) (c9 KX G ?q14) (eV.ua ?q15 ?q16 ?q17 ?q18 ?q19) ?q20 (eV.tZ ?q21 ?q22 ?q23 ?q24 ?q25) (c9 KX G ?q26) (eV.ua ?q27 ?q28 ?q29 ?q30 ?q31) ?q32 (eV.tZ ?q33 ?q34 ?q35 ?q36 ?q37) (c9 KX G ?q38) (eV.ua ?q39 ?q40 ?q41 ?q42 ?q43) ?q44 (eV.tZ ?q45 ?q46 ?q47 ?q48 ?q49) (c9 KX G ?q50) (eV.ua ?q51 ?q52 ?q53 ?q54 ?q55) ?q56 (eV.tZ ?q57 ?q58 ?q59 ?q60 ?q61) (c9 KX G ?q62) (eV.ua ?q63 ?q64 ?q65 ?q66 ?q67) ?q68 (eV.tZ ?q69 ?q70 ?q71 ?q72 ?q73) (c9 KX G ?q74) (eV.ua ?q75 ?q76 ?q77 ?q78 ?q79) ?q80 (eV.tZ ?q81 ?q82 ?q83 ?q84 ?q85) (c9 KX G ?q86) (eV.ua ?q87 ?q88 ?q89 ?q90 ?q91) ?q92 (eV.tZ ?q93 ?q94 ?q95 ?q96 ?q97) (c9 KX G ?q98) (eV.ua ?q99 ?q100 ?q101 ?q102 ?q103) ?q104 (eV.tZ ?q105 ?q106 ?q107 ?q108 ?q109) (c9 KX G ?q110) ⟨?q111,?q112,?q113,?q114⟩ ?q115 ?q116 ?q117 ?q118 ?q119 (eV.Gb ?q120 ?q121 ?q122 ?q123 ?q124 ?q125 ?q126) (c9 KX G ?q127) ⟨?q128,?q129,?q130,?q131⟩ ?q132 ?q133 ?q134 ?q135 ?q136 (eV.Gb ?q137 ?q138 ?q139 ?q140 ?q141 ?q142 ?q143) (c9 KX G ?q144) ⟨?q145,?q146,?q147,?q148⟩ ?q149 ?q150 ?q151 ?q152 ?q153 (eV.Gb ?q154 ?q155 ?q156 ?q157 ?q158 ?q159 ?q160) (eV.lZ ?q161 ?q162 ?q163 ?q164 ?q165) (eV.lZ ?q166 ?q167 ?q168 ?q169 ?q170) (eV.lZ ?q171 ?q172 ?q173 ?q174 ?q175) (eV.lZ ?q176 ?q177 ?q178 ?q179 ?q180) (eV.lZ ?q181 ?q182 ?q183 ?q184 ?q185) (eV.lZ ?q186 ?q187 ?q188 ?q189 ?q190) (eV.lZ ?q191 ?q192 ?q193 ?q194 ?q195) (eV.lZ ?q196 ?q197 ?q198 ?q199 ?q200) (eV.lZ ?q201 ?q202 ?q203 ?q204 ?q205) (eV.lZ ?q206 ?q207 ?q208 ?q209 ?q210) (c9 KX G ?q211) ⟨?q212,?q213,?q214,?q215⟩ ?q216 ?q217 (eV.Gb ?q218 ?q219 ?q220 ?q221 ?q222 ?q223 ?q224) (eV.lZ ?q225 ?q226 ?q227 ?q228 ?q229) (eV.lZ ?q230 ?q231 ?q232 ?q233 ?q234) (eV.lZ ?q235 ?q236 ?q237 ?q238 ?q239)) ?hnd ⟨eV.dh KX G ?q240 ?q241 ?q242 ?q243,eV.dh KX G ?q244 ?q245 ?q246 ?q247,eV.dh KX G ?q248 ?q249 ?q250 ?q251,eV.dh KX G ?q252 ?q253 ?q254 ?q255,eV.dh KX G ?q256 ?q257 ?q258 ?q259,eV.dh KX G ?q260 ?q261 ?q262 ?q263,eV.dh KX G ?q264 ?q265 ?q266 ?q267,eV.dh KX G ?q268 ?q269 ?q270 ?q271,eV.dh KX G ?q272 ?q273 ?q274 ?q275,eV.dh KX G ?q276 ?q277 ?q278 ?q279,eV.dh KX G ?q280 ?q281 ?q282 ?q283,eV.dh KX G ?q284 ?q285 ?q286 ?q287,eV.dh KX G ?q288 ?q289 ?q290 ?q291,eV.dh KX G ?q292 ?q293 ?q294 ?q295,eV.dh KX G ?q296 ?q297 ?q298 ?q299,eV.dh KX G ?q300 ?q301 ?q302 ?q303,eV.dh KX G ?q304 ?q305 ?q306 ?q307,eV.dh KX G ?q308 ?q309 ?q310 ?q311,eV.dh KX G ?q312 ?q313 ?q314 ?q315,eV.dh KX G ?q316 ?q317 ?q318 ?q319,eV.dh KX G ?q320 ?q321 ?q322 ?q323,eV.dh KX G ?q324 ?q325 ?q326 ?q327,eV.dh KX G ?q328 ?q329 ?q330 ?q331,eV.dh KX G ?q332 ?q333 ?q334 ?q335,eV.dh KX G ?q336 ?q337 ?q338 ?q339,eV.dh KX G ?q340 ?q341 ?q342 ?q343,eV.dh KX G ?q344 ?q345 ?q346 ?q347,eV.dh KX G ?q348 ?q349 ?q350 ?q351,eV.dh KX G ?q352 ?q353 ?q354 ?q355,eV.dh KX G ?q356 ?q357 ?q358 ?q359,eV.dh KX G ?q360 ?q361 ?q362 ?q363,eV.dh KX G ?q364 ?q365 ?q366 ?q367,eV.dh KX G ?q368 ?q369 ?q370 ?q371,eV.dh KX G ?q372 ?q373 ?q374 ?q375,eV.dh KX G ?q376 ?q377 ?q378 ?q379,eV.dh KX G ?q380 ?q381 ?q382 ?q383,eV.dh KX G ?q384 ?q385 ?q386 ?q387,eV.dh KX G ?q388 ?q389 ?q390 ?q391,eV.dh KX G ?q392 ?q393 ?q394 ?q395,eV.dh KX G ?q396 ?q397 ?q398 ?q399,eV.dh KX G ?q400 ?q401 ?q402 ?q403,eV.dh KX G ?q404 ?q405 ?q406 ?q407,eV.dh KX G ?q408 ?q409 ?q410 ?q411,eV.dh KX G ?q412 ?q413 ?q414 ?q415,bY KX G ?q416,bY KX G ?q417,bY KX G ?q418,bY KX G ?q419,bY KX G ?q420,bY KX G ?q421,bY KX G ?q422,bY KX G ?q423,bY KX G ?q424,bY KX G ?q425,bY KX G ?q426,bY KX G ?q427,bY KX G ?q428,bY KX G ?q429,bY KX G ?q430⟩ (eV.Ov KX G ?q431 ?q432 ?q433 ?q434 ?u1 ?u2) (eV.Ov KX G ?q435 ?q436 ?q437 ?q438 ?u3 ?u4) ?q439 ?q440 ?q441 ?q442
  case q1|q2|q3|q4|q5|q6|q7|q8|q9|q10|q11|q12|q13|q14|q15|q16|q17|q18|q19|q20|q21|q22|q23|q24|q25|q26|q27|q28|q29|q30|q31|q32|q33|q34|q35|q36|q37|q38|q39|q40|q41|q42|q43|q44|q45|q46|q47|q48|q49|q50|q51|q52|q53|q54|q55|q56|q57|q58|q59|q60|q61|q62|q63|q64|q65|q66|q67|q68|q69|q70|q71|q72|q73|q74|q75|q76|q77|q78|q79|q80|q81|q82|q83|q84|q85|q86|q87|q88|q89|q90|q91|q92|q93|q94|q95|q96|q97|q98|q99|q100|q101|q102|q103|q104|q105|q106|q107|q108|q109|q110|q111|q112|q113|q114|q115|q116|q117|q118|q119|q120|q121|q122|q123|q124|q125|q126|q127|q128|q129|q130|q131|q132|q133|q134|q135|q136|q137|q138|q139|q140|q141|q142|q143|q144|q145|q146|q147|q148|q149|q150|q151|q152|q153|q154|q155|q156|q157|q158|q159|q160|q161|q162|q163|q164|q165|q166|q167|q168|q169|q170|q171|q172|q173|q174|q175|q176|q177|q178|q179|q180|q181|q182|q183|q184|q185|q186|q187|q188|q189|q190|q191|q192|q193|q194|q195|q196|q197|q198|q199|q200|q201|q202|q203|q204|q205|q206|q207|q208|q209|q210|q211|q212|q213|q214|q215|q216|q217|q218|q219|q220|q221|q222|q223|q224|q225|q226|q227|q228|q229|q230|q231|q232|q233|q234|q235|q236|q237|q238|q239|q240|q241|q242|q243|q244|q245|q246|q247|q248|q249|q250|q251|q252|q253|q254|q255|q256|q257|q258|q259|q260|q261|q262|q263|q264|q265|q266|q267|q268|q269|q270|q271|q272|q273|q274|q275|q276|q277|q278|q279|q280|q281|q282|q283|q284|q285|q286|q287|q288|q289|q290|q291|q292|q293|q294|q295|q296|q297|q298|q299|q300|q301|q302|q303|q304|q305|q306|q307|q308|q309|q310|q311|q312|q313|q314|q315|q316|q317|q318|q319|q320|q321|q322|q323|q324|q325|q326|q327|q328|q329|q330|q331|q332|q333|q334|q335|q336|q337|q338|q339|q340|q341|q342|q343|q344|q345|q346|q347|q348|q349|q350|q351|q352|q353|q354|q355|q356|q357|q358|q359|q360|q361|q362|q363|q364|q365|q366|q367|q368|q369|q370|q371|q372|q373|q374|q375|q376|q377|q378|q379|q380|q381|q382|q383|q384|q385|q386|q387|q388|q389|q390|q391|q392|q393|q394|q395|q396|q397|q398|q399|q400|q401|q402|q403|q404|q405|q406|q407|q408|q409|q410|q411|q412|q413|q414|q415|q416|q417|q418|q419|q420|q421|q422|q423|q424|q425|q426|q427|q428|q429|q430|q431|q432|q433|q434|q435|q436|q437|q438|q439|q440|q441|q442=>((try unfold eV.Ou); (try unfold L2.b9); k_is)
  (case hnd=>decide)
  (case u1=>kernel_rfl)
  (case u2=>kernel_rfl)
  (case u3=>kernel_rfl)
  (case u4=>kernel_rfl)
