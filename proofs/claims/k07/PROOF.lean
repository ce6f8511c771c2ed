import PyProof.Rows.All
import Wide.All
import OpenK.AllK
import Wide.FinOn
import Lean
import PyProof.EqAt
import PyProof.EqKinds
import PyProof.TupleCall
import PySem.Str
import PyProof.StationsW
import PyProof.PassesOwn
import PyProof.RulesAs
import PyProof.ExcClass2
import PyProof.InstStore
import PyProof.ExcArgs
import PyProof.ExcClass
import PyProof.InstStoreFacts
import PyProof.ExcBaseAll.Exception
import PyProof.ExcAttrAll.Exception
import PyProof.DictValues
import PyProof.DictWalks
import PySem.Challenge.RW_spikebook_k07_whole_undone_as_never
set_option Elab.async false
set_option linter.all false
set_option maxRecDepth 100000
set_option maxHeartbeats 4000000
def ae:=@List.length_map
def ag:=@List.getElem?_eq_getElem
def aj:=@List.getD_eq_getElem?_getD
def ak:=@List.getElem?_eq_some_iff
def au:=@List.mem_singleton
def aw:=@List.mem_cons
def ax:=@List.length_append
def az:=@PySem.Heap.get?_push_of_some
def aC:=@PySem.wpAny_bind
def aD:=@Nat.le_refl
def aE:=@List.getElem?_map
def aF:=@Option.some.inj
def aH:=@decide_eq_true
def aL:=@List.map_append
def aM:=@PySem.Paired.length
def aN:=@PySem.Heap.lt_size
def aQ:=@if_neg
def aR:=@Nat.le_trans
def aS:=@of_decide_eq_true
def aW:=@List.mem_cons_of_mem
def aX:=@Bool.false_ne_true
def aZ:=@List.length_filter_le
def a0:=@if_pos
def a7:=@Nat.ne_of_lt
def ba:=@List.mem_cons_self
def bb:=@List.take_length
def bg:=@List.mem_append
def bo:=@Nat.lt_of_lt_of_le
def bq:=@Option.map_eq_some_iff
def br:=@decide_eq_false
def bu:=@Nat.zero_le
def bz:=@List.length_take
def bA:=@List.size_toArray
def bB:=@List.mem_append_right
def bC:=@PySem.PassesOwn.never
def bE:=@PySem.wpAny_loadPart_at
def bF:=@List.mem_map
def bI:=@PySem.wpAny_pure
def bJ:=@List.length_cons
def bN:=@List.getElem_mem
def bO:=@PySem.Heap.get?_push_size
def bS:=@List.append_nil
def bT:=@List.length_range
def bX:=@PySem.W.mg_none_of
def ck:=@PySem.mem_of_lookup
def cm:=@PySem.wpAny_mono
def cq:=@Nat.le_of_lt
def cB:=@List.filter_cons_of_pos
def cD:=@Int.eq_ofNat_of_zero_le
def cG:=@PySem.Paired.snoc
def cK:=@Nat.le_succ
def cZ:=@PySem.wpAny_isSubtype_exc
def c9:=@List.mem_append_left
def de:=@List.map_cons
def df:=@PySem.W.mg_of
def dr:=@congrArg
def dv:=@List.replicate_succ
def dz:=@List.mem_range
def dB:=@Int.toNat_natCast
def dQ:=@PySem.wpAny_passesOwn
def dR:=@List.append_assoc
def d8:=@List.mem_filter
def d9:=@PySem.W.kia_one
def ee:=@List.foldl_cons
def eh:=@PySem.W.kia_tup
def ej:=@List.pairwise_cons
def eE:=@List.map_map
def eK:=@PySem.wpAny_Call_Name_kw
def eV:=@List.nodup_cons
def eW:=@List.length_set
def eX:=@PySem.sizeLine_eq
def fB:=@List.mem_of_getElem?
def fN:=@Int.le_refl
def fV:=@PySem.wpAny_truthy_bool
def fY:=@Nat.lt_succ_self
def gi:=@PySem.Calls.callWith_builtin
def gN:=@beq_eq_false_iff_ne
def gO:=@List.map_congr_left
def gP:=@List.filter_cons_of_neg
def ip:=@List.filter_append
def iq:=@PySem.wpAny_holding
def ir:=@PySem.wpAny_standAt
def iM:=@Nat.le_of_eq
def iN:=@List.length_replicate
def iO:=@Nat.not_lt_zero
def iP:=@Int.emod_nonneg
def iQ:=@Int.zero_add
def iU:=@Nat.lt_irrefl
def iV:=@List.flatten_cons
def iW:=@Nat.lt_succ_of_lt
def jq:=@List.getElem?_eq_none_iff
def jr:=@PySem.wpAny_execs_nil
def kI:=@PySem.W.callWith_K
def kJ:=@Int.emod_lt_of_pos
def kK:=@List.range_succ
def kP:=@PyProof.Rows.take_snoc
def lF:=@List.getElem?_set_self
def lG:=@PySem.W.cellsFrom_some
def lH:=@List.foldl_append
def lI:=@Nat.le_succ_of_le
def l6:=@Bool.and_false
def l7:=@PySem.tupleKind_room_in1
def l8:=@List.getElem?_eq_none
def l9:=@Int.le_trans
def mY:=@List.length_drop
def mZ:=@List.nodup_range
def m8:=@decide_eq_decide
def nv:=@List.getElem?_set_ne
def ny:=@PySem.Heap.get?_update_other
def nz:=@PySem.Heap.get?_push_ne
def oO:=@PySem.Heap.size_push
def oX:=@PyProof.Rows.callWith_type1
def oY:=@Bool.eq_iff_iff
def oZ:=@List.of_mem_zip
def o4:=@Option.map_some
def o5:=@Array.length_toList
def pW:=@List.getElem?_append_right
def pX:=@PySem.Heap.size_update
def qI:=@Nat.ne_of_gt
def qJ:=@PySem.Calls.evalArgs_plain
def qK:=@Nat.lt_of_le_of_lt
def qL:=@List.filter_filter
def qP:=@Bool.false_and
def qQ:=@Nat.mul_le_mul
def sF:=@List.any_eq_false
def sG:=@PySem.W.kitx_list
def sH:=@PySem.W.kitx_dict
def sI:=@List.pairwise_map
def sJ:=@List.filter_congr
def sM:=@PySem.Heap.SameBut.update
def sN:=@Array.size_setIfInBounds
def uF:=@PySem.wpAny_newFunctionEnv_cells
def uG:=@List.any_cons
def uH:=@PySem.F.plainAttrs_dict
def uW:=@PySem.Calls.spliced_cons
def xq:=@PyProof.Rows.listUpdate_at
def xu:=@Ne.symm
def xv:=@PySem.W.methodCall_KW
def xx:=@List.map_nil
def xy:=@Nat.succ_mul
def xA:=@List.length_nil
def xB:=@PySem.F.slot_dict_get
def yI:=@Nat.not_lt
def zI:=@List.getElem?_of_mem
def By:=@List.take_succ
def BH:=@PySem.W.plainGet_of
def BI:=@PySem.W.callWith_K0
def BJ:=@List.map_id
def BK:=@List.toList_toArray
def DX:=@PySem.codeAny_mono
def DY:=@PySem.Heap.get?_update_self
def Fm:=@PySem.wpAny_call
def Fn:=@PyProof.Rows.boot_list
def GK:=@beq_iff_eq
def GL:=@Option.isSome_map
def GN:=@List.take_add_one
def GO:=@List.ext_getElem?
def GQ:=@Classical.not_not
def GR:=@PySem.codeAny_call_builtin
def Jl:=@Bool.and_eq_true
def Jm:=@PySem.Heap.get?_update_ne
def Jn:=@PySem.wpAny_field
def Jo:=@List.mem_flatMap
def Jp:=@List.drop_append_of_le_length
def L8:=@List.nil_append
def L9:=@Array.getD_eq_getD_getElem?
def Ma:=@Array.Perm.refl
def Mb:=@PySem.wpAny_newList
def Mc:=@List.filter_map
def N4:=@PyProof.Rows.get?_update_seq
def OT:=@PySem.plainObj_wpAny_Assign_Attribute
def OU:=@PySem.Calls.spliced_nil
def OV:=@List.Perm.refl
def OW:=@List.mem_of_find?_eq_some
def OX:=@List.getElem?_append_left
def OY:=@PySem.F.excBase_Exception
def OZ:=@List.drop_eq_getElem_cons
def RC:=@Option.isSome_iff_exists
def RD:=@PySem.call_meetsIn
def RE:=@PySem.F.slot_dict_values
open PySem.W (Frag findIn keepIn typeIn fnOf nsIn codeIn codeHdIn mg_of mg_none_of specialIn readsIn findCls makesIn hasDictIn plainGet plainOver)
namespace PySem.W.Fast
def tw12235833767008791386:=0
def tw4295192679337800732:=0
def tw14094272510951203580:=0
def tw16303364757674476632:=0
def tw7376513416075443932:=0
def tw17620351799719102078:=0
def tw4219291787564699489:=0
def tw9751674480563716702:=0
def tw7981058091135864386:=0
def tw3632490796316382441:=0
def tw2084510127716705365:=0
def tw15776444459234277957:=0
def tw2495453488448681979:=0
def tw10049425082865278433:=0
def tw7121688150970063741:=0
def tw14519355431935338916:=0
def tw6843365696900496023:=0
def tw17186531088297887729:=0
def tw12821656833146299398:=0
def tw12211116634714259521:=0
def tw9846926951239099963:=0
def tw11098592328763525411:=0
def tw11671063562162203270:=0
def tw7036751048829812769:=0
def tw13616574235994328153:=0
def tw14699789570559065206:=0
def tw17120045234429298961:=0
def tw16950080415788437580:=0
def tw12133146203457972815:=0
def tw1092338330265100302:=0
def tw14753808618749768766:=0
def tw10620691095798354188:=0
def tw11849630299349615913:=0
def tw6153613001720788943:=0
def tw2273578304469373758:=0
def tw12908090796381135726:=0
def tw12710129059124791532:=0
def tw10340463958268641662:=0
def tw9375717967525419325:=0
def tw11861247517669435617:=0
def tw14646291373859335425:=0
def tw4148773340453844357:=0
def tw17512588691901988891:=0
def tw2276826060200952186:=0
def tw875998430824710816:=0
def tw2112808210589816278:=0
def tw13900755228133998526:=0
def tw4719338237551710696:=0
def tw12382689956488224713:=0
def tw9041553002614936843:=0
def tw14725817856422055093:=0
def tw5133279764497838695:=0
def tw17105606542852188076:=0
def tw3956954204824244273:=0
def tw2857000988762543460:=0
def tw11158174465037489571:=0
def tw13476729762227852637:=0
def tw15450572889479436243:=0
def tw3926339636712636696:=0
def tw4223945669279666846:=0
def tw3170828408870301234:=0
def tw17655012927881614343:=0
def tw9358968872395971118:=0
def tw17805507123337224195:=0
def tw4786519739883941603:=0
def tw9567691147274676729:=0
def tw1383044505464512544:=0
def tw8552355606929716777:=0
def tw8868075768462648238:=0
def tw16355738943985186508:=0
def tw12021810993726221122:=0
def tw2513515232023367237:=0
def tw6603155348815464066:=0
def tw10923707674592645560:=0
def tw2061449675925595286:=0
def tw7256914468821862474:=0
def tw898817472825370140:=0
def tw12073134921351560455:=0
def tw11794054872649341879:=0
def tw12955309432338738345:=0
def tw394755704812642738:=0
def tw10065683382392127514:=0
def tw10850440149097893823:=0
def tw15559360026677485347:=0
def tw4804712451086239530:=0
def tw9347955903003494546:=0
def tw4146731442507937870:=0
def tw8920592283472606696:=0
def tw11901901261440988824:=0
def tw1071233343819030621:=0
def tw14683363039894880920:=0
def tw18392704190323327901:=0
def tw7871803246989085922:=0
def tw5773886265044498961:=0
def tw10873227207294397207:=0
def tw17086798278897130486:=0
def tw6701533595087982300:=0
def tw15406046858779971317:=0
def tw12719106498912312409:=0
def tw14963020264381261093:=0
def tw8895752310243560608:=0
def tw10975490708795619915:=0
def tw3092332935868357836:=0
def tw1387131853597399976:=0
def tw16868520056486469472:=0
def tw2802406104378095621:=0
def tw3131493095328900314:=0
def tw10033730155624682769:=0
def tw8140833474504150068:=0
def tw14236602009672164217:=0
def tw14372533296886235228:=0
def tw17911887964243811786:=0
def tw13660569996354006303:=0
def tw17246424996330905458:=0
def tw11134595939224255147:=0
def tw15918319531554495756:=0
def tw8008690992182502667:=0
def tw15823622288518036165:=0
def tw16470815114441162774:=0
def tw13844565567335403286:=0
def tw15052865441475957036:=0
def tw13322453508774935650:=0
def tw1808440587163768293:=0
def tw753380538027116324:=0
def tw12916454444232863315:=0
def tw3835562770639790395:=0
def tw18008365690491879836:=0
def tw5238470049229135593:=0
def tw17360927084180787233:=0
def tw9956147049421799523:=0
def tw10102613677609663347:=0
def tw9469586563243509981:=0
def tw6184780418992386993:=0
def tw1657783656063902466:=0
def tw1606838776630596482:=0
def tw6445999512572436540:=0
def tw17326172452285510041:=0
def tw4556205165851237369:=0
def tw1939452717159134858:=0
def tw6773385852066888270:=0
def tw4251354954282976098:=0
def tw16740556304325643600:=0
def tw16586244728757831480:=0
def tw6964642932014307803:=0
def tw17891838086320023959:=0
def tw10428143966503606718:=0
def tw10087631511213041170:=0
def tw17103514032228280431:=0
def tw157974629438375815:=0
def tw16111283511540661882:=0
def tw8568694790331948401:=0
def tw1721454712671119838:=0
def tw14196475592179126786:=0
def tw11509792500810108442:=0
def tw15126016698603398821:=0
def tw1889716282234777257:=0
def tw8877806731350299628:=0
def tw2006510127113199188:=0
def tw15396676145638490547:=0
def tw8343204938155136617:=0
def tw8253661301819662749:=0
def tw16036360145025506277:=0
def tw2582560013283436167:=0
def tw1882586101103443101:=0
def tw14386186932389210742:=0
def tw7213200687441262887:=0
def tw18354537604687781269:=0
def tw18423966186629481712:=0
def tw1496416679469758169:=0
def tw8668989380395707451:=0
def tw10807933867498393198:=0
def tw17733824779897198191:=0
def tw7290528707872715814:=0
def tw8478242101364387148:=0
def tw8313057637696265766:=0
def tw8331777091288235131:=0
def tw9545705181157026354:=0
def tw10708668505851744872:=0
def tw13863991335940393849:=0
def tw12306570294887574915:=0
def tw4905100801624925834:=0
def tw3841257312560421964:=0
def tw14743277915507627022:=0
def tw14259747582546173709:=0
def tw824397204470186664:=0
def tw7570608654705631008:=0
def tw13301732278441792208:=0
def tw15997421547347474219:=0
def tw8489060794984353226:=0
def tw1265496214606281649:=0
def tw14544500869964343578:=0
def tw7041686735488769971:=0
def tw13171791844782174803:=0
def tw4604498537311940861:=0
def tw15517795571324003723:=0
def tw15511464283441423473:=0
def tw14758951050463806247:=0
def tw12190340366492936496:=0
def tw3530787850005512014:=0
def tw13635323183688998719:=0
def tw8700624578056055218:=0
def tw16780671515958218007:=0
def tw5587887162622634869:=0
def tw11499003531423238124:=0
def tw9871644390548950759:=0
def tw748531266905714020:=0
def tw2424408374365234288:=0
def tw12766707775339777102:=0
def tw15900076168927831241:=0
def tw9611682200290549449:=0
def tw8733293247958012658:=0
def tw1708725104030572960:=0
def tw8448051892963906493:=0
def tw4195158746275730671:=0
def tw897473516385580520:=0
def tw9290078028358918468:=0
def tw9776985501960668755:=0
def tw6134111534977676642:=0
def tw1843724122291290060:=0
def tw4027106968116905622:=0
def tw17314021537029516889:=0
def tw6650693602083778016:=0
def tw5945945128197970790:=0
def tw619402084876090813:=0
def tw12458483614655141813:=0
def tw3902377891739372488:=0
def tw12769634636569908912:=0
def tw15855827025871117595:=0
def tw12929401237881580862:=0
def tw9557932735807902679:=0
def tw8809832103742397419:=0
def tw8983736861767793002:=0
def tw9725162029887749133:=0
def tw1235853658995587254:=0
def tw13598341469520662162:=0
def tw8438833577843451104:=0
def tw15066840866820548283:=0
def tw14750396378104239299:=0
def tw9158285439184119512:=0
def tw17155216149142691390:=0
def tw1323100871565074744:=0
def tw5595927231446053057:=0
def tw2625779063485431275:=0
def tw2455384493938326486:=0
def tw15376928970996766813:=0
def tw17573751097577900949:=0
def tw5976787884858571152:=0
def tw11764397695916121468:=0
def tw10962200667601161458:=0
def tw9828722172182196583:=0
def tw1911730715552473631:=0
def tw8631565883599430949:=0
def tw11771291188913687628:=0
def tw1884021661585948711:=0
def tw1700748857823955753:=0
def tw6107149331139282776:=0
def tw8954664523354043331:=0
def tw7925516819890492469:=0
def tw4633547351008973706:=0
def tw6262860494103277277:=0
def tw7732890342695578343:=0
def tw12984686180979202839:=0
def tw15372488479321553418:=0
def tw10835038840094227678:=0
def tw14294950924389555124:=0
def tw17837202859212546942:=0
def tw9386624153093345889:=0
def tw18340572942849795921:=0
def tw3421573560433285114:=0
def tw10272439390970554386:=0
def tw17071568185300432872:=0
def tw7557798901646453275:=0
def tw3770534660483158301:=0
def tw15207245020053929276:=0
def tw2184863511101024782:=0
def tw5563988905740836007:=0
def tw668388171799740589:=0
def tw8076475109468157831:=0
def tw3460074612489249754:=0
def tw4111291609558654292:=0
def tw4869713329353344381:=0
def tw12617350538282024776:=0
def tw12448613805002534946:=0
def tw8895911885624159938:=0
def tw474410131582246063:=0
def tw13749474026254189120:=0
def tw7475523558933441473:=0
def tw8498336458386039416:=0
def tw13850579304242737111:=0
def tw8364406284107368817:=0
def tw5522969670858639920:=0
def tw3616570198614158188:=0
def tw12074964166372701687:=0
def tw11974150044219598169:=0
def tw8678589734786165302:=0
def tw7579649487619788835:=0
def tw16610921428013076013:=0
def tw1100618200309847345:=0
def tw14127490438986839630:=0
def tw7781587923458371547:=0
def tw10269939070286273073:=0
def tw10392054327562462667:=0
def tw5260084657152228404:=0
def tw1198998164053646365:=0
def tw8432547609489740465:=0
def tw7785549323240862014:=0
def tw8057552970519017855:=0
def tw18249361723858489020:=0
def tw14227539053751655240:=0
def tw17669557674231703800:=0
def tw14552830813965860485:=0
def tw10779549884022773349:=0
def tw18140529512453208117:=0
def tw5467739867932471915:=0
end PySem.W.Fast
namespace L2
open PySem PySem.Spec PyProof.Rows
abbrev Key:=Sum Int Str
def yJ:Key->Value->Bool
 | .inl k,v=>Value.isInt k v
 | .inr x,v=>Value.isStrOf x v
def WY (w:World):Key->Int
 | .inl k=>hashInt k
 | .inr x=>hashStr w x
def fj: ∀{k:Key} {v:Value},yJ k v=true->(∃i t,k=Sum.inl i/\v=Value.int i t)∨(∃x t,k=Sum.inr x/\v=Value.str x t)
 | .inl i,v,h=>by
  obtain⟨t,e⟩:=Value.isInt_shape (k:=i) (v:=v) h;exact .inl ⟨i,t,rfl,e⟩
 | .inr x,v,h=>by
  obtain⟨t,e⟩:=Value.isStrOf_shape (x:=x) (v:=v) h;exact .inr ⟨x,t,rfl,e⟩
def GS (i:Int)(t:Tok):yJ (.inl i) (.int i t)=true:=by simp[yJ,Value.isInt]
def GU (x:Str)(t:Tok):yJ (.inr x) (.str x t)=true:=by simp[yJ,Value.isStrOf]
def O0 (a b:Int):decide ((Sum.inl a:Key)=Sum.inl b)=(a == b):=by
 by_cases e:a=b
 ·subst e; simp
 ·have h: ¬ (Sum.inl a:Key)=Sum.inl b:=fun q=>e (Sum.inl.inj q);rw[br h];exact(gN.mpr e).symm
def O1 (a b:Str):decide ((Sum.inr a:Key)=Sum.inr b)=decide (a=b):=by
 by_cases e:a=b
 ·subst e; simp
 ·have h: ¬ (Sum.inr a:Key)=Sum.inr b:=fun q=>e (Sum.inr.inj q);rw[br h,br e]
def O2 (a:Int)(b:Str):decide ((Sum.inl a:Key)=Sum.inr b)=false:=br (fun q=>nomatch q)
def O3 (a:Str)(b:Int):decide ((Sum.inr a:Key)=Sum.inl b)=false:=br (fun q=>nomatch q)
def dF (prog:Program)(w:World):PySem.KeyKind prog w Key where
 is:=yJ
 hash:=WY w
 inj:=fun v a b ha hb=>by
  rcases fj ha with⟨i,t,rfl,rfl⟩|⟨x,t,rfl,rfl⟩
  ·rcases fj hb with⟨j,u,rfl,e⟩|⟨y,u,rfl,e⟩
   ·injection e with e1 _; rw[e1]
   ·exact nomatch e
  ·rcases fj hb with⟨j,u,rfl,e⟩|⟨y,u,rfl,e⟩
   ·exact nomatch e
   ·injection e with e1 _; rw[e1]
 byValue:=fun k v h=>by
  rcases fj h with⟨i,t,rfl,rfl⟩|⟨x,t,rfl,rfl⟩ <;> rfl
 pyHash:=fun hv h=>by
  rcases fj hv with⟨i,t,rfl,rfl⟩|⟨x,t,rfl,rfl⟩
  ·exact wpAny_pyHash_int h
  ·exact wpAny_pyHash_str h
 eqBool:=fun hu hv h=>by
  rcases fj hu with⟨i,t,rfl,rfl⟩|⟨x,t,rfl,rfl⟩
  ·rcases fj hv with⟨j,u,rfl,rfl⟩|⟨y,u,rfl,rfl⟩
   ·rw[O0] at h; exact wpAny_eqBool_int h
   ·rw[O2] at h; exact SeqAt.EqAt.int_str i t y u _ _ _ _ h
  ·rcases fj hv with⟨j,u,rfl,rfl⟩|⟨y,u,rfl,rfl⟩
   ·rw[O3] at h; exact SeqAt.EqAt.str_int x t j u _ _ _ _ h
   ·rw[O1] at h; exact wpAny_eqBool_str h
 «strs»:=fun k x t v h=>by
  rcases fj h with⟨i,u,rfl,e⟩|⟨y,u,rfl,e⟩
  ·exact nomatch e
  ·injection e with e1 _;subst e1;cases v <;> rfl
def BL (prog:Program)(w:World)(i:Int)(t:Tok):(dF prog w).is (.inl i) (.int i t)=true:=GS i t
def BN (prog:Program)(w:World)(x:Str)(t:Tok):(dF prog w).is (.inr x) (.str x t)=true:=GU x t
inductive V where
 |en|bl (b:Bool)|int (i:Int)|str (x:Str)|GV (b:Array UInt8)|Md (b:UInt64)|ref (a:Addr)|ty (n:String)
 deriving DecidableEq
def RelV:V->Value->Prop
 | .en,u=>u=Value.none
 | .bl b,u=>u=Value.bool b
 | .int i,u=> ∃t,u=Value.int i t
 | .str x,u=> ∃t,u=Value.str x t
 | .GV b,u=> ∃t,u=Value.bytes b t
 | .Md b,u=> ∃t,u=Value.float b t
 | .ref a,u=>u=Value.ref a
 | .ty n,u=>u=Value.type n
abbrev Vals:List V->List Value->Prop:=Paired RelV
def Vals.length {xs:List V}{us:List Value}(r:Vals xs us):xs.length=us.length:=aM r
def Vals.get: ∀{xs:List V} {us:List Value} {i:Nat} {x:V},Vals xs us->xs[i]? =some x-> ∃u,us[i]? =some u/\RelV x u
 |_,_,_,_,.nil,e=>by simp at e
 |_,_,0,_,.cons r _,e=>by simp at e; subst e; exact⟨_,rfl,r⟩
 |_,_,i + 1,x,.cons _ t,e=>by
  obtain⟨u,h1,h2⟩:=Vals.get (i:=i) (x:=x) t (by simpa using e);exact⟨u,by simpa using h1,h2⟩
def Vals.set {x:V}{u:Value}(r:RelV x u): ∀{xs:List V} {us:List Value} (i:Nat),Vals xs us->Vals (xs.set i x) (us.set i u)
 |_,_,_,.nil=> .nil
 |_,_,0,.cons _ t=> .cons r t
 |_,_,i + 1,.cons q t=> .cons q (Vals.set r i t)
def Vals.append: ∀{xs ys:List V} {us ws:List Value},Vals xs us->Vals ys ws->Vals (xs ++ ys) (us ++ ws)
 |_,_,_,_,.nil,s=>s
 |_,_,_,_,.cons r t,s=> .cons r (Vals.append t s)
def Vals.take: ∀{xs:List V} {us:List Value} (n:Nat),Vals xs us->Vals (xs.take n) (us.take n)
 |_,_,0,_=> .nil
 |_,_,_ + 1,.nil=> .nil
 |_,_,n + 1,.cons r t=> .cons r (Vals.take n t)
def Vals.drop: ∀{xs:List V} {us:List Value} (n:Nat),Vals xs us->Vals (xs.drop n) (us.drop n)
 |_,_,0,r=>r
 |_,_,_ + 1,.nil=> .nil
 |_,_,n + 1,.cons _ t=>Vals.drop n t
def Vals.none_of: ∀{xs:List V} {us:List Value} {i:Nat},Vals xs us->xs[i]? =none->us[i]? =none:=fun{xs us i} r e=>by
 have h1:=r.length;have h2:xs.length<=i:=jq.mp e;exact jq.mpr (by lia)
def kM:Option V->Option Value->Prop
 |some v,some u=>RelV v u
 |none,none=>True
 |_,_=>False
def KV {κ:Type}:List (κ×V)->List (κ×Value)->Prop:=Paired fun(p:κ×V) (q:κ×Value)=>p.1=q.1/\RelV p.2 q.2
def kV:Key->V
 | .inl i=> .int i
 | .inr x=> .str x
inductive HO where
 |lst (xs:List V)
 |tup (xs:List V)
 |dK (bf:List (Key×V))|dT (bf:List (List Key×V))
 |set (S:Int->Bool) (n:Nat)
 |ins (C dx:Addr) (fs:List (Str×V))
 |own (x:Addr)
 |xd (fs:List (Str×V))
 |met (f x:Addr)
 |WZ (lo hi:Int)
 |DI (o:Obj) (u:HO)
 |nA (ps:Array Value)
 |ext (φ:Heap->Prop)
abbrev Hp:=Addr->Option HO
def upd (H:Hp)(a:Addr)(o:HO):Hp:=fun b=>if b=a then some o else H b
def af {H:Hp}{a:Addr}{o:HO}:upd H a o a=some o:=by unfold upd; rw[if_pos rfl]
def aB {H:Hp}{a b:Addr}{o:HO}(h:b≠a):upd H a o b=H b:=by unfold upd; rw[if_neg h]
def mN {H:Hp}{a b:Addr}{o u:HO}(h:H a=some o)(h':H b=some u)(d:o≠u):a≠b:=by
 intro e; subst e; rw[h] at h'; exact d (aF h')
def aI {H:Hp}{a b:Addr}{o:HO}(h:H a=some o)(h':H b=none):a≠b:=by
 intro e; subst e; rw[h] at h'; cases h'
section
variable (P:Program)(w:World)
def dG (H:Hp)(h:Heap)(a:Addr):HO->Prop
 | .lst xs=>xs.length<=sizeLine/\ ∃(b0:List Value) (n:Nat),Vals xs b0/\h.get? a=some {cls:= .type "list",data:= .seq b0.toArray n}
 | .tup xs=>xs.length<=sizeLine/\ ∃b0:List Value,Vals xs b0/\IsTup h a b0.toArray
 | .dK bf=>bf.length<=sizeLine/\(a == sysModules)=false/\ ∃vs,KV bf vs/\h.DictOf (dF P w) a vs
 | .dT bf=>bf.length<=sizeLine/\(a == sysModules)=false/\ ∃xs:List (List Key×Addr×Value),
   Paired (fun(p:List Key×V) (q:List Key×Addr×Value)=>p.1=q.1/\H q.2.1=some (.tup (p.1.map kV))/\RelV p.2 q.2.2) bf xs/\
   ∃o es ep,h.get? a=some o/\o.ExactDict/\o.data= .dict es ep/\es.toList=xs.map (entryOfKey (tupleKind (dF P w)))/\(xs.map (·.1)).Nodup
 | .set S n=>h.SetOf (intKind P w) a S n
 | .ins C dx fs=>H dx=some (.own a)/\fs.length<=1000/\dx≠a/\h.get? a=some (PySem.W.instObj C dx)/\
   ∃mA,h.Ns1 dx mA/\(∀f,kM (fs.lookup f) (mA f))/\PySem.Within mA (fs.map (·.1))
 | .own _=> ∃o,h.get? a=some o
 | .xd fs=> ∃mA,h.Ns1 a mA/\ ∀f,kM (fs.lookup f) (mA f)
 | .WZ lo hi=> ∃t u v,h.get? a=some {cls:= .type "range",data:= .fields #[.int lo t,.int hi u,.int 1 v]}
 | .DI o u=>h.get? a=some o/\dG H h a u
 | .nA ps=>h.get? a=some {cls:= .none,data:= .fields ps}
 | .met f x=>h.get? a=some (PySem.W.methodObj (.ref f) (.ref x))
 | .ext φ=>φ h/\(∃o,h.get? a=some o)/\ ∀h1 h2:Heap,φ h1->(∀o,h1.get? a=some o->h2.get? a=some o)->φ h2
def o6 (H:Hp)(h:Heap):Prop:= ∀a o,H a=some o->dG P w H h a o
end
section
variable {P:Program}{w:World}{H H':Hp}{h h':Heap}{a:Addr}{o:HO}
def dG.lt (x:dG P w H h a o):a < h.objs.size:=by
 cases o with
 |lst xs=>obtain⟨_,_,_,_,e⟩:=x; exact aN e
 |tup xs=>obtain⟨_,_,_,p⟩:=x; exact p.lt
 |dK bf=>obtain⟨_,_,_,_,o,_,_,e,_⟩:=x; exact aN e
 |dT bf=>obtain⟨_,_,_,_,o,_,_,e,_⟩:=x; exact aN e
 |set S n=>obtain⟨o,_,_,_,e,_⟩:=x; exact aN e
 |ins C dx fs=>obtain⟨_,_,_,e,_⟩:=x; exact aN e
 |own y=>obtain⟨_,e⟩:=x; exact aN e
 |xd fs=>obtain⟨_,⟨_,_,_,e,_⟩,_⟩:=x; exact aN e
 |WZ lo hi=>obtain⟨_,_,_,e⟩:=x; exact aN e
 |DI ob u=>obtain⟨e,_⟩:=x; exact aN e
 |nA ps=>exact aN (show h.get? a=some _ from x)
 |met f y=>exact aN (show h.get? a=some _ from x)
 |ext φ=>obtain⟨_,⟨_,e⟩,_⟩:=x; exact aN e
def Paired.iu {α β:Type}{F G:α->β->Prop}: ∀{l₁:List α} {l₂:List β},Paired F l₁ l₂->(∀a b,F a b->G a b)->Paired G l₁ l₂
 |_,_,.nil,_=> .nil
 |_,_,.cons r t,f=> .cons (f _ _ r) (Paired.iu t f)
def dG.uI (x:dG P w H h a o)(k: ∀b u,(b=a∨H b=some (.own a))->h.get? b=some u->h'.get? b=some u)
  (ho: ∀b,H b=some (.own a)->H' b=some (.own a)) (ht: ∀b xs,H b=some (.tup xs)->H' b=some (.tup xs)):dG P w H' h' a o:=by
 induction o with
 |lst xs=>obtain⟨z,b0,n,r,e⟩:=x; exact⟨z,b0,n,r,k _ _ (.inl rfl) e⟩
 |tup xs=>obtain⟨z,b0,r,ob,e,c⟩:=x; exact⟨z,b0,r,ob,k _ _ (.inl rfl) e,c⟩
 |dK bf=>obtain⟨z,y,vs,r,ob,es,ep,e,c⟩:=x; exact⟨z,y,vs,r,ob,es,ep,k _ _ (.inl rfl) e,c⟩
 |dT bf=>
  obtain⟨z,y,xs,r,ob,es,ep,e,c⟩:=x;exact⟨z,y,xs,Paired.iu r fun p q z=>⟨z.1,ht _ _ z.2.1,z.2.2⟩,ob,es,ep,k _ _ (.inl rfl) e,c⟩
 |set S n=>obtain⟨ob,es,ep,t,e,c⟩:=x; exact⟨ob,es,ep,t,k _ _ (.inl rfl) e,c⟩
 |ins C dx fs=>
  obtain⟨d,z,ne,e,mA,⟨od,es,ep,e2,c⟩,r⟩:=x;exact⟨ho _ d,z,ne,k _ _ (.inl rfl) e,mA,⟨od,es,ep,k _ _ (.inr d) e2,c⟩,r⟩
 |own y=>obtain⟨ob,e⟩:=x; exact⟨ob,k _ _ (.inl rfl) e⟩
 |xd fs=>obtain⟨mA,⟨od,es,ep,e,c⟩,r⟩:=x; exact⟨mA,⟨od,es,ep,k _ _ (.inl rfl) e,c⟩,r⟩
 |WZ lo hi=>obtain⟨t,u,v,e⟩:=x; exact⟨t,u,v,k _ _ (.inl rfl) e⟩
 |DI ob u ih=>obtain⟨e,q⟩:=x; exact⟨k _ _ (.inl rfl) e,ih q⟩
 |nA ps=>
  have e:h.get? a=some {cls:= .none,data:= .fields ps}:=x;show h'.get? a=some {cls:= .none,data:= .fields ps};exact k a _ (.inl rfl) e
 |met f y=>
  have e:h.get? a=some (PySem.W.methodObj (.ref f) (.ref y)):=x;show h'.get? a=some (PySem.W.methodObj (.ref f) (.ref y));exact k a _ (.inl rfl) e
 |ext φ=>obtain⟨p,⟨o,e⟩,st⟩:=x; exact⟨st _ _ p fun o q=>k _ _ (.inl rfl) q,⟨o,k _ _ (.inl rfl) e⟩,st⟩
def o6.lt (x:o6 P w H h)(e:H a=some o):a < h.objs.size:=(x a o e).lt
def o6.fresh (x:o6 P w H h)(e:h.objs.size<=a):H a=none:=by
 cases q:H a with
 |none=>rfl
 |some u=>exact absurd (bo (x.lt q) e) (iU _)
def o6.kept (x:o6 P w H h)(k: ∀b u,h.get? b=some u->h'.get? b=some u):o6 P w H h':=fun a o e=>
 (x a o e).uI (fun b u _ q=>k b u q) (fun _ q=>q) fun _ _ q=>q
def o6.laid (x:o6 P w H h)(k: ∀b u,h.get? b=some u->h'.get? b=some u)(hp:h.objs.size<=a)(new:dG P w (upd H a o) h' a o):o6 P w (upd H a o) h':=fun b u e=>by
 have hn:=x.fresh hp;by_cases hb:b=a
 ·subst hb; rw[af] at e; cases e; exact new
 ·rw[aB hb] at e;exact(x b u e).uI (fun c v _ q=>k c v q) (fun c q=>by rw[aB (aI q hn)]; exact q) fun c xs q=>by rw[aB (aI q hn)]; exact q
end
def Rd (H:Hp)(a:Addr)(u:HO):Prop:=H a=some u∨ ∃o,H a=some (.DI o u)
def Rd.ok {P:Program}{w:World}{H:Hp}{h:Heap}{a:Addr}{u:HO}(r:Rd H a u)(x:o6 P w H h):dG P w H h a u:=by
 rcases r with r|⟨o,r⟩
 ·exact x a u r
 ·obtain⟨_,q⟩:=x a _ r;exact q
def Sr:Option HO->Prop
 |some (.lst _)=>True
 |some (.dK _)=>True
 |some (.dT _)=>True
 |some (.set _ _)=>True
 |some (.ins _ _ _)=>True
 |some (.ext _)=>True
 |_=>False
section
variable {P:Program}{w:World}{H:Hp}{h h':Heap}{x e:Addr}{o':HO}
def o6.write (ok:o6 P w H h)(mu:Sr (H x))(he:e=x∨H e=some (.own x))(k: ∀b u,b≠e->h.get? b=some u->h'.get? b=some u)(RF: ∃u,h'.get? e=some u)
  (new:dG P w (upd H x o') h' x o'):o6 P w (upd H x o') h':=fun b u q=>by
 have Ss: ∀c y,H c=some (.own y)->c≠x:=fun c y r z=>by subst z; rw[r] at mu; exact mu
 have W0: ∀c xs,H c=some (.tup xs)->c≠x:=fun c xs r z=>by subst z; rw[r] at mu; exact mu
 by_cases hb:b=x
 ·subst hb; rw[af] at q; cases q; exact new
 ·rw[aB hb] at q;by_cases O4:b=e
  ·have q':H b=some (.own x):=by
    rcases he with z|z
    ·exact absurd (O4.trans z) hb
    ·rw[O4]; exact z
   rw[q] at q'; cases q';obtain⟨v,hv⟩:=RF;exact⟨v,by rw[O4]; exact hv⟩
  ·refine(ok b u q).uI (fun c v hc r=>k c v ?_ r) (fun c r=>by rw[aB (Ss c b r)]; exact r) fun c xs r=>by rw[aB (W0 c xs r)]; exact r
   rcases hc with rfl|hc
   ·exact O4
   ·rintro rfl;rcases he with z|z
    ·exact Ss c b hc z
    ·rw[hc] at z; cases z; exact hb rfl
end
structure Un (fs ex:List Addr)(H H':Hp)(h h':Heap):Prop where
 keep: ∀b o,h.get? b=some o->H b=none->b∉fs->b∉ex->h'.get? b=some o
 slot: ∀b o,h.get? b=some o->H b=none->b∈fs->b∉ex-> ∃sl,h'.get? b=some {o with slots:=sl}
 free: ∀b o,h.get? b=some o->H b=none->b∉ex->H' b=none
 there: ∀b o,h.get? b=some o->b∉ex-> ∃o',h'.get? b=some o'
 qR: ∀b xs,H b=some (.tup xs)->H' b=some (.tup xs)
 pY: ∀b o u,H b=some (.DI o u)->H' b=some (.DI o u)
 pZ: ∀b ps,H b=some (.nA ps)-> ∃more,H' b=some (.nA (ps ++ more))
section
variable {fs fs' ex ex':List Addr}{H H1 H2:Hp}{h h1 h2 h':Heap}{a x e:Addr}{o:HO}
def Un.any (u:Un fs ex H H1 h h1){b:Addr}{ob:Obj}(q:h.get? b=some ob)(n:H b=none)(hx:b∉ex): ∃sl,h1.get? b=some {ob with slots:=sl}:=by
 by_cases hb:b∈fs
 ·exact u.slot b ob q n hb hx
 ·exact⟨ob.slots,u.keep b ob q n hb hx⟩
def Un.kept (k: ∀b u,h.get? b=some u->h'.get? b=some u):Un fs ex H H h h':=
 ⟨fun b ob q _ _ _=>k b ob q,fun b ob q _ _ _=>⟨ob.slots,k b ob q⟩,fun _ _ _ n _=>n,fun b ob q _=>⟨ob,k b ob q⟩,fun _ _ q=>q,fun _ _ _ q=>q,fun _ ps q=>⟨#[],by rw[q]; simp⟩⟩
def Un.refl:Un fs ex H H h h:=Un.kept fun _ _ q=>q
def Un.laid (k: ∀b u,h.get? b=some u->h'.get? b=some u)(hp:h.objs.size<=a)(hn:H a=none):Un fs ex H (upd H a o) h h' where
 keep:=fun b u q _ _ _=>k b u q
 slot:=fun b u q _ _ _=>⟨u.slots,k b u q⟩
 free:=fun b u q n _=>by rw[aB (a7 (bo (aN q) hp))]; exact n
 there:=fun b u q _=>⟨u,k b u q⟩
 qR:=fun b xs q=>by rw[aB (aI q hn)]; exact q
 pY:=fun b u xs q=>by rw[aB (aI q hn)]; exact q
 pZ:=fun b ps q=>⟨#[],by rw[aB (aI q hn),q]; simp⟩
def Un.write (mu:Sr (H x))(he:e=x∨H e=some (.own x))(k: ∀b u,b≠e->h.get? b=some u->h'.get? b=some u)(RF: ∃u,h'.get? e=some u):Un fs ex H (upd H x o) h h':=by
 have hx: ∀b,H b=none->b≠x:=fun b n z=>by subst z; rw[n] at mu; exact mu
 have hb: ∀b,H b=none->b≠e:=fun b n z=>by
  subst z;rcases he with r|r
  ·exact hx b n r
  ·rw[n] at r; cases r
 have hm: ∀b u,H b=some u-> ¬ Sr (some u)->b≠x:=fun b u q nm z=>by subst z; rw[q] at mu; exact nm mu
 refine⟨fun b u q n _ _=>k b u (hb b n) q,fun b u q n _ _=>⟨u.slots,k b u (hb b n) q⟩,fun b u q n _=>by rw[aB (hx b n)]; exact n,fun b u q _=>?_,
  fun b xs q=>by rw[aB (hm b _ q fun z=>z)]; exact q,fun b u xs q=>by rw[aB (hm b _ q fun z=>z)]; exact q,fun b ps q=>⟨#[],by rw[aB (hm b _ q fun z=>z),q]; simp⟩⟩
 by_cases O4:b=e
 ·subst O4; exact RF
 ·exact⟨u,k b u O4 q⟩
end
def VU (h:Heap)(H:Hp):List Addr:=(List.range h.objs.size).filter fun a=>(H a).isSome
def xC (h:Heap)(H:Hp):Heap:=PySem.W.hideAll h (VU h H)
def GW (h:Heap)(H:Hp):(xC h H).objs.size=h.objs.size:=PySem.W.hideAll_size _ _
def Jq {h:Heap}{H:Hp}{b:Addr}{o:Obj}(e:h.get? b=some o)(n:H b=none):(xC h H).get? b=some o:=
 PySem.W.hideAll_get _ e fun hm=>by
  have q:(H b).isSome=true:=(d8.mp hm).2;rw[n] at q; simp at q
def Me {h:Heap}{H:Hp}{b:Addr}{o:Obj}(e:(xC h H).get? b=some o):h.get? b=some o/\H b=none:=by
 have e':h.get? b=some o:=PySem.W.of_hideAll (VU h H) e;refine⟨e',?_⟩;cases q:H b with
 |none=>rfl
 |some x=>
  have hm:b∈VU h H:=List.mem_filter.mpr ⟨List.mem_range.mpr (Heap.lt_size e'),by simp[q]⟩;have z:(xC h H).get? b=none:=PySem.W.hideAll_none (VU h H) hm;rw[z] at e; cases e
structure Mod (K:Frag)(mg:Str->Option Value)(base:Heap):Prop where
 Mf:K.In base
 glob:base.Ns mainGlobals mg
 blt: ∃mb,base.Ns builtinsNs mb/\ ∀x:Str,x≠"__name__"->mb x=bootBuiltins x
 nolimit:base.NoLimit
structure Cx where
 prog:Program
 w:World
 K:Frag
 mg:Str->Option Value
 base:Heap
 A:Around
 N:List Str
 s₀:Shared
 H₀:Hp
 env:Env
 outer:List Env
 stack:List Env
 ex:List Addr
 fn:Str->Bool
 calm:Bool
 pn:List (Addr×Obj)
 xe:Value->Shared->Prop
def DZ (l:List Env):List Addr:=l.filterMap (·.frame)
abbrev Cx.fs (X:Cx):List Addr:=DZ X.outer
def Su (sc:Scope)(x:Str):Prop:=sc.names.lookup x=some .local∨sc.names.lookup x=some .cell∨sc.names.lookup x=some .free
def Loc (sc:Scope)(x:Str):Prop:=sc.names.lookup x=some .local∨sc.names.lookup x=some .cell
def Look (env:Env)(h:Heap)(m:Str->Option Value)(x:Str)(u:Value):Prop:=
 (env.kindOf x=some .local/\m x=some u)∨((env.kindOf x=some .cell∨env.kindOf x=some .free)/\ ∃c,env.cells.lookup x=some c/\h.IsCell c (some u))
structure Cx.Ok (X:Cx):Prop where
 mod:Mod X.K X.mg X.base
 kind:X.env.scope.kind= .function
 glob:X.env.globals=mainGlobals
 blt:X.env.builtins=builtinsNs
 above:X.s₀.heap.objs.size<=X.env.locals
 inj: ∀x y c,X.env.cells.lookup x=some c->X.env.cells.lookup y=some c->x=y
 has: ∀x,(X.env.kindOf x=some .cell∨X.env.kindOf x=some .free)-> ∃c,X.env.cells.lookup x=some c
 LP: ∀x c,X.fn x=true->X.env.cells.lookup x=some c->X.s₀.heap.objs.size<=c
 hd:X.calm=true->X.A.handled=none
 frames:X.A.frames=some X.stack
 Ja:X.stack=X.outer∨(X.stack=X.env :: X.outer/\X.env.frame=some X.env.locals)
 Mg: ∀b∈X.ex,b≠X.env.locals/\ ∀x c,X.env.cells.lookup x=some c->c≠b
 bs: ∀b o,X.base.get? b=some o->X.s₀.heap.get? b=some o/\X.H₀ b=none
 BO:X.base.objs.size<=X.s₀.heap.objs.size
 xD: ∀b o,X.base.get? b=some o->b∉X.ex
 xE: ∀b∈X.ex,b∉X.fs
 md:X.s₀.heap.FunFrames X.base X.outer
 Fo: ∀b∈X.fs,X.H₀ b=none
structure Inv (X:Cx)(pins:List (Addr×Obj))(σ:List (Option V))(H:Hp)(s:Shared):Prop where
 ok:X.Ok
 os:s.os=X.s₀.os
 bare:AllBare s.gens
 base:Un X.fs X.ex X.H₀ H X.s₀.heap s.heap
 loc: ∃m,s.heap.Ns X.env.locals m/\ ∀(i:Nat) (x:Str) (v:V),X.N[i]? =some x->σ[i]? =some (some v)->Su X.env.scope x-> ∃u,RelV v u/\Look X.env s.heap m x u
 cell: ∀x c,X.env.cells.lookup x=some c-> ∃v,s.heap.IsCell c v
 free:H X.env.locals=none
 iS: ∀x c,X.env.cells.lookup x=some c->H c=none
 pin: ∀p∈X.pn ++ pins,s.heap.get? p.1=some p.2/\H p.1=none/\p.1≠X.env.locals/\p.1∉X.fs/\ ∀v,p.2.data≠ .cell v
 b9:o6 X.prog X.w H s.heap
 len:σ.length=X.N.length
section
variable {X:Cx}{pins:List (Addr×Obj)}{σ:List (Option V)}{H H':Hp}{s:Shared}{h':Heap}
def Cx.Ok.W6 (ok:X.Ok){b:Addr}{o:Obj}(e:X.base.get? b=some o):b∉X.fs:=fun hb=>by
 have:=(ok.md.mem hb).1;rw[e] at this; cases this
def Inv.bs (I:Inv X pins σ H s): ∀b o,X.base.get? b=some o->s.heap.get? b=some o/\H b=none:=fun b o e=>
 ⟨I.base.keep b o (I.ok.bs b o e).1 (I.ok.bs b o e).2 (I.ok.W6 e) (I.ok.xD b o e),I.base.free b o (I.ok.bs b o e).1 (I.ok.bs b o e).2 (I.ok.xD b o e)⟩
def Inv.bk (I:Inv X pins σ H s): ∀b o,X.base.get? b=some o->s.heap.get? b=some o:=fun b o e=>(I.bs b o e).1
def Inv.mod (I:Inv X pins σ H s):Mod X.K X.mg X.base:=I.ok.mod
def Inv.gJ (I:Inv X pins σ H s):X.K.In s.heap:=I.ok.mod.Mf.keeps I.bk
def Inv.nolimit (I:Inv X pins σ H s):s.heap.NoLimit:=I.ok.mod.nolimit.keeps I.bk
def Inv.fr (I:Inv X pins σ H s): ∃m,Fr X.base X.env.locals s.heap m:=
 let⟨m,hn,_⟩:=I.loc
 ⟨m,hn,I.bk,aR I.ok.BO I.ok.above⟩
def Inv.lt (I:Inv X pins σ H s):X.env.locals < s.heap.objs.size:=let⟨_,hn,_⟩:=I.loc; hn.lt
def Inv.sz (I:Inv X pins σ H s):X.s₀.heap.objs.size<=s.heap.objs.size:=aR I.ok.above (cq I.lt)
def Inv.GX (I:Inv X pins σ H s){a:Addr}(h:s.heap.objs.size<=a):a∉X.fs:=fun hb=>by
 obtain⟨_,o,ho,_⟩:=I.ok.md.mem hb;exact absurd (bo (aN ho) (aR I.sz h)) (iU _)
def Inv.N5 (I:Inv X pins σ H s): ∀x c,X.env.cells.lookup x=some c->c≠X.env.locals:=fun x c e z=>by
 obtain⟨v,o,ho,hd⟩:=I.cell x c e;obtain⟨m,⟨o',es,ep,Mh,DJ,_⟩,_⟩:=I.loc;rw[z,Mh] at ho; cases ho; rw[DJ] at hd; cases hd
def Inv.md (I:Inv X pins σ H s):s.heap.FunFrames X.base X.outer:=by
 have all: ∀(l:List Env),(∀b∈DZ l,b∈X.fs)->X.s₀.heap.FunFrames X.base l->s.heap.FunFrames X.base l:=by
  intro l
  induction l with
  |nil=>intro _ _; trivial
  |cons env r ih=>
   intro hs hl;obtain⟨hk,⟨L,o,hf,hn,ho,hd⟩,hr⟩:=hl;have hL:L∈X.fs:=hs L (by unfold DZ; rw[List.filterMap_cons,hf]; exact List.mem_cons_self);obtain⟨sl,e⟩:=I.base.slot L o ho (I.ok.Fo L hL) hL fun z=>I.ok.xE L z hL;exact⟨hk,⟨L,_,hf,hn,e,hd⟩,ih (fun b hb=>hs b (by unfold DZ; rw[List.filterMap_cons,hf]; exact List.mem_cons_of_mem _ hb)) hr⟩
 exact all X.outer (fun _ hb=>hb) I.ok.md
def Inv.stack (I:Inv X pins σ H s):s.heap.FunFrames X.base X.stack:=by
 rcases I.ok.Ja with e|⟨e,hf⟩
 ·rw[e]; exact I.md
 ·rw[e];obtain⟨m,hn,_⟩:=I.loc;refine .cons (by rw[I.ok.kind]; decide) hf hn ?_ I.md;exact Heap.get?_none_of_le (aR I.ok.BO I.ok.above)
def Inv.vq (I:Inv X pins σ H s): ∀b∈DZ X.stack,b∈X.env.locals :: X.fs:=fun b hb=>by
 rcases I.ok.Ja with e|⟨e,hf⟩
 ·rw[e] at hb; exact aW _ hb
 ·rw[e] at hb;unfold DZ at hb;rw[List.filterMap_cons,hf] at hb;exact hb
def Inv.qS (I:Inv X pins σ H s): ∀b∈DZ X.stack,H b=none:=fun b hb=>by
 rcases aw.mp (I.vq b hb) with e|hb
 ·rw[e]; exact I.free
 ·obtain⟨_,o,ho,_⟩:=I.ok.md.mem hb;exact I.base.free b o ho (I.ok.Fo b hb) fun z=>I.ok.xE b z hb
def Inv.step {g':Array GenState}{t':Nat}{d':Drawn}{ch:List Addr}(I:Inv X pins σ H s)
  (BP: ∀b∈ch,(b∈X.ex∨X.s₀.heap.objs.size<=b)/\b≠X.env.locals/\(∀x c,X.env.cells.lookup x=some c->c≠b)/\ ∀p∈X.pn ++ pins,p.1≠b)
  (keep: ∀b o,b≠X.env.locals->b∉X.fs->b∉ch->s.heap.get? b=some o->H b=none->h'.get? b=some o)
  (slot: ∀b o,b≠X.env.locals->b∈X.fs->b∉ch->s.heap.get? b=some o->H b=none-> ∃sl,h'.get? b=some {o with slots:=sl}) (free: ∀b o,b∉ch->s.heap.get? b=some o->H b=none->H' b=none)
  (there: ∀b o,b∉ch->s.heap.get? b=some o-> ∃o',h'.get? b=some o')
  (qR: ∀b xs,H b=some (.tup xs)->H' b=some (.tup xs)) (pY: ∀b o u,H b=some (.DI o u)->H' b=some (.DI o u)) (pZ: ∀b ps,H b=some (.nA ps)-> ∃more,H' b=some (.nA (ps ++ more)))
  (ns: ∀m,s.heap.Ns X.env.locals m->h'.Ns X.env.locals m) (b9:o6 X.prog X.w H' h') (hg:AllBare g'):
  Inv X pins σ H' {s with heap:=h',gens:=g',drawn:=d',toks:=t'}:=by
 have neL: ∀b o,X.s₀.heap.get? b=some o->b≠X.env.locals:=fun b o e=>a7 (bo (aN e) I.ok.above);have VW: ∀b o,X.s₀.heap.get? b=some o->b∉X.ex->b∉ch:=fun b o e hx hb=>by
  rcases(BP b hb).1 with z|z
  ·exact hx z
  ·exact absurd (bo (aN e) z) (iU _)
 have cellK: ∀x c,X.env.cells.lookup x=some c-> ∀v,s.heap.IsCell c v->h'.IsCell c v:=fun x c e v ⟨o,ho,hd⟩=>by
  have Sv:c∉ch:=fun z=>(BP c z).2.2.1 x c e rfl;by_cases hc:c∈X.fs
  ·obtain⟨sl,q⟩:=slot c o (I.N5 x c e) hc Sv ho (I.iS x c e);exact⟨_,q,hd⟩
  ·exact⟨o,keep c o (I.N5 x c e) hc Sv ho (I.iS x c e),hd⟩
 refine⟨I.ok,I.os,hg,⟨fun b o e n hb hx=>?_,fun b o e n hb hx=>?_,fun b o e n hx=>?_,fun b o e hx=>?_,fun b xs e=>qR b xs (I.base.qR b xs e),fun b o xs e=>pY b o xs (I.base.pY b o xs e),fun b ps e=>?_⟩,?_,fun x c e=>?_,?_,fun x c e=>?_,fun p hp=>?_,b9,I.len⟩
 ·exact keep b o (neL b o e) hb (VW b o e hx) (I.base.keep b o e n hb hx) (I.base.free b o e n hx)
 ·obtain⟨sl,e1⟩:=I.base.slot b o e n hb hx;obtain⟨sl',e2⟩:=slot b _ (neL b o e) hb (VW b o e hx) e1 (I.base.free b o e n hx);exact⟨sl',e2⟩
 ·obtain⟨o',e1⟩:=I.base.there b o e hx;exact free b o' (VW b o e hx) e1 (I.base.free b o e n hx)
 ·obtain⟨o',e1⟩:=I.base.there b o e hx;exact there b o' (VW b o e hx) e1
 ·obtain⟨m1,e1⟩:=I.base.pZ b ps e;obtain⟨m2,e2⟩:=pZ b _ e1;exact⟨m1 ++ m2,by rw[e2,Array.append_assoc]⟩
 ·obtain⟨m,hn,hl⟩:=I.loc;refine⟨m,ns m hn,fun i x v e1 e2 e3=>?_⟩;obtain⟨u,r,l⟩:=hl i x v e1 e2 e3;refine⟨u,r,?_⟩;rcases l with l|⟨k,c,e,z⟩
  ·exact .inl l
  ·exact .inr ⟨k,c,e,cellK x c e _ z⟩
 ·obtain⟨v,z⟩:=I.cell x c e;exact⟨v,cellK x c e v z⟩
 ·obtain⟨m,⟨o,_,_,ho,_⟩,_⟩:=I.loc;exact free _ o (fun z=>(BP _ z).2.1 rfl) ho I.free
 ·obtain⟨v,o,ho,hd⟩:=I.cell x c e;exact free c o (fun z=>(BP c z).2.2.1 x c e rfl) ho (I.iS x c e)
 ·obtain⟨e,n,ne,nf,d⟩:=I.pin p hp;have Sv:p.1∉ch:=fun z=>(BP p.1 z).2.2.2 p hp rfl;exact⟨keep p.1 p.2 ne nf Sv e n,free p.1 p.2 Sv e n,ne,nf,d⟩
def Inv.un {t':Nat}(I:Inv X pins σ H s)(u:Un X.fs [] H H' s.heap h')(b9:o6 X.prog X.w H' h'):Inv X pins σ H' {s with heap:=h',toks:=t'}:=by
 obtain⟨m,⟨o,es,ep,ho,r⟩,_⟩:=id I.loc;obtain⟨sl,hL⟩:=u.any ho I.free (by simp);exact I.step (g':=s.gens) (d':=s.drawn) (ch:=[]) (fun _ z=>nomatch z) (fun b o _ hb _ e n=>u.keep b o e n hb (by simp)) (fun b o _ hb _ e n=>u.slot b o e n hb (by simp)) (fun b o _ e n=>u.free b o e n (by simp)) (fun b o _ e=>u.there b o e (by simp)) u.qR u.pY u.pZ (fun m' hm=>by
  obtain⟨o',W7,W8,Mh,r'⟩:=hm;rw[ho] at Mh; cases Mh;exact⟨_,W7,W8,hL,r'⟩) b9 I.bare
def Inv.call {g':Array GenState}{t':Nat}{d':Drawn}{ch:List Addr}(I:Inv X pins σ H s)(u:Un (DZ X.stack) ch H H' s.heap h')(b9:o6 X.prog X.w H' h')(hg:AllBare g')
  (BP: ∀b∈ch,(b∈X.ex∨X.s₀.heap.objs.size<=b)/\b≠X.env.locals/\(∀x c,X.env.cells.lookup x=some c->c≠b)/\ ∀p∈X.pn ++ pins,p.1≠b):
  Inv X pins σ H' {s with heap:=h',gens:=g',drawn:=d',toks:=t'}:=by
 obtain⟨m,⟨o,es,ep,ho,r⟩,_⟩:=id I.loc;obtain⟨sl,hL⟩:=u.any ho I.free fun z=>(BP _ z).2.1 rfl;exact I.step (ch:=ch) BP (fun b o hL hb hc e n=>u.keep b o e n (fun z=>(aw.mp (I.vq b z)).elim hL hb) hc) (fun b o _ _ hc e n=>u.any e n hc) (fun b o hc e n=>u.free b o e n hc) (fun b o hc e=>u.there b o e hc) u.qR u.pY u.pZ (fun m' hm=>by
  obtain⟨o',W7,W8,Mh,r'⟩:=hm;rw[ho] at Mh; cases Mh;exact⟨_,W7,W8,hL,r'⟩) b9 hg
def Inv.turned {t':Nat}{it:Addr}(I:Inv X pins σ H s)(k: ∀b o,b≠it->s.heap.get? b=some o->h'.get? b=some o)(hn:H it=none)(hL:it≠X.env.locals)
  (h1:it∈X.ex∨X.s₀.heap.objs.size<=it) (h2: ∀x c,X.env.cells.lookup x=some c->c≠it) (h3: ∀p∈X.pn ++ pins,p.1≠it):Inv X pins σ H {s with heap:=h',toks:=t'}:=by
 have Sw: ∀b u,H b=some u->b≠it:=fun b u e z=>by rw[z,hn] at e; cases e
 refine I.step (g':=s.gens) (d':=s.drawn) (ch:=[it]) (fun b hb=>?_) (fun b o _ _ hc e _=>k b o (fun z=>hc (by simp[z])) e) (fun b o _ _ hc e _=>⟨o.slots,k b o (fun z=>hc (by simp[z])) e⟩) (fun _ _ _ _ n=>n)
  (fun b o hc e=>⟨o,k b o (fun z=>hc (by simp[z])) e⟩) (fun _ _ e=>e) (fun _ _ _ e=>e) (fun b ps e=>⟨#[],by rw[e]; simp⟩) (fun m hm=>?_) (fun b u e=>?_) I.bare
 ·have e:b=it:=by simpa using hb
  subst e;exact⟨h1,hL,h2,h3⟩
 ·obtain⟨o,es,ep,ho,r⟩:=hm;exact⟨o,es,ep,k _ o (xu hL) ho,r⟩
 ·refine(I.b9 b u e).uI (fun c v hc q=>k c v ?_ q) (fun _ q=>q) fun _ _ q=>q;rcases hc with z|z
  ·rw[z]; exact Sw b u e
  ·exact Sw c _ z
def Inv.tok (I:Inv X pins σ H s)(t:Nat):Inv X pins σ H {s with toks:=t}:=I.un (h':=s.heap) (t':=t) Un.refl I.b9
def Inv.kept {t':Nat}(I:Inv X pins σ H s)(k: ∀b u,s.heap.get? b=some u->h'.get? b=some u):Inv X pins σ H {s with heap:=h',toks:=t'}:=I.un (Un.kept k) (I.b9.kept k)
def Inv.laid {a:Addr}{o:HO}{t':Nat}(I:Inv X pins σ H s)(k: ∀b u,s.heap.get? b=some u->h'.get? b=some u)(hp:s.heap.objs.size<=a)(new:dG X.prog X.w (upd H a o) h' a o):
  Inv X pins σ (upd H a o) {s with heap:=h',toks:=t'}:=I.un (Un.laid k hp (I.b9.fresh hp)) (I.b9.laid k hp new)
def Inv.write {x e:Addr}{o:HO}{t':Nat}(I:Inv X pins σ H s)(mu:Sr (H x))(he:e=x∨H e=some (.own x))(k: ∀b u,b≠e->s.heap.get? b=some u->h'.get? b=some u)(RF: ∃u,h'.get? e=some u)
  (new:dG X.prog X.w (upd H x o) h' x o):Inv X pins σ (upd H x o) {s with heap:=h',toks:=t'}:=I.un (Un.write mu he k RF) (I.b9.write mu he k RF new)
def Inv.uX {BQ:List (Addr×Obj)}(I:Inv X pins σ H s)(h: ∀p∈BQ,s.heap.get? p.1=some p.2/\H p.1=none/\p.1≠X.env.locals/\p.1∉X.fs/\ ∀v,p.2.data≠ .cell v):Inv X BQ σ H s:=
 ⟨I.ok,I.os,I.bare,I.base,I.loc,I.cell,I.free,I.iS,fun p hp=>(bg.mp hp).elim (fun z=>I.pin p (c9 _ z)) (h p),I.b9,I.len⟩
def BR {N:List Str}(hN:N.Nodup){i j:Nat}{x:Str}(a:N[i]? =some x)(b:N[j]? =some x):i=j:=by
 obtain⟨h1,e1⟩:=ak.mp a;obtain⟨h2,e2⟩:=ak.mp b;exact(List.getElem_inj hN).mp (e1.trans e2.symm)
def yK {M:Model}{A:Around}{E:Value->Shared->Prop}{i:Nat}{x:Str}{v:V}{u:Value}{Q:Unit->Shared->Prop}(I:Inv X pins σ H s)(hN:X.N.Nodup)(hi:X.N[i]? =some x)(hx:Loc X.env.scope x)(r:RelV v u)
  (h: ∀s',Inv X pins (σ.set i (some v)) H s'->(∃a,Heap.SameBut a s.heap s'.heap/\(a=X.env.locals∨X.env.cells.lookup x=some a))->Q () s') (hf:X.fn x=true∨X.env.scope.names.lookup x=some .local:=by first|exact .inl rfl|exact .inr rfl|assumption):wpAny M A (storeName X.env x u) Q E s:=by
 obtain⟨m,hn,hl⟩:=id I.loc;have O5:(X.env.scope.kind == .class || (X.env.scope.kind == .module && X.env.locals != X.env.globals))=false:=by rw[I.ok.kind]; rfl
 have hiσ:i < σ.length:=by rw[I.len]; exact(ak.mp hi).1
 have N5:=I.N5;have tracked: ∀{a:Addr} {h':Heap},(∃o,s.heap.get? a=some o/\H a=none)->Heap.SameBut a s.heap h'->o6 X.prog X.w H h':=fun{a h'} ha hs b ob e=>by
  obtain⟨_,_,yL⟩:=ha;refine(I.b9 b ob e).uI (fun c w' hc q=>(hs.2 c ?_).trans q) (fun _ q=>q) fun _ _ q=>q;rintro rfl;rcases hc with rfl|hc
  ·rw[yL] at e; cases e
  ·rw[yL] at hc; cases hc
 rcases hx with hk|hk
 ·refine wpAny_storeName_local hk hn (fun h' W9 hs=>?_) O5;obtain⟨oL,_,_,O6,_⟩:=id hn;refine h _ ⟨I.ok,I.os,I.bare,⟨fun b o e n hb hx=>?_,fun b o e n hb hx=>?_,I.base.free,fun b o e hx=>?_,I.base.qR,I.base.pY,I.base.pZ⟩,⟨_,W9,fun j y v' e1 e2 e3=>?_⟩,fun y c e=>?_,I.free,I.iS,fun p hp=>?_,tracked ⟨oL,O6,I.free⟩ hs,by simpa using I.len⟩ ⟨_,hs,.inl rfl⟩
  ·exact(hs.2 b (a7 (bo (aN e) I.ok.above))).trans (I.base.keep b o e n hb hx)
  ·obtain⟨sl,e1⟩:=I.base.slot b o e n hb hx;exact⟨sl,(hs.2 b (a7 (bo (aN e) I.ok.above))).trans e1⟩
  ·obtain⟨o',e1⟩:=I.base.there b o e hx;exact⟨o',(hs.2 b (a7 (bo (aN e) I.ok.above))).trans e1⟩
  ·by_cases hj:j=i
   ·subst hj;rw[hi] at e1; cases e1;rw[lF hiσ] at e2;cases e2;exact⟨u,r,.inl ⟨hk,by simp⟩⟩
   ·rw[nv (xu hj)] at e2;obtain⟨u',r',q⟩:=hl j y v' e1 e2 e3;refine⟨u',r',?_⟩;rcases q with⟨k,e⟩|⟨k,c,e,z⟩
    ·refine .inl ⟨k,?_⟩;have:y≠x:=fun e=>hj (BR hN e1 (e▸hi));simp[this,e]
    ·exact .inr ⟨k,c,e,z.sameBut hs (N5 y c e)⟩
  ·obtain⟨w',z⟩:=I.cell y c e;exact⟨w',z.sameBut hs (N5 y c e)⟩
  ·obtain⟨e,n,ne,nf,d⟩:=I.pin p hp;exact⟨(hs.2 p.1 ne).trans e,n,ne,nf,d⟩
 ·have Mi:X.fn x=true:=by
   rcases hf with z|z
   ·exact z
   ·rw[z] at hk; cases hk
  obtain⟨c,hc⟩:=I.ok.has x (.inl hk);obtain⟨w',z⟩:=I.cell x c hc;refine wpAny_storeName_cell I.ok.kind hk hc z (fun h' O7 hs=>?_);obtain⟨oc,RG,Xa⟩:=id z;refine h {s with heap:=h'} ⟨I.ok,I.os,I.bare,⟨fun b o e n hb hx=>?_,fun b o e n hb hx=>?_,I.base.free,fun b o e hx=>?_,I.base.qR,I.base.pY,I.base.pZ⟩,⟨m,hn.sameBut hs (Ne.symm (N5 x c hc)),fun j y v' e1 e2 e3=>?_⟩,fun y c' e=>?_,I.free,I.iS,fun p hp=>?_,tracked ⟨oc,RG,I.iS x c hc⟩ hs,by simpa using I.len⟩ ⟨c,hs,.inr hc⟩
  ·exact(hs.2 b (a7 (bo (aN e) (I.ok.LP x c Mi hc)))).trans (I.base.keep b o e n hb hx)
  ·obtain⟨sl,e1⟩:=I.base.slot b o e n hb hx;exact⟨sl,(hs.2 b (a7 (bo (aN e) (I.ok.LP x c Mi hc)))).trans e1⟩
  ·obtain⟨o',e1⟩:=I.base.there b o e hx;exact⟨o',(hs.2 b (a7 (bo (aN e) (I.ok.LP x c Mi hc)))).trans e1⟩
  ·by_cases hj:j=i
   ·subst hj;rw[hi] at e1; cases e1;rw[lF hiσ] at e2;cases e2;exact⟨u,r,.inr ⟨.inl hk,c,hc,O7⟩⟩
   ·rw[nv (xu hj)] at e2;obtain⟨u',r',q⟩:=hl j y v' e1 e2 e3;refine⟨u',r',?_⟩;rcases q with q|⟨k,c',e,z'⟩
    ·exact .inl q
    ·refine .inr ⟨k,c',e,z'.sameBut hs ?_⟩;rintro rfl;exact hj (BR hN e1 (I.ok.inj _ _ _ e hc▸hi))
  ·by_cases VX:c'=c
   ·subst VX; exact⟨_,O7⟩
   ·obtain⟨w2,z2⟩:=I.cell y c' e;exact⟨w2,z2.sameBut hs VX⟩
  ·obtain⟨e,n,ne,nf,d⟩:=I.pin p hp;refine⟨(hs.2 p.1 ?_).trans e,n,ne,nf,d⟩;intro q;rw[q,RG] at e;have q':oc=p.2:=aF e;exact d w' (by rw[← q']; exact Xa)
def vt {M:Model}{A:Around}{E:Value->Shared->Prop}{i:Nat}{x:Str}{v:V}{u:Value}{Q:Unit->Shared->Prop}(I:Inv X pins σ H s)(hN:X.N.Nodup)(hi:X.N[i]? =some x)(hx:Loc X.env.scope x)(r:RelV v u)
  (h: ∀s',Inv X pins (σ.set i (some v)) H s'->Q () s') (hf:X.fn x=true∨X.env.scope.names.lookup x=some .local:=by first|exact .inl rfl|exact .inr rfl|assumption):wpAny M A (storeName X.env x u) Q E s:=
 yK I hN hi hx r (fun s' I' _=>h s' I') hf
def Inv.Fp {s':Shared}{ch:List Addr}(I:Inv X pins σ H s)(ho:s'.os=s.os)(u:Un (DZ X.stack) ch H H' s.heap s'.heap)(b9:o6 X.prog X.w H' s'.heap)(hg:AllBare s'.gens)
  (BP: ∀b∈ch,(b∈X.ex∨X.s₀.heap.objs.size<=b)/\b≠X.env.locals/\(∀x c,X.env.cells.lookup x=some c->c≠b)/\ ∀p∈X.pn ++ pins,p.1≠b):Inv X pins σ H' s':=by
 obtain⟨h',g',d',t',o'⟩:=s';have e:o'=s.os:=ho;subst e;exact I.call (g':=g') (t':=t') (d':=d') u b9 hg BP
end
abbrev XK:=Value->Option Addr->Hp->Prop
abbrev St:=List (Option V)
abbrev VK:=V->Hp->Prop
abbrev TE:=St->Hp->VK->Prop
abbrev TT:=St->Hp->(Bool->Hp->Prop)->Prop
abbrev TA:=St->Hp->(List V->Hp->Prop)->Prop
structure Ends where
 nx:St->Hp->Prop
 rt:VK
 bk:St->Hp->Prop:=fun _ _=>False
 ct:St->Hp->Prop:=fun _ _=>False
abbrev TS:=Ends->St->Hp->Prop
def EP (X:Cx)(pins:List (Addr×Obj))(σ:St)(Q:VK)(u:Value)(s':Shared):Prop:= ∃v H',Inv X pins σ H' s'/\RelV v u/\Q v H'
def TP (X:Cx)(pins:List (Addr×Obj))(σ:St)(Q:Bool->Hp->Prop)(b:Bool)(s':Shared):Prop:= ∃H',Inv X pins σ H' s'/\Q b H'
def AP (X:Cx)(pins:List (Addr×Obj))(σ:St)(Q:List V->Hp->Prop)(us:List Value)(s':Shared):Prop:= ∃vs H',Inv X pins σ H' s'/\Vals vs us/\Q vs H'
def SP (X:Cx)(pins:List (Addr×Obj))(D:Ends)(f:Flow)(s':Shared):Prop:=
 match f with
 | .next=> ∃σ' H',Inv X pins σ' H' s'/\D.nx σ' H'
 | .brk=> ∃σ' H',Inv X pins σ' H' s'/\D.bk σ' H'
 | .cont=> ∃σ' H',Inv X pins σ' H' s'/\D.ct σ' H'
 | .ret u=> ∃v σ' H',Inv X pins σ' H' s'/\RelV v u/\D.rt v H'
def PE (X:Cx)(e:Expr)(t:TE):Prop:=
 ∀(pins:List (Addr×Obj)) (s:Shared) (σ:St) (H:Hp) (Q:VK),Inv X pins σ H s->t σ H Q->wpAny (model X.prog X.w) X.A (eval e X.env) (EP X pins σ Q) X.xe s
def PT (X:Cx)(e:Expr)(t:TT):Prop:=
 ∀(pins:List (Addr×Obj)) (s:Shared) (σ:St) (H:Hp) (Q:Bool->Hp->Prop),Inv X pins σ H s->t σ H Q->wpAny (model X.prog X.w) X.A (isTrue e X.env (eval e X.env)) (TP X pins σ Q) X.xe s
def PW (X:Cx)(e:Expr)(t:TT):Prop:=
 ∀(whole:Sem Value) (pins:List (Addr×Obj)) (s:Shared) (σ:St) (H:Hp) (Q:Bool->Hp->Prop),Inv X pins σ H s->t σ H Q->wpAny (model X.prog X.w) X.A (isTrue e X.env whole) (TP X pins σ Q) X.xe s
def PW.pt {X:Cx}{e:Expr}{t:TT}(h:PW X e t):PT X e t:=h _
def PA (X:Cx)(es:List Expr)(t:TA):Prop:=
 ∀(pos:Pos) (pins:List (Addr×Obj)) (s:Shared) (σ:St) (H:Hp) (Q:List V->Hp->Prop),Inv X pins σ H s->t σ H Q->wpAny (model X.prog X.w) X.A (spliced (backTo pos (starEach es X.env))) (AP X pins σ Q) X.xe s
def PS (X:Cx)(st:Stmt)(t:TS):Prop:=
 ∀(pins:List (Addr×Obj)) (s:Shared) (σ:St) (H:Hp) (D:Ends),Inv X pins σ H s->t D σ H->wpAny (model X.prog X.w) X.A (exec st X.env) (SP X pins D) X.xe s
def pC (X:Cx)(st:List Stmt)(t:TS):Prop:=
 ∀(pins:List (Addr×Obj)) (s:Shared) (σ:St) (H:Hp) (D:Ends),Inv X pins σ H s->t D σ H->wpAny (model X.prog X.w) X.A (execs st X.env) (SP X pins D) X.xe s
def dS {α:Type}{t:Sem α}{Q Q':α->Shared->Prop}{M:Model}{A:Around}{E:Value->Shared->Prop}{s:Shared}(h:wpAny M A t Q E s)(hQ: ∀a s,Q a s->Q' a s):wpAny M A t Q' E s:=cm h hQ fun _ _ x=>x
section
variable {X:Cx}
inductive EvV (o:Option (Option V))(k:V->Prop):Prop
 |mk (v:V)(h:o=some (some v))(q:k v):EvV o k
def Sx (i:Nat):TE:=fun σ H Q=>EvV σ[i]? fun v=>Q v H
def tC (v:V):TE:=fun _ H Q=>Q v H
def D0 {i:Nat}{x:Str}{pos:Pos}(hN:X.N[i]? =some x)(hv:Su X.env.scope x)(hd:(x == ("__debug__":Str))=false:=by decide)(sD:(x == ("__classdict__":Str))=false:=by decide):PE X (.Name x pos) (Sx i):=by
 intro pins s σ H Q I h;obtain⟨v,e,h⟩:=h;obtain⟨m,hn,hl⟩:=I.loc;obtain⟨u,r,l⟩:=hl i x v hN e hv;have fin:EP X pins σ Q u s:=⟨v,H,I,r,h⟩;rcases l with⟨hk,hm⟩|⟨hk,c,hc,mO⟩
 ·exact wpAny_Name (wpAny_loadName_local I.ok.kind hk hn hm fin) hd
 ·rcases hk with hk|hk
  ·exact wpAny_Name (wpAny_loadName_cell I.ok.kind hk hc mO fin) hd
  ·exact wpAny_Name (wpAny_loadName_free I.ok.kind hk hc mO fin sD) hd
def ai {i j pos}:PE X (.Constant (.int i) j pos) (tC (.int i)):=fun _ _ _ H _ I h=>wpAny_Constant_int ⟨.int i,H,I.tok _,⟨_,rfl⟩,h⟩
def mP {b j pos}:PE X (.Constant (.bool b) j pos) (tC (.bl b)):=fun _ _ _ H _ I h=>Constant_bool ⟨.bl b,H,I,rfl,h⟩
def D3 {j pos}:PE X (.Constant .none j pos) (tC .en):=fun _ _ _ H _ I h=>Constant_none ⟨.en,H,I,rfl,h⟩
def aK {x j pos}:PE X (.Constant (.str x) j pos) (tC (.str x)):=fun _ _ _ H _ I h=>Calls.Constant_str ⟨.str x,H,I.tok _,⟨_,rfl⟩,h⟩
def Gl (X:Cx)(x:Str):Prop:=X.env.kindOf x=some .globalImplicit
def jF {E:Value->Shared->Prop}{pins:List (Addr×Obj)}{s:Shared}{σ:St}{H:Hp}{x:Str}{u:Value}{pos:Pos}{Q:Value->Shared->Prop}(I:Inv X pins σ H s)(hg:Gl X x)(hm:X.mg x=some u)(h:Q u s)
  (hd:(x == ("__debug__":Str))=false:=by decide):wpAny (model X.prog X.w) X.A (eval (.Name x pos) X.env) Q E s:=
 Calls.Name_function_global I.ok.kind hg (Calls.loadGlobal_global (by rw[I.ok.glob]; exact I.mod.glob.keeps I.bk) hm h) hd
def qf {E:Value->Shared->Prop}{pins:List (Addr×Obj)}{s:Shared}{σ:St}{H:Hp}{x:Str}{u:Value}{pos:Pos}{Q:Value->Shared->Prop}(I:Inv X pins σ H s)(hg:Gl X x)(hm:X.mg x=none)(hv:bootBuiltins x=some u)(h:Q u s)
  (hn:x≠"__name__":=by decide) (hd:(x == ("__debug__":Str))=false:=by decide):wpAny (model X.prog X.w) X.A (eval (.Name x pos) X.env) Q E s:=by
 obtain⟨mb,h1,h2⟩:=I.mod.blt;exact Calls.Name_function_global I.ok.kind hg (Calls.loadGlobal_builtin (by rw[I.ok.glob]; exact I.mod.glob.keeps I.bk) hm (by rw[I.ok.blt]; exact h1.keeps I.bk) ((h2 x hn).trans hv) h) hd
def Fq {x:Str}{v:V}{u:Value}{pos:Pos}(hg:Gl X x)(hm:X.mg x=some u)(r:RelV v u)(hd:(x == ("__debug__":Str))=false:=by decide):PE X (.Name x pos) (tC v):=
 fun _ _ _ H _ I h=>jF I hg hm ⟨v,H,I,r,h⟩ hd
def zJ {x:Str}{v:V}{u:Value}{pos:Pos}(hg:Gl X x)(hm:X.mg x=none)(hv:bootBuiltins x=some u)(r:RelV v u)(hn:x≠"__name__":=by decide)(hd:(x == ("__debug__":Str))=false:=by decide):PE X (.Name x pos) (tC v):=
 fun _ _ _ H _ I h=>qf I hg hm hv ⟨v,H,I,r,h⟩ hn hd
variable {a b:Expr}{ta tb:TE}{pos:Pos}
def PC (X:Cx)(op:CmpOp)(a b:Expr)(t:TE):Prop:=
 ∀(pins:List (Addr×Obj)) (s:Shared) (σ:St) (H:Hp) (Q:VK),Inv X pins σ H s->t σ H Q->
  wpAny (model X.prog X.w) X.A (eval a X.env) (fun v s₁=>wpAny (model X.prog X.w) X.A (eval b X.env) (fun u s₂=>wpAny (model X.prog X.w) X.A (compareOp op v u) (EP X pins σ Q) X.xe s₂) X.xe s₁) X.xe s
def BS (b:Expr){op:CmpOp}(h:op≠ .In)(h2:op≠ .NotIn):behindInMarks op b=false:=by
 have e1:(op == CmpOp.In)=false:=by cases op <;> first|rfl|exact absurd rfl h
 have e2:(op == CmpOp.NotIn)=false:=by cases op <;> first|rfl|exact absurd rfl h2
 cases b <;> simp[behindInMarks,e1,e2]
def Xb (ta:TE):TE:=fun σ H Q=>ta σ H fun x H1=>Q (.bl (decide (x= .en))) H1
def Sy (ta:TE):TE:=fun σ H Q=>ta σ H fun x H1=>Q (.bl (!decide (x= .en))) H1
def RelV.BU {x:V}{v:Value}(r:RelV x v):(v == Value.none)=decide (x= .en):=by
 cases x with
 |en=>cases r; rfl
 |bl _=>cases r; rfl
 |int _=>obtain⟨t,rfl⟩:=r; rfl
 |str _=>obtain⟨t,rfl⟩:=r; rfl
 |GV _=>obtain⟨t,rfl⟩:=r; rfl
 |Md _=>obtain⟨t,rfl⟩:=r; rfl
 |ref _=>cases r; rfl
 |ty _=>cases r; rfl
def Jr {j pos'}(ha:PE X a ta):PC X .Is a (.Constant .none j pos') (Xb ta):=by
 intro pins s σ H Q I h;refine dS (ha pins s σ H _ I h) fun v s1 ⟨x,H1,I1,r1,q1⟩=>?_;exact Constant_none (is_none_gen ⟨.bl _,H1,I1,by rw[r1.BU]; rfl,q1⟩)
def Mj {j pos'}(ha:PE X a ta):PC X .IsNot a (.Constant .none j pos') (Sy ta):=by
 intro pins s σ H Q I h;refine dS (ha pins s σ H _ I h) fun v s1 ⟨x,H1,I1,r1,q1⟩=>?_;exact Constant_none (isnot_none_gen ⟨.bl _,H1,I1,by rw[r1.BU]; rfl,q1⟩)
def tB (t:TE):TT:=fun σ H Q=>t σ H fun x H1=> ∃c,x= .bl c/\Q c H1
def O8 {op:CmpOp}{t:TE}(h:PC X op a b t)(h1:behindInMarks op b=false:=by first|exact BS _ (by decide) (by decide)|rfl):PE X (.Compare a [op] [b] pos) t:=fun pins s σ H Q I hw=>wpAny_Compare1 (h pins s σ H Q I hw) h1
def zK {op:CmpOp}{t:TE}(h:PC X op a b t)(h1:behindInMarks op b=false:=by first|exact BS _ (by decide) (by decide)|rfl):PT X (.Compare a [op] [b] pos) (tB t):=by
 intro pins s σ H Q I hw;refine wpAny_isTrue_Compare1 (dS (h pins s σ H _ I hw) fun v s1 h1=>dS h1 fun u s2 h2=>dS h2 fun c s3 ⟨x,H1,I1,r1,q1⟩=>?_) h1;obtain⟨d,rfl,q⟩:=q1;cases r1;exact fV ⟨H1,I1,q⟩
def gf {e:Expr}{t:TE}(h:PE X e t)(he: ∀whole,isTrue e X.env whole=(do let v ← whole; standAt e.pos; holding [v] (truthy v)):=by intro _; rfl):PT X e (tB t):=by
 intro pins s σ H Q I hw;refine isTrue_plain (dS (h pins s σ H _ I hw) fun v s1 ⟨x,H1,I1,r1,q1⟩=>?_) (he _);obtain⟨d,rfl,q⟩:=q1;cases r1;exact fV ⟨H1,I1,q⟩
variable {tA VY:TT}{rest:List Expr}
def Xc (t u:TT):TT:=fun σ H Q=>t σ H fun c H1=>if c=true then u σ H1 Q else Q false H1
def tOr (t u:TT):TT:=fun σ H Q=>t σ H fun c H1=>if c=true then Q true H1 else u σ H1 Q
def Xd (t:TT):TT:=fun σ H Q=>t σ H fun c H1=>Q (!c) H1
def pw_and1 (ha:PT X a tA):PW X (.BoolOp .And [a] pos) tA:=by
 intro wh pins s σ H Q I h;refine isTrue_and (dS (ha pins s σ H Q I h) fun c s1 e=>?_);cases c with
 |true=>exact isTrue_and_nil e
 |false=>exact e
def pw_or1 (ha:PT X a tA):PW X (.BoolOp .Or [a] pos) tA:=by
 intro wh pins s σ H Q I h;refine isTrue_or (dS (ha pins s σ H Q I h) fun c s1 e=>?_);cases c with
 |false=>exact isTrue_or_nil e
 |true=>exact e
def pw_and (ha:PT X a tA)(hb:PW X (.BoolOp .And (b :: rest) pos) VY):PW X (.BoolOp .And (a :: b :: rest) pos) (Xc tA VY):=by
 intro wh pins s σ H Q I h;refine isTrue_and (dS (ha pins s σ H _ I h) fun c s1 ⟨H1,I1,q1⟩=>?_);cases c with
 |true=>exact hb wh pins s1 σ H1 Q I1 q1
 |false=>exact⟨H1,I1,q1⟩
def pw_or (ha:PT X a tA)(hb:PW X (.BoolOp .Or (b :: rest) pos) VY):PW X (.BoolOp .Or (a :: b :: rest) pos) (tOr tA VY):=by
 intro wh pins s σ H Q I h;refine isTrue_or (dS (ha pins s σ H _ I h) fun c s1 ⟨H1,I1,q1⟩=>?_);cases c with
 |true=>exact⟨H1,I1,q1⟩
 |false=>exact hb wh pins s1 σ H1 Q I1 q1
def jT (ha:PT X a tA):PT X (.UnaryOp .Not a pos) (Xd tA):=by
 intro pins s σ H Q I h;exact isTrue_not (ha pins s σ H (fun c H1=>Q (!c) H1) I h)
def Sz (ta tb:TE):TE:=fun σ H Q=>ta σ H fun x H1=> ∃c,x= .bl c/\if c=true then tb σ H1 Q else Q (.bl false) H1
def Xe (ta tb:TE):TE:=fun σ H Q=>ta σ H fun x H1=> ∃c,x= .bl c/\if c=true then Q (.bl true) H1 else tb σ H1 Q
def SA (ta:TE):TE:=fun σ H Q=>ta σ H fun x H1=> ∃c,x= .bl c/\Q (.bl (!c)) H1
def nE {op}{t:TE}(h:PE X a t):PE X (.BoolOp op [a] pos) t:=fun pins s σ H Q I hw=>BoolOp_one (h pins s σ H Q I hw)
def qg (ha:PE X a ta)(hb:PE X (.BoolOp .And (b :: rest) pos) tb):PE X (.BoolOp .And (a :: b :: rest) pos) (Sz ta tb):=by
 intro pins s σ H Q I h;refine BoolOp_and (dS (ha pins s σ H _ I h) fun v s1 ⟨x,H1,I1,r1,q1⟩=>?_);obtain⟨c,rfl,q1⟩:=q1;cases r1;refine fV ?_;cases c with
 |true=>exact hb pins s1 σ H1 Q I1 q1
 |false=>exact⟨.bl false,H1,I1,rfl,q1⟩
def SD (ha:PE X a ta)(hb:PE X (.BoolOp .Or (b :: rest) pos) tb):PE X (.BoolOp .Or (a :: b :: rest) pos) (Xe ta tb):=by
 intro pins s σ H Q I h;refine BoolOp_or (dS (ha pins s σ H _ I h) fun v s1 ⟨x,H1,I1,r1,q1⟩=>?_);obtain⟨c,rfl,q1⟩:=q1;cases r1;refine fV ?_;cases c with
 |false=>exact hb pins s1 σ H1 Q I1 q1
 |true=>exact⟨.bl true,H1,I1,rfl,q1⟩
def O9 (ha:PE X a ta):PE X (.UnaryOp .Not a pos) (SA ta):=by
 intro pins s σ H Q I h;refine UnaryOp_ (dS (ha pins s σ H _ I h) fun v s1 ⟨x,H1,I1,r1,q1⟩=>?_);obtain⟨c,rfl,q1⟩:=q1;cases r1;exact not_of (fV ⟨.bl (!c),H1,I1,rfl,q1⟩)
end
def bD (K:Frag)(H:Hp)(a:Addr)(xs:List V):Prop:=
 Rd H a (.lst xs)∨
  ∃(o:Obj) (b0:Array Value) (n:Nat),K.lookup a=some o/\o.cls= .type "list"/\o.dict=none/\o.data= .seq b0 n/\b0.size<=sizeLine/\Vals xs b0.toList
def cy (K:Frag)(H:Hp)(a:Addr)(xs:List V):Prop:=
 Rd H a (.tup xs)∨
  ∃(o:Obj) (b0:Array Value) (n:Nat),K.lookup a=some o/\o.cls= .type "tuple"/\o.data= .seq b0 n/\b0.size<=sizeLine/\Vals xs b0.toList
def Xf:Value->Option V
 | .none=>some .en
 | .bool b=>some (.bl b)
 | .int i _=>some (.int i)
 | .str x _=>some (.str x)
 | .bytes b _=>some (.GV b)
 | .float b _=>some (.Md b)
 | .ref a=>some (.ref a)
 | .type n=>some (.ty n)
 |_=>none
def RelV.abs {x:V}{u:Value}(r:RelV x u):Xf u=some x:=by
 cases x with
 |en=>cases r; rfl
 |bl _=>cases r; rfl
 |int _=>obtain⟨t,rfl⟩:=r; rfl
 |str _=>obtain⟨t,rfl⟩:=r; rfl
 |GV _=>obtain⟨t,rfl⟩:=r; rfl
 |Md _=>obtain⟨t,rfl⟩:=r; rfl
 |ref _=>cases r; rfl
 |ty _=>cases r; rfl
def RelV.inj {x y:V}{u:Value}(r:RelV x u)(q:RelV y u):x=y:=aF (r.abs.symm.trans q.abs)
def Vals.inj: ∀{xs ys:List V} {us:List Value},Vals xs us->Vals ys us->xs=ys
 |_,_,_,.nil,.nil=>rfl
 |_,_,_,.cons r t,.cons r' t'=>by rw[r.inj r',Vals.inj t t']
section
variable {X:Cx}{pins:List (Addr×Obj)}{σ:St}{H:Hp}{s:Shared}{a:Addr}{xs ys:List V}
def bD.of {K:Frag}(h:H a=some (.lst xs)):bD K H a xs:= .inl (.inl h)
def cy.of {K:Frag}(h:H a=some (.tup xs)):cy K H a xs:= .inl (.inl h)
def Inv.list (I:Inv X pins σ H s)(h:bD X.K H a xs): ∃b0:List Value,Vals xs b0/\PlainL s.heap a b0.toArray/\xs.length<=sizeLine:=by
 rcases h with h|⟨o,b0,n,hk,hc,hd,hs,hz,r⟩
 ·obtain⟨z,b0,n,r,e⟩:=h.ok I.b9;exact⟨b0,r,⟨_,n,e,rfl,rfl,rfl⟩,z⟩
 ·refine⟨b0.toList,r,⟨o,n,I.gJ a o hk,hc,hd,by simpa using hs⟩,?_⟩;have e:=r.length;simp only[Array.length_toList] at e;lia
def Inv.tuple (I:Inv X pins σ H s)(h:cy X.K H a xs): ∃b0:List Value,Vals xs b0/\IsTup s.heap a b0.toArray/\xs.length<=sizeLine:=by
 rcases h with h|⟨o,b0,n,hk,hc,hs,hz,r⟩
 ·obtain⟨z,b0,r,p⟩:=h.ok I.b9;exact⟨b0,r,p,z⟩
 ·refine⟨b0.toList,r,⟨o,I.gJ a o hk,hc,n,by simpa using hs⟩,?_⟩;have e:=r.length;simp only[Array.length_toList] at e;lia
def Inv.BV (I:Inv X pins σ H s)(h:bD X.K H a xs)(h':bD X.K H a ys):xs=ys:=by
 obtain⟨b0,r,⟨o,n,e,_,_,d⟩,_⟩:=I.list h;obtain⟨qT,r',⟨o',n',e',_,_,d'⟩,_⟩:=I.list h';rw[e] at e'; cases e';rw[d] at d';injection d' with d1 _;have:b0=qT:=by simpa using congrArg Array.toList d1
 subst this;exact r.inj r'
def Inv.GY (I:Inv X pins σ H s)(h:cy X.K H a xs)(h':cy X.K H a ys):xs=ys:=by
 obtain⟨b0,r,⟨o,e,_,n,d⟩,_⟩:=I.tuple h;obtain⟨qT,r',⟨o',e',_,n',d'⟩,_⟩:=I.tuple h';rw[e] at e'; cases e';rw[d] at d';injection d' with d1 _;have:b0=qT:=by simpa using congrArg Array.toList d1
 subst this;exact r.inj r'
end
abbrev Cx.vv (X:Cx)(E:Value->Shared->Prop):Cx:={X with xe:=E}
abbrev Cx.D4 (X:Cx):Cx:=X.vv fun _ _=>False
def Cx.Ok.vv {X:Cx}(ok:X.Ok)(E:Value->Shared->Prop):(X.vv E).Ok:=
 ⟨ok.mod,ok.kind,ok.glob,ok.blt,ok.above,ok.inj,ok.has,ok.LP,ok.hd,ok.frames,ok.Ja,ok.Mg,ok.bs,ok.BO,ok.xD,ok.xE,ok.md,ok.Fo⟩
def Cx.Ok.nF {X:Cx}{E:Value->Shared->Prop}(ok:(X.vv E).Ok):X.Ok:=
 ⟨ok.mod,ok.kind,ok.glob,ok.blt,ok.above,ok.inj,ok.has,ok.LP,ok.hd,ok.frames,ok.Ja,ok.Mg,ok.bs,ok.BO,ok.xD,ok.xE,ok.md,ok.Fo⟩
section
variable {X:Cx}{pins:List (Addr×Obj)}{σ:St}{H:Hp}{s:Shared}{E:Value->Shared->Prop}
def Inv.vv (I:Inv X pins σ H s)(E:Value->Shared->Prop):Inv (X.vv E) pins σ H s:=⟨I.ok.vv E,I.os,I.bare,I.base,I.loc,I.cell,I.free,I.iS,I.pin,I.b9,I.len⟩
def Inv.nF (I:Inv (X.vv E) pins σ H s):Inv X pins σ H s:=⟨I.ok.nF,I.os,I.bare,I.base,I.loc,I.cell,I.free,I.iS,I.pin,I.b9,I.len⟩
def SP.nF {D:Ends}{f:Flow}{s':Shared}(h:SP (X.vv E) pins D f s'):SP X pins D f s':=by
 cases f with
 |next=>obtain⟨σ',H',I,q⟩:=h; exact⟨σ',H',I.nF,q⟩
 |brk=>obtain⟨σ',H',I,q⟩:=h; exact⟨σ',H',I.nF,q⟩
 |cont=>obtain⟨σ',H',I,q⟩:=h; exact⟨σ',H',I.nF,q⟩
 |ret u=>obtain⟨v,σ',H',I,r,q⟩:=h; exact⟨v,σ',H',I.nF,r,q⟩
def pC.D4 {st:List Stmt}{t:TS}(h:pC X.D4 st t):pC X st t:=fun pins s σ H D I hw=>
 cm (h pins s σ H D (I.vv _) hw) (fun _ _ q=>q.nF) fun _ _ z=>False.elim z
end
section
variable {X:Cx}{st:Stmt}{rest:List Stmt}{t u:TS}{e:Expr}{te:TE}{pos:Pos}
def SE:TS:=fun D σ H=>D.nx σ H
def Xg (t u:TS):TS:=fun D σ H=>t {D with nx:=u D} σ H
def bh:pC X [] SE:=fun _ _ σ H _ I h=>jr ⟨σ,H,I,h⟩
def ah (h1:PS X st t)(h2:pC X rest u):pC X (st :: rest) (Xg t u):=by
 intro pins s σ H D I h;refine wpAny_execs_cons (dS (h1 pins s σ H {D with nx:=u D} I h) fun f s1 q=>?_);cases f with
 |next=>
  obtain⟨σ',H',I',q⟩:=q;exact h2 pins s1 σ' H' D I' q
 |ret v=>exact q
 |brk=>exact q
 |cont=>exact q
def av (h1:PS X st t):pC X [st] t:=by
 intro pins s σ H D I h;refine wpAny_execs_cons (dS (h1 pins s σ H D I h) fun f s1 q=>?_);cases f with
 |next=>exact jr q
 |ret v=>exact q
 |brk=>exact q
 |cont=>exact q
def Inv.quiet {pins:List (Addr×Obj)}{σ:St}{H:Hp}{s:Shared}(I:Inv X pins σ H s):interactive X.env=false:=by simp[interactive,I.ok.kind]
def SG (te:TE):TS:=fun D σ H=>te σ H fun _ H1=>D.nx σ H1
def bM (he:PE X e te)(hs:swapsWith e none pos.line X.env=pure false:=by rfl):PS X (.Expr e pos) (SG te):=by
 intro pins s σ H D I h;exact wpAny_Expr_any (dS (he pins s σ H _ I h) fun v s1 ⟨x,H1,I1,r1,q1⟩=>⟨σ,H1,I1,q1⟩) I.quiet hs
def Xh (te:TE):TS:=fun D σ H=>te σ H D.rt
def a6 (he:PE X e te):PS X (.Return (some e) pos) (Xh te):=by
 intro pins s σ H D I h;exact wpAny_Return_some (dS (he pins s σ H _ I h) fun v s1 ⟨x,H1,I1,r1,q1⟩=>⟨x,σ,H1,I1,r1,q1⟩)
def Xi (c:TT)(t u:TS):TS:=fun D σ H=>c σ H fun b H1=>if b=true then t D σ H1 else u D σ H1
def bP {c:Expr}{a b:List Stmt}{tc:TT}(hc:PT X c tc)(ha:pC X a t)(hb:pC X b u):PS X (.If c a b pos) (Xi tc t u):=by
 intro pins s σ H D I h;refine wpAny_If (dS (hc pins s σ H _ I h) fun d s1 ⟨H1,I1,q1⟩=>?_);cases d with
 |true=>exact ha pins s1 σ H1 D I1 q1
 |false=>exact hb pins s1 σ H1 D I1 q1
end
abbrev TG:=V->St->Hp->(St->Hp->Prop)->Prop
abbrev Ml:=List V->St->Hp->(St->Hp->Prop)->Prop
def PG (X:Cx)(target:Expr)(t:TG):Prop:=
 ∀(pins:List (Addr×Obj)) (s:Shared) (σ:St) (H:Hp) (v:V) (u:Value) (Q:St->Hp->Prop),Inv X pins σ H s->RelV v u->t v σ H Q->
  wpAny (model X.prog X.w) X.A (assign target X.env u) (fun _ s'=> ∃σ' H',Inv X pins σ' H' s'/\Q σ' H') X.xe s
def Js (X:Cx)(ts:List Expr)(t:Ml):Prop:=
 ∀(pins:List (Addr×Obj)) (s:Shared) (σ:St) (H:Hp) (vs:List V) (us:List Value) (Q:St->Hp->Prop),Inv X pins σ H s->Vals vs us->t vs σ H Q->
  wpAny (model X.prog X.w) X.A (assignInOrder ((assignEach ts X.env).map (·.2)) us) (fun _ s'=> ∃σ' H',Inv X pins σ' H' s'/\Q σ' H') X.xe s
abbrev Pa:=V->V->V->Hp->(Hp->Prop)->Prop
def SH (X:Cx)(t:Pa):Prop:=
 ∀(pins:List (Addr×Obj)) (s:Shared) (σ:St) (H:Hp) (o i v:V) (ov iv u:Value) (Q:Hp->Prop),Inv X pins σ H s->RelV o ov->RelV i iv->RelV v u->t o i v H Q->
  wpAny (model X.prog X.w) X.A (setItem ov iv u) (fun _ s'=> ∃H',Inv X pins σ H' s'/\Q H') X.xe s
section
variable {X:Cx}{pos:Pos}
def BW (i:Nat):TG:=fun v σ H Q=>Q (σ.set i (some v)) H
def eo {i:Nat}{x:Str}(hN:X.N.Nodup)(hi:X.N[i]? =some x)(hx:Loc X.env.scope x)(hf:X.fn x=true∨X.env.scope.names.lookup x=some .local:=by first|exact .inl rfl|exact .inr rfl|assumption):PG X (.Name x pos) (BW i):=by
 intro pins s σ H v u Q I r h;exact wpAny_assign_Name (vt I hN hi hx r (fun s' I'=>⟨_,H,I',h⟩) hf)
def Xj:Ml:=fun vs σ H Q=>vs=[]/\Q σ H
inductive EvC (vs:List V)(k:V->List V->Prop):Prop
 |mk (v:V)(r:List V)(h:vs=v :: r)(q:k v r):EvC vs k
def SI (t:TG)(u:Ml):Ml:=fun vs σ H Q=>EvC vs fun v r=>t v σ H fun σ' H'=>u r σ' H' Q
def fP:Js X [] Xj:=by
 intro pins s σ H vs us Q I r h;obtain⟨e,h⟩:=h;subst e;cases r;exact assignInOrder_nil ⟨σ,H,I,h⟩
def bR {e:Expr}{es:List Expr}{t:TG}{u:Ml}(h1:PG X e t)(h2:Js X es u)
  (hs:(assignEach (e :: es) X.env).map (·.2)=assign e X.env :: (assignEach es X.env).map (·.2):=by rfl):Js X (e :: es) (SI t u):=by
 intro pins s σ H vs us Q I r h;obtain⟨v,vr,e1,h⟩:=h;subst e1;cases r with
 |cons r rr=>
  rw[hs];refine assignInOrder_cons (dS (h1 pins s σ H _ _ _ I r h) fun _ s1 ⟨σ1,H1,I1,q1⟩=>?_);exact h2 pins s1 σ1 H1 _ _ Q I1 rr q1
inductive EvT (K:Frag)(H:Hp)(n:Nat)(v:V)(k:List V->Prop):Prop
 |mk (a:Addr)(xs:List V)(h1:v= .ref a)(h2:cy K H a xs)(h3:xs.length=n)(q:k xs):EvT K H n v k
def Pb (K:Frag)(n:Nat)(t:Ml):TG:=fun v σ H Q=>EvT K H n v fun xs=>t xs σ H Q
def Jt {es:List Expr}{k:Nat}{t:Ml}{n:Nat}(hc:X.calm=true)(h:Js X es t)
  (hn:(assignEach es X.env).length=n:=by rfl) (sE:(assignEach es X.env).findIdx? (·.1)=none:=by rfl):PG X (.Tuple es k pos) (Pb X.K n t):=by
 intro pins s σ H v u Q I r hw;obtain⟨a,xs,e1,hq,hl,hw⟩:=hw;subst e1;cases r;obtain⟨b0,rv,ht,hz⟩:=I.tuple hq;refine assign_Tuple_tuple (I.ok.hd hc) ht (by simp[hn,← hl,rv.length]) sE fun h' hx=>?_;have I1:Inv X pins σ H {s with heap:=h'}:=I.kept (t':=s.toks) fun b o e=>hx b o (a7 (aN e)) e;exact h pins _ σ H xs _ Q I1 (by simpa using rv) hw
def Xk (to ti:TE)(t:Pa):TG:=fun v σ H Q=>to σ H fun o H1=>ti σ H1 fun i H2=>t o i v H2 fun H3=>Q σ H3
def sO {o i:Expr}{to ti:TE}{t:Pa}(ho:PE X o to)(hi:PE X i ti)(hs:SH X t)
  (ha: ∀v,assign (.Subscript o i pos) X.env v=(do
   let ov ← holding [v] (eval o X.env)
   let iv ← holding [v,ov] (eval i X.env)
   standAt pos
   holding [v,ov,iv] (setItem ov iv v)
   release [v,ov,iv] []):=by intro _; rfl):PG X (.Subscript o i pos) (Xk to ti t):=by
 intro pins s σ H v u Q I r h;rw[ha];refine aC (iq (dS (ho pins s σ H _ I h) fun ov s1 ⟨x,H1,I1,r1,q1⟩=>?_));refine aC (iq (dS (hi pins s1 σ H1 _ I1 q1) fun iv s2 ⟨y,H2,I2,r2,q2⟩=>?_));refine aC (ir (aC (iq (dS (hs pins s2 σ H2 x y v ov iv u _ I2 r1 r2 r q2) fun _ s3 ⟨H3,I3,q3⟩=>?_))));exact wpAny_release ⟨σ,H3,I3,q3⟩
def Mm (te:TE)(g:TG):TS:=fun D σ H=>te σ H fun x H1=>g x σ H1 D.nx
def jU {tg e:Expr}{te:TE}{g:TG}(he:PE X e te)(hg:PG X tg g)(hs:swapsWithSole [tg] e pos.line X.env=pure false:=by rfl)(hw:swappedStores [tg] e X.env=pure none:=by rfl)
  (h1:(assignEach [tg] X.env).map (·.2)=[assign tg X.env]:=by rfl):PS X (.Assign [tg] e pos) (Mm te g):=by
 intro pins s σ H D I h;refine wpAny_Assign_stores (dS (he pins s σ H _ I h) fun v s1 ⟨x,H1,I1,r1,q1⟩=>?_) hs hw;rw[h1];exact dS (hg pins s1 σ H1 x v _ I1 r1 q1) fun _ s2 q=>q
def Pc {i:Nat}{x:Str}{e:Expr}{te:TE}{pos':Pos}(hN:X.N.Nodup)(hi:X.N[i]? =some x)(hx:Loc X.env.scope x)(he:PE X e te)(hs:swapsWith e (some (.Name x pos')) pos.line X.env=pure false:=by rfl)(hf:X.fn x=true∨X.env.scope.names.lookup x=some .local:=by first|exact .inl rfl|exact .inr rfl|assumption):
  PS X (.Assign [.Name x pos'] e pos) (Mm te (BW i)):=by
 intro pins s σ H D I h;refine wpAny_Assign_Name (dS (he pins s σ H _ I h) fun v s1 ⟨y,H1,I1,r1,q1⟩=>?_) hs;exact vt I1 hN hi hx r1 (fun s2 I2=>⟨_,H1,I2,q1⟩) hf
def Pd (c:TT)(tb:TS):TS:=fun D σ H=> ∃W:Nat->St->Hp->Prop,(∃m,W m σ H)/\ ∀m σ H,W m σ H->
 c σ H fun b H1=>if b=true then ∃N:St->Hp->Prop,(∀σ' H',N σ' H'-> ∃m',m' < m/\W m' σ' H')/\tb {D with nx:=N,ct:=N,bk:=D.nx} σ H1 else D.nx σ H1
def Ju {c:Expr}{body:List Stmt}{tc:TT}{tb:TS}(hp:PassesOwn (model X.prog X.w) X.A X.env X.xe)(hc:PT X c tc)(hb:pC X body tb):PS X (.While c body [] pos) (Pd tc tb):=by
 intro pins s σ H D I h;obtain⟨W,⟨m0,w0⟩,turn⟩:=h;refine wpAny_While (codeAny_whileLoop (fun n s'=> ∃σ' H',Inv X pins σ' H' s'/\W n σ' H') ?_ m0 ⟨σ,H,I,w0⟩);rintro n s1 ⟨σ1,H1,I1,w1⟩;refine dQ hp (dS (hc pins s1 σ1 H1 _ I1 (turn n σ1 H1 w1)) fun b s2 ⟨H2,I2,q2⟩=>?_);cases b with
 |true=>
  obtain⟨N,hN,q2⟩:=q2;rw[a0 rfl];refine dQ hp (dS (hb pins s2 σ1 H2 _ I2 q2) fun f s3 q3=>?_);cases f with
  |next=>
   obtain⟨σ3,H3,I3,n3⟩:=q3;obtain⟨m',hm,w3⟩:=hN σ3 H3 n3;exact⟨m',hm,σ3,H3,I3,w3⟩
  |cont=>
   obtain⟨σ3,H3,I3,n3⟩:=q3;obtain⟨m',hm,w3⟩:=hN σ3 H3 n3;exact⟨m',hm,σ3,H3,I3,w3⟩
  |brk=>exact q3
  |ret v=>exact q3
 |false=>
  rw[aQ aX];exact jr ⟨σ1,H2,I2,q2⟩
end
structure It where
 go:Nat->Hp->Prop
 RH:Nat->Hp->V->Hp->Prop
 stop:Nat->Hp->Prop
def vw (X:Cx)(pins:List (Addr×Obj))(H:Hp)(b:Addr):Prop:=
 H b=none/\b≠X.env.locals/\b∉X.fs/\(b∈X.ex∨X.s₀.heap.objs.size<=b)/\(∀x c,X.env.cells.lookup x=some c->c≠b)/\ ∀p∈X.pn ++ pins,p.1≠b
def Inv.GZ {X:Cx}{pins:List (Addr×Obj)}{σ:St}{H H':Hp}{s:Shared}{b:Addr}(I:Inv X pins σ H s)(hb:s.heap.objs.size<=b)(hn:H' b=none):vw X pins H' b:=by
 refine⟨hn,qI (bo I.lt hb),I.GX hb,.inr (aR I.sz hb),fun x c e z=>?_,fun p hp z=>?_⟩
 ·obtain⟨v,q⟩:=I.cell x c e;exact absurd (bo q.lt (by rw[z]; exact hb)) (iU _)
 ·exact absurd (bo (aN (I.pin p hp).1) (by rw[z]; exact hb)) (iU _)
structure Turn (P:Program)(w:World)(K:Frag)(tg:Expr)(J:It)(fp:List Addr)(it:Addr)(tn:Nat->Heap->Prop):Prop where
 mem:it∈fp
 obj: ∀i h,tn i h-> ∀b∈fp,∃o,h.get? b=some o/\ ∀v,o.data≠ .cell v
 keep: ∀i h h',tn i h->(∀b∈fp,∀o,h.get? b=some o->h'.get? b=some o)->tn i h'
 item: ∀(X:Cx),X.prog=P->X.w=w->X.K=K->X.calm=true-> ∀(i:Nat) (pins:List (Addr×Obj)) (s:Shared) (σ:St) (H:Hp) (E:Value->Shared->Prop),Inv X pins σ H s->(∀b∈fp,vw X pins H b)->tn i s.heap->J.go i H->
  wpAny (model P w) X.A (pyNext (.ref it)) (fun r s1=> ∃u,r=some u/\
   wpAny (model P w) X.A (letOwnedTupleGo tg (.ref it) u) (fun _ s2=> ∃x H',Inv X pins σ H' s2/\RelV x u/\J.RH i H x H'/\tn (i + 1) s2.heap/\ ∀b∈fp,H' b=none) E s1) E s
 done: ∀(X:Cx),X.prog=P->X.w=w->X.K=K->X.calm=true-> ∀(i:Nat) (pins:List (Addr×Obj)) (s:Shared) (σ:St) (H:Hp) (E:Value->Shared->Prop),Inv X pins σ H s->(∀b∈fp,vw X pins H b)->tn i s.heap->J.stop i H->
  wpAny (model P w) X.A (pyNext (.ref it)) (fun r s1=>r=none/\Inv X pins σ H s1) E s
 self: ∀(A:Around) (i:Nat) (s:Shared) (Q:Value->Shared->Prop) (E:Value->Shared->Prop),tn i s.heap->Q (.ref it) s->wpAny (model P w) A (pyIter (.ref it)) Q E s
abbrev TI:=St->Hp->(It->Hp->Prop)->Prop
def PIE (X:Cx)(pins:List (Addr×Obj))(σ:St)(tg:Expr)(R:It->Hp->Prop)(VZ:Value)(s2:Shared):Prop:=
 ∃(it:Addr) (fp:List Addr) (tn:Nat->Heap->Prop) (J:It) (H':Hp),VZ= .ref it/\Inv X pins σ H' s2/\Turn X.prog X.w X.K tg J fp it tn/\tn 0 s2.heap/\(∀b∈fp,vw X pins H' b)/\R J H'
def PI (X:Cx)(tg iter:Expr)(wi:TI):Prop:=
 ∀(pins:List (Addr×Obj)) (s:Shared) (σ:St) (H:Hp) (R:It->Hp->Prop),Inv X pins σ H s->wi σ H R->
  wpAny (model X.prog X.w) X.A (eval iter X.env) (fun v s1=>wpAny (model X.prog X.w) X.A (pyIter v) (PIE X pins σ tg R) X.xe s1) X.xe s
def Fs {M:Model}{A:Around}{E:Value->Shared->Prop}{s:Shared}{tg:Expr}{it:Addr}{u:Value}{o:Obj}{n:String}{vs:Array Value}{Q:Unit->Shared->Prop}(ho:s.heap.get? it=some o)(hc:o.cls= .type n)(hd:o.data= .fields vs)
  (hn:["enumerate","zip","dict_itemiterator","dict_reverseitemiterator","odict_iterator","itertools.zip_longest","itertools.pairwise"].contains n=false) (hQ:Q () s):wpAny M A (letOwnedTupleGo tg (.ref it) u) Q E s:=by
 unfold letOwnedTupleGo;cases tg <;> first
  |exact bI hQ
  |(cases u <;> first
    |exact bI hQ
    |(refine aC (wpAny_load ho ?_)
      rw[hc,hd];show wpAny M A (if(["enumerate","zip","dict_itemiterator","dict_reverseitemiterator","odict_iterator","itertools.zip_longest","itertools.pairwise"].contains n && vs[0]? == some (rawInt _))=true then _ else _) Q E s;rw[aQ (by intro h; rw[hn,qP] at h; cases h)];exact bI hQ))
def RI (K:Frag)(a:Addr):It:=
 ⟨fun i H=> ∃xs x,bD K H a xs/\xs[i]? =some x,fun i H x H'=>H'=H/\ ∀xs,bD K H a xs->xs[i]? =some x,fun i H=> ∃xs,bD K H a xs/\xs.length<=i⟩
def Xl (K:Frag)(a:Addr):It:=
 ⟨fun i H=> ∃xs x,cy K H a xs/\xs[i]? =some x,fun i H x H'=>H'=H/\ ∀xs,cy K H a xs->xs[i]? =some x,fun i H=> ∃xs,cy K H a xs/\xs.length<=i⟩
def N6 (lo:Int)(n:Nat):It:=⟨fun i _=>i < n,fun i H x H'=>H'=H/\x= .int (lo + i),fun i _=>n<=i⟩
def G0 {P:Program}{w:World}{K:Frag}{tg:Expr}(a it:Addr):Turn P w K tg (RI K a) [it] it (fun i h=>h.IsListIter it a i) where
 mem:=by simp
 obj:=fun i h st b hb=>by
  have e:b=it:=by simpa using hb
  subst e;obtain⟨o,e,c,d⟩:=st;exact⟨o,e,fun v z=>by rw[d] at z; cases z⟩
 keep:=fun i h h' st k=>st.at fun o e=>k it (by simp) o e
 item:=by
  intro X hP hw hK hc i pins s σ H E I hf st hg;subst hP hw hK;obtain⟨xs,x,hq,hx⟩:=hg;obtain⟨b0,rv,p,hz⟩:=I.list hq;obtain⟨u,hu,ru⟩:=rv.get hx;obtain⟨f0,f1,f2,f3,f4,f5⟩:=hf it (by simp);refine wpAny_pyNext_list_item st p.isList (x:=u) (by simpa using hu) fun h' Bz sb=>?_;have I1:Inv X pins σ H {s with heap:=h'}:=I.turned (t':=s.toks) (fun b o hb e=>(sb.2 b hb).trans e) f0 f1 f3 f4 f5;obtain⟨o,e,c,d⟩:=id Bz;exact⟨u,rfl,Fs (s:={s with heap:=h'}) e c d (by decide) ⟨x,H,I1,ru,⟨rfl,fun ys hy=>by rw[I.BV hy hq]; exact hx⟩,Bz,fun b hb=>(hf b hb).1⟩⟩
 done:=by
  intro X hP hw hK hc i pins s σ H E I hf st hg;subst hP hw hK;obtain⟨xs,hq,hx⟩:=hg;obtain⟨b0,rv,p,hz⟩:=I.list hq;obtain⟨f0,f1,f2,f3,f4,f5⟩:=hf it (by simp);have hl:=rv.length;exact wpAny_pyNext_list_end (I.ok.hd hc) st p.isList (by simp; lia) fun h' eb=>⟨rfl,I.turned (t':=s.toks) (fun b o hb e=>eb b o hb e) f0 f1 f3 f4 f5⟩
 self:=fun _ _ _ _ _ st h=>wpAny_pyIter_listiter st h
def D5 {P:Program}{w:World}{K:Frag}{tg:Expr}(a it:Addr):Turn P w K tg (Xl K a) [it] it (fun i h=>h.IsTupleIter it a i) where
 mem:=by simp
 obj:=fun i h st b hb=>by
  have e:b=it:=by simpa using hb
  subst e;obtain⟨o,e,c,d⟩:=st;exact⟨o,e,fun v z=>by rw[d] at z; cases z⟩
 keep:=fun i h h' st k=>st.at fun o e=>k it (by simp) o e
 item:=by
  intro X hP hw hK hc i pins s σ H E I hf st hg;subst hP hw hK;obtain⟨xs,x,hq,hx⟩:=hg;obtain⟨b0,rv,p,hz⟩:=I.tuple hq;obtain⟨u,hu,ru⟩:=rv.get hx;obtain⟨f0,f1,f2,f3,f4,f5⟩:=hf it (by simp);refine wpAny_pyNext_tuple_item st (show s.heap.IsTuple a b0.toArray from p) (x:=u) (by simpa using hu) fun h' Bz sb=>?_;have I1:Inv X pins σ H {s with heap:=h'}:=I.turned (t':=s.toks) (fun b o hb e=>(sb.2 b hb).trans e) f0 f1 f3 f4 f5;obtain⟨o,e,c,d⟩:=id Bz;exact⟨u,rfl,Fs (s:={s with heap:=h'}) e c d (by decide) ⟨x,H,I1,ru,⟨rfl,fun ys hy=>by rw[I.GY hy hq]; exact hx⟩,Bz,fun b hb=>(hf b hb).1⟩⟩
 done:=by
  intro X hP hw hK hc i pins s σ H E I hf st hg;subst hP hw hK;obtain⟨xs,hq,hx⟩:=hg;obtain⟨b0,rv,p,hz⟩:=I.tuple hq;obtain⟨f0,f1,f2,f3,f4,f5⟩:=hf it (by simp);have hl:=rv.length;exact wpAny_pyNext_tuple_end (I.ok.hd hc) st (show s.heap.IsTuple a b0.toArray from p) (by simp; lia) fun h' eb=>⟨rfl,I.turned (t':=s.toks) (fun b o hb e=>eb b o hb e) f0 f1 f3 f4 f5⟩
 self:=fun _ _ _ _ _ st h=>wpAny_pyIter_tupleiter st h
def D7 {P:Program}{w:World}{K:Frag}{tg:Expr}(it:Addr)(lo:Int)(n:Nat):Turn P w K tg (N6 lo n) [it] it (fun i h=>IsRangeIter h it (lo + (i:Nat) * 1) ((n:Int) - (i:Nat)) 1) where
 mem:=by simp
 obj:=fun i h st b hb=>by
  have e:b=it:=by simpa using hb
  subst e;exact⟨_,st,fun v z=>by
   have z':Data.fields _ =Data.cell v:=z;cases z'⟩
 keep:=fun i h h' st k=>k it (by simp) _ st
 item:=by
  intro X hP hw hK hc i pins s σ H E I hf st hg;subst hP hw hK;obtain⟨f0,f1,f2,f3,f4,f5⟩:=hf it (by simp);have W:=Walks.range (prog:=X.prog) (w:=X.w) (I.ok.hd hc) it lo 1 n;refine W.item i s _ _ hg st fun v h' tk hv Bz kk=>?_;obtain⟨t,rfl⟩:=hv;have I1:Inv X pins σ H {s with heap:=h',toks:=tk}:=I.turned (fun b o hb e=>kk b o (by simpa using hb) e) f0 f1 f3 f4 f5;refine⟨_,rfl,Fs (s:={s with heap:=h',toks:=tk}) (n:="range_iterator") Bz rfl rfl (by decide) ⟨.int (lo + i),H,I1,⟨t,?_⟩,⟨rfl,rfl⟩,Bz,fun b hb=>(hf b hb).1⟩⟩;rw[Int.mul_one]
 done:=by
  intro X hP hw hK hc i pins s σ H E I hf st hg;subst hP hw hK;obtain⟨f0,f1,f2,f3,f4,f5⟩:=hf it (by simp);exact wpAny_pyNext_range_end (I.ok.hd hc) st (by have:n<=i:=hg; lia) fun h' eb=>⟨rfl,I.turned (t':=s.toks) (fun b o hb e=>eb b o hb e) f0 f1 f3 f4 f5⟩
 self:=fun _ _ _ _ _ st h=>wpAny_pyIter_rangeiter st h
section
variable {X:Cx}{tg:Expr}
inductive EvR (x:V)(S k:Addr->Prop):Prop
 |mk (a:Addr)(h:x= .ref a)(s:S a)(q:k a):EvR x S k
def N7 (K:Frag)(tl:TE):TI:=fun σ H R=>tl σ H fun x H1=>EvR x (fun a=> ∃xs,bD K H1 a xs) fun a=>R (RI K a) H1
def Xm (K:Frag)(tl:TE):TI:=fun σ H R=>tl σ H fun x H1=> ∃a,x= .ref a/\(∃xs,cy K H1 a xs)/\R (Xl K a) H1
def Mn {l:Expr}{tl:TE}(hl:PE X l tl):PI X tg l (N7 X.K tl):=by
 intro pins s σ H R I h;refine dS (hl pins s σ H _ I h) fun v s1 ⟨x,H1,I1,r1,q1⟩=>?_;obtain⟨a,e,⟨xs,hq⟩,q⟩:=q1;subst e;cases r1;obtain⟨b0,rv,p,hz⟩:=I1.list hq;refine wpAny_pyIter_list p.isList ?_;refine⟨s1.heap.objs.size,[s1.heap.objs.size],_,_,H1,rfl,I1.kept (t':=s1.toks) fun b o e=>az _ e,G0 a _,⟨_,bO _ rfl,rfl,rfl⟩,fun b hb=>?_,q⟩;have e:b=s1.heap.objs.size:=by simpa using hb
 subst e;exact I1.GZ (aD _) (I1.b9.fresh (aD _))
def Pe {l:Expr}{tl:TE}(hl:PE X l tl):PI X tg l (Xm X.K tl):=by
 intro pins s σ H R I h;refine dS (hl pins s σ H _ I h) fun v s1 ⟨x,H1,I1,r1,q1⟩=>?_;obtain⟨a,e,⟨xs,hq⟩,q⟩:=q1;subst e;cases r1;obtain⟨b0,rv,p,hz⟩:=I1.tuple hq;refine wpAny_pyIter_tuple (show s1.heap.IsTuple a b0.toArray from p) ?_;refine⟨s1.heap.objs.size,[s1.heap.objs.size],_,_,H1,rfl,I1.kept (t':=s1.toks) fun b o e=>az _ e,D5 a _,⟨_,bO _ rfl,rfl,rfl⟩,fun b hb=>?_,q⟩;have e:b=s1.heap.objs.size:=by simpa using hb
 subst e;exact I1.GZ (aD _) (I1.b9.fresh (aD _))
def Jv {pins:List (Addr×Obj)}{σ:St}{H:Hp}{s:Shared}{R:It->Hp->Prop}{E:Value->Shared->Prop}{lo hi:Int}{t u v:Tok}{tk:Nat}(I:Inv X pins σ H s)(h1: -(2 ^ 62)<=lo)(h2:lo < 2 ^ 62)(h3: -(2 ^ 62)<=hi)(h4:hi < 2 ^ 62)
  (q:R (N6 lo (hi - lo).toNat) H):wpAny (model X.prog X.w) X.A (pyIter (.ref s.heap.objs.size)) (PIE X pins σ tg R) E {s with heap:=s.heap.push {cls:= .type "range",data:= .fields #[.int lo t,.int hi u,.int 1 v]},toks:=tk}:=by
 refine wpAny_pyIter_range (IsRange.new ..) (small_one h1 h2 h3 h4) ?_;have I1:Inv X pins σ H {s with heap:=s.heap.push {cls:= .type "range",data:= .fields #[.int lo t,.int hi u,.int 1 v]},toks:=tk}:=I.kept fun b o e=>az _ e;refine⟨(s.heap.push {cls:= .type "range",data:= .fields #[.int lo t,.int hi u,.int 1 v]}).objs.size,[(s.heap.push {cls:= .type "range",data:= .fields #[.int lo t,.int hi u,.int 1 v]}).objs.size],_,_,H,rfl,
  I1.kept (t':=tk) fun b o e=>az _ e,D7 _ lo (hi - lo).toNat,?_,fun b hb=>?_,q⟩
 ·have e1:lo + ((0:Nat):Int) * 1=lo:=by simp
  have e2:(((hi - lo).toNat:Nat):Int) - ((0:Nat):Int)=Builtin.Range.rangeSize lo hi 1:=by rw[rangeSize_one]; split <;> lia
  show IsRangeIter _ _ (lo + ((0:Nat):Int) * 1) ((((hi - lo).toNat:Nat):Int) - ((0:Nat):Int)) 1;rw[e1,e2];exact bO _ rfl
 ·have e:b=(s.heap.push {cls:= .type "range",data:= .fields #[.int lo t,.int hi u,.int 1 v]}).objs.size:=by simpa using hb
  subst e;exact I1.GZ (aD _) (I1.b9.fresh (aD _))
def SJ (ta:TA):TI:=fun σ H R=>ta σ H fun vs H1=> ∃j:Int,vs=[.int j]/\ -(2 ^ 62)<=j/\j < 2 ^ 62/\R (N6 0 j.toNat) H1
def hJ {a:Expr}{ta:TA}{p pos:Pos}(hg:Gl X "range")(hm:X.mg "range"=none)(ha:PA X [a] ta)(hs:starEach [a] X.env=[(false,eval a X.env)]:=by rfl):PI X tg (.Call (.Name "range" p) [a] [] pos) (SJ ta):=by
 intro pins s σ H R I h;refine Call_ (qf I hg hm boot_range (oX (dS (ha pos pins s σ H _ I h) fun us s1 ⟨vs,H1,I1,r1,q1⟩=>?_) hs rfl));obtain⟨j,e,q1,q2,q⟩:=q1;subst e;cases r1 with
 |cons r rr=>
  cases rr;obtain⟨t,rfl⟩:=r;exact call_range_1 (Jv I1 (by lia) (by lia) q1 q2 (by simpa using q))
def Xn (wi:TI)(g:TG)(tb:TS):TS:=fun D σ H=>wi σ H fun J H1=> ∃W:Nat->Nat->St->Hp->Prop,(∃m,W 0 m σ H1)/\ ∀i m σ H,W i m σ H->
 (J.stop i H/\D.nx σ H)∨(J.go i H/\ ∃N:St->Hp->Prop,(∀σ' H',N σ' H'-> ∃m',m' < m/\W (i + 1) m' σ' H')/\ ∀x H',J.RH i H x H'->g x σ H' fun σ2 H2=>tb {D with nx:=N,ct:=N,bk:=D.nx} σ2 H2)
def qh (fp:List Addr)(h:Heap):List (Addr×Obj):=fp.filterMap fun b=>(h.get? b).map fun o=>(b,o)
def jV {fp:List Addr}{h:Heap}{b:Addr}{o:Obj}(hb:b∈fp)(e:h.get? b=some o):(b,o)∈qh fp h:=List.mem_filterMap.mpr ⟨b,hb,by rw[e]; rfl⟩
def G1 {fp:List Addr}{h:Heap}{p:Addr×Obj}(hp:p∈qh fp h):p.1∈fp/\h.get? p.1=some p.2:=by
 obtain⟨b,hb,e⟩:=List.mem_filterMap.mp hp;cases q:h.get? b with
 |none=>rw[q] at e; cases e
 |some o=>
  rw[q] at e;have e':(b,o)=p:=aF e;subst e';exact⟨hb,q⟩
def Inv.pinned {pins:List (Addr×Obj)}{σ:St}{H:Hp}{s:Shared}{fp:List Addr}(I:Inv X pins σ H s)(hf: ∀b∈fp,vw X pins H b)(ho: ∀b∈fp,∃o,s.heap.get? b=some o/\ ∀v,o.data≠ .cell v):Inv X (pins ++ qh fp s.heap) σ H s:=
 I.uX fun p hp=>(bg.mp hp).elim (fun z=>I.pin p (bB _ z)) fun z=>by
  obtain⟨hb,e⟩:=G1 z;obtain⟨f0,f1,f2,_⟩:=hf p.1 hb;obtain⟨o,e',d⟩:=ho p.1 hb;rw[e] at e'; cases e';exact⟨e,f0,f1,f2,d⟩
def Inv.jd {pins pl:List (Addr×Obj)}{σ:St}{H:Hp}{s:Shared}(I:Inv X (pins ++ pl) σ H s):Inv X pins σ H s:=I.uX fun p hp=>I.pin p (bB _ (c9 _ hp))
def dX {iter:Expr}{body:List Stmt}{wi:TI}{g:TG}{tb:TS}{pos:Pos}(hp:PassesOwn (model X.prog X.w) X.A X.env X.xe)(hc:X.calm=true)(hi:PI X tg iter wi)(hg:PG X tg g)(hb:pC X body tb)
  (hs: ∀x,foldedSetIterable iter X.env x=pure x:=by intro _; rfl):PS X (.For tg iter body [] pos) (Xn wi g tb):=by
 intro pins s σ H D I h;refine wpAny_For (dS (hi pins s σ H _ I h) fun v s1 h1=>dS h1 fun VZ s2 h2=>?_) hs;obtain⟨it,fp,tn,J,H2,e,I2,T,N8,f2,W,⟨m0,w0⟩,turn⟩:=h2;subst e;have sP: ∀{H':Hp},(∀b∈fp,H' b=none)-> ∀b∈fp,vw X pins H' b:=fun hn b hb=>⟨hn b hb,(f2 b hb).2⟩;refine codeAny_forLoop_any (fun n s'=> ∃i σ' H',Inv X pins σ' H' s'/\tn i s'.heap/\(∀b∈fp,H' b=none)/\W i n σ' H') ?_ m0 ⟨0,σ,H2,I2,N8,fun b hb=>(f2 b hb).1,w0⟩;rintro n s3 ⟨i,σ3,H3,I3,SK,Mo,w3⟩;rcases turn i n σ3 H3 w3 with⟨stop,qn⟩|⟨go,N,hN,step⟩
 ·refine dQ hp (dS (T.done X rfl rfl rfl hc i pins s3 σ3 H3 X.xe I3 (sP Mo) SK stop) fun r s4 ⟨hr,I4⟩=>?_);subst hr;exact jr ⟨σ3,H3,I4,qn⟩
 ·refine dQ hp (dS (T.item X rfl rfl rfl hc i pins s3 σ3 H3 X.xe I3 (sP Mo) SK go) fun r s4 ⟨u,hr,h4⟩=>?_);subst hr;refine dQ hp (dS h4 fun _ s5 ⟨x,H5,I5,r5,y5,Pf,RJ⟩=>?_);have I5':=I5.pinned (sP RJ) (T.obj _ _ Pf);refine dQ hp (dS (hg _ s5 σ3 H5 x u _ I5' r5 (step x H5 y5)) fun _ s6 ⟨σ6,H6,I6,q6⟩=>?_);refine dQ hp (dS (hb _ s6 σ6 H6 _ I6 q6) fun f s7 q7=>?_);have again: ∀{σ7:St} {H7:Hp},Inv X (pins ++ qh fp s5.heap) σ7 H7 s7->N σ7 H7-> ∃m,m < n/\ ∃i σ' H',Inv X pins σ' H' s7/\tn i s7.heap/\(∀b∈fp,H' b=none)/\W i m σ' H':=fun{σ7 H7} I7 n7=>by
   obtain⟨m',hm,w7⟩:=hN σ7 H7 n7;refine⟨m',hm,i + 1,σ7,H7,I7.jd,T.keep _ _ _ Pf fun b hb o e=>(I7.pin (b,o) (bB _ (bB _ (jV hb e)))).1,fun b hb=>?_,w7⟩;obtain⟨o,e,d⟩:=T.obj _ _ Pf b hb;exact(I7.pin (b,o) (bB _ (bB _ (jV hb e)))).2.1
  cases f with
  |next=>obtain⟨σ7,H7,I7,n7⟩:=q7; exact again I7 n7
  |cont=>obtain⟨σ7,H7,I7,n7⟩:=q7; exact again I7 n7
  |brk=>obtain⟨σ7,H7,I7,q7⟩:=q7; exact⟨σ7,H7,I7.jd,q7⟩
  |ret v=>obtain⟨x7,σ7,H7,I7,r7,q7⟩:=q7; exact⟨x7,σ7,H7,I7.jd,r7,q7⟩
end
def eP {K:Frag}{a:Addr}{xs:List V}{g:TG}{tb:TS}{D:Ends}{σ:St}{H:Hp}(Pv:Nat->St->Hp->Prop)(h0:Pv 0 σ H)(hl: ∀i σ H,i<=xs.length->Pv i σ H->bD K H a xs)
  (hs: ∀i x σ H,xs[i]? =some x->Pv i σ H->g x σ H fun σ2 H2=>tb {D with nx:=Pv (i + 1),ct:=Pv (i + 1),bk:=D.nx} σ2 H2) (hd: ∀σ H,Pv xs.length σ H->D.nx σ H):
  ∃W:Nat->Nat->St->Hp->Prop,(∃m,W 0 m σ H)/\ ∀i m σ H,W i m σ H->
   ((RI K a).stop i H/\D.nx σ H)∨((RI K a).go i H/\ ∃N:St->Hp->Prop,(∀σ' H',N σ' H'-> ∃m',m' < m/\W (i + 1) m' σ' H')/\ ∀x H',(RI K a).RH i H x H'->g x σ H' fun σ2 H2=>tb {D with nx:=N,ct:=N,bk:=D.nx} σ2 H2):=by
 refine⟨fun i m σ H=>m=xs.length - i/\i<=xs.length/\Pv i σ H,⟨xs.length,by simp,Nat.zero_le _,h0⟩,?_⟩;rintro i m σ H ⟨rfl,hi,p⟩;have q:=hl i σ H hi p;by_cases iX:i < xs.length
 ·refine .inr ⟨⟨xs,xs[i],q,by simp[iX]⟩,Pv (i + 1),fun σ' H' p'=>⟨xs.length - (i + 1),by lia,rfl,iX,p'⟩,fun x H' y=>?_⟩;obtain⟨e,y⟩:=y;subst e;exact hs i x σ _ (y xs q) p
 ·have e:i=xs.length:=by lia
  subst e;exact .inl ⟨⟨xs,q,aD _⟩,hd σ H p⟩
def jM {lo:Int}{n:Nat}{g:TG}{tb:TS}{D:Ends}{σ:St}{H:Hp}(Pv:Nat->St->Hp->Prop)(h0:Pv 0 σ H)
  (hs: ∀i σ H,i < n->Pv i σ H->g (.int (lo + i)) σ H fun σ2 H2=>tb {D with nx:=Pv (i + 1),ct:=Pv (i + 1),bk:=D.nx} σ2 H2) (hd: ∀σ H,Pv n σ H->D.nx σ H):
  ∃W:Nat->Nat->St->Hp->Prop,(∃m,W 0 m σ H)/\ ∀i m σ H,W i m σ H->
   ((N6 lo n).stop i H/\D.nx σ H)∨((N6 lo n).go i H/\ ∃N:St->Hp->Prop,(∀σ' H',N σ' H'-> ∃m',m' < m/\W (i + 1) m' σ' H')/\ ∀x H',(N6 lo n).RH i H x H'->g x σ H' fun σ2 H2=>tb {D with nx:=N,ct:=N,bk:=D.nx} σ2 H2):=by
 refine⟨fun i m σ H=>m=n - i/\i<=n/\Pv i σ H,⟨n,by simp,Nat.zero_le _,h0⟩,?_⟩;rintro i m σ H ⟨rfl,hi,p⟩;by_cases iX:i < n
 ·refine .inr ⟨iX,Pv (i + 1),fun σ' H' p'=>⟨n - (i + 1),by lia,rfl,iX,p'⟩,fun x H' y=>?_⟩;obtain⟨e,y⟩:=y;subst e y;exact hs i σ _ iX p
 ·have e:i=n:=by lia
  subst e;exact .inl ⟨aD _,hd σ H p⟩
abbrev R2:=V->V->Hp->VK->Prop
def oP (X:Cx)(f:Value->Value->Sem Value)(r:R2):Prop:=
 ∀(pins:List (Addr×Obj)) (s:Shared) (σ:St) (H:Hp) (x y:V) (v u:Value) (Q:VK),Inv X pins σ H s->RelV x v->RelV y u->r x y H Q->
  wpAny (model X.prog X.w) X.A (f v u) (EP X pins σ Q) X.xe s
def N9 (X:Cx)(f:Value->Sem Value)(r:V->Hp->VK->Prop):Prop:=
 ∀(pins:List (Addr×Obj)) (s:Shared) (σ:St) (H:Hp) (x:V) (v:Value) (Q:VK),Inv X pins σ H s->RelV x v->r x H Q->
  wpAny (model X.prog X.w) X.A (f v) (EP X pins σ Q) X.xe s
def hV (X:Cx)(f:Value)(r:List V->Hp->VK->Prop):Prop:=
 ∀(pins:List (Addr×Obj)) (s:Shared) (σ:St) (H:Hp) (xs:List V) (us:List Value) (Q:VK),Inv X pins σ H s->Vals xs us->r xs H Q->
  wpAny (model X.prog X.w) X.A (call f us) (EP X pins σ Q) X.xe s
def RK (r:R2)(ta tb:TE):TE:=fun σ H Q=>ta σ H fun x H1=>tb σ H1 fun y H2=>r x y H2 Q
def tUn (r:V->Hp->VK->Prop)(ta:TE):TE:=fun σ H Q=>ta σ H fun x H1=>r x H1 Q
inductive EvI (x y:V)(C k:Int->Int->Prop):Prop
 |mk (i j:Int)(h1:x= .int i)(h2:y= .int j)(c:C i j)(q:k i j):EvI x y C k
inductive EvJ (x y:V)(k:Int->Int->Prop):Prop
 |mk (i j:Int)(h1:x= .int i)(h2:y= .int j)(q:k i j):EvJ x y k
def rI (C:Int->Int->Prop)(g:Int->Int->V):R2:=fun x y H Q=>EvI x y C fun i j=>Q (g i j) H
def LQ (g:Int->Int->V):R2:=fun x y H Q=>EvJ x y fun i j=>Q (g i j) H
def rU (g:Int->V):V->Hp->VK->Prop:=fun x H Q=> ∃i,x= .int i/\Q (g i) H
section
variable {X:Cx}{a b c:Expr}{ta tb tc:TE}{pos:Pos}
def Pg (ha:PE X a ta)(hb:PE X b tb){pins:List (Addr×Obj)}{s:Shared}{σ:St}{H:Hp}{R:V->V->Hp->Prop}(I:Inv X pins σ H s)
  (h:ta σ H fun x H1=>tb σ H1 fun y H2=>R x y H2) {Q:Value->Shared->Prop} {f:Value->Value->Sem Value}
  (hf: ∀v u s2 x y H2,Inv X pins σ H2 s2->RelV x v->RelV y u->R x y H2->wpAny (model X.prog X.w) X.A (f v u) Q X.xe s2):
  wpAny (model X.prog X.w) X.A (eval a X.env) (fun v s₁=>wpAny (model X.prog X.w) X.A (eval b X.env) (fun u s₂=>wpAny (model X.prog X.w) X.A (f v u) Q X.xe s₂) X.xe s₁) X.xe s:=by
 refine dS (ha pins s σ H _ I h) fun v s1 ⟨x,H1,I1,r1,q1⟩=>?_;refine dS (hb pins s1 σ H1 _ I1 q1) fun u s2 ⟨y,H2,I2,r2,q2⟩=>?_;exact hf v u s2 x y H2 I2 r1 r2 q2
def aO {op:Operator}{r:R2}(ho:oP X (binaryOp op) r)(ha:PE X a ta)(hb:PE X b tb):PE X (.BinOp a op b pos) (RK r ta tb):=by
 intro pins s σ H Q I h;exact wpAny_BinOp (Pg ha hb I h fun v u s2 x y H2 I2 rx ry q=>ho pins s2 σ H2 x y v u Q I2 rx ry q)
def pE {op:UnaryOp}{r:V->Hp->VK->Prop}(ho:N9 X (unaryOp op) r)(ha:PE X a ta):PE X (.UnaryOp op a pos) (tUn r ta):=by
 intro pins s σ H Q I h;exact UnaryOp_ (dS (ha pins s σ H _ I h) fun v s1 ⟨x,H1,I1,r1,q1⟩=>ho pins s1 σ H1 x v Q I1 r1 q1)
def SM {f:Value->Value->Sem Value}{C:Int->Int->Prop}{g:Int->Int->Int}
  (rule: ∀(i j:Int) (t u:Tok) (s:Shared) (Q:Value->Shared->Prop) (E:Value->Shared->Prop),C i j->Q (.int (g i j) s.toks) {s with toks:=s.toks + 1}->wpAny (model X.prog X.w) X.A (f (.int i t) (.int j u)) Q E s):
  oP X f (rI C fun i j=> .int (g i j)):=by
 intro pins s σ H x y v u Q I rx ry h;obtain⟨i,j,rfl,rfl,hc,q⟩:=h;obtain⟨t,rfl⟩:=rx;obtain⟨t',rfl⟩:=ry;exact rule i j t t' s _ _ hc ⟨.int (g i j),H,I.tok _,⟨_,rfl⟩,q⟩
def SN {f:Value->Value->Sem Value}{g:Int->Int->Int}
  (rule: ∀(i j:Int) (t u:Tok) (s:Shared) (Q:Value->Shared->Prop) (E:Value->Shared->Prop),Q (.int (g i j) s.toks) {s with toks:=s.toks + 1}->wpAny (model X.prog X.w) X.A (f (.int i t) (.int j u)) Q E s):
  oP X f (LQ fun i j=> .int (g i j)):=by
 intro pins s σ H x y v u Q I rx ry h;obtain⟨i,j,rfl,rfl,q⟩:=h;obtain⟨t,rfl⟩:=rx;obtain⟨t',rfl⟩:=ry;exact rule i j t t' s _ _ ⟨.int (g i j),H,I.tok _,⟨_,rfl⟩,q⟩
def Mp {f:Value->Value->Sem Value}{g:Int->Int->Bool}
  (rule: ∀(i j:Int) (t u:Tok) (s:Shared) (Q:Value->Shared->Prop) (E:Value->Shared->Prop),Q (.bool (g i j)) s->wpAny (model X.prog X.w) X.A (f (.int i t) (.int j u)) Q E s):
  oP X f (LQ fun i j=> .bl (g i j)):=by
 intro pins s σ H x y v u Q I rx ry h;obtain⟨i,j,rfl,rfl,q⟩:=h;obtain⟨t,rfl⟩:=rx;obtain⟨t',rfl⟩:=ry;exact rule i j t t' s _ _ ⟨.bl (g i j),H,I,rfl,q⟩
def Xo (i j:Int):Prop:=0 < j/\j < 1073741824
def Xp (i j:Int):Prop:=0<=j/\j<=1000000/\i.natAbs < 2 ^ 64
def Ph (i j:Int):Prop:=(-(2 ^ 64) < i/\i < 2 ^ 64)∨(-(2 ^ 64) < j/\j < 2 ^ 64)
def Ph.ok {i j:Int}(h:Ph i j):IntMulOk i j:=by
 rcases h with⟨h1,h2⟩|⟨h1,h2⟩
 ·exact .of_left (intBits_le_64 h1 h2)
 ·exact .of_right (intBits_le_64 h1 h2)
def cS:oP X (binaryOp .Add) (LQ fun i j=> .int (i + j)):=SN fun _ _ _ _ _ _ _ q=>add_int q
def eQ:oP X (binaryOp .Sub) (LQ fun i j=> .int (i - j)):=SN fun _ _ _ _ _ _ _ q=>sub_int q
def me:oP X (binaryOp .Mult) (rI Ph fun i j=> .int (i * j)):=SM fun _ _ _ _ _ _ _ hc q=>mul_int q hc.ok
def iw:oP X (binaryOp .FloorDiv) (rI Xo fun i j=> .int (i / j)):=SM fun i j _ _ _ _ _ hc q=>by
 have h1:(0:Int) < j:=hc.1;have h2:j < 1073741824:=hc.2;exact floordiv_int (by lia) (by rw[Int.fdiv_eq_ediv_of_nonneg i (by lia)]; exact q) (.inl (PyProof.noPylong_small (by lia)))
def bZ:oP X (binaryOp .Mod) (rI (fun _ j=>0 < j) fun i j=> .int (i % j)):=SM fun i j _ _ _ _ _ hc q=>by
 have h1:(0:Int) < j:=hc;exact mod_int' (by lia) (by rw[Int.fmod_eq_emod_of_nonneg i (by lia)]; exact q)
def iY:oP X (binaryOp .Pow) (rI Xp fun i j=> .int (i ^ j.toNat)):=SM fun _ _ _ _ _ _ _ hc q=>pow_int_small hc.1 hc.2.1 hc.2.2 q
def unI {f:Value->Sem Value}{g:Int->Int}
  (rule: ∀(i:Int) (t:Tok) (s:Shared) (Q:Value->Shared->Prop) (E:Value->Shared->Prop),Q (.int (g i) s.toks) {s with toks:=s.toks + 1}->wpAny (model X.prog X.w) X.A (f (.int i t)) Q E s):
  N9 X f (rU fun i=> .int (g i)):=by
 intro pins s σ H x v Q I rx h;obtain⟨i,rfl,q⟩:=h;obtain⟨t,rfl⟩:=rx;exact rule i t s _ _ ⟨.int (g i),H,I.tok _,⟨_,rfl⟩,q⟩
def lp:N9 X (unaryOp .USub) (rU fun i=> .int (-i)):=unI fun _ _ _ _ _ q=>neg_int q
end
def SO:V->V->Bool
 | .en,.en=>true| .en,.int _=>true| .int _,.en=>true| .en,.bl _=>true| .bl _,.en=>true| .en,.str _=>true| .str _,.en=>true
 | .int _,.int _=>true| .bl _,.bl _=>true| .str _,.str _=>true| .GV _,.GV _=>true
 | .int _,.str _=>true| .str _,.int _=>true| .bl _,.str _=>true| .str _,.bl _=>true
 |_,_=>false
def rEq:R2:=fun x y H Q=>SO x y=true/\Q (.bl (decide (x=y))) H
def rNe:R2:=fun x y H Q=>SO x y=true/\Q (.bl (!decide (x=y))) H
def Ft {i j:Int}:decide (V.int i=V.int j)=(i == j):=by
 rw[oY];simp
def Jw {i j:Bool}:decide (V.bl i=V.bl j)=(i == j):=by
 rw[oY];simp
def Fu {i j:Str}:decide (V.str i=V.str j)=(i == j):=by
 rw[oY];simp
def Fv {i j:Array UInt8}:decide (V.GV i=V.GV j)=(i.toList == j.toList):=by
 rw[oY];cases i;cases j;simp
section
variable {X:Cx}{a b c:Expr}{ta tb tc:TE}{pos:Pos}
def dD {pins:List (Addr×Obj)}{σ:St}{H:Hp}{s:Shared}{Q:VK}{k k':Bool}(I:Inv X pins σ H s)(q:Q (.bl k) H)(e:k=k'):EP X pins σ Q (.bool k') s:=by
 subst e;exact⟨.bl k,H,I,rfl,q⟩
def cU:oP X (compareOp .Eq) rEq:=by
 intro pins s σ H x y v u Q I rx ry h;obtain⟨hs,q⟩:=h;cases x with
 |en=>
  cases rx;cases y with
  |en=>cases ry; exact PySem.EqNone.eq_none_none (dD I q (by simp))
  |bl j=>cases ry; exact PySem.EqNone.eq_none_bool (dD I q (by simp))
  |int j=>obtain⟨t',rfl⟩:=ry; exact PySem.EqNone.eq_none_int (dD I q (by simp))
  |str j=>obtain⟨t',rfl⟩:=ry; exact PySem.EqNone.eq_none_str (dD I q (by simp))
  |_=>exact absurd (show false=true from hs) aX
 |bl i=>
  cases rx;cases y with
  |en=>cases ry; exact PySem.EqNone.eq_bool_none (dD I q (by simp))
  |bl j=>cases ry; exact eq_bool (dD I q Jw)
  |str j=>obtain⟨t',rfl⟩:=ry; exact PySem.EqMixed.eq_bool_str (dD I q (by simp))
  |_=>exact absurd (show false=true from hs) aX
 |int i=>
  obtain⟨t,rfl⟩:=rx;cases y with
  |en=>cases ry; exact PySem.EqNone.eq_int_none (dD I q (by simp))
  |int j=>obtain⟨t',rfl⟩:=ry; exact eq_int (dD I q Ft)
  |str j=>obtain⟨t',rfl⟩:=ry; exact PySem.EqMixed.eq_int_str (dD I q (by simp))
  |_=>exact absurd (show false=true from hs) aX
 |str i=>
  obtain⟨t,rfl⟩:=rx;cases y with
  |en=>cases ry; exact PySem.EqNone.eq_str_none (dD I q (by simp))
  |bl j=>cases ry; exact PySem.EqMixed.eq_str_bool (dD I q (by simp))
  |int j=>obtain⟨t',rfl⟩:=ry; exact PySem.EqMixed.eq_str_int (dD I q (by simp))
  |str j=>obtain⟨t',rfl⟩:=ry; exact eq_str (dD I q Fu)
  |_=>exact absurd (show false=true from hs) aX
 |GV i=>
  obtain⟨t,rfl⟩:=rx;cases y with
  |GV j=>obtain⟨t',rfl⟩:=ry; exact PySem.W.eq_bytes (dD I q Fv)
  |_=>exact absurd (show false=true from hs) aX
 |_=>cases y <;> exact absurd (show false=true from hs) aX
def qU:oP X (compareOp .NotEq) rNe:=by
 intro pins s σ H x y v u Q I rx ry h;obtain⟨hs,q⟩:=h;cases x with
 |en=>
  cases rx;cases y with
  |en=>cases ry; exact PySem.EqNone.ne_none_none (dD I q (by simp))
  |bl j=>cases ry; exact PySem.EqNone.ne_none_bool (dD I q (by simp))
  |int j=>obtain⟨t',rfl⟩:=ry; exact PySem.EqNone.ne_none_int (dD I q (by simp))
  |str j=>obtain⟨t',rfl⟩:=ry; exact PySem.EqNone.ne_none_str (dD I q (by simp))
  |_=>exact absurd (show false=true from hs) aX
 |bl i=>
  cases rx;cases y with
  |en=>cases ry; exact PySem.EqNone.ne_bool_none (dD I q (by simp))
  |bl j=>cases ry; exact ne_bool (dD I q (dr not Jw))
  |str j=>obtain⟨t',rfl⟩:=ry; exact PySem.EqMixed.ne_bool_str (dD I q (by simp))
  |_=>exact absurd (show false=true from hs) aX
 |int i=>
  obtain⟨t,rfl⟩:=rx;cases y with
  |en=>cases ry; exact PySem.EqNone.ne_int_none (dD I q (by simp))
  |int j=>obtain⟨t',rfl⟩:=ry; exact ne_int (dD I q (dr not Ft))
  |str j=>obtain⟨t',rfl⟩:=ry; exact PySem.EqMixed.ne_int_str (dD I q (by simp))
  |_=>exact absurd (show false=true from hs) aX
 |str i=>
  obtain⟨t,rfl⟩:=rx;cases y with
  |en=>cases ry; exact PySem.EqNone.ne_str_none (dD I q (by simp))
  |bl j=>cases ry; exact PySem.EqMixed.ne_str_bool (dD I q (by simp))
  |int j=>obtain⟨t',rfl⟩:=ry; exact PySem.EqMixed.ne_str_int (dD I q (by simp))
  |str j=>obtain⟨t',rfl⟩:=ry; exact ne_str (dD I q (dr not Fu))
  |_=>exact absurd (show false=true from hs) aX
 |GV i=>
  obtain⟨t,rfl⟩:=rx;cases y with
  |GV j=>obtain⟨t',rfl⟩:=ry; exact PySem.W.ne_bytes (dD I q (dr not Fv))
  |_=>exact absurd (show false=true from hs) aX
 |_=>cases y <;> exact absurd (show false=true from hs) aX
def jW:oP X (compareOp .Lt) (LQ fun i j=> .bl (decide (i < j))):=Mp fun _ _ _ _ _ _ _ q=>lt_int q
def tV:oP X (compareOp .LtE) (LQ fun i j=> .bl (decide (i<=j))):=Mp fun _ _ _ _ _ _ _ q=>le_int q
def je:oP X (compareOp .Gt) (LQ fun i j=> .bl (decide (j < i))):=Mp fun _ _ _ _ _ _ _ q=>gt_int q
def Jx:oP X (compareOp .GtE) (LQ fun i j=> .bl (decide (j<=i))):=Mp fun _ _ _ _ _ _ _ q=>ge_int q
def a8 (b:Expr){op:CmpOp}(h:op≠ .In:=by decide)(h2:op≠ .NotIn:=by decide):behindInMarks op b=false:=by
 have e1:(op == CmpOp.In)=false:=by cases op <;> first|rfl|exact absurd rfl h
 have e2:(op == CmpOp.NotIn)=false:=by cases op <;> first|rfl|exact absurd rfl h2
 cases b <;> simp[behindInMarks,e1,e2]
def fI {op:CmpOp}{r:R2}(ho:oP X (compareOp op) r)(ha:PE X a ta)(hb:PE X b tb)(hm:behindInMarks op b=false):PE X (.Compare a [op] [b] pos) (RK r ta tb):=by
 intro pins s σ H Q I h;exact wpAny_Compare1 (Pg ha hb I h fun v u s2 x y H2 I2 rx ry q=>ho pins s2 σ H2 x y v u Q I2 rx ry q) hm
inductive EvB (x:V)(k:Bool->Prop):Prop
 |mk (b:Bool)(h:x= .bl b)(q:k b):EvB x k
def Jy (t:TE):TT:=fun σ H Q=>t σ H fun x H'=>EvB x fun b=>Q b H'
def aY {op:CmpOp}{r:R2}(ho:oP X (compareOp op) r)(ha:PE X a ta)(hb:PE X b tb)(hm:behindInMarks op b=false):PT X (.Compare a [op] [b] pos) (Jy (RK r ta tb)):=by
 intro pins s σ H Q I h;refine wpAny_isTrue_Compare1 (dS (ha pins s σ H _ I h) fun v s1 ⟨x,H1,I1,r1,q1⟩=>dS (hb pins s1 σ H1 _ I1 q1) fun u s2 ⟨y,H2,I2,r2,q2⟩=>
  dS (ho pins s2 σ H2 x y v u _ I2 r1 r2 q2) fun c s3 ⟨z,H3,I3,r3,k,e,q3⟩=>?_) hm
 subst e;cases r3;exact fV ⟨H3,I3,q3⟩
def Jz (r r':R2)(ta tb tc:TE):TE:=fun σ H Q=>ta σ H fun x H1=>tb σ H1 fun y H2=>r x y H2 fun z H3=> ∃k,z= .bl k/\
 (if k=true then tc σ H3 fun w' H4=>r' y w' H4 Q else Q (.bl false) H3)
def BX {op Xq:CmpOp}{r r':R2}(ho:oP X (compareOp op) r)(Mh:oP X (compareOp Xq) r')(ha:PE X a ta)(hb:PE X b tb)(hc:PE X c tc)
  (hm:lastMarks [op,Xq] [b,c]=false:=by with_unfolding_all rfl):PT X (.Compare a [op,Xq] [b,c] pos) (Jy (Jz r r' ta tb tc)):=by
 intro pins s σ H Q I h;refine isTrue_chain (dS (ha pins s σ H _ I h) fun v s1 ⟨x,H1,I1,r1,q1⟩=>test_link (dS (hb pins s1 σ H1 _ I1 q1) fun u s2 ⟨y,H2,I2,r2,q2⟩=>
  dS (ho pins s2 σ H2 x y v u _ I2 r1 r2 q2) fun d s3 ⟨z,H3,I3,r3,k,e,q3⟩=>?_)) hm
 subst e;cases r3;refine fV ?_;cases k with
 |false=>
  obtain⟨k',e',q'⟩:=q3;cases e';exact ite_ff ⟨H3,I3,q'⟩
 |true=>
  refine ite_tt (test_last (dS (hc pins s3 σ H3 _ I3 q3) fun w' s4 ⟨z',H4,I4,r4,q4⟩=>dS (Mh pins s4 σ H4 y z' u w' _ I4 r2 r4 q4) fun d' s5 ⟨z2,H5,I5,r5,k2,e2,q5⟩=>?_));subst e2;cases r5;exact fV ⟨H5,I5,q5⟩
def zL:(sizeLine:Nat) < 2 ^ 63:=by rw[eX]; decide
def vx:oP X (binaryOp .Add) (fun x y H Q=> ∃i j,x= .str i/\y= .str j/\i.length + j.length<=sizeLine/\Q (.str (i ++ j)) H):=by
 intro pins s σ H x y v u Q I rx ry h;obtain⟨i,j,rfl,rfl,hz,q⟩:=h;obtain⟨t,rfl⟩:=rx;obtain⟨t',rfl⟩:=ry;exact add_str (fun t' tk=>⟨.str (i ++ j),H,I.tok _,⟨_,rfl⟩,q⟩) hz
def vals1 {x:V}{us:List Value}(r:Vals [x] us): ∃u,us=[u]/\RelV x u:=by
 cases r with
 |cons r1 r2=>cases r2; exact⟨_,rfl,r1⟩
def vals2 {x y:V}{us:List Value}(r:Vals [x,y] us): ∃u w',us=[u,w']/\RelV x u/\RelV y w':=by
 cases r with
 |cons r1 r2=>
  cases r2 with
  |cons r3 r4=>cases r4; exact⟨_,_,rfl,r1,r3⟩
def sQ (hc:X.calm=true):hV X (.builtin "max") (fun xs H Q=> ∃i j,xs=[.int i,.int j]/\Q (.int (if j > i then j else i)) H):=by
 intro pins s σ H xs us Q I r h;obtain⟨i,j,rfl,q⟩:=h;obtain⟨u,w',rfl,⟨t,rfl⟩,⟨t',rfl⟩⟩:=vals2 r;refine max_two_ints (I.ok.hd hc) fun h' tk k=>⟨_,H,I.kept k,?_,q⟩;by_cases hj:j > i
 ·rw[a0 hj,a0 hj]; exact⟨_,rfl⟩
 ·rw[aQ hj,aQ hj]; exact⟨_,rfl⟩
def sR (hc:X.calm=true):hV X (.builtin "min") (fun xs H Q=> ∃i j,xs=[.int i,.int j]/\Q (.int (if j < i then j else i)) H):=by
 intro pins s σ H xs us Q I r h;obtain⟨i,j,rfl,q⟩:=h;obtain⟨u,w',rfl,⟨t,rfl⟩,⟨t',rfl⟩⟩:=vals2 r;refine min_two_ints (I.ok.hd hc) fun h' tk k=>⟨_,H,I.kept k,?_,q⟩;by_cases hj:j < i
 ·rw[a0 hj,a0 hj]; exact⟨_,rfl⟩
 ·rw[aQ hj,aQ hj]; exact⟨_,rfl⟩
def lJ:hV X (.type "int") (fun xs H Q=>(∃i,xs=[.int i]/\Q (.int i) H)∨ ∃k,xs=[.bl k]/\Q (.int (if k then 1 else 0)) H):=by
 intro pins s σ H xs us Q I r h;rcases h with⟨i,rfl,q⟩|⟨k,rfl,q⟩
 ·obtain⟨u,rfl,t,rfl⟩:=vals1 r;exact call_int_int ⟨.int i,H,I,⟨_,rfl⟩,q⟩
 ·obtain⟨u,rfl,r1⟩:=vals1 r;cases r1;exact call_int_bool ⟨.int (if k then 1 else 0),H,I.tok _,⟨_,rfl⟩,q⟩
end
structure D8 (h:Heap)(x dx C:Addr)(mA:Str->Option Value):Prop where
 obj:h.get? x=some (PySem.W.instObj C dx)
 ns:h.Ns1 dx mA
 ne:dx≠x
def G2 {h:Heap}{dx:Addr}{mA:Str->Option Value}(n:h.Ns1 dx mA): ∃od,h.get? dx=some od/\ ∀name,PySem.W.lookIn name od=some (mA name):=by
 obtain⟨o,es,ep,ho,hd,hk,_,hm⟩:=n;refine⟨o,ho,fun name=>?_⟩;have e:=hm name;unfold nsFind findBy at e;rw[← Array.find?_toList] at e;unfold PySem.W.lookIn;rw[hd];dsimp only;split
 ·rename_i y q;rw[q] at e;exact dr some e
 ·rename_i q;rw[q] at e;have a:es.toList.any (·.refKey)=false:=by
   rw[sF];intro y hy;obtain⟨z,t,JA⟩:=hk y (Array.mem_toList_iff.mp hy);simp[DictEntry.refKey,JA]
  have a': ¬ es.toList.any (·.refKey)=true:=by rw[a]; exact aX
  rw[aQ a'];exact dr some e
def D8.look {h:Heap}{x dx C:Addr}{mA:Str->Option Value}(I:D8 h x dx C mA): ∃od,PySem.W.InstAt h x (PySem.W.instObj C dx) C (some od)/\ ∀name,PySem.W.lookIn name od=some (mA name):=
 let⟨od,ho,hl⟩:=G2 I.ns
 ⟨od,⟨I.obj,rfl,rfl,ho⟩,hl⟩
section
variable {prog:Program}{w:World}{A:Around}{E:Value->Shared->Prop}{s:Shared}{K:Frag}{x dx C f:Addr}{mA:Str->Option Value}{name:Str}{v:Value}
def get_map {expr:Bool}{Q:Value->Shared->Prop}(X:K.In s.heap)(I:D8 s.heap x dx C mA)(hg:plainGet K C name=true)(hh:hasDictIn K C=true)
  (ha:findIn K (.ref C) name=some none) (hv:mA name=some v) (hv':PySem.W.handedIn v=true) (h:Q v {s with toks:=s.toks + 1}):
  wpAny (model prog w) A (getAttr (.ref x) name expr) Q E s:=by
 obtain⟨od,J,hl⟩:=I.look;exact PySem.W.get_value X J (BH hg).1 (PySem.W.findObj_own hh ha rfl (by rw[hl,hv])) hv' h
def JB {pl:Sem Bool}{Q:Value×List Value->Shared->Prop}(X:K.In s.heap)(I:D8 s.heap x dx C mA)(hg:plainGet K C name=true)
  (hf:findIn K (.ref C) name=some (some (.ref f))) (ht:PySem.W.isFn K (.ref f)=true) (hv:mA name=none) (h:Q (.ref f,[.ref x]) s):
  wpAny (model prog w) A (getMethod (.ref x) name pl) Q E s:=by
 obtain⟨od,J,hl⟩:=I.look;exact PySem.W.method_fn X J (BH hg).1 (BH hg).2 hf (GK.mp ht) (by show(PySem.W.lookIn name od).map (·.isSome)=some false; rw[hl,hv]; rfl) h
def Mq {ns:List Str}{Q:Unit->Shared->Prop}(X:K.In s.heap)(I:D8 s.heap x dx C mA)
  (hs:findIn K (.ref C) "__setattr__"=some (some (.builtin "object.__setattr__"))) (hp:plainOver K C=true) (ht:PySem.W.takerIn K C name=some none) (hh:hasDictIn K C=true)
  (hw:PySem.Within mA ns) (hsz:ns.length<=sizeLine)
  (h: ∀h',D8 h' x dx C (fun y=>if y=name then some v else mA y)->Heap.SameBut dx s.heap h'->Q () {s with heap:=h',toks:=s.toks + 2}):
  wpAny (model prog w) A (setAttr (.ref x) name v) Q E s:=by
 obtain⟨od,J,hl⟩:=I.look;refine PySem.W.set_plain X J hs (PySem.W.osa_open (s:={s with toks:=s.toks + 1}) (r:=none) X J hp ht fun b=>?_);obtain⟨cd,hc,DJ⟩:=PySem.W.any_some hh;have hx:s.heap.get? x=some ⟨.ref C,some dx,.plain,#[]⟩:=I.obj;refine aC (bI (aC (aC (wpAny_loadPart hx (aC (PySem.W.Looks.here (s:={s with toks:=s.toks + 1}) (PySem.W.looks_clsIn X hc) ?_))))));rw[DJ];refine bI (a:=some dx) (aC (bI (aC ?_)));refine wpAny_nsSet1 (s:={s with toks:=s.toks + 1}) I.ns fun h' V0 RL=>?_;obtain⟨oD,esD,epD,Xr,Xs,Xt⟩:=V0.count (PySem.Within.cons name v hw);refine aC (wpAny_lookBehind Xr (by rw[Xs]; exact pastItsLine_dict (aR Xt (by rw[bJ]; lia))) ?_);exact bI (h _ ⟨(RL.2 _ (xu I.ne)).trans I.obj,V0,I.ne⟩ RL)
def JC {R:Result->Shared->Prop}{vs:List Value}{kw:List (Str×Value)}(X:K.In s.heap)(hm:makesIn K C=true)
  (hi:findIn K (.ref C) "__init__"=some (some (.ref f))) (hf:typeIn K (.ref f)=some (.type "function"))
  (h:codeAny (model prog w) (A.under (.builtin "type.__call__" ⟨.ref C :: vs,kw⟩)) (.call (.ref f) ⟨.ref (s.heap.objs.size + 1) :: vs,kw⟩) (PySem.W.InitBack (s.heap.objs.size + 1) R)
   {s with heap:=(s.heap.push PySem.W.emptyDict).push (PySem.W.instObj C s.heap.objs.size)}):
  codeAny (model prog w) A (.call (.ref C) ⟨vs,kw⟩) R s:=by
 obtain⟨hh,g,d,t,os⟩:=s;exact PySem.W.make_core (PySem.W.makes_of X hm) (PySem.W.looks_findIn X hi) (fun self=>PySem.W.bind_fn X self hf) (.inl rfl) h
end
def eF (f:Str)(v:V):List (Str×V)->List (Str×V)
 |[]=>[(f,v)]
 |(g,x) :: r=>if g=f then(g,v) :: r else(g,x) :: eF f v r
def tW (f g:Str)(v:V): ∀fs:List (Str×V),(eF f v fs).lookup g=if g=f then some v else fs.lookup g
 |[]=>by
  show List.lookup g [(f,v)]=_;by_cases h:g=f
  ·have hb:(g == f)=true:=GK.mpr h;simp only[List.lookup,hb,if_pos h]
  ·have hb:(g == f)=false:=gN.mpr h;simp only[List.lookup,hb,if_neg h]
 |(k,x) :: r=>by
  have ih:=tW f g v r;rw[show eF f v ((k,x) :: r)=(if k=f then(k,v) :: r else(k,x) :: eF f v r) from rfl];by_cases hk:k=f
  ·rw[a0 hk];by_cases h:g=k
   ·have hb:(g == k)=true:=GK.mpr h;simp only[List.lookup,hb,if_pos (h.trans hk)]
   ·have hb:(g == k)=false:=gN.mpr h;simp only[List.lookup,hb,if_neg (fun e:g=f=>h (e.trans hk.symm))]
  ·rw[aQ hk];by_cases h:g=k
   ·have hb:(g == k)=true:=GK.mpr h;simp only[List.lookup,hb,if_neg (fun e:g=f=>hk (h.symm.trans e))]
   ·have hb:(g == k)=false:=gN.mpr h;simp only[List.lookup,hb];exact ih
def sS (f:Str)(v:V): ∀fs:List (Str×V),f∈(eF f v fs).map (·.1)/\ ∀g,g∈fs.map (·.1)->g∈(eF f v fs).map (·.1)
 |[]=>⟨by simp[eF],fun g h=>by simp at h⟩
 |(k,x) :: r=>by
  obtain⟨i1,i2⟩:=sS f v r;rw[show eF f v ((k,x) :: r)=(if k=f then(k,v) :: r else(k,x) :: eF f v r) from rfl];by_cases hk:k=f
  ·rw[a0 hk];subst hk;exact⟨by simp,fun g h=>by simpa using h⟩
  ·rw[aQ hk];refine⟨?_,fun g h=>?_⟩
   ·rw[de];exact aW _ i1
   ·rw[de] at h ⊢;rcases aw.mp h with e|e
    ·exact aw.mpr (.inl e)
    ·exact aW _ (i2 g e)
def nG (f:Str)(v:V): ∀fs:List (Str×V),(eF f v fs).length<=fs.length + 1
 |[]=>by simp[eF]
 |(k,x) :: r=>by
  have ih:=nG f v r;rw[show eF f v ((k,x) :: r)=(if k=f then(k,v) :: r else(k,x) :: eF f v r) from rfl];by_cases hk:k=f
  ·rw[a0 hk,bJ,bJ]; lia
  ·rw[aQ hk,bJ,bJ]; lia
def kM.some_of {v:V}{o:Option Value}(r:kM (some v) o): ∃u,o=some u/\RelV v u:=by
 cases o with
 |none=>exact(show False from r).elim
 |some u=>exact⟨u,rfl,r⟩
def kM.none_of {o:Option Value}(r:kM none o):o=none:=by
 cases o with
 |none=>rfl
 |some u=>exact(show False from r).elim
def G3 {v:V}{u:Value}(r:RelV v u):PySem.W.handedIn u=true:=by
 cases v with
 |en=>cases(show u=Value.none from r); rfl
 |bl b=>cases(show u=Value.bool b from r); rfl
 |int i=>obtain⟨t,e⟩:=(show ∃t,u=Value.int i t from r); cases e; rfl
 |str x=>obtain⟨t,e⟩:=(show ∃t,u=Value.str x t from r); cases e; rfl
 |GV b=>obtain⟨t,e⟩:=(show ∃t,u=Value.bytes b t from r); cases e; rfl
 |Md b=>obtain⟨t,e⟩:=(show ∃t,u=Value.float b t from r); cases e; rfl
 |ref a=>cases(show u=Value.ref a from r); rfl
 |ty n=>cases(show u=Value.type n from r); rfl
section
variable {P:Program}{w:World}{H H':Hp}{h h':Heap}{a C dx:Addr}{fs fs':List (Str×V)}
def qV (b9:o6 P w H h)(e:H a=some (.ins C dx fs)): ∃mA,D8 h a dx C mA/\(∀f,kM (fs.lookup f) (mA f))/\PySem.Within mA (fs.map (·.1))/\fs.length<=1000/\H dx=some (.own a):=by
 obtain⟨d,z,ne,ob,mA,n,r,q⟩:=(show dG P w H h a (.ins C dx fs) from b9 a _ e);exact⟨mA,⟨ob,n,ne⟩,r,q,z,d⟩
end
structure xF (K:Frag)(C:Addr):Prop where
 pg:plainGet K C Str.empty=true
 hd:hasDictIn K C=true
 po:plainOver K C=true
 sa:findIn K (.ref C) "__setattr__"=some (some (.builtin "object.__setattr__"))
def xF.get {K:Frag}{C:Addr}(c:xF K C)(f:Str):plainGet K C f=true:=c.pg
def cf (K:Frag)(C:Addr)(f:Str):Prop:=findIn K (.ref C) f=some none
def cf.SQ {K:Frag}{C:Addr}{f:Str}(n:cf K C f):PySem.W.takerIn K C f=some none:=by
 unfold PySem.W.takerIn;rw[show findIn K (.ref C) f=some none from n];rfl
structure Meth (K:Frag)(C:Addr)(m:Str)(f:Addr):Prop where
 at_:findIn K (.ref C) m=some (some (.ref f))
 fn:PySem.W.isFn K (.ref f)=true
 kp:keepIn K (.ref f)=true
section
variable {X:Cx}{pins:List (Addr×Obj)}{σ:St}{H:Hp}{s:Shared}{a C dx:Addr}{fs:List (Str×V)}{f:Str}{v:V}{A:Around}{E:Value->Shared->Prop}
def D9 {b:Bool}{Q:Value->Shared->Prop}(I:Inv X pins σ H s)(e:H a=some (.ins C dx fs))(c:xF X.K C)(n:cf X.K C f)(l:fs.lookup f=some v)
  (h: ∀u s',Inv X pins σ H s'->RelV v u->Q u s'):wpAny (model X.prog X.w) A (getAttr (.ref a) f b) Q E s:=by
 obtain⟨mA,O,r,_,_,_⟩:=qV I.b9 e;obtain⟨u,hu,ru⟩:=kM.some_of (v:=v) (o:=mA f) (by rw[← l]; exact r f);exact get_map I.gJ O (c.get f) c.hd n hu (G3 ru) (h u _ (I.tok _) ru)
def Ea {m:Str}{g:Addr}{pl:Sem Bool}{Q:Value×List Value->Shared->Prop}(I:Inv X pins σ H s)(e:H a=some (.ins C dx fs))(c:xF X.K C)(k:Meth X.K C m g)(l:fs.lookup m=none)
  (h:Q (.ref g,[.ref a]) s):wpAny (model X.prog X.w) A (getMethod (.ref a) m pl) Q E s:=by
 obtain⟨mA,O,r,_,_,_⟩:=qV I.b9 e;have hn:mA m=none:=kM.none_of (by rw[← l]; exact r m);exact JB I.gJ O (c.get m) k.at_ k.fn hn h
def Eb {y:V}{u:Value}{Q:Unit->Shared->Prop}(I:Inv X pins σ H s)(e:H a=some (.ins C dx fs))(c:xF X.K C)(n:cf X.K C f)(hl:fs.length < 1000)(ry:RelV y u)
  (h: ∀s',Inv X pins σ (upd H a (.ins C dx (eF f y fs))) s'->Q () s'):wpAny (model X.prog X.w) A (setAttr (.ref a) f u) Q E s:=by
 obtain⟨mA,O,r,wi,_,ho⟩:=qV I.b9 e;have hz:(fs.map (·.1)).length<=sizeLine:=by rw[ae,eX]; lia
 refine Mq I.gJ O c.sa c.po n.SQ c.hd wi hz fun h' O' sb=>h _ ?_;have hd: ∃o,h'.get? dx=some o:=let⟨o,_,_,e',_⟩:=O'.ns; ⟨o,e'⟩
 refine I.write (x:=a) (e:=dx) (by rw[e]; exact True.intro) (.inr ho) (fun b q hb z=>(sb.2 b hb).trans z) hd ?_;refine⟨by rw[aB O.ne]; exact ho,?_,O.ne,O'.obj,_,O'.ns,fun g=>?_,fun g hg=>?_⟩
 ·have:=nG f y fs; lia
 ·show kM ((eF f y fs).lookup g) (if g=f then some u else mA g);rw[tW];by_cases q:g=f
  ·rw[a0 q,a0 q]; exact ry
  ·rw[aQ q,aQ q]; exact r g
 ·by_cases q:g=f
  ·rw[q]; exact(sS f y fs).1
  ·refine(sS f y fs).2 g (wi g fun z=>hg ?_);show(if g=f then some u else mA g)=none;rw[aQ q]; exact z
def Inv.made (I:Inv X pins σ H s):Inv X pins σ (upd (upd H s.heap.objs.size (.own (s.heap.objs.size + 1))) (s.heap.objs.size + 1) (.ins C s.heap.objs.size []))
  {s with heap:=(s.heap.push PySem.W.emptyDict).push (PySem.W.instObj C s.heap.objs.size)}:=by
 have e1:(s.heap.push PySem.W.emptyDict).get? s.heap.objs.size=some PySem.W.emptyDict:=bO s.heap rfl;have e2:((s.heap.push PySem.W.emptyDict).push (PySem.W.instObj C s.heap.objs.size)).get? (s.heap.objs.size + 1)=some (PySem.W.instObj C s.heap.objs.size):=by
  have:=bO (s.heap.push PySem.W.emptyDict) (o:=PySem.W.instObj C s.heap.objs.size) rfl;rwa [oO] at this
 have e3:(s.heap.push PySem.W.emptyDict).Ns s.heap.objs.size (fun _=>none):=⟨PySem.W.emptyDict,#[],_,e1,rfl,(fun e he=>absurd he (by simp)),fun _=>rfl⟩;have I1:=I.laid (a:=s.heap.objs.size) (o:= .own (s.heap.objs.size + 1)) (h':=s.heap.push PySem.W.emptyDict) (t':=s.toks) (fun b u q=>az _ q) (aD _) ⟨_,e1⟩;refine I1.laid (a:=s.heap.objs.size + 1) (o:= .ins C s.heap.objs.size []) (t':=s.toks) (fun b u q=>az _ q) (iM (oO _ _)) ?_;have ne:s.heap.objs.size≠s.heap.objs.size + 1:=a7 (fY _);refine⟨by rw[aB ne,af],bu _,ne,e2,fun _=>none,(Heap.Ns1.of_empty e3).at fun o q=>az _ q,fun _=>True.intro,fun y hy=>absurd rfl hy⟩
def Fw {prog:Program}{w:World}{env:Env}{e:Expr}{f:Str}{pos:Pos}{s:Shared}{Q:Value->Shared->Prop}(hb:attributeBase e f env (eval e env)=eval e env)
  (h:wpAny (model prog w) A (eval e env) (fun o s₁=>wpAny (model prog w) A (getAttr o f true) Q E s₁) E s):wpAny (model prog w) A (eval (.Attribute e f pos) env) Q E s:=
 Attribute_any_ h (by rw[arm_eval_Attribute,hb])
end
inductive EvF (K:Frag)(H:Hp)(x:V)(f:Str)(k:V->Prop):Prop
 |mk (a C dx:Addr)(fs:List (Str×V))(v:V)(h1:x= .ref a)(h2:H a=some (.ins C dx fs))(c:xF K C)(n:cf K C f)(l:fs.lookup f=some v)(q:k v):EvF K H x f k
def Pj (K:Frag)(ta:TE)(f:Str):TE:=fun σ H Q=>ta σ H fun x H1=>EvF K H1 x f fun v=>Q v H1
inductive EvG (K:Frag)(H:Hp)(x:V)(f:Str)(k:Addr->Addr->Addr->List (Str×V)->Prop):Prop
 |mk (a C dx:Addr)(fs:List (Str×V))(h1:x= .ref a)(h2:H a=some (.ins C dx fs))(c:xF K C)(n:cf K C f)(l:fs.length < 1000)(q:k a C dx fs):EvG K H x f k
def SR (K:Frag)(ta tv:TE)(f:Str):TS:=fun D σ H=>tv σ H fun y H1=>ta σ H1 fun x H2=>EvG K H2 x f fun a C dx fs=>D.nx σ (upd H2 a (.ins C dx (eF f y fs)))
section
variable {X:Cx}{o e value:Expr}{f:Str}{pos pos' Pk:Pos}{ta tv:TE}
def JD (he:PE X e ta)(hb:attributeBase e f X.env (eval e X.env)=eval e X.env):PE X (.Attribute e f pos) (Pj X.K ta f):=by
 intro pins s σ H Q I h;refine Fw hb (dS (he pins s σ H _ I h) fun u s1 ⟨x,H1,I1,rx,a,C,dx,fs,v,ex,ea,c,n,l,q⟩=>?_);subst ex;obtain rfl:u=Value.ref a:=rx;exact D9 I1 ea c n l fun u' s2 I2 ru=>⟨v,H1,I2,ru,q⟩
def Pl (ha:PE X o ta)(hv:PE X value tv)(hs:swapsWith value (some (.Attribute o f pos')) pos.line X.env=pure false):PS X (.Assign [.Attribute o f pos'] value pos) (SR X.K ta tv f):=by
 intro pins s σ H D I h;refine OT (dS (hv pins s σ H _ I h) fun u s1 ⟨y,H1,I1,ry,q⟩=>dS (ha pins s1 σ H1 _ I1 q) fun ov s2 ⟨x,H2,I2,rx,a,C,dx,fs,ex,ea,c,n,l,q2⟩=>?_) hs;subst ex;obtain rfl:ov=Value.ref a:=rx;exact Eb I2 ea c n l ry fun s3 I3=>⟨σ,_,I3,q2⟩
end
section
variable {X:Cx}{pins:List (Addr×Obj)}{σ:St}{H:Hp}{s:Shared}{A:Around}{E:Value->Shared->Prop}{Q:Value->Shared->Prop}{c:Value}{b:Bool}
inductive m9 (K:Frag)(H:Hp):V->Value->Prop where
 |en:m9 K H .en (.type "NoneType")
 |bl (x:Bool):m9 K H (.bl x) (.type "bool")
 |int (i:Int):m9 K H (.int i) (.type "int")
 |str (x:Str):m9 K H (.str x) (.type "str")
 |Md (x:UInt64):m9 K H (.Md x) (.type "float")
 |lst {a:Addr} {xs:List V} (e:H a=some (.lst xs)):m9 K H (.ref a) (.type "list")
 |DI {a:Addr} {o:Obj} {xs:List V} (e:H a=some (.DI o (.lst xs))):m9 K H (.ref a) (.type "list")
 |tup {a:Addr} {xs:List V} (e:H a=some (.tup xs)):m9 K H (.ref a) (.type "tuple")
 |dK {a:Addr} {bf:List (Key×V)} (e:H a=some (.dK bf)):m9 K H (.ref a) (.type "dict")
 |dT {a:Addr} {bf:List (List Key×V)} (e:H a=some (.dT bf)):m9 K H (.ref a) (.type "dict")
 |ins {a C dx:Addr} {fs:List (Str×V)} (e:H a=some (.ins C dx fs)) (cl:xF K C) (ha:findIn K (.ref C) "__class__"=some (some (.builtin "object.__class__")))
   (hn:specialIn K (.builtin "object.__class__") "__get__"=some (some (.builtin "getset_descriptor.__get__"))) (ni:PySem.W.takesIn K (.builtin "object.__class__")=some true)
   (hm:PySem.W.mroIn K C (.type "object")=some true):m9 K H (.ref a) (.ref C)
def G4 {x:V}{u t:Value}(I:Inv X pins σ H s)(rx:RelV x u)(ty:m9 X.K H x t)(e:PySem.W.kitOne X.K t c=some b)(h: ∀tk,Q (.bool b) {s with toks:=tk}):
  wpAny (model X.prog X.w) A (call (.builtin "isinstance") [u,c]) Q E s:=by
 cases ty with
 |en=>cases(show u=Value.none from rx); exact d9 PySem.W.kitx_none I.gJ True.intro e (fun z=>nomatch z) h
 |bl y=>cases(show u=Value.bool y from rx); exact d9 PySem.W.kitx_bool I.gJ True.intro e (fun z=>nomatch z) h
 |int i=>obtain⟨t,q⟩:=(show ∃t,u=Value.int i t from rx); cases q; exact d9 PySem.W.kitx_int I.gJ True.intro e (fun z=>nomatch z) h
 |str y=>obtain⟨t,q⟩:=(show ∃t,u=Value.str y t from rx); cases q; exact d9 PySem.W.kitx_str I.gJ True.intro e (fun z=>nomatch z) h
 |Md y=>obtain⟨t,q⟩:=(show ∃t,u=Value.float y t from rx); cases q; exact d9 PySem.W.kitx_float I.gJ True.intro e (fun z=>nomatch z) h
 | @lst a xs ea=>
  cases(show u=Value.ref a from rx);obtain⟨_,_,n,_,h1⟩:=(show dG X.prog X.w H s.heap a (.lst xs) from I.b9 a _ ea);exact d9 sG I.gJ ⟨_,h1,rfl⟩ e (fun z=>nomatch z) h
 | @DI a ob xs ea=>
  cases(show u=Value.ref a from rx);obtain⟨_,_,_,n,_,h1⟩:=(show dG X.prog X.w H s.heap a (.DI ob (.lst xs)) from I.b9 a _ ea);exact d9 sG I.gJ ⟨_,h1,rfl⟩ e (fun z=>nomatch z) h
 | @tup a xs ea=>
  cases(show u=Value.ref a from rx);obtain⟨_,_,_,p⟩:=(show dG X.prog X.w H s.heap a (.tup xs) from I.b9 a _ ea);obtain⟨o,h1,h2,_⟩:=p;exact d9 PySem.W.kitx_tuple I.gJ ⟨o,h1,h2⟩ e (fun z=>nomatch z) h
 | @dK a bf ea=>
  cases(show u=Value.ref a from rx);obtain⟨_,_,vs,_,p⟩:=(show dG X.prog X.w H s.heap a (.dK bf) from I.b9 a _ ea);obtain⟨o,es,ep,h1,h2,_⟩:=p;exact d9 sH I.gJ ⟨o,h1,h2.1⟩ e (fun z=>nomatch z) h
 | @dT a bf ea=>
  cases(show u=Value.ref a from rx);obtain⟨_,_,xs,_,o,es,ep,h1,h2,_⟩:=(show dG X.prog X.w H s.heap a (.dT bf) from I.b9 a _ ea);exact d9 sH I.gJ ⟨o,h1,h2.1⟩ e (fun z=>nomatch z) h
 | @ins a C dx fs ea cl ha hn ni hm=>
  cases(show u=Value.ref a from rx);obtain⟨mA,O,_⟩:=qV I.b9 ea;obtain⟨od,J,_⟩:=O.look;exact d9 (PySem.W.kitx_own (cl.get _) cl.hd ha hn ni hm) I.gJ J e (fun z=>nomatch z) h
end
structure eY (k:Nat)(A:Around):Prop where
 hd:A.handled=none
 dp:A.depth + 3 * k + 5 < recursionLimit
 un:A.units + 16 * k + 200 < cLine
def eY.mono {j k:Nat}{A:Around}(r:eY k A)(h:j<=k):eY j A:=⟨r.hd,by have:=r.dp; lia,by have:=r.un; lia⟩
def eY.deeper {k:Nat}{A:Around}(r:eY (k + 1) A)(env:Env):eY k (A.deeper env):=
 ⟨r.hd,by have:=r.dp; show A.depth + 1 + 3 * k + 5 < _; lia,by have:=r.un; show A.units + 3 + 16 * k + 200 < _; lia⟩
def vy {A:Around}{C:Addr}{us:List Value}{kw:List (Str×Value)}:(A.under (.builtin "type.__call__" ⟨.ref C :: us,kw⟩)).depth=A.depth + 1:=by
 first|rfl|simp[Around.under,Code.weight,Code.isCreation,Code.isGuard,Code.isCaller,Code.frames,Code.isFrame,guardIds]
def vz {A:Around}{C:Addr}{us:List Value}{kw:List (Str×Value)}:(A.under (.builtin "type.__call__" ⟨.ref C :: us,kw⟩)).units=A.units + 1:=by
 first|rfl|simp[Around.under,Code.cUnits,Code.frames,Code.isFrame]
def eY.make {k:Nat}{A:Around}(r:eY (k + 1) A)(C:Addr)(us:List Value)(kw:List (Str×Value)):eY k (A.under (.builtin "type.__call__" ⟨.ref C :: us,kw⟩)):=
 ⟨r.hd,by have:=r.dp; rw[vy]; lia,by have:=r.un; rw[vz]; lia⟩
def eY.depth {k:Nat}{A:Around}(r:eY k A):A.depth < recursionLimit:=by have:=r.dp; lia
def eY.units {k:Nat}{A:Around}(r:eY k A):A.units + 64 < cLine:=by have:=r.un; lia
def BY:TA:=fun _ H Q=>Q [] H
def BZ (ta:TE)(tr:TA):TA:=fun σ H Q=>ta σ H fun x H1=>tr σ H1 fun xs H2=>Q (x :: xs) H2
section
variable {X:Cx}{e:Expr}{es:List Expr}{te:TE}{t:TA}{pos:Pos}
def ao:PA X [] BY:=fun _ _ _ _ H Q I h=>OU ⟨[],H,I,.nil,h⟩
def aa (ha:PE X e te)(hr:PA X es t)(hs:starEach (e :: es) X.env=(false,eval e X.env) :: starEach es X.env:=by rfl):PA X (e :: es) (BZ te t):=by
 intro pos pins s σ H Q I h;rw[hs];show wpAny _ _ (spliced ((false,eval e X.env) :: backTo pos (starEach es X.env))) _ _ s;refine uW (dS (ha pins s σ H _ I h) fun u s1 ⟨x,H1,I1,r1,q1⟩=>?_);exact dS (hr pos pins s1 σ H1 _ I1 q1) fun us s2 ⟨xs,H2,I2,r2,q2⟩=>⟨x :: xs,H2,I2,.cons r1 r2,q2⟩
def Xu (t:TA):TE:=fun σ H Q=>t σ H fun xs H1=>xs.length<=sizeLine/\ ∀p,H1 p=none->Q (.ref p) (upd H1 p (.tup xs))
def Xv (t:TA):TE:=fun σ H Q=>t σ H fun xs H1=>xs.length<=sizeLine/\ ∀p,H1 p=none->Q (.ref p) (upd H1 p (.lst xs))
def cg {x1}(h:PA X es t):PE X (.Tuple es x1 pos) (Xu t):=by
 intro pins s σ H Q I hq;refine wpAny_Tuple_spliced (dS (h pos pins s σ H _ I hq) fun us s1 ⟨xs,H1,I1,r,z,q⟩=>⟨by rw[← r.length]; exact z,?_⟩);have hf:H1 s1.heap.objs.size=none:=I1.b9.fresh (aD _);refine⟨.ref s1.heap.objs.size,upd H1 s1.heap.objs.size (.tup xs),I1.laid (t':=s1.toks) (fun b u e=>az _ e) (aD _) ?_,rfl,q _ hf⟩;exact⟨z,us,r,⟨_,bO _ rfl,rfl,_,rfl⟩⟩
def bK (h:PA X es t):PE X (.List es pos) (Xv t):=by
 intro pins s σ H Q I hq;refine wpAny_List_spliced (dS (h pos pins s σ H _ I hq) fun us s1 ⟨xs,H1,I1,r,z,q⟩=>⟨by rw[← r.length]; exact z,?_⟩);have hf:H1 s1.heap.objs.size=none:=I1.b9.fresh (aD _);refine⟨.ref s1.heap.objs.size,upd H1 s1.heap.objs.size (.lst xs),I1.laid (t':=s1.toks) (fun b u e=>az _ e) (aD _) ?_,rfl,q _ hf⟩;exact⟨z,us,0,r,bO _ rfl⟩
end
abbrev Sp:=List V->Hp->VK->XK->Prop
abbrev Fx:=List Env->Hp->Shared->XK->Value->Shared->Prop
structure qW (P:Program)(w:World)(K:Frag)(mg:Str->Option Value)(base:Heap)(A:Around)(outer:List Env)(s:Shared)(H:Hp):Prop where
 frames:A.frames=some outer
 mod:Mod K mg base
 bs: ∀b o,base.get? b=some o->s.heap.get? b=some o/\H b=none
 BO:base.objs.size<=s.heap.objs.size
 md:s.heap.FunFrames base outer
 Fo: ∀b∈DZ outer,H b=none
 b9:o6 P w H s.heap
 bare:AllBare s.gens
def CE (outer:List Env)(P:Program)(w:World)(H:Hp)(s:Shared)(Q:VK)(u:Value)(s':Shared):Prop:=
 ∃v H',s'.os=s.os/\AllBare s'.gens/\Un (DZ outer) [] H H' s.heap s'.heap/\o6 P w H' s'.heap/\RelV v u/\Q v H'
def CR (CX:Fx)(outer:List Env)(P:Program)(w:World)(H:Hp)(s:Shared)(Q:VK)(E:XK)(r:Result)(s':Shared):Prop:=
 match r with
 | .ok (.ret u)=>CE outer P w H s Q u s'
 | .ok _=>False
 | .error e=>CX outer H s E e s'
structure mf (P:Program)(w:World)(K:Frag)(mg:Str->Option Value)(base:Heap)(CX:Fx)(k:Nat)(f:Addr)(fd:FuncData)(ps:List Str)(sp:Sp):Prop where
 len: ∀vs H Q E,sp vs H Q E->vs.length=ps.length
 run: ∀(A:Around) (outer:List Env) (s:Shared) (H:Hp) (args:Args) (us:List Value) (vs:List V) (Q:VK) (E:XK),eY k A->qW P w K mg base A outer s H->BindsTo s fd args (ps.zip us)->Vals vs us->sp vs H Q E->
  codeAny (model P w) A (.call (.ref f) args) (CR CX outer P w H s Q E) s
def qW.make {P:Program}{w:World}{K:Frag}{mg:Str->Option Value}{base:Heap}{A:Around}{outer:List Env}{s:Shared}{H:Hp}(e:qW P w K mg base A outer s H)(C:Addr)(us:List Value)(kw:List (Str×Value)):
  qW P w K mg base (A.under (.builtin "type.__call__" ⟨.ref C :: us,kw⟩)) outer s H:=⟨by first|exact e.frames|(simpa[Around.under,Code.envs,Code.isFrame,pushEnvs] using e.frames),e.mod,e.bs,e.BO,e.md,e.Fo,e.b9,e.bare⟩
def qW.in1 {P:Program}{w:World}{K:Frag}{mg:Str->Option Value}{base:Heap}{A:Around}{outer:List Env}{s:Shared}{H:Hp}(e:qW P w K mg base A outer s H):
  qW P w K mg base A.in1 outer s H:=⟨e.frames,e.mod,e.bs,e.BO,e.md,e.Fo,e.b9,e.bare⟩
section
variable {X:Cx}{pins:List (Addr×Obj)}{σ:St}{H:Hp}{s s':Shared}
def Inv.JE (I:Inv X pins σ H s):qW X.prog X.w X.K X.mg X.base X.A X.stack s H:=
 ⟨I.ok.frames,I.ok.mod,I.bs,aR I.ok.BO I.sz,I.stack,I.qS,I.b9,I.bare⟩
def Inv.after {Q:VK}{u:Value}(I:Inv X pins σ H s)(h:CE X.stack X.prog X.w H s Q u s'):EP X pins σ Q u s':=by
 obtain⟨v,H',os,bare,un,b9,r,q⟩:=h;obtain⟨hh,g,d,t,os'⟩:=s';obtain rfl:os'=s.os:=os;exact⟨v,H',I.call (h':=hh) (g':=g) (d':=d) (t':=t) (ch:=[]) un b9 bare (fun b z=>absurd z (by simp)),r,q⟩
end
def vA (sp:Sp)(vB:List V)(E:XK)(t:TA):TE:=fun σ H Q=>t σ H fun vs H1=>sp (vs ++ vB) H1 Q E
def Oa (C:Addr)(m:Str)(sp:Sp)(vB:List V)(E:XK)(ta:TE)(t:TA):TE:=fun σ H Q=>ta σ H fun x H1=> ∃a dx fs,x= .ref a/\H1 a=some (.ins C dx fs)/\fs.lookup m=none/\
 t σ H1 fun vs H2=>sp (x :: (vs ++ vB)) H2 Q E
def Fy (C:Addr)(sp:Sp)(vB:List V)(E:XK)(t:TA):TE:=fun σ H Q=>t σ H fun vs H1=> ∀x dx,H1 x=none->H1 dx=none->dx≠x->
 sp (.ref x :: (vs ++ vB)) (upd (upd H1 dx (.own x)) x (.ins C dx [])) (fun v H2=>v= .en/\Q (.ref x) H2) E
def Binds (K:Frag)(fd:FuncData)(ps:List Str)(ds:List Value):Prop:=
 ∀(s:Shared) (us:List Value),K.In s.heap->(us ++ ds).length=ps.length->BindsTo s fd ⟨us,[]⟩ (ps.zip (us ++ ds))
def Binds.all {K:Frag}{fd:FuncData}{ps:List Str}(h: ∀us:List Value,us.length=ps.length->bindArgs fd ⟨us,[]⟩=pure (ps.zip us)):Binds K fd ps []:=fun s us _ hl=>by
 rw[bS] at hl ⊢;exact .of_eq (h us hl)
def Passes (CX:Fx)(X:Cx)(E:XK):Prop:= ∀(pins:List (Addr×Obj)) (σ:St) (H:Hp) (s:Shared) (e:Value) (s':Shared),Inv X pins σ H s->CX X.stack H s E e s'->X.xe e s'
section
variable {X:Cx}{CX:Fx}{k:Nat}{f C:Addr}{fd:FuncData}{ps:List Str}{sp:Sp}{vB:List V}{ds:List Value}{E:XK}{x m:Str}{p pos apos:Pos}{e o:Expr}{es:List Expr}{ta:TE}{t:TA}
def zM {pins:List (Addr×Obj)}{σ:St}{H:Hp}{s:Shared}{Q:VK}{us:List Value}{vs:List V}(F:mf X.prog X.w X.K X.mg X.base CX k f fd ps sp)(hr:eY k X.A)(hb:Binds X.K fd ps ds)(hd:Vals vB ds)(hx:Passes CX X E)
  (I:Inv X pins σ H s) (r:Vals vs us) (h:sp (vs ++ vB) H Q E):wpAny (model X.prog X.w) X.A (call (.ref f) us) (EP X pins σ Q) X.xe s:=by
 have r2:Vals (vs ++ vB) (us ++ ds):=r.append hd;have hl:(us ++ ds).length=ps.length:=by rw[← r2.length]; exact F.len _ _ _ _ h
 refine Fm (DX (F.run X.A X.stack s H ⟨us,[]⟩ (us ++ ds) (vs ++ vB) Q E hr I.JE (hb s us I.gJ hl) r2 h) fun r s' hq=>?_);cases r with
 |error e=>exact hx pins σ H s e s' I hq
 |ok fl=>
  cases fl with
  |ret u=>exact I.after hq
  |next=>exact False.elim hq
  |brk=>exact False.elim hq
  |cont=>exact False.elim hq
def Fz (F:mf X.prog X.w X.K X.mg X.base CX k f fd ps sp)(hr:eY k X.A)(hg:Gl X x)(hm:X.mg x=some (.ref f))(hk:keepIn X.K (.ref f)=true)(hb:Binds X.K fd ps ds)(hd:Vals vB ds)(hx:Passes CX X E)
  (ha:PA X (e :: es) t) (qX:(x == ("__debug__":Str))=false:=by decide) (he:starEach (e :: es) X.env=(false,eval e X.env) :: starEach es X.env:=by rfl) (gQ:(backTo pos (starEach es X.env)).any (·.1)=false:=by rfl):
  PE X (.Call (.Name x p) (e :: es) [] pos) (vA sp vB E t):=by
 intro pins s σ H Q I h;refine eK (jF I hg hm ?_ qX);refine kI (h₀:=X.base) I.ok.mod.Mf hk (dS (ha pos pins s σ H _ I h) fun us s1 ⟨vs,H1,I1,r,q⟩=>⟨I1.gJ,?_⟩) he gQ;exact zM F hr hb hd hx I1 r q
def JF (F:mf X.prog X.w X.K X.mg X.base CX k f fd ps sp)(hr:eY k X.A)(hg:Gl X x)(hm:X.mg x=some (.ref f))(hk:keepIn X.K (.ref f)=true)(hb:Binds X.K fd ps ds)(hd:Vals vB ds)(hx:Passes CX X E)
  (qX:(x == ("__debug__":Str))=false:=by decide):PE X (.Call (.Name x p) [] [] pos) (vA sp vB E BY):=by
 intro pins s σ H Q I h;refine eK (jF I hg hm ?_ qX);exact BI I.gJ hk (zM (us:=[]) F hr hb hd hx I .nil h)
def Mr {pl:Sem Bool}(he:PE X o ta)(c:xF X.K C)(hm:Meth X.K C m f)(F:mf X.prog X.w X.K X.mg X.base CX k f fd ps sp)(hr:eY k X.A)(hb:Binds X.K fd ps ds)(hd:Vals vB ds)(hx:Passes CX X E)(ha:PA X (e :: es) t)
  (sE:starEach (e :: es) X.env=(false,eval e X.env) :: starEach es X.env:=by rfl) (gQ:(backTo pos (starEach es X.env)).any (·.1)=false:=by rfl)
  (ht:eval (.Call (.Attribute o m apos) (e :: es) [] pos) X.env=(do
   let ov ← eval o X.env
   standAt apos.atName
   let(f,first) ← holding [ov] (getMethod ov m pl)
   callWith pos f first (backTo pos (starEach (e :: es) X.env)) (backToKw pos (keywordEach [] X.env))):=by rfl):
  PE X (.Call (.Attribute o m apos) (e :: es) [] pos) (Oa C m sp vB E ta t):=by
 intro pins s σ H Q I h;refine xv (pl:=pl) (dS (he pins s σ H _ I h) fun u s1 ⟨x,H1,I1,rx,a,dx,fs,ex,ea,l,q⟩=>?_) ht;subst ex;obtain rfl:u=Value.ref a:=rx;refine Ea I1 ea c hm l ?_;refine kI (first:=[.ref a]) (h₀:=X.base) I.ok.mod.Mf hm.kp (dS (ha pos pins s1 σ H1 _ I1 q) fun us s2 ⟨vs,H2,I2,r,q2⟩=>⟨I2.gJ,?_⟩) sE gQ;exact zM (us:= .ref a :: us) (vs:= .ref a :: vs) F hr hb hd hx I2 (.cons rfl r) q2
structure Mk (K:Frag)(C f:Addr):Prop where
 makes:makesIn K C=true
 init:findIn K (.ref C) "__init__"=some (some (.ref f))
 fn:PySem.W.isFn K (.ref f)=true
 kp:keepIn K (.ref C)=true
def B0 {pins:List (Addr×Obj)}{σ:St}{H:Hp}{s:Shared}{Q:VK}{us:List Value}{vs:List V}(M:Mk X.K C f)(F:mf X.prog X.w X.K X.mg X.base CX k f fd ps sp)(hr:eY (k + 1) X.A)(hb:Binds X.K fd ps ds)(hd:Vals vB ds)
  (hx:Passes CX X E) (I:Inv X pins σ H s) (r:Vals vs us)
  (h: ∀x dx,H x=none->H dx=none->dx≠x->sp (.ref x :: (vs ++ vB)) (upd (upd H dx (.own x)) x (.ins C dx [])) (fun v H2=>v= .en/\Q (.ref x) H2) E):
  wpAny (model X.prog X.w) X.A (call (.ref C) us) (EP X pins σ Q) X.xe s:=by
 have hq:=h (s.heap.objs.size + 1) s.heap.objs.size (I.b9.fresh (cK _)) (I.b9.fresh (aD _)) (a7 (fY _));have I2:=Inv.made (C:=C) I;have r2:Vals (V.ref (s.heap.objs.size + 1) :: (vs ++ vB)) (Value.ref (s.heap.objs.size + 1) :: (us ++ ds)):= .cons rfl (r.append hd);have hl:(Value.ref (s.heap.objs.size + 1) :: us ++ ds).length=ps.length:=by
  have e:=r2.length;rw[F.len _ _ _ _ hq] at e;exact e.symm
 refine Fm (JC (f:=f) I.gJ M.makes M.init (GK.mp M.fn) (DX (F.run _ X.stack _ _ ⟨Value.ref (s.heap.objs.size + 1) :: us,[]⟩ (Value.ref (s.heap.objs.size + 1) :: (us ++ ds)) _ _ E (hr.make C us [])
  (I2.JE.make C us []) (hb _ (Value.ref (s.heap.objs.size + 1) :: us) I2.gJ hl) r2 hq) fun r s' tX=>?_))
 cases r with
 |error e=>exact hx pins σ _ _ e s' I2 tX
 |ok fl=>
  cases fl with
  |ret u=>
   obtain⟨v,H',I3,rv,ev,q3⟩:=I2.after tX;subst ev;exact⟨rv,⟨V.ref (s.heap.objs.size + 1),H',I3,rfl,q3⟩⟩
  |next=>exact False.elim tX
  |brk=>exact False.elim tX
  |cont=>exact False.elim tX
def Ms (M:Mk X.K C f)(F:mf X.prog X.w X.K X.mg X.base CX k f fd ps sp)(hr:eY (k + 1) X.A)(hg:Gl X x)(hm:X.mg x=some (.ref C))(hb:Binds X.K fd ps ds)(hd:Vals vB ds)(hx:Passes CX X E)
  (ha:PA X (e :: es) t) (qX:(x == ("__debug__":Str))=false:=by decide) (he:starEach (e :: es) X.env=(false,eval e X.env) :: starEach es X.env:=by rfl) (gQ:(backTo pos (starEach es X.env)).any (·.1)=false:=by rfl):
  PE X (.Call (.Name x p) (e :: es) [] pos) (Fy C sp vB E t):=by
 intro pins s σ H Q I h;refine eK (jF I hg hm ?_ qX);refine kI (h₀:=X.base) I.ok.mod.Mf M.kp (dS (ha pos pins s σ H _ I h) fun us s1 ⟨vs,H1,I1,r,q⟩=>⟨I1.gJ,?_⟩) he gQ;exact B0 M F hr hb hd hx I1 r q
def JG (M:Mk X.K C f)(F:mf X.prog X.w X.K X.mg X.base CX k f fd ps sp)(hr:eY (k + 1) X.A)(hg:Gl X x)(hm:X.mg x=some (.ref C))(hb:Binds X.K fd ps ds)(hd:Vals vB ds)(hx:Passes CX X E)
  (qX:(x == ("__debug__":Str))=false:=by decide):PE X (.Call (.Name x p) [] [] pos) (Fy C sp vB E BY):=by
 intro pins s σ H Q I h;refine eK (jF I hg hm ?_ qX);exact BI I.gJ M.kp (B0 (us:=[]) M F hr hb hd hx I .nil h)
end
section
variable {X:Cx}{CX:Fx}{k:Nat}{f C:Addr}{fd:FuncData}{ps ks:List Str}{sp:Sp}{E:XK}{x m:Str}{p pos apos SS:Pos}{e o:Expr}{es:List Expr}{kws:List Keyword}{te ta:TE}{t tk:TA}{nm:Option Str}
variable {g:List Value->List Value->List Value}{gV:List V->List V->List V}
end
structure aV (N P:List Str)(sc:Scope):Prop where
 kind:sc.kind= .function:=by rfl
 co:sc.isCoroutine=false:=by rfl
 gen:sc.isGenerator=false:=by rfl
 nd:N.Nodup:=by decide +kernel
 pre:N.take P.length=P:=by rfl
 par: ∀x∈P,sc.names.lookup x=some .local∨sc.names.lookup x=some .cell:=by decide +kernel
 Pm: ∀y∈sc.names,y.2≠ .free:=by decide +kernel
def yM {kindOf:Str->Option NameKind}{x:Str}: ∀{binds:List (Str×Value)} {m:Str->Option Value},(∀v,(x,v)∉binds)->bindL kindOf binds m x=m x
 |[],_,_=>rfl
 |(n,v) :: r,m,h=>by
  unfold bindL;rw[yM fun w hw=>h w (aW _ hw)];split
  ·have:x≠n:=by rintro rfl; exact h v ba
   simp[this]
  ·rfl
def yN {kindOf:Str->Option NameKind}{x:Str}: ∀{binds:List (Str×Value)} {m:Str->Option Value},(∀v,(x,v)∉binds)->bindC kindOf binds m x=m x
 |[],_,_=>rfl
 |(n,v) :: r,m,h=>by
  unfold bindC;rw[yN fun w hw=>h w (aW _ hw)];split
  ·rfl
  ·have:x≠n:=by rintro rfl; exact h v ba
   simp[this]
def yO {kindOf:Str->Option NameKind}{x:Str}{v:Value}: ∀{P:List Str} {vs:List Value} {i:Nat} {m:Str->Option Value},P.Nodup->P[i]? =some x->vs[i]? =some v->kindOf x=some .local->
  bindL kindOf (P.zip vs) m x=some v
 |[],_,_,_,_,h,_,_=>by simp at h
 |_ :: _,[],_,_,_,_,h,_=>by simp at h
 |p :: P,w :: vs,0,m,nd,h1,h2,hk=>by
  simp at h1 h2; subst h1; subst h2;show bindL kindOf ((p,w) :: P.zip vs) m p=_;unfold bindL;rw[yM fun v hv=>(eV.mp nd).1 (oZ hv).1,a0 hk];simp
 |p :: P,w :: vs,i + 1,m,nd,h1,h2,hk=>by
  show bindL kindOf ((p,w) :: P.zip vs) m x=_;unfold bindL;exact yO (i:=i) (List.nodup_cons.mp nd).2 (by simpa using h1) (by simpa using h2) hk
def yP {kindOf:Str->Option NameKind}{x:Str}{v:Value}: ∀{P:List Str} {vs:List Value} {i:Nat} {m:Str->Option Value},P.Nodup->P[i]? =some x->vs[i]? =some v->kindOf x≠some .local->
  bindC kindOf (P.zip vs) m x=some v
 |[],_,_,_,_,h,_,_=>by simp at h
 |_ :: _,[],_,_,_,_,h,_=>by simp at h
 |p :: P,w :: vs,0,m,nd,h1,h2,hk=>by
  simp at h1 h2; subst h1; subst h2;show bindC kindOf ((p,w) :: P.zip vs) m p=_;unfold bindC;rw[yN fun v hv=>(eV.mp nd).1 (oZ hv).1,aQ hk];simp
 |p :: P,w :: vs,i + 1,m,nd,h1,h2,hk=>by
  show bindC kindOf ((p,w) :: P.zip vs) m x=_;unfold bindC;exact yP (i:=i) (List.nodup_cons.mp nd).2 (by simpa using h1) (by simpa using h2) hk
def start (N:List Str)(vs:List V):St:=vs.map some ++ List.replicate (N.length - vs.length) none
def lq (CX:Fx)(P:Program)(w:World)(K:Frag)(mg:Str->Option Value)(base:Heap)(N:List Str)(qual:Str)(scope:Scope)(f:Addr)(cd:Value)(A:Around)(outer:List Env)(s:Shared)(H:Hp)(E:XK):Cx where
 prog:=P
 w:=w
 K:=K
 mg:=mg
 base:=base
 A:=A.deeper (envOfC qual scope s.heap.objs.size f cd)
 N:=N
 s₀:=s
 H₀:=H
 env:=envOfC qual scope s.heap.objs.size f cd
 outer:=outer
 stack:=envOfC qual scope s.heap.objs.size f cd :: outer
 ex:=[]
 calm:=true
 fn:=fun _=>true
 pn:=[]
 xe:=fun e s'=>wpAny (model P w) (A.deeper (envOfC qual scope s.heap.objs.size f cd)) (leaving (envOfC qual scope s.heap.objs.size f cd) e) (fun _ FA=>CX outer H s E e FA) (fun e' FA=>CX outer H s E e' FA) s'
def B4 {sc:Scope}{n:Nat}{x:Str}(h:sc.names.lookup x=some .cell): ∃c,(cellsFrom n sc.names []).lookup x=some c:=by
 have q:=lG sc.names n [] (.inl h);exact RC.mp q
def yQ {CX:Fx}{P:Program}{w:World}{K:Frag}{mg:Str->Option Value}{base:Heap}{N ps:List Str}{qual:Str}{scope:Scope}{f:Addr}{cd:Value}{A:Around}{outer:List Env}{s s1:Shared}{H:Hp}{E:XK}{us:List Value}{vs:List V}
  (S:aV N ps scope) (hd:A.handled=none) (e0:qW P w K mg base A outer s H) (hl:vs.length=ps.length) (r:Vals vs us)
  (x:InCallC s s.heap.objs.size (bindL (envOfC qual scope s.heap.objs.size f cd).kindOf (ps.zip us) fun _=>none) (cellsFrom (s.heap.objs.size + 1) scope.names []) (bindC (envOfC qual scope s.heap.objs.size f cd).kindOf (ps.zip us) fun _=>none) s1):
  Inv (lq CX P w K mg base N qual scope f cd A outer s H E) [] (start N vs) H s1:=by
 have gQ:ps.length<=N.length:=by have:=dr List.length S.pre; rw[bz] at this; lia
 obtain⟨h1,tk,rfl,hk⟩:=x.done;have Xw: ∀b:Addr,b∉(lq CX P w K mg base N qual scope f cd A outer s H E).ex:=fun b z=>absurd (show b∈([]:List Addr) from z) (by simp);refine⟨⟨e0.mod,S.kind,rfl,rfl,aD _,fun y z c h1 h2=>?_,fun y hy=>?_,fun y c _ h=>?_,fun _=>hd,Around.frames_deeper e0.frames,.inr ⟨rfl,rfl⟩,fun b z=>absurd z (Xw b),e0.bs,e0.BO,fun b _ _=>Xw b,fun b z=>absurd z (Xw b),e0.md,e0.Fo⟩,
  rfl,e0.bare,Un.kept hk,⟨_,x.toInCall.ns,fun i y v h1 h2 h3=>?_⟩,fun y c h=>⟨_,x.cell y c h⟩,e0.b9.fresh (Nat.le_refl _),fun y c h=>?_,fun p hp=>absurd (show p∈([]:List (Addr×Obj)) from hp) (by simp),e0.b9.kept hk,?_⟩
 ·exact name_of_addr x.apart (ck h1) (ck h2)
 ·have hy:scope.names.lookup y=some .cell∨scope.names.lookup y=some .free:=hy;rcases hy with hy|hy
  ·exact B4 hy
  ·exact absurd rfl (S.Pm _ (ck hy))
 ·exact cq (x.above y c (ck h))
 ·have hi:i < vs.length:=by
   unfold start at h2;by_cases hi:i < vs.length
   ·exact hi
   ·rw[List.getElem?_append_right (by simpa using hi)] at h2;rw[List.getElem?_replicate] at h2;split at h2 <;> cases h2
  have ha:vs[i]? =some v:=by
   unfold start at h2;rw[List.getElem?_append_left (by simpa using hi),List.getElem?_map] at h2;cases e:vs[i]? with
   |none=>rw[e] at h2; cases h2
   |some a=>rw[e] at h2; cases h2; rfl
  obtain⟨u,hu,rv⟩:=r.get ha;have hp:ps[i]? =some y:=by
   rw[← S.pre,List.getElem?_take_of_lt (by lia)]; exact h1
  have ndP:ps.Nodup:=by rw[← S.pre]; exact S.nd.sublist (List.take_sublist _ _)
  refine⟨u,rv,?_⟩;rcases S.par y (fB hp) with k|k
  ·exact .inl ⟨k,yO ndP hp hu k⟩
  ·obtain⟨c,e⟩:=B4 (n:=s.heap.objs.size + 1) k;refine .inr ⟨.inl k,c,e,?_⟩;have q:=x.cell y c e;rw[yP ndP hp hu (by show scope.names.lookup y≠_; rw[k]; decide)] at q;exact q
 ·exact e0.b9.fresh (cq (x.above y c (ck h)))
 ·unfold start;show _ =N.length;rw[ax,ae,iN];lia
def JH {CX:Fx}{P:Program}{w:World}{K:Frag}{mg:Str->Option Value}{base:Heap}{k:Nat}{f:Addr}{name qual:Str}{params:Arguments}{body:List Stmt}{scope:Scope}{dV kV doc pm cV ct oc:Value}{an od:Option Addr}
  {G5:Array (Option Value)} {N ps:List Str} {sp:Sp} (lk:K.lookup f=some ⟨oc,od,.func (fnOf name qual params body scope dV kV doc pm an cV ct),G5⟩) (sD:codeIn K cV qual=true) (S:aV N ps scope)
  (len: ∀vs H Q E,sp vs H Q E->vs.length=ps.length)
  (fW: ∀(A:Around) (outer:List Env) (s:Shared) (H:Hp) (vs:List V) (Q:VK) (E:XK),eY k (A.deeper (envOfC qual scope s.heap.objs.size f cV))->sp vs H Q E->
   ∃t,pC (lq CX P w K mg base N qual scope f cV A outer s H E) body t/\t {nx:=fun _ H'=>Q .en H',rt:=Q} (start N vs) H):
  mf P w K mg base CX (k + 1) f (fnOf name qual params body scope dV kV doc pm an cV ct) ps sp:=by
 refine⟨len,fun A outer s H args us vs Q E hr e0 hb r xG=>?_⟩;have hl:=len _ _ _ _ xG;have KX:K.In s.heap:=e0.mod.Mf.keeps fun b o e=>(e0.bs b o e).1;have lim:s.heap.NoLimit:=e0.mod.nolimit.keeps fun b o e=>(e0.bs b o e).1;have nH: ∀y∈ps.zip us,scope.names.lookup y.1=some .local∨(scope.names.lookup y.1=some .cell/\((cellsFrom (s.heap.objs.size + 1) scope.names []).lookup y.1).isSome=true):=fun⟨n,v⟩ hy=>by
  rcases S.par n (oZ hy).1 with q|q
  ·exact .inl q
  ·exact .inr ⟨q,lG _ _ _ (.inl q)⟩
 refine codeAny_call_function hr.depth (KX _ _ lk) rfl S.co S.gen rfl (PySem.W.codeRec_of KX sD) (hb _ _ _ _ ?_);refine uF S.kind nH fun env he s1 x=>?_;subst he;refine⟨lim.keeps x.toInCall.keep,codeAny_func ?_⟩;obtain⟨t,ht,hq⟩:=fW A outer s H vs Q E (hr.deeper _) xG;have I:Inv (lq CX P w K mg base N qual scope f cV A outer s H E) [] (start N vs) H s1:=yQ S hr.hd e0 hl r x;refine cm (ht [] s1 (start N vs) H _ I hq) (fun fl s' hs=>?_) fun e s' hs=>hs;have fin: ∀{σ':St} {H':Hp} {v:V} {u:Value},Inv (lq CX P w K mg base N qual scope f cV A outer s H E) [] σ' H' s'->RelV v u->Q v H'->CE outer P w H s Q u s':=
  fun{σ' H' v u} J rv q=>⟨v,H',J.os,J.bare,J.base,J.b9,rv,q⟩
 cases fl with
 |ret u=>
  obtain⟨v,σ',H',J,rv,q⟩:=hs;exact fin J rv q
 |next=>
  obtain⟨σ',H',J,q⟩:=hs;exact fin (v:=V.en) (u:=Value.none) J rfl q
 |brk=>
  obtain⟨_,_,_,q⟩:=hs;exact False.elim q
 |cont=>
  obtain⟨_,_,_,q⟩:=hs;exact False.elim q
section
variable {X:Cx}{x:Str}{p pos:Pos}{e:Expr}{es:List Expr}{t:TA}{id T:String}{r:List V->Hp->VK->Prop}
def V3 (r:List V->Hp->VK->Prop)(t:TA):TE:=fun σ H Q=>t σ H fun vs H1=>r vs H1 Q
def fk (hc:hV X (.builtin id) r)(hg:Gl X x)(hm:X.mg x=none)(hv:bootBuiltins x=some (.builtin id))(ha:PA X (e :: es) t)(hn:x≠"__name__":=by decide)(qX:(x == ("__debug__":Str))=false:=by decide)
  (he:starEach (e :: es) X.env=(false,eval e X.env) :: starEach es X.env:=by rfl) (gQ:(backTo pos (starEach es X.env)).any (·.1)=false:=by rfl):PE X (.Call (.Name x p) (e :: es) [] pos) (V3 r t):=by
 intro pins s σ H Q I h;refine eK (qf I hg hm hv ?_ hn qX);exact PyProof.Rows.callWith_builtin1 (dS (ha pos pins s σ H _ I h) fun us s1 ⟨vs,H1,I1,r1,q1⟩=>hc pins s1 σ H1 vs us Q I1 r1 q1) he gQ
def fZ (hc:hV X (.type T) r)(hg:Gl X x)(hm:X.mg x=none)(hv:bootBuiltins x=some (.type T))(ha:PA X (e :: es) t)(hn:x≠"__name__":=by decide)(qX:(x == ("__debug__":Str))=false:=by decide)
  (he:starEach (e :: es) X.env=(false,eval e X.env) :: starEach es X.env:=by rfl) (gQ:(backTo pos (starEach es X.env)).any (·.1)=false:=by rfl):PE X (.Call (.Name x p) (e :: es) [] pos) (V3 r t):=by
 intro pins s σ H Q I h;refine eK (qf I hg hm hv ?_ hn qX);exact oX (dS (ha pos pins s σ H _ I h) fun us s1 ⟨vs,H1,I1,r1,q1⟩=>hc pins s1 σ H1 vs us Q I1 r1 q1) he gQ
end
end L2
namespace HT
open PySem PyProof.Rows
def lexLt:List Int->List Int->Bool
 |[],[]=>false
 |[],_ :: _=>true
 |_ :: _,[]=>false
 |x :: xs,y :: ys=>if x=y then lexLt xs ys else decide (x < y)
def mh (x y:Int)(xs ys:List Int):lexLt (x :: xs) (y :: ys)=if x=y then lexLt xs ys else decide (x < y):=rfl
section
open PySem.SeqAt
open PySem.AutoSeq1 (wpAny_loadPart')
open PySem.MeetsSeq PySem.MeetsSeq2 PySem.MeetsSeq3
end
section
variable {prog:Program}{w:World}{A:Around}{E:Value->Shared->Prop}{s:Shared}
def B6 (n d:Nat):Option Int->Nat
 |none=>d
 |some v=>if v < 0 then(v + (n:Int)).toNat else min v.toNat n
def JI (n d:Nat):B6 n d none=d:=rfl
def zN (n d k:Nat):B6 n d (some (k:Int))=min k n:=by
 show(if(k:Int) < 0 then((k:Int) + (n:Int)).toNat else min (k:Int).toNat n)=min k n;rw[aQ (by lia),dB]
end
end HT
namespace L2
open PySem PySem.Spec PyProof.Rows
abbrev TO:=St->Hp->(Option Int->Hp->Prop)->Prop
def PO (X:Cx)(e:Option Expr)(t:TO):Prop:=
 ∀(pins:List (Addr×Obj)) (s:Shared) (σ:St) (H:Hp) (Q:Option Int->Hp->Prop),Inv X pins σ H s->t σ H Q->
  wpAny (model X.prog X.w) X.A (evalPart e X.env) (fun u s'=> ∃o H',Inv X pins σ H' s'/\IsPart u o/\Q o H') X.xe s
def Mt:TO:=fun _ H Q=>Q none H
inductive EvP (x:V)(k:Int->Prop):Prop
 |mk (i:Int)(h:x= .int i)(q:k i):EvP x k
def SU (t:TE):TO:=fun σ H Q=>t σ H fun x H1=>EvP x fun i=>Q (some i) H1
def intsAre_of {ns:List Int}: ∀{us:List Value},Vals (ns.map V.int) us->IntsAre us ns:=by
 induction ns with
 |nil=>intro us r; rw[xx] at r; cases r; exact .nil
 |cons n ns ih=>
  intro us r;rw[de] at r;cases r with
  |cons r1 r2=>
   obtain⟨t,e⟩:=r1;subst e;exact .cons n t (ih r2)
section
variable {X:Cx}{e:Expr}{te:TE}{lo hi:Option Expr}{tl th:TO}{pos p2:Pos}
def mi:PO X none Mt:=by
 intro pins s σ H Q I h;rw[evalPart_none];exact bI ⟨none,H,I,.none,h⟩
def jG (h:PE X e te):PO X (some e) (SU te):=by
 intro pins s σ H Q I hw;rw[evalPart_some];refine dS (h pins s σ H _ I hw) fun u s1 ⟨x,H1,I1,r1,q1⟩=>?_;obtain⟨i,rfl,q⟩:=q1;obtain⟨t,rfl⟩:=r1;exact⟨some i,H1,I1,.int i t,q⟩
def Mu (X:Cx)(r:V->Option Int->Option Int->Hp->VK->Prop):Prop:=
 ∀(pins:List (Addr×Obj)) (s:Shared) (σ:St) (H:Hp) (x:V) (v vl vu:Value) (lo hi:Option Int) (sl:Addr) (Q:VK),Inv X pins σ H s->RelV x v->s.heap.IsSliceOf sl vl vu .none->IsPart vl lo->IsPart vu hi->r x lo hi H Q->
  ∃T id,typeLookup (.type T) "__getitem__"=pure (some (.builtin id))/\s.TypeIs v T/\wpAny (model X.prog X.w) X.A (getItem v (.ref sl)) (EP X pins σ Q) X.xe s
def tSl (r:V->Option Int->Option Int->Hp->VK->Prop)(te:TE)(tl th:TO):TE:=fun σ H Q=>te σ H fun x H1=>tl σ H1 fun l H2=>th σ H2 fun u H3=>r x l u H3 Q
def jf {r:V->Option Int->Option Int->Hp->VK->Prop}(hr:Mu X r)(he:PE X e te)(hl:PO X lo tl)(hu:PO X hi th):PE X (.Subscript e (.Slice lo hi none p2) pos) (tSl r te tl th):=by
 intro pins s σ H Q I h;refine Subscript_ (dS (he pins s σ H _ I h) fun v s1 ⟨x,H1,I1,r1,q1⟩=>?_);refine wpAny_Slice (dS (hl pins s1 σ H1 _ I1 q1) fun vl s2 ⟨l,H2,I2,pl,q2⟩=>dS (hu pins s2 σ H2 _ I2 q2) fun vu s3 ⟨u,H3,I3,pu,q3⟩=>?_);rw[evalPart_none];refine bI ?_;have I4:Inv X pins σ H3 {s3 with heap:=s3.heap.push {cls:= .type "slice",data:= .fields #[vl,vu,.none]}}:=I3.kept (t':=s3.toks) fun b ob q=>az _ q;obtain⟨T,id,hT,ht,hg⟩:=hr pins {s3 with heap:=s3.heap.push {cls:= .type "slice",data:= .fields #[vl,vu,.none]}} σ H3 x v vl vu l u s3.heap.objs.size Q I4 r1 (Heap.IsSliceOf.new ..) pl pu q3;show wpAny (model X.prog X.w) X.A (subscriptTail e (.Slice lo hi none p2) v (.ref s3.heap.objs.size)) (EP X pins σ Q) X.xe {s3 with heap:=s3.heap.push {cls:= .type "slice",data:= .fields #[vl,vu,.none]}};exact tail_any (ops:=[.ref s3.heap.objs.size,v]) ht hT hg (by with_unfolding_all rfl)
def qj (xs:List V)(lo hi:Option Int):List V:=(xs.drop (HT.B6 xs.length 0 lo)).take (HT.B6 xs.length xs.length hi - HT.B6 xs.length 0 lo)
def B7 (xs:List V)(lo hi:Option Int):(qj xs lo hi).length<=xs.length:=by
 unfold qj;rw[bz,mY];lia
end
def Mv (n:Nat)(i:Int):Option Nat:=if 0<=i then(if i < n then some i.toNat else none) else if -(n:Int)<=i then some (i + n).toNat else none
def qY {α:Type}(xs:List α)(i:Int):Option α:=(Mv xs.length i).bind fun j=>xs[j]?
def FC {n:Nat}{i:Int}{j:Nat}(h:Mv n i=some j):seqIndex? i n=some j/\j < n/\ -(n:Int)<=i/\i < n:=by
 unfold Mv at h;by_cases h0:0<=i
 ·rw[a0 h0] at h;by_cases h1:i < n
  ·rw[a0 h1] at h;have e:i.toNat=j:=aF h;exact⟨by rw[seqIndex_of h0 h1,e],by lia,by lia,h1⟩
  ·rw[aQ h1] at h; cases h
 ·rw[aQ h0] at h;by_cases h1: -(n:Int)<=i
  ·rw[a0 h1] at h;have e:(i + n).toNat=j:=aF h;exact⟨by rw[seqIndex_neg (by lia) h1,e],by lia,h1,by lia⟩
  ·rw[aQ h1] at h; cases h
def FE {α:Type}{xs:List α}{i:Int}{v:α}(h:qY xs i=some v): ∃j,seqIndex? i xs.length=some j/\xs[j]? =some v/\j < xs.length/\ -(xs.length:Int)<=i/\i < xs.length:=by
 unfold qY at h;cases e:Mv xs.length i with
 |none=>rw[e] at h; cases h
 |some j=>
  rw[e] at h;obtain⟨h1,h2,h3,h4⟩:=FC e;exact⟨j,h1,h,h2,h3,h4⟩
def cI {α:Type}{xs:List α}{j:Nat}{v:α}(h:xs[j]? =some v):qY xs (j:Int)=some v:=by
 have hj:j < xs.length:=(ak.mp h).1;have e:Mv xs.length (j:Int)=some j:=by
  unfold Mv;rw[if_pos (by lia),if_pos (by lia)]; simp
 unfold qY; rw[e]; exact h
def zO (b:Expr):Prop:= ∀o i,subscripted b false o i=operate [o,i] (getItem o i)
def JJ (X:Cx)(r:R2):Prop:=
 ∀(value slice:Expr) (pins:List (Addr×Obj)) (s:Shared) (σ:St) (H:Hp) (x y:V) (v u:Value) (Q:VK),Inv X pins σ H s->RelV x v->RelV y u->r x y H Q->
  subscripted slice false v u=operate [v,u] (getItem v u)->wpAny (model X.prog X.w) X.A (subscriptTail value slice v u) (EP X pins σ Q) X.xe s
def MtR (X:Cx)(id:String)(r:V->List V->Hp->VK->Prop):Prop:=
 ∀(pins:List (Addr×Obj)) (s:Shared) (σ:St) (H:Hp) (x:V) (xs:List V) (v:Value) (us:List Value) (Q:VK),Inv X pins σ H s->RelV x v->Vals xs us->r x xs H Q->
  wpAny (model X.prog X.w) X.A (call (.builtin id) (v :: us)) (EP X pins σ Q) X.xe s
section
variable {X:Cx}{a b:Expr}{ta tb:TE}{pos:Pos}
def ix {r:R2}(hr:JJ X r)(ha:PE X a ta)(hb:PE X b tb)(hs:zO b):PE X (.Subscript a b pos) (RK r ta tb):=by
 intro pins s σ H Q I h;exact Subscript_ (Pg ha hb I h fun v u s2 x y H2 I2 rx ry q=>hr a b pins s2 σ H2 x y v u Q I2 rx ry q (hs _ _))
inductive Xx (x y:V)(S:Addr->List V->Prop)(k:V->Prop):Prop
 |mk (p:Addr)(xs:List V)(i:Int)(v:V)(h1:x= .ref p)(h2:y= .int i)(s:S p xs)(a:qY xs i=some v)(q:k v):Xx x y S k
def Pn (K:Frag):R2:=fun x y H Q=>Xx x y (bD K H) fun v=>Q v H
def Pp (K:Frag):R2:=fun x y H Q=>Xx x y (cy K H) fun v=>Q v H
def zP:JJ X (Pn X.K):=by
 intro value slice pins s σ H x y v u Q I rx ry h hs;obtain⟨p,xs,i,z,rfl,rfl,hq,he,q⟩:=h;cases rx;obtain⟨t,rfl⟩:=ry;obtain⟨b0,r,pl,hz⟩:=I.list hq;obtain⟨j,h1,h2,h3,h4,h5⟩:=FE he;obtain⟨w,ew,Ec⟩:=r.get h2;have hl:=r.length;have hn:=zL;have fin:EP X pins σ Q w s:=⟨z,H,I,Ec,q⟩;by_cases h0:0<=i
 ·have hj:i.toNat=j:=by
   rw[seqIndex_of h0 h5] at h1;exact aF h1
  exact item_listR pl.isList h0 (by lia) (by rw[hj]; simpa using ew) fin hs
 ·have hj:(i + (b0.toArray.size:Int)).toNat=j:=by
   rw[seqIndex_neg (by lia) h4] at h1;rw[bA,← hl];exact aF h1
  exact subscriptTail_builtinR (x:=w) pl.isList.typeIs slot_list_getitem.lookup
   (wpAny_getItem_list_neg (Q:=fun r s'=>r=w/\EP X pins σ Q r s') pl.isList (by lia) (by rw[List.size_toArray] <;> lia) (by lia) (by rw[hj]; simpa using ew) ⟨rfl,fin⟩) hs
def Ed:JJ X (Pp X.K):=by
 intro value slice pins s σ H x y v u Q I rx ry h hs;obtain⟨p,xs,i,z,rfl,rfl,hq,he,q⟩:=h;cases rx;obtain⟨t,rfl⟩:=ry;obtain⟨b0,r,pl,hz⟩:=I.tuple hq;obtain⟨j,h1,h2,h3,h4,h5⟩:=FE he;obtain⟨w,ew,Ec⟩:=r.get h2;have hl:=r.length;have hn:=zL;have fin:EP X pins σ Q w s:=⟨z,H,I,Ec,q⟩;exact subscriptTail_builtinR (x:=w) pl.typeIs slot_tuple_getitem.lookup
  (getItem_tuple (j:=j) (Q:=fun r s'=>r=w/\EP X pins σ Q r s') pl (by lia) (by lia) (by rw[List.size_toArray,← hl]; exact h1) (by simpa using ew) ⟨rfl,fin⟩) hs
def Ee (b0:List Value)(n j:Nat)(u:Value):Obj.mapSeq (·.setIfInBounds j u) {cls:= .type "list",data:= .seq b0.toArray n}={cls:= .type "list",data:= .seq (b0.set j u).toArray n}:=by
 simp[Obj.mapSeq]
def Inv.lst {pins:List (Addr×Obj)}{σ:St}{H:Hp}{s:Shared}{p:Addr}{xs:List V}(I:Inv X pins σ H s)(h:H p=some (.lst xs)):
  ∃(b0:List Value) (n:Nat),Vals xs b0/\s.heap.get? p=some {cls:= .type "list",data:= .seq b0.toArray n}/\xs.length<=sizeLine:=by
 obtain⟨z,b0,n,r,e⟩:=I.b9 p _ h;exact⟨b0,n,r,e,z⟩
def Inv.Pq {pins:List (Addr×Obj)}{σ:St}{H:Hp}{s:Shared}{p:Addr}{xs ys:List V}{b0 qT:List Value}{n n':Nat}{f:Obj->Obj}(I:Inv X pins σ H s)(h:H p=some (.lst xs))
  (ho:s.heap.get? p=some {cls:= .type "list",data:= .seq b0.toArray n}) (hf:f {cls:= .type "list",data:= .seq b0.toArray n}={cls:= .type "list",data:= .seq qT.toArray n'}) (r:Vals ys qT) (hz:ys.length<=sizeLine) (t:Nat):
  Inv X pins σ (upd H p (.lst ys)) {s with heap:=s.heap.update p f,toks:=t}:=by
 have e:(s.heap.update p f).get? p=some {cls:= .type "list",data:= .seq qT.toArray n'}:=by
  rw[DY f ho (by rw[hf] <;> rfl),hf]
 refine I.write (x:=p) (e:=p) (by rw[h]; trivial) (.inl rfl) (fun b u hb q=>(ny _ _ (xu hb)).trans q) ⟨_,e⟩ ?_;exact⟨hz,qT,n',r,e⟩
def SV:V->V->V->Hp->(Hp->Prop)->Prop:=fun o i v H Q=> ∃p xs k j,o= .ref p/\i= .int k/\H p=some (.lst xs)/\Mv xs.length k=some j/\Q (upd H p (.lst (xs.set j v)))
def set_list:SH X SV:=by
 intro pins s σ H o i v ov iv u Q I ro ri rv h;obtain⟨p,xs,k,j,rfl,rfl,hp,hj,q⟩:=h;cases ro;obtain⟨t,rfl⟩:=ri;obtain⟨b0,n,r,ho,hz⟩:=I.lst hp;obtain⟨h1,h2,h3,h4⟩:=FC hj;have hl:=r.length;have hn:=zL;have I':Inv X pins σ (upd H p (.lst (xs.set j v))) {s with heap:=s.heap.update p (Obj.mapSeq (·.setIfInBounds j u))}:=
  I.Pq hp ho (Ee b0 n j u) (r.set rv j) (by rw[eW]; exact hz) s.toks
 by_cases h0:0<=k
 ·have hk:k.toNat=j:=by
   rw[seqIndex_of h0 h4] at h1;exact aF h1
  exact PySem.W.ki_setAt ho h0 (by lia) (by rw[bA,← hl]; exact h4) (by rw[hk]; exact⟨_,I',q⟩)
 ·have hk:(k + (b0.toArray.size:Int)).toNat=j:=by
   rw[seqIndex_neg (by lia) h3] at h1;rw[bA,← hl];exact aF h1
  exact PySem.W.ki_setBack ho (by lia) (by rw[bA,← hl]; exact h3) (by lia) (by rw[hk]; exact⟨_,I',q⟩)
def zQ (lo hi:Option Int)(n:Nat):(sliceBounds lo hi none n).1=((HT.B6 n 0 lo:Nat):Int)/\(sliceBounds lo hi none n).2.1=((HT.B6 n n hi:Nat):Int)/\(sliceBounds lo hi none n).2.2=1:=by
 refine⟨?_,?_,rfl⟩
 ·cases lo with
  |none=>simp[sliceBounds,HT.B6]
  |some i=>
   simp only[sliceBounds,HT.B6,Option.getD_none,show(1:Int) > 0 by decide,if_true];by_cases h:i < 0
   ·simp only[h,if_true] <;> lia
   ·simp only[h,if_false] <;> lia
 ·cases hi with
  |none=>simp[sliceBounds,HT.B6]
  |some i=>
   simp only[sliceBounds,HT.B6,Option.getD_none,show(1:Int) > 0 by decide,if_true];by_cases h:i < 0
   ·simp only[h,if_true] <;> lia
   ·simp only[h,if_false] <;> lia
def xH (b0:List Value)(lo hi:Option Int):slicePick b0.toArray lo hi none=((b0.drop (HT.B6 b0.length 0 lo)).take (HT.B6 b0.length b0.length hi - HT.B6 b0.length 0 lo)).toArray:=by
 obtain⟨h1,h2,h3⟩:=zQ lo hi b0.toArray.size;unfold slicePick;rw[h1,h2,h3];simp only[sliceRange_one,pick_run,List.size_toArray] <;> rfl
inductive EvW (K:Frag)(x:V)(lo hi:Option Int)(H:Hp)(Q:VK):Prop
 |mk (a:Addr)(xs:List V)(h1:x= .ref a)(h2:bD K H a xs)(q: ∀p,H p=none->Q (.ref p) (upd H p (.lst (qj xs lo hi)))):EvW K x lo hi H Q
def SW (K:Frag):V->Option Int->Option Int->Hp->VK->Prop:=EvW K
def Mw:Mu X (SW X.K):=by
 intro pins s σ H x v vl vu lo hi sl Q I rx hs pl pu h;obtain⟨a,xs,rfl,hx,q⟩:=h;cases rx;obtain⟨b0,r,ht,hz⟩:=I.list hx;have hlen:=r.length;refine⟨"list",_,slot_list_getitem.lookup,ht.isList.typeIs,?_⟩;refine wpAny_getItem_list_slice ht.isList hs pl pu .none (by simp) ?_ (by rw[List.size_toArray] <;> lia);rw[xH,← hlen];refine⟨.ref s.heap.objs.size,_,I.laid (t':=s.toks) (o:= .lst (qj xs lo hi)) (fun b ob q=>az _ q) (aD _) ?_,rfl,q _ (I.b9.fresh (aD _))⟩;exact⟨aR (B7 xs lo hi) hz,_,0,(r.drop (HT.B6 xs.length 0 lo)).take (HT.B6 xs.length xs.length hi - HT.B6 xs.length 0 lo),bO _ rfl⟩
def tY:V->Bool
 | .en=>true
 | .bl _=>true
 | .int _=>true
 | .str _=>true
 |_=>false
def Mx:V->V->Bool
 | .en,.en=>true
 | .bl a,.bl b=>a == b
 | .bl a,.int b=>(if a then 1 else 0) == b
 | .int a,.bl b=>a == (if b then 1 else 0)
 | .int a,.int b=>a == b
 | .str a,.str b=>a == b
 |_,_=>false
def Pr {A:Around}{s:Shared}{y x:V}{u v:Value}(ry:RelV y u)(rx:RelV x v)(fy:tY y=true)(fx:tY x=true):SeqAt.EqAt A s u v (Mx y x):=by
 cases y with
 |en=>
  cases ry;cases x with
  |en=>cases rx; exact SeqAt.EqAt.same _
  |bl b=>cases rx; exact SeqAt.EqAt.none_bool b
  |int b=>obtain⟨t,rfl⟩:=rx; exact SeqAt.EqAt.none_int b t
  |str b=>obtain⟨t,rfl⟩:=rx; exact SeqAt.EqAt.none_str b t
  |_=>exact absurd (show false=true from fx) aX
 |bl a=>
  cases ry;cases x with
  |en=>cases rx; exact SeqAt.EqAt.bool_none a
  |bl b=>cases rx; exact SeqAt.EqAt.bool_bool a b
  |int b=>obtain⟨t,rfl⟩:=rx; exact SeqAt.EqAt.bool_int a b t
  |str b=>obtain⟨t,rfl⟩:=rx; exact SeqAt.EqAt.bool_str a b t
  |_=>exact absurd (show false=true from fx) aX
 |int a=>
  obtain⟨t',rfl⟩:=ry;cases x with
  |en=>cases rx; exact SeqAt.EqAt.int_none a t'
  |bl b=>cases rx; exact SeqAt.EqAt.int_bool a t' b
  |int b=>obtain⟨t,rfl⟩:=rx; exact SeqAt.EqAt.int_int a t' b t
  |str b=>obtain⟨t,rfl⟩:=rx; exact SeqAt.EqAt.int_str a t' b t
  |_=>exact absurd (show false=true from fx) aX
 |str a=>
  obtain⟨t',rfl⟩:=ry;cases x with
  |en=>cases rx; exact SeqAt.EqAt.str_none a t'
  |bl b=>cases rx; exact SeqAt.EqAt.str_bool a t' b
  |int b=>obtain⟨t,rfl⟩:=rx; exact SeqAt.EqAt.str_int a t' b t
  |str b=>obtain⟨t,rfl⟩:=rx; exact SeqAt.EqAt.str_str a t' b t
  |_=>exact absurd (show false=true from fx) aX
 |_=>exact absurd (show false=true from fy) aX
def Ef (x:V)(u:Value):Bool:=match u with
 | .none=>Mx .en x
 | .bool b=>Mx (.bl b) x
 | .int i _=>Mx (.int i) x
 | .str z _=>Mx (.str z) x
 |_=>false
def JK {x y:V}{u:Value}(r:RelV y u)(f:tY y=true):Ef x u=Mx y x:=by
 cases y with
 |en=>cases r; rfl
 |bl b=>cases r; rfl
 |int i=>obtain⟨t,rfl⟩:=r; rfl
 |str z=>obtain⟨t,rfl⟩:=r; rfl
 |_=>exact absurd (show false=true from f) aX
def qZ {x:V}: ∀{xs:List V} {us:List Value},Vals xs us->xs.all tY=true->us.any (Ef x)=xs.any fun y=>Mx y x
 |_,_,.nil,_=>rfl
 |y :: xs,u :: us,.cons r t,f=>by
  rw[List.all_cons,Jl] at f;rw[uG,uG,JK r f.1,qZ t f.2]
def nI {A:Around}{s:Shared}{x:V}{v:Value}(rx:RelV x v)(fx:tY x=true): ∀{xs:List V} {us:List Value},Vals xs us->xs.all tY=true-> ∀u∈us,SeqAt.EqAt A s u v (Ef x u)
 |_,_,.nil,_=>fun u hu=>by cases hu
 |y :: xs,u :: us,.cons r t,f=>fun u' hu=>by
  rw[List.all_cons,Jl] at f;rcases aw.mp hu with rfl|hu
  ·rw[JK r f.1]; exact Pr r rx f.1 fx
  ·exact nI rx fx t f.2 u' hu
def xI (x:V)(xs:List V):Bool:=xs.any fun y=>Mx y x
def Xy (K:Frag)(neg:Bool):R2:=fun x y H Q=> ∃p xs,y= .ref p/\(bD K H p xs∨cy K H p xs)/\tY x=true/\xs.all tY=true/\Q (.bl (if neg then !xI x xs else xI x xs)) H
def lK:oP X (compareOp .In) (Xy X.K false):=by
 intro pins s σ H x y v u Q I rx ry h;obtain⟨p,xs,rfl,hq,fx,fs,q⟩:=h;cases ry;rcases hq with hq|hq
 ·obtain⟨b0,r,pl,hz⟩:=I.list hq;refine SeqAt.in_listAt (Ef x) pl.isList (fun w hw=>nI rx fx r fs w (by simpa using hw)) ⟨.bl _,H,I,rfl,?_⟩;rw[show b0.toArray.any (Ef x)=b0.any (Ef x) by simp,qZ r fs];exact q
 ·obtain⟨b0,r,pl,hz⟩:=I.tuple hq;refine SeqAt.in_tupleAt (Ef x) pl (fun w hw=>nI rx fx r fs w (by simpa using hw)) ⟨.bl _,H,I,rfl,?_⟩;rw[show b0.toArray.any (Ef x)=b0.any (Ef x) by simp,qZ r fs];exact q
def zR:oP X (compareOp .NotIn) (Xy X.K true):=by
 intro pins s σ H x y v u Q I rx ry h;obtain⟨p,xs,rfl,hq,fx,fs,q⟩:=h;cases ry;rcases hq with hq|hq
 ·obtain⟨b0,r,pl,hz⟩:=I.list hq;refine SeqAt.notIn_listAt (Ef x) pl.isList (fun w hw=>nI rx fx r fs w (by simpa using hw)) ⟨.bl _,H,I,rfl,?_⟩;rw[show b0.toArray.any (Ef x)=b0.any (Ef x) by simp,qZ r fs];exact q
 ·obtain⟨b0,r,pl,hz⟩:=I.tuple hq;refine SeqAt.notIn_tupleAt (Ef x) pl (fun w hw=>nI rx fx r fs w (by simpa using hw)) ⟨.bl _,H,I,rfl,?_⟩;rw[show b0.toArray.any (Ef x)=b0.any (Ef x) by simp,qZ r fs];exact q
def zS:hV X (.builtin "len") (fun xs H Q=> ∃p ys,xs=[.ref p]/\(bD X.K H p ys∨cy X.K H p ys)/\Q (.int ys.length) H):=by
 intro pins s σ H xs us Q I r h;obtain⟨p,ys,rfl,hq,q⟩:=h;obtain⟨u,rfl,rx⟩:=vals1 r;cases rx;have hn:=zL;rcases hq with hq|hq
 ·obtain⟨b0,r',pl,hz⟩:=I.list hq;have hlen:=r'.length;exact Calls.call_len_list pl.isList (by simp only[List.size_toArray] <;> lia) ⟨.int ys.length,H,I.tok _,⟨s.toks + 1,by rw[List.size_toArray,hlen]⟩,q⟩
 ·obtain⟨b0,r',pl,hz⟩:=I.tuple hq;have hlen:=r'.length;exact len_tuple pl (by simp only[List.size_toArray] <;> lia) ⟨.int ys.length,H,I.tok _,⟨s.toks + 1,by rw[List.size_toArray,hlen]⟩,q⟩
def mj:hV X (.type "list") (fun xs H Q=> ∃p ys,xs=[.ref p]/\(bD X.K H p ys∨cy X.K H p ys)/\ ∀l,H l=none->Q (.ref l) (upd H l (.lst ys))):=by
 intro pins s σ H xs us Q I r h;obtain⟨p,ys,rfl,hq,q⟩:=h;obtain⟨u,rfl,rx⟩:=vals1 r;cases rx;have fin: ∀(b0:List Value),Vals ys b0->ys.length<=sizeLine-> ∀(h':Heap) (c':Nat),(∀b o',s.heap.get? b=some o'->h'.get? b=some o')->
   h'.get? s.heap.objs.size=some {cls:= .type "list",dict:=none,data:= .seq b0.toArray c',slots:= #[]}->EP X pins σ Q (.ref s.heap.objs.size) {s with heap:=h'}:=fun b0 r' hz h' c' kp e=>
  ⟨.ref s.heap.objs.size,_,I.laid (t':=s.toks) kp (aD _) (show dG X.prog X.w _ h' _ (.lst ys) from⟨hz,b0,c',r',e⟩),rfl,q _ (I.b9.fresh (aD _))⟩
 rcases hq with hq|hq
 ·obtain⟨b0,r',pl,hz⟩:=I.list hq;have hlen:=r'.length;obtain⟨o,ho,hc,n,hd⟩:=pl.isList;exact call_list_seq p (.inl rfl) ho hc hd (fun h' c' kp e=>fin b0 r' hz h' c' kp e) (by simp only[List.size_toArray] <;> lia)
 ·obtain⟨b0,r',pl,hz⟩:=I.tuple hq;have hlen:=r'.length;obtain⟨o,ho,hc,n,hd⟩:=pl;exact call_list_seq p (.inr rfl) ho hc hd (fun h' c' kp e=>fin b0 r' hz h' c' kp e) (by simp only[List.size_toArray] <;> lia)
def xJ:hV X (.type "tuple") (fun xs H Q=> ∃p ys,xs=[.ref p]/\((bD X.K H p ys/\ ∀l,H l=none->Q (.ref l) (upd H l (.tup ys)))∨(cy X.K H p ys/\Q (.ref p) H))):=by
 intro pins s σ H xs us Q I r h;obtain⟨p,ys,rfl,h⟩:=h;obtain⟨u,rfl,rx⟩:=vals1 r;cases rx;rcases h with⟨hq,q⟩|⟨hq,q⟩
 ·obtain⟨b0,r',pl,hz⟩:=I.list hq;have hlen:=r'.length;refine call_tuple_list pl.isList (fun h' kp=>?_) (by simp only[List.size_toArray] <;> lia);have I1:Inv X pins σ H {s with heap:=h'}:=I.kept (t':=s.toks) kp;have I2:Inv X pins σ (upd H h'.objs.size (.tup ys)) {s with heap:=h'.push {cls:= .type "tuple",data:= .seq b0.toArray}}:=
   I1.laid (t':=s.toks) (fun b o e=>az _ e) (aD _) (show dG X.prog X.w _ _ _ (.tup ys) from⟨hz,b0,r',IsTup.new _ _⟩)
  exact⟨.ref h'.objs.size,_,I2,rfl,q _ (I1.b9.fresh (aD _))⟩
 ·obtain⟨b0,r',pl,hz⟩:=I.tuple hq;exact call_tuple_same pl ⟨.ref p,H,I,rfl,q⟩
def Xz (K:Frag)(T:String)(x:V)(H:Hp):Prop:=match x with
 | .str _=>T="str"
 | .int _=>T="int"
 | .ref p=>(T="list"/\ ∃xs,bD K H p xs)∨(T="tuple"/\ ∃o,K.lookup p=some o/\o.cls= .type "tuple"/\o.dict=none)∨
   (T="dict"/\((∃bf,H p=some (.dK bf))∨ ∃bf,H p=some (.dT bf)))∨(T="set"/\ ∃S n,H p=some (.set S n))
 |_=>False
def JL {pins:List (Addr×Obj)}{σ:St}{H:Hp}{s:Shared}{T:String}{x:V}{v:Value}(I:Inv X pins σ H s)(r:RelV x v)(ty:Xz X.K T x H):
  s.TypeIs v T/\ ∀a,v= .ref a-> ∃ob,s.heap.get? a=some ob/\ob.dict=none:=by
 cases x with
 |str z=>
  obtain⟨t,rfl⟩:=r;cases(show T="str" from ty);exact⟨typeIs_str s z t,fun _ e=>nomatch e⟩
 |int i=>
  obtain⟨t,rfl⟩:=r;cases(show T="int" from ty);exact⟨typeIs_int s i t,fun _ e=>nomatch e⟩
 |ref p=>
  cases r;rcases ty with⟨rfl,xs,hq⟩|⟨rfl,o,hk,hc,hd⟩|⟨rfl,hk⟩|⟨rfl,S,n,hk⟩
  ·obtain⟨b0,_,pl,_⟩:=I.list hq;refine⟨pl.isList.typeIs,fun a e=>?_⟩;cases e;obtain⟨o,n,e,c,hd,_⟩:=pl;exact⟨o,e,hd⟩
  ·refine⟨⟨o,I.gJ p o hk,hc⟩,fun a e=>?_⟩;cases e;exact⟨o,I.gJ _ o hk,hd⟩
  ·have z: ∃o,s.heap.get? p=some o/\o.ExactDict:=by
    rcases hk with⟨bf,hk⟩|⟨bf,hk⟩
    ·obtain⟨_,_,_,_,o,_,_,e,ex,_⟩:=I.b9 p _ hk;exact⟨o,e,ex⟩
    ·obtain⟨_,_,_,_,o,_,_,e,ex,_⟩:=I.b9 p _ hk;exact⟨o,e,ex⟩
   obtain⟨o,e,ex⟩:=z;refine⟨⟨o,e,ex.1⟩,fun a e2=>?_⟩;cases e2;exact⟨o,e,ex.2.1⟩
  ·obtain⟨o,_,_,_,e,ex,_⟩:=I.b9 p _ hk;refine⟨⟨o,e,ex.1⟩,fun a e2=>?_⟩;cases e2;exact⟨o,e,ex.2.1⟩
 |_=>exact False.elim ty
def XA (K:Frag)(T:String)(r:V->List V->Hp->VK->Prop)(to:TE):TE:=fun σ H Q=>to σ H fun x H1=>Xz K T x H1/\r x [] H1 Q
def tBM (K:Frag)(T:String)(r:V->List V->Hp->VK->Prop)(to:TE)(t:TA):TE:=fun σ H Q=>to σ H fun x H1=>Xz K T x H1/\t σ H1 fun xs H2=>r x xs H2 Q
variable {o e:Expr}{es:List Expr}{to:TE}{t:TA}{name:Str}{apos fJ:Pos}{T id:String}{r:V->List V->Hp->VK->Prop}
def Pt (pa:PlainAttrs T)(slot:Slot T name id)(V4:typeOf (.builtin id)=pure (.type "method_descriptor"))(hm:MtR X id r)(ho:PE X o to)
  (q0:attributeBase o name X.env (eval o X.env)=eval o X.env:=by rfl) (vC:(apos.endLine == fJ.line)=true:=by rfl):PE X (.Call (.Attribute o name apos) [] [] fJ) (XA X.K T r to):=by
 intro pins s σ H Q I h;refine wpAny_Call_method0_late q0 vC (dS (ho pins s σ H _ I h) fun v s1 ⟨x,H1,I1,r1,ty,q1⟩=>?_);obtain⟨h1,h2⟩:=JL I1 r1 ty;exact⟨T,id,pa,slot,V4,h1,h2,gi rfl (PySem.evalArgs_none (hm pins s1 σ H1 x [] v [] Q I1 r1 .nil q1))⟩
def SX (pa:PlainAttrs T)(slot:Slot T name id)(V4:typeOf (.builtin id)=pure (.type "method_descriptor"))(hm:MtR X id r)(ho:PE X o to)(ha:PA X (e :: es) t)
  (q0:attributeBase o name X.env (eval o X.env)=eval o X.env:=by rfl)
  (Pu:((backTo fJ (starEach (e :: es) X.env)).all (fun x=> !x.1) && (backToKw fJ (keywordEach [] X.env)).all (fun x=>x.1.isSome)
   && decide ((e :: es).length + ([]:List Keyword).length + (if([]:List Keyword).isEmpty then 0 else 1) < 30))=true:=by rfl)
  (vC:(apos.endLine == fJ.line)=true:=by rfl) (hs:starEach (e :: es) X.env=(false,eval e X.env) :: starEach es X.env:=by rfl) (vD:(backTo fJ (starEach es X.env)).any (·.1)=false:=by rfl):
  PE X (.Call (.Attribute o name apos) (e :: es) [] fJ) (tBM X.K T r to t):=by
 intro pins s σ H Q I h;refine wpAny_Call_method_late q0 Pu vC rfl (dS (ho pins s σ H _ I h) fun v s1 ⟨x,H1,I1,r1,ty,q1⟩=>?_);obtain⟨h1,h2⟩:=JL I1 r1 ty;refine⟨T,id,pa,slot,V4,h1,h2,?_⟩;have hA:=ha fJ pins s1 σ H1 _ I1 q1;rw[hs] at hA ⊢;refine gi (by show(false || (backTo fJ (starEach es X.env)).any (·.1))=false; rw[vD] <;> rfl) (qJ ?_);exact dS hA fun us s2 ⟨vs,H2,I2,r2,q2⟩=>hm pins s2 σ H2 x vs v us Q I2 r1 r2 q2
end
def MtM (X:Cx)(id:String)(r:V->List V->Hp->VK->Prop):Prop:=
 ∀(pins:List (Addr×Obj)) (s:Shared) (σ:St) (H:Hp) (x:V) (xs:List V) (v:Value) (us:List Value) (Q:VK),Inv X pins σ H s->RelV x v->Vals xs us->r x xs H Q->
  wpAny (model X.prog X.w) X.A (call (.builtin id) (v :: us)) (EP X pins σ Q) X.xe s
def Vals.one: ∀{x:V} {us:List Value},Vals [x] us-> ∃u,us=[u]/\RelV x u
 |_,_,.cons r .nil=>⟨_,rfl,r⟩
def Vals.zero: ∀{us:List Value},Vals [] us->us=[]
 |_,.nil=>rfl
def Vals.dropLast {xs:List V}{us:List Value}(h:Vals xs us):Vals xs.dropLast us.dropLast:=by
 induction h with
 |nil=>exact .nil
 |cons r t ih=>
  cases t with
  |nil=>exact .nil
  |cons q t'=>exact .cons r ih
def Vals.rep {xs:List V}{us:List Value}(h:Vals xs us): ∀k:Nat,Vals (List.replicate k xs).flatten (List.replicate k us).flatten
 |0=> .nil
 |k + 1=>by
  rw[dv,dv,iV,iV];exact Vals.append h (Vals.rep h k)
def Eg {α:Type}(l:List α):l.eraseIdx (l.length - 1)=l.dropLast:=by
 induction l with
 |nil=>rfl
 |cons a r ih=>
  cases r with
  |nil=>rfl
  |cons b r=>
   have e:(a :: b :: r).length - 1=((b :: r).length - 1) + 1:=by
    have h1:(a :: b :: r).length=r.length + 2:=rfl;have h2:(b :: r).length=r.length + 1:=rfl;lia
   rw[e,List.eraseIdx_cons_succ,ih]
   all_goals rfl
def foldl_rep (b0:List Value): ∀(k:Nat) (acc:List Value),
  List.foldl (fun x1 x2=>x1 ++ x2) acc.toArray (List.replicate k b0.toArray)=(acc ++ (List.replicate k b0).flatten).toArray
 |0,acc=>by simp
 |k + 1,acc=>by
  have e:acc.toArray ++ b0.toArray=(acc ++ b0).toArray:=by simp
  have e2:(acc ++ b0) ++ (List.replicate k b0).flatten=acc ++ (List.replicate (k + 1) b0).flatten:=by
   rw[dv,iV,dR]
  rw[← e2,← foldl_rep b0 k (acc ++ b0),← e,dv,ee]
section
variable {X:Cx}{pins:List (Addr×Obj)}{σ:St}{H:Hp}{s:Shared}{l b:Addr}{xs ys zs:List V}
def Inv.SY {b0 qT:List Value}{n:Nat}{f:Array Value->Array Value}{t':Nat}(I:Inv X pins σ H s)(hH:H l=some (.lst xs))
  (e:s.heap.get? l=some {cls:= .type "list",data:= .seq b0.toArray n}) (hf:f b0.toArray=qT.toArray) (hv:Vals ys qT) (hz:ys.length<=sizeLine):
  Inv X pins σ (upd H l (.lst ys)) {s with heap:=s.heap.update l (Obj.mapSeq f),toks:=t'}:=by
 have q:=PySem.IsL.update e f;rw[hf] at q;refine I.write (x:=l) (e:=l) (by rw[hH]; exact trivial) (.inl rfl) (fun b' u hb hu=>(ny s.heap (Obj.mapSeq f) (xu hb)).trans hu) ⟨_,q⟩ ?_;exact⟨hz,qT,_,hv,q⟩
def Inv.Pw {b0:List Value}{t':Nat}(I:Inv X pins σ H s)(hv:Vals ys b0)(hz:ys.length<=sizeLine):
  Inv X pins σ (upd H s.heap.objs.size (.lst ys)) {s with heap:=s.heap.push {cls:= .type "list",data:= .seq b0.toArray},toks:=t'}:=
 I.laid (fun _ _ q=>az _ q) (aD _) ⟨hz,b0,0,hv,bO _ rfl⟩
def Inv.fresh (I:Inv X pins σ H s):H s.heap.objs.size=none:=I.b9.fresh (aD _)
def Inv.JM (I:Inv X pins σ H s)(hH:H l=some (.lst xs)):xs.length<=sizeLine/\ ∃(b0:List Value) (n:Nat),Vals xs b0/\xs.length=b0.length/\s.heap.get? l=some {cls:= .type "list",data:= .seq b0.toArray n}:=by
 obtain⟨z,b0,n,r,e⟩:=I.b9 l _ hH;exact⟨z,b0,n,r,r.length,e⟩
def JN {n:Nat}(h:n<=sizeLine):Builtin.List.listTooLong n=false:=by
 unfold Builtin.List.listTooLong;exact br (by lia)
end
section
variable {X:Cx}
inductive XB (x:V)(vs:List V)(H:Hp)(k:Addr->List V->V->Prop):Prop
 |mk (l:Addr)(xs:List V)(y:V)(h1:x= .ref l)(h2:vs=[y])(h3:H l=some (.lst xs))(h4:xs.length < sizeLine)(q:k l xs y):XB x vs H k
def FF:V->List V->Hp->VK->Prop:=fun x vs H Q=>XB x vs H fun l xs y=>Q .en (upd H l (.lst (xs ++ [y])))
def yR:MtM X "list.append" FF:=by
 intro pins s σ H x vs v us Q I rx rv h;obtain⟨l,xs,y,rfl,rfl,hH,hz,q⟩:=h;cases rx;obtain⟨u,rfl,ru⟩:=rv.one;obtain⟨z,b0,n,r,hl,e⟩:=I.JM hH;refine call_meets F.slot_list_append ⟨_,e,rfl⟩ F.entry_list_append (F.args_list_append_2 _ _) (PySem.list_append l b0.toArray n u (by rw[bA]; lia)) ⟨e,?_⟩;refine⟨.en,_,I.SY (qT:=b0 ++ [u]) hH e (by simp) (r.append (.cons ru .nil)) ?_,rfl,q⟩;rw[ax,List.length_singleton];lia
def XC:V->List V->Hp->VK->Prop:=fun x vs H Q=> ∃l xs y,x= .ref l/\vs=[]/\H l=some (.lst xs)/\xs[xs.length - 1]? =some y/\Q y (upd H l (.lst xs.dropLast))
def Px:MtM X "list.pop" XC:=by
 intro pins s σ H x vs v us Q I rx rv h;obtain⟨l,xs,y,rfl,rfl,hH,hy,q⟩:=h;cases rx;have S4:=rv.zero;subst S4;obtain⟨z,b0,n,r,hl,e⟩:=I.JM hH;obtain⟨u,hu,ru⟩:=r.get hy;have hy':b0.toArray[b0.toArray.size - 1]? =some u:=by
  show b0.toArray[b0.length - 1]? =some u;rw[← Array.getElem?_toList,← hl];exact hu
 refine call_meets F.slot_list_pop ⟨_,e,rfl⟩ F.entry_list_pop (F.args_list_pop_1 _) (MeetsSeq.list_pop_last l b0.toArray n u hy' (by rw[bA]; lia)) ⟨e,?_⟩;refine⟨y,_,I.SY (qT:=b0.dropLast) hH e ?_ r.dropLast ?_,ru,q⟩
 ·show b0.toArray.eraseIdxIfInBounds (b0.toArray.size - 1)=b0.dropLast.toArray;rw[bA,List.eraseIdxIfInBounds_toArray,Eg]
 ·rw[List.length_dropLast];lia
inductive EvK (x y:V)(H:Hp)(Q:VK):Prop
 |mk (l b:Addr)(xs zs:List V)(h1:x= .ref l)(h2:y= .ref b)(h3:H l=some (.lst xs))(h4:H b=some (.lst zs))(z:xs.length + zs.length<=sizeLine)(q: ∀p,H p=none->Q (.ref p) (upd H p (.lst (xs ++ zs)))):EvK x y H Q
def S5:R2:=EvK
def gr:oP X (binaryOp .Add) S5:=by
 intro pins s σ H x y v u Q I rx ry h;obtain⟨l,b,xs,zs,rfl,rfl,hH,hB,hz,q⟩:=h;cases rx;cases ry;obtain⟨z,b0,n,r,hl,e⟩:=I.JM hH;obtain⟨z2,G6,n2,r2,RM,e2⟩:=I.JM hB;refine PySem.P.add_list e e2 ?_ (by rw[bA,bA]; lia);have ea:b0.toArray ++ G6.toArray=(b0 ++ G6).toArray:=by simp
 rw[ea];exact⟨.ref _,_,I.Pw (t':=s.toks) (r.append r2) (by rw[ax]; lia),rfl,q _ I.fresh⟩
def S6:R2:=fun x y H Q=> ∃l k xs,x= .ref l/\y= .int k/\H l=some (.lst xs)/\ -(2 ^ 63)<=k/\k < 2 ^ 63/\xs.length * k.toNat<=sizeLine/\
 ∀p,H p=none->Q (.ref p) (upd H p (.lst (List.replicate k.toNat xs).flatten))
def len_rep {α:Type}(xs:List α)(k:Nat):(List.replicate k xs).flatten.length=k * xs.length:=by
 induction k with
 |zero=>simp
 |succ k ih=>rw[dv,iV,ax,ih,xy,Nat.add_comm]
def Eh:oP X (binaryOp .Mult) S6:=by
 intro pins s σ H x y v u Q I rx ry h;obtain⟨l,k,xs,rfl,rfl,hH,h1,h2,hz,q⟩:=h;cases rx;obtain⟨t,rfl⟩:=ry;obtain⟨z,b0,n,r,hl,e⟩:=I.JM hH;have hlen:b0.toArray.size * k.toNat<=sizeLine:=by rw[bA,← hl]; exact hz
 have XD: ¬ b0.toArray.size * k.toNat > (2 ^ 63 - 1) / 8:=by
  have:(sizeLine:Nat)<=(2 ^ 63 - 1) / 8:=by decide
  lia
 have XE: ¬ (!Builtin.List.listFitsIndex k)=true:=by
  rw[fitsIndex_both h1 h2];exact aX
 have S7: ¬ Builtin.List.listTooLong (b0.toArray.size * k.toNat)=true:=by
  rw[JN hlen];exact aX
 have XF:List.foldl (fun x1 x2=>x1 ++ x2) #[] (List.replicate (if b0.toArray.isEmpty=true then 0 else k.toNat) b0.toArray)=(List.replicate k.toNat b0).flatten.toArray:=by
  have f0: ∀m:Nat,List.foldl (fun x1 x2=>x1 ++ x2) #[] (List.replicate m b0.toArray)=(List.replicate m b0).flatten.toArray:=fun m=>by
   have:=foldl_rep b0 m [];rw[L8] at this;exact this
  rw[f0];cases b0 with
  |nil=>simp
  |cons a r'=>rw[if_neg (by simp)]
 refine wpAny_binaryOp_repeat_ref (T:="list") (U:="int") (by decide) ⟨_,e,rfl⟩ (fun s'=>typeIs_int s' k t) noFill_list_mul F.fills_int_mul F.slot_int_rmul repeat_list F.slot_int_index.lookup
  (call_meets F.slot_int_rmul (typeIs_int s k t) F.entry_int_rmul (F.args_int_rmul_2 _ _) (int___rmul___int_list k t l b0.toArray n)
   ⟨e,rfl,⟨_,e,rfl⟩,call_meets F.slot_list_mul ⟨_,e,rfl⟩ F.entry_list_mul (F.args_list_mul_2 _ _) (AutoListH.list___mul___list_int_3 l b0.toArray n k t XE XD S7) ⟨e,?_⟩⟩)
 rw[XF];exact⟨.ref _,_,I.Pw (t':=s.toks) (r.rep k.toNat) (by rw[len_rep,Nat.mul_comm]; exact hz),rfl,q _ I.fresh⟩
end
section
variable {prog:Program}{w:World}{A:Around}{E:Value->Shared->Prop}{s:Shared}
end
section
variable {X:Cx}
end
section
variable {κ:Type}[DecidableEq κ]
def fQ (bf:List (κ×V))(k:κ):Option V:=(bf.find? fun kv=>decide (kv.1=k)).map (·.2)
def putK (bf:List (κ×V))(k:κ)(v:V):List (κ×V):=
 if(bf.any fun kv=>decide (kv.1=k))=true then bf.map (fun kv=>if kv.1=k then(kv.1,v) else kv) else bf ++ [(k,v)]
def lL (bf:List (κ×V))(k:κ):List (κ×V):=bf.filter fun kv=>decide (kv.1≠k)
def fL {p:κ×V}{r:List (κ×V)}{k:κ}(e:p.1=k):fQ (p :: r) k=some p.2:=by simp[fQ,List.find?_cons,e]
def fm {p:κ×V}{r:List (κ×V)}{k:κ}(e: ¬ p.1=k):fQ (p :: r) k=fQ r k:=by simp[fQ,List.find?_cons,e]
def nJ (k:κ): ∀bf:List (κ×V),(bf.any fun kv=>decide (kv.1=k))=(fQ bf k).isSome
 |[]=>rfl
 |p :: r=>by
  rw[uG];by_cases e:p.1=k
  ·simp only[fL e,decide_eq_true e,Bool.true_or,Option.isSome_some]
  ·rw[fm e,br e,Bool.false_or]; exact nJ k r
def B8 (k j:κ)(y:V): ∀bf:List (κ×V),fQ (bf.map fun kv=>if kv.1=k then(kv.1,y) else kv) j=(fQ bf j).map fun x=>if j=k then y else x
 |[]=>rfl
 |p :: r=>by
  have ih:=B8 k j y r;rw[de];by_cases h:p.1=k
  ·rw[a0 h];by_cases e:p.1=j
   ·rw[fL (p:=(p.1,y)) e,fL e,o4,a0 (e.symm.trans h)]
   ·rw[fm (p:=(p.1,y)) e,fm e,ih]
  ·rw[aQ h];by_cases e:p.1=j
   ·rw[fL (p:=p) e,fL e,o4,aQ (fun z=>h (e.trans z))]
   ·rw[fm (p:=p) e,fm e,ih]
def yS (k j:κ)(y:V): ∀bf:List (κ×V),fQ bf k=none->fQ (bf ++ [(k,y)]) j=if j=k then some y else fQ bf j
 |[],_=>by
  by_cases e:k=j
  ·rw[a0 e.symm]; exact fL (p:=(k,y)) e
  ·rw[aQ (fun z=>e z.symm)]; exact fm (p:=(k,y)) e
 |p :: r,hn=>by
  rw[List.cons_append];have hk: ¬ p.1=k:=fun z=>by rw[fL z] at hn; cases hn
  rw[fm hk] at hn;have ih:=yS k j y r hn;by_cases e:p.1=j
  ·rw[fL e,fL e,aQ (fun z=>hk (e.trans z))]
  ·rw[fm e,fm e,ih]
def Ca (bf:List (κ×V))(k j:κ)(y:V):fQ (putK bf k y) j=if j=k then some y else fQ bf j:=by
 unfold putK;by_cases a:(bf.any fun kv=>decide (kv.1=k))=true
 ·rw[a0 a,B8];rw[nJ] at a;by_cases e:j=k
  ·obtain⟨x,hx⟩:=RC.mp a;rw[a0 e,e,hx,o4,a0 rfl]
  ·rw[aQ e];cases fQ bf j with
   |none=>rfl
   |some x=>rw[o4,aQ e]
 ·rw[aQ a];refine yS k j y bf ?_;rw[nJ] at a;cases q:fQ bf k with
  |none=>rfl
  |some x=>rw[q] at a; exact(a rfl).elim
def jg (bf:List (κ×V))(k:κ)(v:V):(putK bf k v).length<=bf.length + 1:=by
 unfold putK;split
 ·rw[ae]; lia
 ·rw[ax,bJ,xA]; lia
def JO {bf:List (κ×V)}{k:κ}(v:V)(h:fQ bf k=none):putK bf k v=bf ++ [(k,v)]:=by
 unfold putK;rw[nJ,h];exact aQ (by decide)
def kM.lM {o:Option V}{u:Option Value}(r:kM o u):o.isSome=u.isSome:=by
 cases o with
 |none=>cases u with
  |none=>rfl
  |some _=>exact(show False from r).elim
 |some _=>cases u with
  |none=>exact(show False from r).elim
  |some _=>rfl
def kM.getD {o:Option V}{u:Option Value}{d:V}{d':Value}(r:kM o u)(rd:RelV d d'):RelV (o.getD d) (u.getD d'):=by
 cases o with
 |none=>cases u with
  |none=>exact rd
  |some _=>exact(show False from r).elim
 |some _=>cases u with
  |none=>exact(show False from r).elim
  |some _=>exact r
def KV.val {bf:List (κ×V)}{vs:List (κ×Value)}(r:KV bf vs)(k:κ):kM (fQ bf k) (valueAt vs k):=by
 unfold KV at r
 induction r with
 |nil=>exact True.intro
 | @cons p q ps qs h t ih=>
  obtain⟨h1,h2⟩:=h;by_cases e:p.1=k
  ·have e':q.1=k:=h1.symm.trans e;have b:valueAt (q :: qs) k=some q.2:=by simp[valueAt,List.find?_cons,e']
   rw[fL e,b]; exact h2
  ·have e': ¬ q.1=k:=fun z=>e (h1.trans z);have b:valueAt (q :: qs) k=valueAt qs k:=by simp[valueAt,List.find?_cons,e']
   rw[fm e,b]; exact ih
def KV.any {bf:List (κ×V)}{vs:List (κ×Value)}(r:KV bf vs)(k:κ):(bf.any fun kv=>decide (kv.1=k))=vs.any fun kv=>decide (kv.1=k):=by
 unfold KV at r
 induction r with
 |nil=>rfl
 |cons h t ih=>rw[uG,uG,ih,h.1]
def KV.Py {bf:List (κ×V)}{vs:List (κ×Value)}(r:KV bf vs)(k:κ){y:V}{u:Value}(ry:RelV y u):
  KV (bf.map fun kv=>if kv.1=k then(kv.1,y) else kv) (vs.map fun kv=>if kv.1=k then(kv.1,u) else kv):=by
 unfold KV at r ⊢
 induction r with
 |nil=>exact .nil
 | @cons p q ps qs h t ih=>
  rw[de,de];refine .cons ?_ ih;obtain⟨h1,h2⟩:=h;by_cases e:p.1=k
  ·rw[a0 e,a0 (h1.symm.trans e)]; exact⟨h1,ry⟩
  ·rw[aQ e,aQ (fun z=>e (h1.trans z))]; exact⟨h1,h2⟩
def KV.put {bf:List (κ×V)}{vs:List (κ×Value)}(r:KV bf vs)(k:κ){y:V}{u:Value}(ry:RelV y u):KV (putK bf k y) (stored vs k u):=by
 unfold putK stored;rw[r.any k];by_cases e:(vs.any fun kv=>decide (kv.1=k))=true
 ·rw[a0 e,a0 e]; exact r.Py k ry
 ·rw[aQ e,aQ e]; exact cG r ⟨rfl,ry⟩
def KV.drop {bf:List (κ×V)}{vs:List (κ×Value)}(r:KV bf vs)(k:κ):KV (lL bf k) (without vs k):=by
 unfold KV at r ⊢;unfold lL without
 induction r with
 |nil=>exact .nil
 | @cons p q ps qs h t ih=>
  obtain⟨h1,h2⟩:=h;rw[List.filter_cons,List.filter_cons];by_cases e:p.1=k
  ·have a: ¬ decide (p.1≠k)=true:=by simp[e]
   have b: ¬ decide (q.1≠k)=true:=by simp[h1.symm.trans e]
   rw[aQ a,aQ b]; exact ih
  ·have e': ¬ q.1=k:=fun z=>e (h1.trans z);have a:decide (p.1≠k)=true:=by simp[e]
   have b:decide (q.1≠k)=true:=by simp[e']
   rw[a0 a,a0 b]; exact .cons ⟨h1,h2⟩ ih
def KV.length {bf:List (κ×V)}{vs:List (κ×Value)}(r:KV bf vs):bf.length=vs.length:=aM r
def JP (bf:List (κ×V))(k:κ):(lL bf k).length<=bf.length:=aZ _ _
end
def tZ {P:Program}{w:World}{k:Key}{u:Value}(r:RelV (kV k) u):(dF P w).is k u=true:=by
 cases k with
 |inl i=>obtain⟨t,e⟩:=(show ∃t,u=Value.int i t from r); subst e; exact BL P w i t
 |inr x=>obtain⟨t,e⟩:=(show ∃t,u=Value.str x t from r); subst e; exact BN P w x t
def yT {P:Program}{w:World}: ∀{ks:List Key} {us:List Value},Vals (ks.map kV) us->ItemsAre (dF P w) ks us
 |[],_,r=>by rw[xx] at r; cases r; exact .nil
 |k :: ks,_,r=>by
  rw[de] at r;cases r with
  |cons h t=>exact .cons (tZ h) (yT t)
abbrev KT (H:Hp):List (List Key×V)->List (List Key×Addr×Value)->Prop:=Paired fun p q=>p.1=q.1/\H q.2.1=some (.tup (p.1.map kV))/\RelV p.2 q.2.2
def KT.val {H:Hp}{bf:List (List Key×V)}{xs:List (List Key×Addr×Value)}(r:KT H bf xs)(k:List Key):kM (fQ bf k) ((atKey xs k).map (·.2)):=by
 induction r with
 |nil=>exact True.intro
 | @cons p q ps qs h t ih=>
  obtain⟨h1,_,h2⟩:=h;by_cases e:p.1=k
  ·have e':q.1=k:=h1.symm.trans e;have b:atKey (q :: qs) k=some q.2:=by simp[atKey,List.find?_cons,e']
   rw[fL e,b]; exact h2
  ·have e': ¬ q.1=k:=fun z=>e (h1.trans z);have b:atKey (q :: qs) k=atKey qs k:=by simp[atKey,List.find?_cons,e']
   rw[fm e,b]; exact ih
def KT.Py {H:Hp}{bf:List (List Key×V)}{xs:List (List Key×Addr×Value)}(r:KT H bf xs)(k:List Key){y:V}{u:Value}(ry:RelV y u):
  KT H (bf.map fun kv=>if kv.1=k then(kv.1,y) else kv) (xs.map (putAt k u)):=by
 induction r with
 |nil=>exact .nil
 | @cons p q ps qs h t ih=>
  rw[de,de];refine .cons ?_ ih;obtain⟨h1,h2,h3⟩:=h;unfold putAt;by_cases e:p.1=k
  ·rw[a0 e,a0 (h1.symm.trans e)]; exact⟨h1,h2,ry⟩
  ·rw[aQ e,aQ (fun z=>e (h1.trans z))]; exact⟨h1,h2,h3⟩
def KT.put {H:Hp}{bf:List (List Key×V)}{xs:List (List Key×Addr×Value)}(r:KT H bf xs)(k:List Key){b:Addr}{y:V}{u:Value}(hb:H b=some (.tup (k.map kV)))(ry:RelV y u):
  KT H (putK bf k y) (storedH xs k b u):=by
 have e:(bf.any fun kv=>decide (kv.1=k))=(atKey xs k).isSome:=by
  rw[nJ,(r.val k).lM,GL]
 unfold putK storedH;rw[e];by_cases q:(atKey xs k).isSome=true
 ·rw[a0 q,a0 q]; exact r.Py k ry
 ·rw[aQ q,aQ q]; exact cG r ⟨rfl,hb,ry⟩
def KT.keeps {H H':Hp}{bf:List (List Key×V)}{xs:List (List Key×Addr×Value)}(r:KT H bf xs)(ht: ∀b ys,H b=some (.tup ys)->H' b=some (.tup ys)):KT H' bf xs:=
 Paired.iu r fun _ _ z=>⟨z.1,ht _ _ z.2.1,z.2.2⟩
section
variable {P:Program}{w:World}{H:Hp}{h:Heap}{a:Addr}
def Ob {u:HO}(ok:o6 P w H h)(e:Rd H a u):dG P w H h a u:=e.ok ok
def ua {bf:List (Key×V)}(ok:o6 P w H h)(e:Rd H a (.dK bf)):bf.length<=sizeLine/\(a == sysModules)=false/\ ∃vs,KV bf vs/\h.DictOf (dF P w) a vs:=
 show dG P w H h a (.dK bf) from Ob ok e
def FG {bf:List (Key×V)}(ok:o6 P w H h)(e:H a=some (.dK bf)):bf.length<=sizeLine/\(a == sysModules)=false/\ ∃vs,KV bf vs/\h.DictOf (dF P w) a vs:=ua ok (.inl e)
def sT {ks:List Key}(ok:o6 P w H h)(e:H a=some (.tup (ks.map kV))):(tupleKind (dF P w)).is h ks a:=by
 obtain⟨_,b0,r,o,h1,h2,n,h3⟩:=(show dG P w H h a (.tup (ks.map kV)) from ok a _ e);exact⟨o,b0.toArray,n,h1,h2,h3,by simpa using yT r⟩
def vE {bf:List (List Key×V)}(ok:o6 P w H h)(e:Rd H a (.dT bf)):bf.length<=sizeLine/\(a == sysModules)=false/\
  ∃xs,KT H bf xs/\h.DictOfH (tupleKind (dF P w)) a xs:=by
 obtain⟨z,y,xs,r,o,es,ep,h1,h2,h3,h4,h5⟩:=(show dG P w H h a (.dT bf) from Ob ok e);refine⟨z,y,xs,r,o,es,ep,h1,h2,h3,h4,fun x hx=>?_,h5⟩;have all: ∀{l:List (List Key×V)} {m:List (List Key×Addr×Value)},KT H l m-> ∀x∈m,(tupleKind (dF P w)).is h x.1 x.2.1:=by
  intro l m q
  induction q with
  |nil=>intro x hx; exact nomatch hx
  | @cons p q ps qs hq t ih=>
   intro x hx;rcases aw.mp hx with e|hx
   ·subst e;exact sT ok (by rw[← hq.1]; exact hq.2.1)
   ·exact ih x hx
 exact all r x hx
def S8 {bf:List (List Key×V)}(ok:o6 P w H h)(e:H a=some (.dT bf)):bf.length<=sizeLine/\(a == sysModules)=false/\
  ∃xs,KT H bf xs/\h.DictOfH (tupleKind (dF P w)) a xs:=vE ok (.inl e)
end
def lu (H:Hp)(a:Addr)(y:V)(r:Option V):Prop:=
 (∃bf k,Rd H a (.dK bf)/\y=kV k/\r=fQ bf k)∨ ∃bf k b,Rd H a (.dT bf)/\y= .ref b/\H b=some (.tup (k.map kV))/\r=fQ bf k
def Ei (H:Hp)(a:Addr)(y v:V)(H':Hp):Prop:=
 (∃bf k,H a=some (.dK bf)/\y=kV k/\bf.length < sizeLine/\H'=upd H a (.dK (putK bf k v)))∨
 ∃bf k b,H a=some (.dT bf)/\y= .ref b/\H b=some (.tup (k.map kV))/\bf.length < sizeLine/\H'=upd H a (.dT (putK bf k v))
def lu.k {H:Hp}{a:Addr}{bf:List (Key×V)}{k:Key}(e:H a=some (.dK bf)):lu H a (kV k) (fQ bf k):= .inl ⟨bf,k,.inl e,rfl,rfl⟩
def Ei.k {H:Hp}{a:Addr}{bf:List (Key×V)}{k:Key}{v:V}(e:H a=some (.dK bf))(hl:bf.length < sizeLine):Ei H a (kV k) v (upd H a (.dK (putK bf k v))):= .inl ⟨bf,k,e,rfl,hl,rfl⟩
section
variable {X:Cx}{pins:List (Addr×Obj)}{σ:St}{H:Hp}{s:Shared}{a:Addr}{y v:V}{u r:Value}{o:Option V}{A:Around}{E:Value->Shared->Prop}
def Inv.big (I:Inv X pins σ H s):sysModules < s.heap.objs.size:=by
 have h:mainGlobals < s.heap.objs.size:=(I.mod.glob.keeps I.bk).lt;exact Nat.lt_trans (by decide) h
def G7 {Q:Value->Shared->Prop}(hu:A.units + 1 < cLine)(I:Inv X pins σ H s)(g:lu H a y (some v))(ry:RelV y u)(h: ∀w' s',Inv X pins σ H s'->RelV v w'->Q w' s'):
  wpAny (model X.prog X.w) A (getItem (.ref a) u) Q E s:=by
 rcases g with⟨bf,k,e,ey,l⟩|⟨bf,k,b,e,ey,eb,l⟩
 ·subst ey;obtain⟨z,hd,vs,rel,dd⟩:=ua I.b9 e;obtain⟨w',hw,Ec⟩:=kM.some_of (v:=v) (o:=valueAt vs k) (by rw[l]; exact rel.val k);exact wpAny_getItem_of (tZ ry) dd.mapOf hw (h w' _ (I.tok _) Ec)
 ·subst ey;cases(show u=Value.ref b from ry);obtain⟨z,hd,xs,rel,dd⟩:=vE I.b9 e;obtain⟨w',hw,Ec⟩:=kM.some_of (v:=v) (o:=(atKey xs k).map (·.2)) (by rw[l]; exact rel.val k);obtain⟨p,hp,uJ⟩:=bq.mp hw;refine wpAny_getItem_heap (l7 hu) (sT I.b9 eb) dd hp ?_;rw[uJ];exact h w' _ (I.tok _) Ec
def XG {Q:Value->Shared->Prop}(hu:A.units + 1 < cLine)(I:Inv X pins σ H s)(g:lu H a y o)(ry:RelV y u)(h: ∀s',Inv X pins σ H s'->Q (.bool o.isSome) s'):
  wpAny (model X.prog X.w) A (compareOp .In u (.ref a)) Q E s:=by
 rcases g with⟨bf,k,e,ey,l⟩|⟨bf,k,b,e,ey,eb,l⟩
 ·subst ey;obtain⟨z,hd,vs,rel,dd⟩:=ua I.b9 e;refine wpAny_in_of (tZ ry) hd dd.mapOf ?_;rw[← (rel.val k).lM,← l];exact h _ (I.tok _)
 ·subst ey;cases(show u=Value.ref b from ry);obtain⟨z,hd,xs,rel,dd⟩:=vE I.b9 e;refine wpAny_in_heap (l7 hu) (sT I.b9 eb) hd dd ?_;have q:=(rel.val k).lM;rw[GL] at q;rw[← q,← l];exact h _ (I.tok _)
def My {Q:Value->Shared->Prop}(hu:A.units + 1 < cLine)(I:Inv X pins σ H s)(g:lu H a y o)(ry:RelV y u)(h: ∀s',Inv X pins σ H s'->Q (.bool (!o.isSome)) s'):
  wpAny (model X.prog X.w) A (compareOp .NotIn u (.ref a)) Q E s:=by
 rcases g with⟨bf,k,e,ey,l⟩|⟨bf,k,b,e,ey,eb,l⟩
 ·subst ey;obtain⟨z,hd,vs,rel,dd⟩:=ua I.b9 e;refine wpAny_notIn_of (tZ ry) hd dd.mapOf ?_;rw[← (rel.val k).lM,← l];exact h _ (I.tok _)
 ·subst ey;cases(show u=Value.ref b from ry);obtain⟨z,hd,xs,rel,dd⟩:=vE I.b9 e;refine wpAny_notIn_heap (l7 hu) (sT I.b9 eb) hd dd ?_;have q:=(rel.val k).lM;rw[GL] at q;rw[← q,← l];exact h _ (I.tok _)
def uY {h':Heap}{t':Nat}{ob:HO}(I:Inv X pins σ H s)(mu:Sr (H a))(hs:Heap.SameBut a s.heap h')(he: ∃q,h'.get? a=some q)(new:dG X.prog X.w (upd H a ob) h' a ob):
  Inv X pins σ (upd H a ob) {s with heap:=h',toks:=t'}:=
 I.write (x:=a) (e:=a) mu (.inl rfl) (fun b q hb z=>(hs.2 b hb).trans z) he new
def zT {P:Program}{w:World}{H':Hp}{h':Heap}{bf:List (Key×V)}{vs:List (Key×Value)}(z:bf.length<=sizeLine)(hd:(a == sysModules)=false)(rel:KV bf vs)(dd:h'.DictOf (dF P w) a vs):
  dG P w H' h' a (.dK bf):=⟨z,hd,vs,rel,dd⟩
def G8 {H':Hp}{Q:Unit->Shared->Prop}(hu:A.units + 1 < cLine)(I:Inv X pins σ H s)(g:Ei H a y v H')(ry:RelV y u)(rv:RelV v r)(h: ∀s',Inv X pins σ H' s'->Q () s'):
  wpAny (model X.prog X.w) A (setItem (.ref a) u r) Q E s:=by
 rcases g with⟨bf,k,e,ey,l,eH⟩|⟨bf,k,b,e,ey,eb,l,eH⟩
 ·subst ey eH;obtain⟨z,hd,vs,rel,dd⟩:=FG I.b9 e;have hz:vs.length<=sizeLine:=by rw[← rel.length]; exact z
  have hl:(putK bf k v).length<=sizeLine:=by have:=jg bf k v; lia
  refine wpAny_setItem_pairs (hsz:=hz) (tZ ry) dd fun h' FH hs=>h _ ?_;have he: ∃q,h'.get? a=some q:=let⟨q,_,_,hq,_⟩:=FH; ⟨q,hq⟩
  exact uY I (by rw[e]; exact True.intro) hs he (zT hl hd (rel.put k rv) FH)
 ·subst ey eH;cases(show u=Value.ref b from ry);obtain⟨z,hd,xs,rel,dd⟩:=S8 I.b9 e;have hz:xs.length<=sizeLine:=by rw[← aM rel]; exact z
  have hl:(putK bf k v).length<=sizeLine:=by have:=jg bf k v; lia
  refine wpAny_setItem_heap (hsz:=hz) (l7 hu) (sT I.b9 eb) dd fun h' FH hs=>h _ ?_;obtain⟨q,es,ep,hq,h2,h3,h4,_,h5⟩:=FH;refine uY I (by rw[e]; exact True.intro) hs ⟨q,hq⟩ ⟨hl,hd,_,(rel.put k eb rv).keeps fun c ys ec=>?_,q,es,ep,hq,h2,h3,h4,h5⟩;rw[aB (mN ec e (fun z=>nomatch z))];exact ec
end
section
variable {X:Cx}{pins:List (Addr×Obj)}{σ:St}{H:Hp}{s:Shared}{a:Addr}{bf:List (Key×V)}{k:Key}{u:Value}{A:Around}{E:Value->Shared->Prop}
def S9 {v:V}{more:List Value}{Q:Value->Shared->Prop}(I:Inv X pins σ H s)(e:H a=some (.dK bf))(ry:RelV (kV k) u)(l:fQ bf k=some v)(hm:more=[]∨ ∃x,more=[x])
  (h: ∀w' s',Inv X pins σ (upd H a (.dK (lL bf k))) s'->RelV v w'->Q w' s'):wpAny (model X.prog X.w) A (call (.builtin "dict.pop") (.ref a :: u :: more)) Q E s:=by
 obtain⟨z,hd,vs,rel,dd⟩:=FG I.b9 e;obtain⟨w',hw,Ec⟩:=kM.some_of (v:=v) (o:=valueAt vs k) (by rw[← l]; exact rel.val k);have hp:(keyPart u).isSome=true:=by
  cases k with
  |inl i=>obtain⟨t,q⟩:=(show ∃t,u=Value.int i t from ry); subst q; rfl
  |inr x=>obtain⟨t,q⟩:=(show ∃t,u=Value.str x t from ry); subst q; rfl
 have ha:argsOk "dict.pop" ⟨.ref a :: u :: more,[]⟩:=by
  rcases hm with q|⟨x,q⟩
  ·subst q; exact PySem.F.args_dict_pop_2 _ _
  ·subst q; exact PySem.F.args_dict_pop_3 _ _ _
 refine RD PySem.F.slot_dict_pop dd.typeIs PySem.F.entry_dict_pop ha (meets_dict_pop_there (dF X.prog X.w) a (tZ ry) more hm hp)
  ⟨vs,w',dd,by rw[← rel.length]; exact z,hw,fun h' FH hs=>h w' _ ?_ Ec⟩
 have he: ∃q,h'.get? a=some q:=let⟨q,_,_,hq,_⟩:=FH; ⟨q,hq⟩
 exact uY I (by rw[e]; exact True.intro) hs he (zT (aR (JP bf k) z) hd (rel.drop k) FH)
end
def Ta (i:Expr):Prop:= ∀ov iv,subscripted i false ov iv=operate [ov,iv] (getItem ov iv)
def Mz {prog:Program}{w:World}{A:Around}{E:Value->Shared->Prop}{s:Shared}{env:Env}{value slice:Expr}{pos:Pos}{T id:String}{Q:Value->Shared->Prop}
  (hl:typeLookup (.type T) "__getitem__"=pure (some (.builtin id))) (hs:Ta slice)
  (h:wpAny (model prog w) A (eval value env) (fun o s₁=>wpAny (model prog w) A (eval slice env) (fun i s₂=>s₂.TypeIs o T/\wpAny (model prog w) A (getItem o i) Q E s₂) E s₁) E s):
  wpAny (model prog w) A (eval (.Subscript value slice pos) env) Q E s:=by
 refine Subscript_ (cm h (fun o s₁ h₁=>cm h₁ (fun i s₂ h₂=>?_) fun _ _ x=>x) fun _ _ x=>x);obtain⟨hT,h₂⟩:=h₂;unfold subscriptTail;refine aC ?_;rw[getitemInPython_of_ne hT.not_modules];refine aC (wpAny_specialOf hT hl ?_);have fin:wpAny (model prog w) A (subscripted slice false o i) (fun r s₃=>wpAny (model prog w) A (letTemporaryGo value o r >>=fun _=>pure r) Q E s₃) E s₂:=by
  rw[hs o i];exact wpAny_operating (cm h₂ (fun r s₃ h₃=>aC (wpAny_letTemporaryGo (bI h₃))) fun _ _ x=>x)
 first
  |exact bI (aC fin)
  |exact aC (bI (aC fin))
  |exact aC fin
def Cb {X:Cx}{pins:List (Addr×Obj)}{σ:St}{H:Hp}{s:Shared}{a:Addr}{y:V}{o:Option V}(I:Inv X pins σ H s)(g:lu H a y o):s.TypeIs (.ref a) "dict":=by
 rcases g with⟨bf,k,e,_,_⟩|⟨bf,k,b,e,_,_,_⟩
 ·obtain⟨_,_,vs,_,dd⟩:=ua I.b9 e;exact dd.typeIs
 ·obtain⟨_,_,xs,_,dd⟩:=vE I.b9 e;exact dd.typeIs
inductive EvD (x y:V)(H:Hp)(k:V->Prop):Prop
 |mk (a:Addr)(v:V)(h1:x= .ref a)(h2:lu H a y (some v))(q:k v):EvD x y H k
def Tc (td ty:TE):TE:=fun σ H Q=>td σ H fun x H1=>ty σ H1 fun y H2=>EvD x y H2 fun v=>Q v H2
def XH (ty td:TE):TE:=fun σ H Q=>ty σ H fun y H1=>td σ H1 fun x H2=> ∃a o,x= .ref a/\lu H2 a y o/\Q (.bl o.isSome) H2
def MA (ty td:TE):TE:=fun σ H Q=>ty σ H fun y H1=>td σ H1 fun x H2=> ∃a o,x= .ref a/\lu H2 a y o/\Q (.bl (!o.isSome)) H2
def Td (td ty tv:TE):TS:=fun D σ H=>tv σ H fun v H1=>td σ H1 fun x H2=>ty σ H2 fun y H3=> ∃a H4,x= .ref a/\Ei H3 a y v H4/\D.nx σ H4
section
variable {X:Cx}{o i e value:Expr}{pos pos' Pk:Pos}{td ty tv:TE}
def cF (hu:X.A.units + 1 < cLine)(ho:PE X o td)(hi:PE X i ty)(hs:Ta i):PE X (.Subscript o i pos) (Tc td ty):=by
 intro pins s σ H Q I h;refine Mz PySem.F.slot_dict_getitem.lookup hs (dS (ho pins s σ H _ I h) fun u s1 ⟨x,H1,I1,rx,q1⟩=>dS (hi pins s1 σ H1 _ I1 q1) fun iv s2 ⟨y,H2,I2,ry,a,v,ex,g,q2⟩=>?_);subst ex;obtain rfl:u=Value.ref a:=rx;exact⟨Cb I2 g,G7 hu I2 g ry fun w' s3 I3 Ec=>⟨v,H2,I3,Ec,q2⟩⟩
def Pz (hu:X.A.units + 1 < cLine)(hi:PE X i ty)(ho:PE X o td):PC X .In i o (XH ty td):=by
 intro pins s σ H Q I h;refine dS (hi pins s σ H _ I h) fun iv s1 ⟨y,H1,I1,ry,q1⟩=>dS (ho pins s1 σ H1 _ I1 q1) fun u s2 ⟨x,H2,I2,rx,a,ov,ex,g,q2⟩=>?_;subst ex;obtain rfl:u=Value.ref a:=rx;exact XG hu I2 g ry fun s3 I3=>⟨.bl ov.isSome,H2,I3,rfl,q2⟩
def G9 (hu:X.A.units + 1 < cLine)(hi:PE X i ty)(ho:PE X o td):PC X .NotIn i o (MA ty td):=by
 intro pins s σ H Q I h;refine dS (hi pins s σ H _ I h) fun iv s1 ⟨y,H1,I1,ry,q1⟩=>dS (ho pins s1 σ H1 _ I1 q1) fun u s2 ⟨x,H2,I2,rx,a,ov,ex,g,q2⟩=>?_;subst ex;obtain rfl:u=Value.ref a:=rx;exact My hu I2 g ry fun s3 I3=>⟨.bl (!ov.isSome),H2,I3,rfl,q2⟩
def zU (hu:X.A.units + 1 < cLine)(ho:PE X o td)(hi:PE X i ty)(hv:PE X value tv)(hs:swapsWith value (some (.Subscript o i pos')) pos.line X.env=pure false):
  PS X (.Assign [.Subscript o i pos'] value pos) (Td td ty tv):=by
 intro pins s σ H D I h;refine wpAny_Assign_Subscript (dS (hv pins s σ H _ I h) fun r s1 ⟨v,H1,I1,rv,q1⟩=>dS (ho pins s1 σ H1 _ I1 q1) fun u s2 ⟨x,H2,I2,rx,q2⟩=>dS (hi pins s2 σ H2 _ I2 q2) fun iv s3 ⟨y,H3,I3,ry,a,H4,ex,g,q3⟩=>?_) hs;subst ex;obtain rfl:u=Value.ref a:=rx;exact G8 hu I3 g ry rv fun s4 I4=>⟨σ,H4,I4,q3⟩
end
def Cc {P:Program}{w:World}{H:Hp}(h:Heap)(hb:sysModules < h.objs.size):dG P w H (h.push {cls:= .type "dict",data:= .dict #[]}) h.objs.size (.dK []):=
 ⟨bu _,gN.mpr (xu (a7 hb)),[],.nil,Heap.DictOf.new h⟩
def PB:TE:=fun _ H Q=> ∀p,H p=none->Q (.ref p) (upd H p (.dK []))
section
variable {X:Cx}{pos:Pos}
def vF:PE X (.Dict [] [] pos) PB:=fun pins s σ H Q I h=>
 wpAny_Dict_empty ⟨.ref s.heap.objs.size,_,I.laid (a:=s.heap.objs.size) (o:= .dK []) (t':=s.toks) (fun _ _ q=>az _ q) (aD _) (Cc s.heap I.big),rfl,h _ (I.b9.fresh (aD _))⟩
end
def Ej:List (TE×TE)->St->Hp->(List (V×V)->Hp->Prop)->Prop
 |[],_,H,Q=>Q [] H
 |(tk,tv) :: r,σ,H,Q=>tk σ H fun x H1=>tv σ H1 fun y H2=>Ej r σ H2 fun ps H3=>Q ((x,y) :: ps) H3
abbrev VV:List (V×V)->List (Value×Value)->Prop:=Paired fun p q=>RelV p.1 q.1/\RelV p.2 q.2
def MB (X:Cx)(pos:Pos)(keys:List (Option Expr))(values:List Expr)(MC:List (TE×TE)):Prop:=
 ∀(pins:List (Addr×Obj)) (s:Shared) (σ:St) (H:Hp) (Q:List (V×V)->Hp->Prop),Inv X pins σ H s->Ej MC σ H Q->
  wpAny (model X.prog X.w) X.A (evalPairs (pairTrees keys values X.env pos)) (fun vs s'=> ∃ps H',Inv X pins σ H' s'/\VV ps vs/\Q ps H') X.xe s
def MD {X:Cx}{pos:Pos}:MB X pos [] [] []:=fun pins s σ H Q I h=>pairTrees_nil_walk ⟨[],H,I,.nil,h⟩
def vG {X:Cx}{pos:Pos}{k v:Expr}{ks:List (Option Expr)}{vs:List Expr}{tk tv:TE}{MC:List (TE×TE)}(hk:PE X k tk)(hv:PE X v tv)(hr:MB X pos ks vs MC):
  MB X pos (some k :: ks) (v :: vs) ((tk,tv) :: MC):=fun pins s σ H Q I h=>
 pairTrees_cons_walk (dS (hk pins s σ H _ I h) fun u s1 ⟨x,H1,I1,rx,q1⟩=>dS (hv pins s1 σ H1 _ I1 q1) fun w2 s2 ⟨y,H2,I2,ry,q2⟩=>
  dS (hr pins s2 σ H2 _ I2 q2) fun ws s3 ⟨ps,H3,I3,rel,q3⟩=>⟨(x,y) :: ps,H3,I3,.cons ⟨rx,ry⟩ rel,q3⟩)
def qk (bf more:List (Key×V)):List (Key×V):=more.foldl (fun acc kv=>putK acc kv.1 kv.2) bf
def KV.merge: ∀{more:List (Key×V)} {rs:List (Key×Value)} {bf:List (Key×V)} {vs:List (Key×Value)},KV more rs->KV bf vs->KV (qk bf more) (merged vs rs):=by
 intro more rs bf vs r;unfold KV at r
 induction r generalizing bf vs with
 |nil=>intro q; exact q
 | @cons p q ps qs h t ih=>
  intro r0;have e:KV (putK bf p.1 p.2) (stored vs q.1 q.2):=by
   have:=r0.put p.1 h.2;rw[← h.1]; exact this
  exact ih e
def pF: ∀(more bf:List (Key×V)),(qk bf more).length<=bf.length + more.length
 |[],bf=>by show bf.length<=bf.length + 0; lia
 |p :: r,bf=>by
  have h1:=pF r (putK bf p.1 p.2);have h2:=jg bf p.1 p.2;show(qk (putK bf p.1 p.2) r).length<=_;rw[bJ]; lia
def vH {P:Program}{w:World}: ∀{bf:List (Key×V)} {ws:List (Value×Value)},VV (bf.map fun kv=>(kV kv.1,kv.2)) ws-> ∃rs,Carries (dF P w) ws rs/\KV bf rs
 |[],_,r=>by rw[xx] at r; cases r; exact⟨[],True.intro,.nil⟩
 |p :: bf,_,r=>by
  rw[de] at r;cases r with
  | @cons a b as bs h t=>
   obtain⟨rs,c,q⟩:=vH (P:=P) (w:=w) t;obtain⟨b1,b2⟩:=b;exact⟨(p.1,b2) :: rs,⟨tZ h.1,rfl,c⟩,.cons ⟨rfl,h.2⟩ q⟩
def Te (MC:List (TE×TE)):TE:=fun σ H Q=> ∀p,H p=none->Ej MC σ (upd H p (.dK [])) fun ps H2=>H2 p=some (.dK [])/\ ∃bf:List (Key×V),ps=bf.map (fun kv=>(kV kv.1,kv.2))/\bf.length<=15/\Q (.ref p) (upd H2 p (.dK (qk [] bf)))
def ME {X:Cx}{pos:Pos}{keys:List (Option Expr)}{values:List Expr}{MC:List (TE×TE)}(h:MB X pos keys values MC)(PD:keys.all (·.isSome)=true)(hl:keys.length=values.length)(h0:keys≠[])
  (XI:keys.length<=15):PE X (.Dict keys values pos) (Te MC):=by
 intro pins s σ H Q I q;have hn:=I.b9.fresh (aD s.heap.objs.size);have I1:=I.laid (a:=s.heap.objs.size) (o:= .dK []) (h':=s.heap.push {cls:= .type "dict",data:= .dict #[]}) (t':=s.toks) (fun _ _ q=>az _ q) (aD _) (Cc s.heap I.big);refine wpAny_Dict_walk (knd:=dF X.prog X.w) PD hl h0 XI (dS (h pins _ σ _ _ I1 (q _ hn)) fun ws s2 ⟨ps,H2,I2,rel,e,bf,ep,lk,q2⟩=>?_);subst ep;obtain⟨rs,c,rk⟩:=vH (P:=X.prog) (w:=X.w) rel;obtain⟨z,hd,Tf,r0,dd⟩:=FG I2.b9 e;cases r0;refine⟨rs,c,dd,fun h' FH hs=>⟨.ref s.heap.objs.size,_,?_,rfl,q2⟩⟩;have hz:(qk [] bf).length<=sizeLine:=by
  have h1:=pF bf [];rw[xA] at h1;rw[eX]; lia
 have he: ∃q,h'.get? s.heap.objs.size=some q:=let⟨q,_,_,hq,_⟩:=FH; ⟨q,hq⟩
 exact uY I2 (by rw[e]; exact True.intro) hs he (zT hz hd (rk.merge .nil) FH)
structure M1 (X:Cx)(o:Expr)(m:Str)(apos:Pos)(e:Expr)(fJ:Pos):Prop where
 base:attributeBase o m X.env (eval o X.env)=eval o X.env
 XJ:((backTo fJ (starEach [e] X.env)).all (fun x=> !x.1) && (backToKw fJ (keywordEach [] X.env)).all (fun x=>x.1.isSome)
  && decide (([e]:List Expr).length + ([]:List Keyword).length + (if([]:List Keyword).isEmpty then 0 else 1) < 30))=true
 line:(apos.endLine == fJ.line)=true
 trees:backTo fJ (starEach [e] X.env)=[(false,eval e X.env)]
structure M2 (X:Cx)(o:Expr)(m:Str)(apos:Pos)(e f:Expr)(fJ:Pos):Prop where
 base:attributeBase o m X.env (eval o X.env)=eval o X.env
 XJ:((backTo fJ (starEach [e,f] X.env)).all (fun x=> !x.1) && (backToKw fJ (keywordEach [] X.env)).all (fun x=>x.1.isSome)
  && decide (([e,f]:List Expr).length + ([]:List Keyword).length + (if([]:List Keyword).isEmpty then 0 else 1) < 30))=true
 line:(apos.endLine == fJ.line)=true
 trees:backTo fJ (starEach [e,f] X.env)=[(false,eval e X.env),(false,eval f X.env)]
def XM (H:Hp)(a:Addr):Prop:=(∃bf,Rd H a (.dK bf))∨ ∃bf,Rd H a (.dT bf)
def JQ {X:Cx}{pins:List (Addr×Obj)}{σ:St}{H:Hp}{s:Shared}{a:Addr}(I:Inv X pins σ H s)(d:XM H a):
  s.TypeIs (.ref a) "dict"/\(∀b,Value.ref a= .ref b-> ∃ob,s.heap.get? b=some ob/\ob.dict=none)/\(a == sysModules)=false:=by
 rcases d with⟨bf,e⟩|⟨bf,e⟩
 ·obtain⟨_,hd,vs,_,dd⟩:=ua I.b9 e;refine⟨dd.typeIs,fun b q=>?_,hd⟩;cases q;obtain⟨ob,_,_,h1,h2,_⟩:=dd;exact⟨ob,h1,h2.2.1⟩
 ·obtain⟨_,hd,xs,_,dd⟩:=vE I.b9 e;refine⟨dd.typeIs,fun b q=>?_,hd⟩;cases q;obtain⟨ob,_,_,h1,h2,_⟩:=dd;exact⟨ob,h1,h2.2.1⟩
section
variable {X:Cx}{pins:List (Addr×Obj)}{σ:St}{H:Hp}{s:Shared}{a:Addr}{y d:V}{u r:Value}{o:Option V}{A:Around}{E:Value->Shared->Prop}
def PF {Q:Value->Shared->Prop}(hu:A.units + 1 < cLine)(I:Inv X pins σ H s)(g:lu H a y o)(ry:RelV y u)(rd:RelV d r)(h: ∀w' s',Inv X pins σ H s'->RelV (o.getD d) w'->Q w' s'):
  wpAny (model X.prog X.w) A (call (.builtin "dict.get") [.ref a,u,r]) Q E s:=by
 rcases g with⟨bf,k,e,ey,l⟩|⟨bf,k,b,e,ey,eb,l⟩
 ·subst ey;obtain⟨z,hd,vs,rel,dd⟩:=ua I.b9 e;refine RD xB dd.typeIs PySem.F.entry_dict_get (PySem.F.args_dict_get_3 _ _ _) (meets_dict_get_default (dF X.prog X.w) a (tZ ry) hd r) ⟨_,dd.mapOf,h _ _ (I.tok _) ?_⟩;rw[l];exact(rel.val k).getD rd
 ·subst ey;cases(show u=Value.ref b from ry);obtain⟨z,hd,xs,rel,dd⟩:=vE I.b9 e;refine RD xB dd.typeIs PySem.F.entry_dict_get (PySem.F.args_dict_get_3 _ _ _) (meetsH_dict_get_default (tupleKind (dF X.prog X.w)) a b hd r) ⟨l7 hu,k,xs,sT I.b9 eb,dd,h _ _ (I.tok _) ?_⟩;rw[l];exact(rel.val k).getD rd
end
def PH (td ty tx:TE):TE:=fun σ H Q=>td σ H fun x H1=> ∃a,x= .ref a/\XM H1 a/\ty σ H1 fun y H2=>tx σ H2 fun z H3=> ∃o,lu H3 a y o/\Q (o.getD z) H3
def PJ (td ty:TE):TE:=fun σ H Q=>td σ H fun x H1=> ∃a,x= .ref a/\XM H1 a/\ty σ H1 fun y H2=> ∃bf k v,H2 a=some (.dK bf)/\y=kV k/\fQ bf k=some v/\Q v (upd H2 a (.dK (lL bf k)))
section
variable {X:Cx}{o e f:Expr}{apos fJ:Pos}{td ty tx:TE}
def JR (hu:X.A.units + 1 < cLine)(ho:PE X o td)(he:PE X e ty)(hf:PE X f tx)(m:M2 X o "get" apos e f fJ):PE X (.Call (.Attribute o "get" apos) [e,f] [] fJ) (PH td ty tx):=by
 intro pins s σ H Q I h;refine wpAny_Call_method m.base m.XJ m.line uH xB PySem.F.type_dict_get (dS (ho pins s σ H _ I h) fun u s1 ⟨x,H1,I1,rx,a,ex,d,q1⟩=>?_);subst ex;obtain rfl:u=Value.ref a:=rx;obtain⟨t1,t2,_⟩:=JQ I1 d;refine⟨t1,t2,?_⟩;rw[m.trees];refine gi rfl (qJ (uW (dS (he pins s1 σ H1 _ I1 q1) fun iv s2 ⟨y,H2,I2,ry,q2⟩=>
  uW (dS (hf pins s2 σ H2 _ I2 q2) fun fv s3 ⟨z,H3,I3,rz,ov,g,q3⟩=>OU ?_))))
 exact PF hu I3 g ry rz fun w' s4 I4 Ec=>⟨_,H3,I4,Ec,q3⟩
def JS (ho:PE X o td)(he:PE X e ty)(m:M1 X o "pop" apos e fJ):PE X (.Call (.Attribute o "pop" apos) [e] [] fJ) (PJ td ty):=by
 intro pins s σ H Q I h;refine wpAny_Call_method m.base m.XJ m.line uH PySem.F.slot_dict_pop PySem.F.type_dict_pop (dS (ho pins s σ H _ I h) fun u s1 ⟨x,H1,I1,rx,a,ex,d,q1⟩=>?_);subst ex;obtain rfl:u=Value.ref a:=rx;obtain⟨t1,t2,_⟩:=JQ I1 d;refine⟨t1,t2,?_⟩;rw[m.trees];refine gi rfl (qJ (uW (dS (he pins s1 σ H1 _ I1 q1) fun iv s2 ⟨y,H2,I2,ry,bf,k,v,ea,ey,l,q2⟩=>OU ?_)));subst ey;exact S9 I2 ea ry l (.inl rfl) fun w' s3 I3 Ec=>⟨v,_,I3,Ec,q2⟩
end
section
variable {X:Cx}{pins:List (Addr×Obj)}{σ:St}{H:Hp}{s:Shared}{a:Addr}{bf:List (Key×V)}{A:Around}{E:Value->Shared->Prop}
def JT {Q:Value->Shared->Prop}(I:Inv X pins σ H s)(e:Rd H a (.dK bf))(h: ∀p s',H p=none->Inv X pins σ (upd H p (.dK bf)) s'->Q (.ref p) s'):wpAny (model X.prog X.w) A (call (.type "dict") [.ref a]) Q E s:=by
 obtain⟨z,hd,vs,rel,dd⟩:=ua I.b9 e;refine kt_call_dict hd dd (by rw[← rel.length]; exact z) fun h' FH hs=>?_;refine h _ _ (I.b9.fresh (aD _)) (I.laid (a:=s.heap.objs.size) (o:= .dK bf) (t':=s.toks) (fun b q hq=>?_) (aD _) (zT z (gN.mpr (xu (a7 I.big))) rel FH));exact(hs.2 b (a7 (aN hq))).trans (az _ hq)
end
section
variable {X:Cx}{pins:List (Addr×Obj)}{σ:St}{H:Hp}{s:Shared}{a:Addr}{y:V}{u:Value}{A:Around}{E:Value->Shared->Prop}
end
end L2
namespace Att
open PySem PySem.W PySem.Calls PyProof.Rows
def uK {P:Params}{h:Heap}: ∀(ns:List Int) (vs:List Value),WellAll P h vs (ns.map WData.int)->IntsAre vs ns:=by
 intro ns
 induction ns with
 |nil=>
  intro vs w;rw[xx] at w;cases w;exact .nil
 |cons n ns ih=>
  intro vs w;rw[de] at w;cases w with
  |cons a b=>
   cases a;exact .cons _ _ (ih _ b)
def Hb {l:OpenLaw}{n:Nat}(hn:l.most=some n){P:Params}{h:Heap}{args:List WData}{vals:List Value}
  (MF:l.row.toRowW.claim.pre args=true) (Jb:WellAll P h vals args):
  ∃a vs ns,vals=[Value.ref a]/\args=[WData.list (ns.map WData.int)]/\h.get? a=some {cls:= .type "list",data:= .seq vs.toArray}/\IntsAre vs ns/\ns.length<=n:=by
 have hsh:WShape.hasAll [] args [.list .int]=true:=(pre_splitW MF).1;have hc:l.pre.holds [] {args:=args}=true:=(pre_splitW MF).2;obtain⟨d,r,rfl,h1,h2⟩:=hasAllW_cons hsh;obtain rfl:=hasAllW_nil h2;obtain⟨xs,rfl,h3⟩:=hasW_list h1;obtain⟨ns,rfl⟩:=items_int h3;have hlen:ns.length<=n:=by
  unfold OpenLaw.pre at hc;have h4:(WTm.not (.lt (.lit (.int (n:Int))) (.len (.arg 0)))).holds [] {args:=[.list (ns.map .int)]}=true:=by
   have h4:=(holds_andW hc).1;rw[hn] at h4;exact h4
  have h5:=condW_of h4 (w_not (w_lt w_lit (w_len_list (w_arg rfl))));rw[ae] at h5;refine Nat.le_of_not_lt fun q=>?_;have q':(n:Int) < ((ns.length:Nat):Int):=by lia
  first
   |(rw[aH q'] at h5; exact absurd h5 (by decide))
   |(simp at h5; lia)
 cases Jb with
 |cons w1 w2=>
  cases w2;cases w1 with
  |list ho PD=>exact⟨_,_,ns,rfl,rfl,ho,uK ns _ PD,hlen⟩
def Hc (l:OpenLaw)(args:List WData):l.row.toRowW.claim.post args (.bool true) args=true:=
 postW_of (r:=l.row.toRowW) (X:=(true == true))
  (show WShape.has [] (.bool true) .bool=true by first|rfl|decide|simp[WShape.has,WShape.arms,WShape.armsAll])
  (show(WTm.eq .res (.lit (.bool true))).value [] {args:=args,res:=some (.bool true),after:=args}=some (.bool (true == true)) from w_eq_bool (w_res rfl) w_lit) rfl
def Cd {l:OpenLaw}{n:Nat}{q:Program}{loose:List Str}{XP:(Str->Option Value)->Heap->Prop}{YP:World->Heap->Prop}{d:DefRec}
  (hn:l.most=some n) (XN:d.params.defaults=[])
  (call: ∀(w:World) (s₀ s₁:Shared) (mg mb:Str->Option Value) (fa:Addr) (o:Obj) (pm cd doc:Value) (a:Addr) (vs:List Value) (ns:List Int),
   Ground q loose [] XP w s₀ mg mb s₁.heap->YP w s₁.heap->
   s₁.heap.get? fa=some o->o.data= .func (docDef d.name d.params d.body d.scope pm cd doc)->s₁.heap.CodeRec cd d.name->mg d.name=some (.ref fa)->
   s₁.heap.get? a=some {cls:= .type "list",data:= .seq vs.toArray}->IntsAre vs ns->ns.length<=n->s₁.gens= #[]->
   codeAny (model l.prog w) callerA (.call (.ref fa) ⟨[.ref a],[]⟩) (fun r s'=>r= .ok (.ret (.bool true))/\OldK s₁.heap s'.heap/\s'.os=s₁.os/\AllBare s'.gens) s₁):
  WalkO q loose XP YP l.row.toRowW d [] (fun f vs=>PySem.call f vs):=by
 intro w s₀ s₁ mg mb G Y fa o pm cd doc dV kV ho hd sD hD Tg hg args vals as MF acH hrd Jb hlo;obtain rfl:dV= .none:=Dflts.none hD XN;obtain rfl:kV= .none:=Dflts.noKw hD;obtain⟨a,vs,ns,rfl,rfl,PL,hints,hlen⟩:=Hb hn MF Jb;refine enter_call (DX (call w s₀ s₁ mg mb fa o pm cd doc a vs ns G Y ho (fd_plain hd) sD Tg PL hints hlen hg) fun r s' hq=>?_);obtain⟨rfl,h2,h3,h4⟩:=hq;exact⟨.inl ⟨.bool true,.bool true,[],rfl,fun _=>rfl,.bool true,Hc l _,fun _=>⟨List.Pairwise.nil,fun _ hm=>(nomatch hm)⟩⟩,h2,h3,h4⟩
section
variable {prog:Program}{w:World}{A:Around}{E:Value->Shared->Prop}{s:Shared}{K:Frag}
end
end Att
namespace L2
open PySem PySem.Spec PyProof.Rows
def yU: ∀{vs:List Value} {ns:List Int},IntsAre vs ns->Vals (ns.map V.int) vs
 |_,_,.nil=> .nil
 |_,_,.cons n t h=> .cons ⟨t,rfl⟩ (yU h)
def gG (s:Stmt):Arguments:=match s with
 | .FunctionDef _ a _ _ _ _ _ _ _ _=>a
 |_=>{posonlyargs:=[],args:=[],vararg:=none,kwonlyargs:=[],kw_defaults:=[],kwarg:=none,defaults:=[]}
def dH (s:Stmt):List Stmt:=match s with
 | .FunctionDef _ _ b _ _ _ _ _ _ _=>b
 |_=>[]
def aA (s:Stmt):Scope:=match s with
 | .FunctionDef _ _ _ _ _ _ sc _ _ _=>sc
 |_=>{kind:= .function,names:=[],isGenerator:=false,isCoroutine:=false}
abbrev sU:Fx:=fun _ _ _ _ _ _=>False
abbrev E0:XK:=fun _ _ _=>False
def nK {X:Cx}:Passes sU X E0:=fun _ _ _ _ _ _ _ h=>h.elim
structure gu (K:Frag)(x qual:Str)(st:Stmt)(f:Addr)(fd:FuncData):Prop where
 ex: ∃(oc:Value) (od:Option Addr) (kV doc pm:Value) (an:Option Addr) (cV ct:Value) (G5:Array (Option Value)),
  fd=fnOf x qual (gG st) (dH st) (aA st) .none kV doc pm an cV ct/\K.lookup f=some ⟨oc,od,.func fd,G5⟩/\codeIn K cV qual=true
 kp:keepIn K (.ref f)=true
section
variable {P:Program}{w:World}{K:Frag}{mg:Str->Option Value}{base:Heap}
def gu.ok {x qual:Str}{st:Stmt}{f:Addr}{fd:FuncData}{N ps:List Str}{k:Nat}{sp:Sp}(F:gu K x qual st f fd)(S:aV N ps (aA st))(len: ∀vs H Q E,sp vs H Q E->vs.length=ps.length)
  (fW: ∀(cV:Value) (A:Around) (outer:List Env) (s:Shared) (H:Hp) (vs:List V) (Q:VK) (E:XK),eY k (A.deeper (envOfC qual (aA st) s.heap.objs.size f cV))->sp vs H Q E->
   ∃t,pC (lq sU P w K mg base N qual (aA st) f cV A outer s H E).D4 (dH st) t/\t {nx:=fun _ H'=>Q .en H',rt:=Q} (start N vs) H):mf P w K mg base sU (k + 1) f fd ps sp:=by
 obtain⟨oc,od,kV,doc,pm,an,cV,ct,G5,rfl,lk,sD⟩:=F.ex;refine JH lk sD S len fun A outer s H vs Q E hr xG=>?_;obtain⟨t,h,q⟩:=fW cV A outer s H vs Q E hr xG;exact⟨t,h.D4,q⟩
def gu.binds {x qual:Str}{st:Stmt}{f:Addr}{fd:FuncData}{ps:List Str}(F:gu K x qual st f fd)
  (h: ∀(kV doc pm:Value) (an:Option Addr) (cV ct:Value) (us:List Value),us.length=ps.length->bindArgs (fnOf x qual (gG st) (dH st) (aA st) .none kV doc pm an cV ct) ⟨us,[]⟩=pure (ps.zip us)):Binds K fd ps []:=by
 obtain⟨oc,od,kV,doc,pm,an,cV,ct,G5,rfl,lk,sD⟩:=F.ex;exact .all (h kV doc pm an cV ct)
def ql {x qual:Str}{st:Stmt}{f:Addr}{oc:Value}{od an:Option Addr}{G5:Array (Option Value)}{kV doc pm cV ct:Value}(l:K.lookup f=some ⟨oc,od,.func (fnOf x qual (gG st) (dH st) (aA st) .none kV doc pm an cV ct),G5⟩)
  (c:codeIn K cV qual=true) (k:keepIn K (.ref f)=true):gu K x qual st f (fnOf x qual (gG st) (dH st) (aA st) .none kV doc pm an cV ct):=⟨⟨oc,od,kV,doc,pm,an,cV,ct,G5,rfl,l,c⟩,k⟩
end
def jy {A:Around}{k:Nat}(hr:eY k A):A.units + 1 < cLine:=qK (Nat.add_le_add_left (by decide:1<=64) _) hr.units
def a9 {n:Nat}(h:n<=1000):n < sizeLine:=qK h (by decide)
section
variable {X:Cx}
def pv (i:Nat){x:Str}{pos:Pos}(hN:X.N[i]? =some x:=by rfl)(hv:Su X.env.scope x:=by first|exact Or.inl rfl|exact Or.inr (Or.inl rfl)|exact Or.inr (Or.inr rfl))(hd:(x == ("__debug__":Str))=false:=by decide)
  (sD:(x == ("__classdict__":Str))=false:=by decide):PE X (.Name x pos) (Sx i):=D0 hN hv hd sD
end
def bV {A B:Prop}(h:B):if false=true then A else B:=by
 rw[aQ aX];exact h
def fH {A B:Prop}(h:A):if true=true then A else B:=by
 rw[a0 rfl];exact h
def cE {c A B:Prop}[Decidable c](h1:c->A)(h2: ¬ c->B):if c then A else B:=by
 by_cases h:c
 ·rw[a0 h];exact h1 h
 ·rw[aQ h];exact h2 h
def Ce {c A B:Prop}[Decidable c](hc:c)(h:B):if(!decide c)=true then A else B:=by
 rw[aH hc];exact bV h
def ay (H H':Hp):Prop:= ∀b o,H b=some o->H' b=some o
def ay.refl (H:Hp):ay H H:=fun _ _ h=>h
def ay.trans {H H1 H2:Hp}(a:ay H H1)(b:ay H1 H2):ay H H2:=fun c o h=>b c o (a c o h)
def ay.free {H H':Hp}(e:ay H H'){l:Addr}(h:H' l=Option.none):H l=Option.none:=by
 cases q:H l with
 |none=>rfl
 |some o=>
  rw[e l o q] at h;cases h
def ay.seq {K:Frag}{H H':Hp}{a:Addr}{xs:List V}(e:ay H H')(h:bD K H a xs):bD K H' a xs:=by
 rcases h with(h|⟨o,h⟩)|h
 ·exact .inl (.inl (e _ _ h))
 ·exact .inl (.inr ⟨o,e _ _ h⟩)
 ·exact .inr h
section
variable {X:Cx}
end
section
variable {κ:Type}[DecidableEq κ]
end
def Hd {prog:Program}{w:World}{A:Around}{R:Result->Shared->Prop}{s:Shared}{elt target iter:Expr}{ifs:List Expr}{scope:Scope}{pos:Pos}{it acc:Value}{env:Env}(I:Nat->Shared->Prop)
  (turn: ∀n s,I n s->wpAny (model prog w) A (pyNext it) (fun r s₁=>match r with
   |none=>R (.ok .next) s₁
   |some v=>wpAny (model prog w) A (letOwnedTupleGo target it v) (fun _ s₁'=>wpAny (model prog w) A (assign target env v) (fun _ s₂=>
     wpAny (model prog w) A (forIn ifs true fun c r=>if r=true then do let ok ← isTrue c env (eval c env); pure (ForInStep.yield ok) else pure (ForInStep.yield r)) (fun ok s₃=>
      if ok=true then wpAny (model prog w) A (eval elt env) (fun x s₄=>
       wpAny (model prog w) A (call (.builtin "list.append") [acc,x]) (fun _ s₅=> ∃m,m < n/\I m s₅) (fun _ _=>False) s₄) (fun _ _=>False) s₃
      else ∃m,m < n/\I m s₃) (fun _ _=>False) s₂) (fun _ _=>False) s₁') (fun _ _=>False) s₁) (fun _ _=>False) s)
  (n:Nat) (h:I n s):
  codeAny (model prog w) A (.compLoop (.ListComp elt [⟨target,iter,ifs,0⟩] scope pos) 0 it acc env) R s:=by
 refine codeAny_loop rfl I (fun n s hI=>?_) n h;show wpAny _ A ((compTurn (.ListComp elt [⟨target,iter,ifs,0⟩] scope pos) 0 it acc env).onRaise (fun x=>do noteFrame x env; theTreesLotGoes x)) _ _ s;refine wpAny_noted ?_;rw[compTurn_list];refine aC (ir (aC (cm (turn n s hI) (fun r s₁ h₁=>?_) fun _ _ h'=>h'.elim)));cases r with
 |none=>exact bI h₁
 |some v=>
  refine aC (cm h₁ (fun _ s₁' h₁'=>?_) fun _ _ h'=>h'.elim);refine aC (cm h₁' (fun _ s₂ h₂=>aC (cm h₂ (fun ok s₃ h₃=>?_) fun _ _ h'=>h'.elim)) fun _ _ h'=>h'.elim);cases ok with
  |false=>exact bI ⟨rfl,h₃⟩
  |true=>
   exact aC (aC (cm h₃ (fun x s₄ h₄=>aC (cm h₄ (fun _ s₅ h₅=>bI (bI ⟨rfl,h₅⟩)) fun _ _ h'=>h'.elim)) fun _ _ h'=>h'.elim))
def Cf (X:Cx)(N:List Str)(scope:Scope)(cl:List (Str×Addr))(C:Addr)(s3:Shared)(H3:Hp)(fp:List Addr):Cx:=
 {X with N:=N,s₀:=s3,H₀:=H3,env:=compEnvC scope cl C X.env,outer:=X.stack,stack:=X.stack,ex:=fp,fn:=fun _=>false,pn:=[],xe:=fun _ _=>False}
def LR (X:Cx)(ifs:List Expr)(t:TT):Prop:=
 ∀(pins:List (Addr×Obj)) (s:Shared) (σ:St) (H:Hp) (Q:Bool->Hp->Prop),Inv X pins σ H s->t σ H Q->
  wpAny (model X.prog X.w) X.A (forIn ifs true fun c r=>if r=true then do let ok ← isTrue c X.env (eval c X.env); pure (ForInStep.yield ok) else pure (ForInStep.yield r)) (TP X pins σ Q) X.xe s
def XO:TT:=fun _ H Q=>Q true H
def mm {X:Cx}:LR X [] XO:=fun pins s σ H Q I h=>wpAny_tests_nil ⟨H,I,h⟩
def nL {X:Cx}{c:Expr}{t:TT}(h:PT X c t):LR X [c] t:=fun pins s σ H Q I hw=>wpAny_tests_one (h pins s σ H Q I hw)
def yV (J:It)(g:TG)(tc:TT)(te:TE)(σ0:St)(H2:Hp)(Q:VK):Prop:=
 ∀D,H2 D=none-> ∃W:Nat->Nat->St->Hp->Prop,(∃m,W 0 m σ0 (upd H2 D (.lst [])))/\ ∀i m σ' H',W i m σ' H'->
  (J.stop i H'/\Q (.ref D) H')∨(J.go i H'/\ ∃N:St->Hp->Prop,(∀MG Cg,N MG Cg-> ∃m',m' < m/\W (i + 1) m' MG Cg)/\
   ∀x Cg,J.RH i H' x Cg->g x σ' Cg fun σ2 H2=>tc σ2 H2 fun ok H3=>if ok=true then te σ2 H3 fun y H4=> ∃ys,H4 D=some (.lst ys)/\ys.length < sizeLine/\N σ2 (upd H4 D (.lst (ys ++ [y]))) else N σ2 H3)
structure sV (X:Cx)(scope:Scope)(cl:List (Str×Addr))(cn:List Str)(cj:List Nat):Prop where
 He:closureFor scope X.env=pure cl
 cell: ∀y∈scope.names,y.2≠ .cell
 kind:scope.kind= .function
 names: ∀x∈scope.names,x.2= .local->scope.names.lookup x.1=some .local
 sub: ∀x c,cl.lookup x=some c->X.env.cells.lookup x=some c
 all: ∀x,((relabel scope X.env).names.lookup x=some .cell∨(relabel scope X.env).names.lookup x=some .free)-> ∃c,cl.lookup x=some c
 cap:Paired (fun x j=>X.N[j]? =some x/\(X.env.kindOf x=some .cell∨X.env.kindOf x=some .free)/\((relabel scope X.env).names.lookup x=some .cell∨(relabel scope X.env).names.lookup x=some .free)) cn cj
def bL {α β:Type}{F:α->β->Prop}: ∀{l₁:List α} {l₂:List β} {i:Nat} {a:α},Paired F l₁ l₂->l₁[i]? =some a-> ∃b,l₂[i]? =some b/\F a b
 |_,_,_,_,.nil,e=>by simp at e
 |_,_,0,_,.cons r _,e=>by simp at e; subst e; exact⟨_,rfl,r⟩
 |_,_,i + 1,a,.cons _ t,e=>by
  obtain⟨b,h1,h2⟩:=bL (i:=i) (a:=a) t (by simpa using e);exact⟨b,by simpa using h1,h2⟩
def vI (tn:List Str)(cj:List Nat)(σ:St):St:=tn.map (fun _=>none) ++ cj.map fun j=>(σ[j]?).join
def vJ {X:Cx}{pins:List (Addr×Obj)}{σ:St}{H2:Hp}{s2:Shared}{elt tg iter:Expr}{ifs:List Expr}{scope:Scope}{pos:Pos}{cl:List (Str×Addr)}{tn cn:List Str}{cj:List Nat}{g:TG}{tc:TT}{te:TE}
  {it:Addr} {fp:List Addr} {PM:Nat->Heap->Prop} {J:It} {RR:Value->Addr->Result->Shared->Prop} {E:Value->Shared->Prop} {Q:VK}
  (yW:X.calm=true) (S:sV X scope cl cn cj)
  (hg: ∀C s3 H3 fp,PG (Cf X (tn ++ cn) scope cl C s3 H3 fp) tg g) (hc: ∀C s3 H3 fp,LR (Cf X (tn ++ cn) scope cl C s3 H3 fp) ifs tc) (he: ∀C s3 H3 fp,PE (Cf X (tn ++ cn) scope cl C s3 H3 fp) elt te)
  (I2:Inv X pins σ H2 s2) (T:Turn X.prog X.w X.K tg J fp it PM) (N8:PM 0 s2.heap) (f2: ∀b∈fp,vw X pins H2 b)
  (hw:yV J g tc te (vI tn cj σ) H2 Q)
  (hRR: ∀D C (s':Shared) H' m',Inv X pins σ H' s'->vw X pins H' C->s'.heap.Ns C m'->Q (.ref D) H'->RR (.ref D) C (.ok .next) s'):
  wpAny (model X.prog X.w) X.A (newList []) (fun acc s₃=>wpAny (model X.prog X.w) X.A (newFunctionEnv scope X.env.globals cl [] X.env.qual none .none (some X.env)) (fun Th s₄=>
   codeAny (model X.prog X.w) X.A (.compStart (.ListComp elt [⟨tg,iter,ifs,0⟩] scope pos) 0 (.ref it) acc {Th with scope:=relabel scope X.env}) (RR acc Th.locals) s₄) E s₃) E s2:=by
 have hD0:H2 s2.heap.objs.size=none:=I2.b9.fresh (aD _);obtain⟨W,⟨m0,w0⟩,turn⟩:=hw _ hD0;refine wpAny_newObj_type (wpAny_newFunctionEnv S.cell (by intro y hy; simp at hy) (fun h₁ PN PQ=>?_) S.kind);dsimp only at PN PQ ⊢;have I3:Inv X pins σ (upd H2 s2.heap.objs.size (.lst [])) {s2 with heap:=s2.heap.push {cls:= .type "list",dict:=none,data:= .seq ([]:List Value).toArray}}:=I2.Pw (t':=s2.toks) (ys:=[]) (b0:=[]) .nil (bu _);generalize V5:s2.heap.push {cls:= .type "list",dict:=none,data:= .seq ([]:List Value).toArray}=HH at PN PQ I3 ⊢;have hC:HH.objs.size=s2.heap.objs.size + 1:=by rw[← V5,oO]
 have old: ∀b o,HH.get? b=some o->h₁.get? b=some o:=fun b o e=>PQ.extBut b o (a7 (aN e)) (az _ e);have XQ: ∀b o,s2.heap.get? b=some o->HH.get? b=some o:=fun b o e=>V5▸az _ e;have Ti: ∀b∈fp,b < s2.heap.objs.size:=fun b hb=>by
  obtain⟨o,e,_⟩:=T.obj 0 _ N8 b hb;exact aN e
 have V6:(Cf X (tn ++ cn) scope cl HH.objs.size {s2 with heap:=HH} (upd H2 s2.heap.objs.size (.lst [])) fp).Ok:=by
  refine⟨I3.ok.mod,S.kind,I3.ok.glob,I3.ok.blt,aD _,fun x y c h1 h2=>I3.ok.inj x y c (S.sub x c h1) (S.sub y c h2),fun x hx=>S.all x hx,fun x c z=>absurd z aX,I3.ok.hd,I3.ok.frames,.inl rfl,fun b hb=>⟨?_,fun x c e z=>?_⟩,I3.bs,?_,fun b o e hb=>?_,fun b hb z=>?_,I3.stack,I3.qS⟩
  ·show b≠HH.objs.size;rw[hC];exact a7 (iW (Ti b hb))
  ·exact(f2 b hb).2.2.2.2.1 x c (S.sub x c e) z
  ·exact aR I3.ok.BO I3.sz
  ·rcases(f2 b hb).2.2.2.1 with z|z
   ·exact I3.ok.xD b o e z
   ·have h1:b < X.base.objs.size:=aN e;exact absurd (bo h1 (aR I3.ok.BO z)) (iU _)
  ·rcases aw.mp (I3.vq b z) with z|z
   ·exact(f2 b hb).2.1 z
   ·exact(f2 b hb).2.2.1 z
 have IY:Inv (Cf X (tn ++ cn) scope cl HH.objs.size {s2 with heap:=HH} (upd H2 s2.heap.objs.size (.lst [])) fp) [] (vI tn cj σ) (upd H2 s2.heap.objs.size (.lst [])) {s2 with heap:=h₁,toks:=s2.toks + ([]:List (Str×Value)).length}:=by
  refine⟨V6,rfl,I3.bare,Un.kept old,⟨_,PN,fun i x v e1 e2 e3=>?_⟩,fun x c e=>?_,?_,fun x c e=>I3.iS x c (S.sub x c e),fun p hp=>absurd hp (by intro z; exact nomatch z),I3.b9.kept old,?_⟩
  ·have e1':(tn ++ cn)[i]? =some x:=e1;by_cases hi:i < tn.length
   ·unfold vI at e2;rw[List.getElem?_append_left (by simpa using hi),List.getElem?_map] at e2;cases h:tn[i]? with
    |none=>rw[h] at e2; cases e2
    |some _=>rw[h] at e2; cases e2
   ·rw[pW (by lia)] at e1';obtain⟨j,hj,hN,hk,Oc⟩:=bL S.cap e1';unfold vI at e2;rw[List.getElem?_append_right (by simpa using hi),List.getElem?_map] at e2;simp only[List.length_map,hj,Option.map_some] at e2;have Tj:σ[j]? =some (some v):=by
     cases h:σ[j]? with
     |none=>rw[h] at e2; cases e2
     |some q=>
      rw[h] at e2;have Tj:q=some v:=aF e2;rw[Tj]
    obtain⟨m,hn,hl⟩:=I3.loc;have hv:Su X.env.scope x:=by
     rcases hk with hk|hk
     ·exact .inr (.inl hk)
     ·exact .inr (.inr hk)
    obtain⟨u,r,l⟩:=hl j x v hN Tj hv;refine⟨u,r,?_⟩;rcases l with⟨k,_⟩|⟨_,c,hc,mO⟩
    ·rcases hk with hk|hk <;> (rw[k] at hk; cases hk)
    ·obtain⟨c',O7⟩:=S.all x Oc;have:=S.sub x c' O7;rw[hc] at this;cases this;obtain⟨o,ho,hd⟩:=mO;exact .inr ⟨Oc,c,O7,⟨o,old _ _ ho,hd⟩⟩
  ·obtain⟨v,o,ho,hd⟩:=I3.cell x c (S.sub x c e);exact⟨v,o,old _ _ ho,hd⟩
  ·exact I3.b9.fresh (aD _)
  ·show(vI tn cj σ).length=(tn ++ cn).length;unfold vI;rw[ax,ax,ae,ae,S.cap.length]
 have st1:PM 0 h₁:=T.keep 0 _ _ N8 fun b _ o e=>old b o (XQ b o e);have sP: ∀{H':Hp},(∀b∈fp,H' b=none)-> ∀b∈fp,vw (Cf X (tn ++ cn) scope cl HH.objs.size {s2 with heap:=HH} (upd H2 s2.heap.objs.size (.lst [])) fp) [] H' b:=fun hn b hb=>
  ⟨hn b hb,(V6.Mg b hb).1,V6.xE b hb,.inl hb,(V6.Mg b hb).2,fun p hp=>absurd hp (by intro z; exact nomatch z)⟩
 have fp1: ∀b∈fp,upd H2 s2.heap.objs.size (.lst []) b=none:=fun b hb=>by
  rw[aB (a7 (Ti b hb))];exact(f2 b hb).1
 have loop:codeAny (model X.prog X.w) X.A (.compLoop (.ListComp elt [⟨tg,iter,ifs,0⟩] scope pos) 0 (.ref it) (.ref s2.heap.objs.size) (compEnvC scope cl HH.objs.size X.env))
    (RR (.ref s2.heap.objs.size) HH.objs.size) {s2 with heap:=h₁,toks:=s2.toks + ([]:List (Str×Value)).length}:=by
  refine Hd (fun n s'=> ∃i σ' H',Inv (Cf X (tn ++ cn) scope cl HH.objs.size {s2 with heap:=HH} (upd H2 s2.heap.objs.size (.lst [])) fp) [] σ' H' s'/\PM i s'.heap/\(∀b∈fp,H' b=none)/\W i n σ' H') ?_ m0 ⟨0,_,_,IY,st1,fp1,w0⟩;rintro n s3 ⟨i,σ3,H3,J3,SK,Mo,w3⟩;rcases turn i n σ3 H3 w3 with⟨stop,qn⟩|⟨go,N,hN,step⟩
  ·refine dS (T.done (Cf X (tn ++ cn) scope cl HH.objs.size {s2 with heap:=HH} (upd H2 s2.heap.objs.size (.lst [])) fp) rfl rfl rfl yW i [] s3 σ3 H3 _ J3 (sP Mo) SK stop) fun r s4 ⟨hr,J4⟩=>?_;subst hr;obtain⟨m',W9,_⟩:=J4.loc;exact hRR _ _ s4 H3 m' (I3.Fp (ch:=fp) J4.os J4.base J4.b9 J4.bare fun b hb=>⟨(f2 b hb).2.2.2.1,(f2 b hb).2.1,(f2 b hb).2.2.2.2.1,(f2 b hb).2.2.2.2.2⟩) (I3.GZ (aD _) J4.free) W9 qn
  ·refine dS (T.item (Cf X (tn ++ cn) scope cl HH.objs.size {s2 with heap:=HH} (upd H2 s2.heap.objs.size (.lst [])) fp) rfl rfl rfl yW i [] s3 σ3 H3 _ J3 (sP Mo) SK go) fun r s4 ⟨u,hr,h4⟩=>?_;subst hr;refine dS h4 fun _ s5 ⟨x,H5,J5,r5,y5,Pf,RJ⟩=>?_;have J5':=J5.pinned (sP RJ) (T.obj _ _ Pf);refine dS (hg _ _ _ _ _ s5 σ3 H5 x u _ J5' r5 (step x H5 y5)) fun _ s6 ⟨σ6,H6,J6,q6⟩=>?_;have again: ∀{s7:Shared} {σ7:St} {H7:Hp},Inv (Cf X (tn ++ cn) scope cl HH.objs.size {s2 with heap:=HH} (upd H2 s2.heap.objs.size (.lst [])) fp) ([] ++ qh fp s5.heap) σ7 H7 s7->N σ7 H7->
     ∃m,m < n/\ ∃i σ' H',Inv (Cf X (tn ++ cn) scope cl HH.objs.size {s2 with heap:=HH} (upd H2 s2.heap.objs.size (.lst [])) fp) [] σ' H' s7/\PM i s7.heap/\(∀b∈fp,H' b=none)/\W i m σ' H':=fun{s7 σ7 H7} I7 n7=>by
    obtain⟨m',hm,w7⟩:=hN σ7 H7 n7;refine⟨m',hm,i + 1,σ7,H7,I7.jd,T.keep _ _ _ Pf fun b hb o e=>(I7.pin (b,o) (bB _ (bB _ (jV hb e)))).1,fun b hb=>?_,w7⟩;obtain⟨o,e,d⟩:=T.obj _ _ Pf b hb;exact(I7.pin (b,o) (bB _ (bB _ (jV hb e)))).2.1
   refine dS (hc _ _ _ _ _ s6 σ6 H6 _ J6 q6) fun ok s7 ⟨H7,J7,q7⟩=>?_;cases ok with
   |false=>exact again J7 q7
   |true=>
    refine dS (he _ _ _ _ _ s7 σ6 H7 _ J7 q7) fun y s8 ⟨yv,H8,J8,r8,ys,hD,hz,q8⟩=>?_;refine dS (yR _ s8 σ6 H8 (.ref s2.heap.objs.size) [yv] (.ref s2.heap.objs.size) [y] (fun _ H'=>N σ6 H') J8 rfl (.cons r8 .nil) ⟨_,ys,yv,rfl,rfl,hD,hz,q8⟩) fun _ s9 ⟨_,H9,J9,_,q9⟩=>?_;exact again J9 q9
 exact codeAny_compStart_list loop (T.self _ 0 _ _ _ st1 loop)
def Od (wi:TI)(tn:List Str)(cj:List Nat)(g:TG)(tc:TT)(te:TE):TE:=fun σ H Q=>wi σ H fun J H2=>yV J g tc te (vI tn cj σ) H2 Q
def gR {X:Cx}{elt tg iter:Expr}{ifs:List Expr}{scope:Scope}{pos:Pos}{cl:List (Str×Addr)}{tn cn:List Str}{cj:List Nat}{wi:TI}{g:TG}{tc:TT}{te:TE}
  (yW:X.calm=true) (S:sV X scope cl cn cj) (hi:PI X tg iter wi)
  (hg: ∀C s3 H3 fp,PG (Cf X (tn ++ cn) scope cl C s3 H3 fp) tg g) (hc: ∀C s3 H3 fp,LR (Cf X (tn ++ cn) scope cl C s3 H3 fp) ifs tc) (he: ∀C s3 H3 fp,PE (Cf X (tn ++ cn) scope cl C s3 H3 fp) elt te)
  (hs: ∀x,foldedSetIterable iter X.env x=pure x:=by intro _; rfl):
  PE X (.ListComp elt [⟨tg,iter,ifs,0⟩] scope pos) (Od wi tn cj g tc te):=by
 intro pins s σ H Q I h;rw[eval_ListComp];refine wpAny_comprehension_free (use:=none) rfl hs S.He S.kind S.names (dS (hi pins s σ H _ I h) fun v s1 h1=>dS h1 fun VZ s2 h2=>?_);obtain⟨it,fp,PM,J,H2,e,I2,T,N8,f2,hw⟩:=h2;subst e;refine vJ (RR:=fun acc C=>compPost (model X.prog X.w) X.A X.xe none (EP X pins σ Q) acc C) yW S hg hc he I2 T N8 f2 hw ?_;intro D C s' H' m' I' Hf hn q;exact⟨m',hn,fun h' MH=>⟨.ref D,H',I'.turned (t':=s'.toks) (fun b o hb e=>(MH.2 b hb).trans e) Hf.1 Hf.2.1 Hf.2.2.2.1 Hf.2.2.2.2.1 Hf.2.2.2.2.2,rfl,q⟩⟩
def jX {X:Cx}{i:Nat}{y:Str}{py Tn:Pos}{elt tg iter:Expr}{ifs:List Expr}{scope:Scope}{pos:Pos}{cl:List (Str×Addr)}{tn cn:List Str}{cj:List Nat}{wi:TI}{g:TG}{tc:TT}{te:TE}
  (hN:X.N.Nodup) (hy:X.N[i]? =some y) (hx:Loc X.env.scope y)
  (yW:X.calm=true) (S:sV X scope cl cn cj) (hi:PI X tg iter wi)
  (hg: ∀C s3 H3 fp,PG (Cf X (tn ++ cn) scope cl C s3 H3 fp) tg g) (hc: ∀C s3 H3 fp,LR (Cf X (tn ++ cn) scope cl C s3 H3 fp) ifs tc) (he: ∀C s3 H3 fp,PE (Cf X (tn ++ cn) scope cl C s3 H3 fp) elt te)
  (XR:swapsWith (.ListComp elt [⟨tg,iter,ifs,0⟩] scope pos) (some (.Name y py)) Tn.line X.env=pure true:=by rfl)
  (hs: ∀x,foldedSetIterable iter X.env x=pure x:=by intro _; rfl)
  (hf:X.fn y=true∨X.env.scope.names.lookup y=some .local:=by first|exact .inl rfl|exact .inr rfl|assumption):
  PS X (.Assign [.Name y py] (.ListComp elt [⟨tg,iter,ifs,0⟩] scope pos) Tn) (Mm (Od wi tn cj g tc te) (BW i)):=by
 intro pins s σ H D I h;rw[exec_Assign_Name_used _ _ _ _ XR];refine aC (ir (aC ?_));show wpAny _ X.A (do let _ ← comprehension (.ListComp elt [⟨tg,iter,ifs,0⟩] scope pos) scope X.env _ (newList []) false (eval iter X.env) (some (assign (.Name y py) X.env))) _ _ s;refine aC (cm (wpAny_comprehension_free (use:=some (assign (.Name y py) X.env)) (Q:=fun _ s'=>SP X pins D .next s') rfl hs S.He S.kind S.names
  (dS (hi pins s σ H _ I h) fun v s1 h1=>dS h1 fun VZ s2 h2=>?_)) (fun _ s' hq=>bI (bI hq)) fun _ _ e=>e)
 obtain⟨it,fp,PM,J,H2,e,I2,T,N8,f2,hw⟩:=h2;subst e;refine vJ (RR:=fun acc C=>compPost (model X.prog X.w) X.A X.xe (some (assign (.Name y py) X.env)) (fun _ s'=>SP X pins D .next s') acc C) yW S hg hc he I2 T N8 f2 hw ?_;intro D' C s' H' m' I' Hf hn q;show wpAny _ X.A (assign (.Name y py) X.env (.ref D')) _ _ _;refine wpAny_assign_Name (yK I' hN hy hx (v:= .ref D') rfl (fun FA I'' ⟨a,sb,ha⟩=>?_) hf);have hCa:C≠a:=by
  rcases ha with rfl|ha
  ·exact Hf.2.1
  ·exact fun z=>Hf.2.2.2.2.1 y a ha z.symm
 refine⟨m',hn.sameBut sb hCa,fun h3 RN=>⟨_,H',I''.turned (t':=FA.toks) (fun b o hb e=>(RN.2 b hb).trans e) Hf.1 Hf.2.1 Hf.2.2.2.1 Hf.2.2.2.2.1 Hf.2.2.2.2.2,q⟩⟩
def eu {K:Frag}{a:Addr}{xs:List V}{g:TG}{tc:TT}{te:TE}{σ0:St}{H2:Hp}{Q:VK}(Pv:Addr->Nat->St->Hp->Prop)(h0: ∀D,H2 D=none->Pv D 0 σ0 (upd H2 D (.lst [])))
  (hl: ∀D i σ H,i<=xs.length->Pv D i σ H->bD K H a xs)
  (hs: ∀D i x σ H,xs[i]? =some x->Pv D i σ H->g x σ H fun σ2 H2=>tc σ2 H2 fun ok H3=>if ok=true then te σ2 H3 fun y H4=> ∃ys,H4 D=some (.lst ys)/\ys.length < sizeLine/\Pv D (i + 1) σ2 (upd H4 D (.lst (ys ++ [y]))) else Pv D (i + 1) σ2 H3)
  (hd: ∀D σ H,H2 D=none->Pv D xs.length σ H->Q (.ref D) H):yV (RI K a) g tc te σ0 H2 Q:=by
 intro D hD;refine⟨fun i m σ H=>m=xs.length - i/\i<=xs.length/\Pv D i σ H,⟨xs.length,by simp,Nat.zero_le _,h0 D hD⟩,?_⟩;rintro i m σ H ⟨rfl,hi,p⟩;have q:=hl D i σ H hi p;by_cases iX:i < xs.length
 ·refine .inr ⟨⟨xs,xs[i],q,by simp[iX]⟩,Pv D (i + 1),fun σ' H' p'=>⟨xs.length - (i + 1),by lia,rfl,iX,p'⟩,fun x H' y=>?_⟩;obtain⟨e,y⟩:=y;subst e;exact hs D i x σ _ (y xs q) p
 ·have e:i=xs.length:=by lia
  subst e;exact .inl ⟨⟨xs,q,aD _⟩,hd D σ H hD p⟩
def JU {K:Frag}{a:Addr}{xs:List V}{g:TG}{tc:TT}{te:TE}{σ0:St}{H2:Hp}{Q:VK}(Pv:Addr->Nat->St->Hp->Prop)(h0: ∀D,H2 D=none->Pv D 0 σ0 (upd H2 D (.lst [])))
  (hl: ∀D i σ H,i<=xs.length->Pv D i σ H->cy K H a xs)
  (hs: ∀D i x σ H,xs[i]? =some x->Pv D i σ H->g x σ H fun σ2 H2=>tc σ2 H2 fun ok H3=>if ok=true then te σ2 H3 fun y H4=> ∃ys,H4 D=some (.lst ys)/\ys.length < sizeLine/\Pv D (i + 1) σ2 (upd H4 D (.lst (ys ++ [y]))) else Pv D (i + 1) σ2 H3)
  (hd: ∀D σ H,H2 D=none->Pv D xs.length σ H->Q (.ref D) H):yV (Xl K a) g tc te σ0 H2 Q:=by
 intro D hD;refine⟨fun i m σ H=>m=xs.length - i/\i<=xs.length/\Pv D i σ H,⟨xs.length,by simp,Nat.zero_le _,h0 D hD⟩,?_⟩;rintro i m σ H ⟨rfl,hi,p⟩;have q:=hl D i σ H hi p;by_cases iX:i < xs.length
 ·refine .inr ⟨⟨xs,xs[i],q,by simp[iX]⟩,Pv D (i + 1),fun σ' H' p'=>⟨xs.length - (i + 1),by lia,rfl,iX,p'⟩,fun x H' y=>?_⟩;obtain⟨e,y⟩:=y;subst e;exact hs D i x σ _ (y xs q) p
 ·have e:i=xs.length:=by lia
  subst e;exact .inl ⟨⟨xs,q,aD _⟩,hd D σ H hD p⟩
def vK {lo:Int}{n:Nat}{g:TG}{tc:TT}{te:TE}{σ0:St}{H2:Hp}{Q:VK}(Pv:Addr->Nat->St->Hp->Prop)(h0: ∀D,H2 D=none->Pv D 0 σ0 (upd H2 D (.lst [])))
  (hs: ∀D i σ H,i < n->Pv D i σ H->g (.int (lo + i)) σ H fun σ2 H2=>tc σ2 H2 fun ok H3=>if ok=true then te σ2 H3 fun y H4=> ∃ys,H4 D=some (.lst ys)/\ys.length < sizeLine/\Pv D (i + 1) σ2 (upd H4 D (.lst (ys ++ [y]))) else Pv D (i + 1) σ2 H3)
  (hd: ∀D σ H,H2 D=none->Pv D n σ H->Q (.ref D) H):yV (N6 lo n) g tc te σ0 H2 Q:=by
 intro D hD;refine⟨fun i m σ H=>m=n - i/\i<=n/\Pv D i σ H,⟨n,by simp,Nat.zero_le _,h0 D hD⟩,?_⟩;rintro i m σ H ⟨rfl,hi,p⟩;by_cases iX:i < n
 ·refine .inr ⟨iX,Pv D (i + 1),fun σ' H' p'=>⟨n - (i + 1),by lia,rfl,iX,p'⟩,fun x H' y=>?_⟩;obtain⟨e,y⟩:=y;subst e y;exact hs D i σ _ iX p
 ·have e:i=n:=by lia
  subst e;exact .inl ⟨aD _,hd D σ H hD p⟩
def Inv.Ek {X:Cx}{pins:List (Addr×Obj)}{σ:St}{H:Hp}{s:Shared}{h':Heap}{a:Addr}{o:HO}{t':Nat}{ch:List Addr}(I:Inv X pins σ H s)(k: ∀b ob,b∉ch->s.heap.get? b=some ob->h'.get? b=some ob)
  (BP: ∀b∈ch,vw X pins H b) (hp:s.heap.objs.size<=a) (new:dG X.prog X.w (upd H a o) h' a o):Inv X pins σ (upd H a o) {s with heap:=h',toks:=t'}:=by
 have hn:H a=none:=I.b9.fresh hp;have Sw: ∀b u,H b=some u->b∉ch:=fun b u e z=>by rw[(BP b z).1] at e; cases e
 refine I.step (g':=s.gens) (d':=s.drawn) (ch:=ch) (fun b hb=>⟨(BP b hb).2.2.2.1,(BP b hb).2.1,(BP b hb).2.2.2.2.1,(BP b hb).2.2.2.2.2⟩) (fun b ob _ _ hc e _=>k b ob hc e) (fun b ob _ _ hc e _=>⟨ob.slots,k b ob hc e⟩)
  (fun b ob _ e n=>by rw[aB (a7 (bo (aN e) hp))]; exact n)
  (fun b ob hc e=>⟨ob,k b ob hc e⟩) (fun b xs e=>by rw[aB (aI e hn)]; exact e) (fun b ob u e=>by rw[aB (aI e hn)]; exact e) (fun b ps e=>⟨#[],by rw[aB (aI e hn),e]; simp⟩) (fun m hm=>?_) (fun b u e=>?_) I.bare
 ·obtain⟨ob,es,ep,ho,r⟩:=hm;exact⟨ob,es,ep,k _ ob (fun z=>(BP _ z).2.1 rfl) ho,r⟩
 ·by_cases hb:b=a
  ·subst hb;rw[af] at e;cases e;exact new
  ·rw[aB hb] at e;refine(I.b9 b u e).uI (fun c v hc q=>k c v ?_ q) (fun c q=>by rw[aB (aI q hn)]; exact q) fun c xs q=>by rw[aB (aI q hn)]; exact q
   rcases hc with z|z
   ·rw[z]; exact Sw b u e
   ·exact Sw c _ z
def To (K:Frag)(a:Addr):It:=
 ⟨fun i H=> ∃xs x,bD K H a xs/\xs[i]? =some x,fun i H x H'=> ∃p y,H p=none/\x= .ref p/\H'=upd H p (.tup [.int i,y])/\ ∀xs,bD K H a xs->xs[i]? =some y,fun i H=> ∃xs,bD K H a xs/\xs.length<=i⟩
def Hg {P:Program}{w:World}{K:Frag}{elts:List Expr}{k1}{pos:Pos}(a e it:Addr)(i9:e≠it):Turn P w K (.Tuple elts k1 pos) (To K a) [e,it] e (fun i h=>(∃old,IsEnum h e it i old)/\h.IsListIter it a i) where
 mem:=by simp
 obj:=fun i h st b hb=>by
  obtain⟨⟨old,he⟩,hit⟩:=st;have e1:b=e∨b=it:=by simpa using hb
  rcases e1 with rfl|rfl
  ·exact⟨_,he,fun v z=>by have z':Data.fields _ =Data.cell v:=z; cases z'⟩
  ·obtain⟨o,e,c,d⟩:=hit;exact⟨o,e,fun v z=>by rw[d] at z; cases z⟩
 keep:=fun i h h' st k=>by
  obtain⟨⟨old,he⟩,hit⟩:=st;exact⟨⟨old,k e (by simp) _ he⟩,hit.at fun o e=>k it (by simp) o e⟩
 item:=by
  intro X hP hw hK hc i pins s σ H E I hf st hg;subst hP hw hK;obtain⟨⟨old,he⟩,hit⟩:=st;obtain⟨xs,x,hq,hx⟩:=hg;obtain⟨b0,rv,p,hz⟩:=I.list hq;obtain⟨u,hu,ru⟩:=rv.get hx;refine wpAny_pyNext_enum_item he hit p.isList (x:=u) (by simpa using hu) i9 fun h' ho XS hT hsz hk=>⟨_,rfl,?_⟩;refine wpAny_letOwnedTupleGo_enum ho fun h2 XT RL=>?_;have iX:e < s.heap.objs.size:=aN he;have BA:h2.get? s.heap.objs.size=some {cls:= .type "tuple",data:= .seq #[.int i s.toks,u]}:=(RL.2 _ (qI iX)).trans hT;have hn:H s.heap.objs.size=none:=I.b9.fresh (aD _);have I2:Inv X pins σ (upd H s.heap.objs.size (.tup [.int i,x])) {s with heap:=h2,toks:=s.toks + 1}:=by
   refine I.Ek (ch:=[e,it]) (fun b ob hb q=>?_) hf (aD _) ⟨by show 2<=sizeLine; decide,[.int i s.toks,u],.cons ⟨_,rfl⟩ (.cons ru .nil),⟨_,BA,rfl,_,rfl⟩⟩;have zV:b≠e/\b≠it:=⟨fun z=>hb (by simp[z]),fun z=>hb (by simp[z])⟩;exact(RL.2 b zV.1).trans (hk b ob zV.1 zV.2 q)
  refine⟨.ref s.heap.objs.size,_,I2,rfl,⟨_,x,hn,rfl,rfl,fun ys hy=>by rw[I.BV hy hq]; exact hx⟩,⟨⟨u,by simpa using XT⟩,XS.at fun o q=>(RL.2 it i9.symm).trans q⟩,fun b hb=>?_⟩;have RO:=hf b hb;rw[aB]
  ·exact RO.1
  ·have e1:b=e∨b=it:=by simpa using hb
   rcases e1 with rfl|rfl
   ·exact a7 iX
   ·obtain⟨o,q,_⟩:=hit;exact a7 (aN q)
 done:=by
  intro X hP hw hK hc i pins s σ H E I hf st hg;subst hP hw hK;obtain⟨⟨old,he⟩,hit⟩:=st;obtain⟨xs,hq,hx⟩:=hg;obtain⟨b0,rv,p,hz⟩:=I.list hq;obtain⟨f0,f1,f2,f3,f4,f5⟩:=hf it (by simp);have hl:=rv.length;exact wpAny_pyNext_enum_end (I.ok.hd hc) he hit p.isList (by simp; lia) fun h' eb=>⟨rfl,I.turned (t':=s.toks) (fun b o hb e=>eb b o hb e) f0 f1 f3 f4 f5⟩
 self:=fun _ _ _ _ _ st h=>by
  obtain⟨⟨old,he⟩,hit⟩:=st;exact wpAny_pyIter_enum he h
def Tp (K:Frag)(ta:TA):TI:=fun σ H R=>ta σ H fun vs H1=> ∃a,vs=[.ref a]/\(∃xs,bD K H1 a xs)/\R (To K a) H1
def ra {X:Cx}{elts:List Expr}{k1}{Pk:Pos}{l:Expr}{ta:TA}{p pos:Pos}(hg:Gl X "enumerate")(hm:X.mg "enumerate"=none)(ha:PA X [l] ta)(hs:starEach [l] X.env=[(false,eval l X.env)]:=by rfl):
  PI X (.Tuple elts k1 Pk) (.Call (.Name "enumerate" p) [l] [] pos) (Tp X.K ta):=by
 intro pins s σ H R I h;refine Call_ (qf I hg hm boot_enumerate (oX (dS (ha pos pins s σ H _ I h) fun us s1 ⟨vs,H1,I1,r1,q1⟩=>?_) hs rfl));obtain⟨a,e,⟨xs,hq⟩,q⟩:=q1;subst e;obtain⟨u,rfl,ru⟩:=vals1 r1;cases ru;obtain⟨b0,rv,pl,hz⟩:=I1.list hq;refine call_enumerate_list pl.isList fun h' he hit hsz kp=>?_;have I2:Inv X pins σ H1 {s1 with heap:=h'}:=I1.kept (t':=s1.toks) kp;refine wpAny_pyIter_enum he ⟨s1.heap.objs.size + 1,[s1.heap.objs.size + 1,s1.heap.objs.size],_,_,H1,rfl,I2,Hg a _ _ (Nat.succ_ne_self _),⟨⟨_,he⟩,hit⟩,fun b hb=>?_,q⟩;have e1:b=s1.heap.objs.size + 1∨b=s1.heap.objs.size:=by simpa using hb
 have zV:s1.heap.objs.size<=b:=by
  rcases e1 with rfl|rfl
  ·exact cK _
  ·exact aD _
 exact I1.GZ zV (I1.b9.fresh zV)
def nM {K:Frag}{a:Addr}{xs:List V}{g:TG}{tb:TS}{D:Ends}{σ:St}{H:Hp}(Pv:Nat->St->Hp->Prop)(h0:Pv 0 σ H)(hl: ∀i σ H,i<=xs.length->Pv i σ H->bD K H a xs)
  (hs: ∀i x p σ H,xs[i]? =some x->H p=none->Pv i σ H->g (.ref p) σ (upd H p (.tup [.int i,x])) fun σ2 H2=>tb {D with nx:=Pv (i + 1),ct:=Pv (i + 1),bk:=D.nx} σ2 H2) (hd: ∀σ H,Pv xs.length σ H->D.nx σ H):
  ∃W:Nat->Nat->St->Hp->Prop,(∃m,W 0 m σ H)/\ ∀i m σ H,W i m σ H->
   ((To K a).stop i H/\D.nx σ H)∨((To K a).go i H/\ ∃N:St->Hp->Prop,(∀σ' H',N σ' H'-> ∃m',m' < m/\W (i + 1) m' σ' H')/\ ∀x H',(To K a).RH i H x H'->g x σ H' fun σ2 H2=>tb {D with nx:=N,ct:=N,bk:=D.nx} σ2 H2):=by
 refine⟨fun i m σ H=>m=xs.length - i/\i<=xs.length/\Pv i σ H,⟨xs.length,by simp,Nat.zero_le _,h0⟩,?_⟩;rintro i m σ H ⟨rfl,hi,p⟩;have q:=hl i σ H hi p;by_cases iX:i < xs.length
 ·refine .inr ⟨⟨xs,xs[i],q,by simp[iX]⟩,Pv (i + 1),fun σ' H' p'=>⟨xs.length - (i + 1),by lia,rfl,iX,p'⟩,fun x H' y=>?_⟩;obtain⟨pp,y,h1,e1,e2,h2⟩:=y;subst e1 e2;exact hs i y pp σ _ (h2 xs q) h1 p
 ·have e:i=xs.length:=by lia
  subst e;exact .inl ⟨⟨xs,q,aD _⟩,hd σ H p⟩
structure eO (P:Program)(w:World)(K:Frag)(mg:Str->Option Value)(base:Heap)(x:Str)(k:Nat)(ps:List Str)(sp:Sp):Prop where
 ex: ∃(f:Addr) (fd:FuncData),mf P w K mg base sU k f fd ps sp/\mg x=some (.ref f)/\keepIn K (.ref f)=true/\Binds K fd ps []
section
variable {X:Cx}{x:Str}{k:Nat}{ps:List Str}{sp:Sp}{e:Expr}{es:List Expr}{t:TA}{p pos:Pos}
def Tq (C:eO X.prog X.w X.K X.mg X.base x k ps sp)(hr:eY k X.A)(hg:Gl X x)(ha:PA X (e :: es) t)(qX:(x == ("__debug__":Str))=false:=by decide)
  (he:starEach (e :: es) X.env=(false,eval e X.env) :: starEach es X.env:=by rfl) (gQ:(backTo pos (starEach es X.env)).any (·.1)=false:=by rfl):PE X (.Call (.Name x p) (e :: es) [] pos) (vA sp [] E0 t):=by
 obtain⟨f,fd,F,hm,hk,hb⟩:=C.ex;exact Fz F hr hg hm hk hb .nil nK ha qX he gQ
def JV (C:eO X.prog X.w X.K X.mg X.base x k ps sp)(hr:eY k X.A)(hg:Gl X x)(qX:(x == ("__debug__":Str))=false:=by decide):PE X (.Call (.Name x p) [] [] pos) (vA sp [] E0 BY):=by
 obtain⟨f,fd,F,hm,hk,hb⟩:=C.ex;exact JF F hr hg hm hk hb .nil nK qX
end
structure Df (K:Frag)(mg:Str->Option Value)(x:Str)(st:Stmt):Prop where
 ex: ∃(f:Addr) (fd:FuncData),gu K x x st f fd/\mg x=some (.ref f)
def Df.cal {P:Program}{w:World}{K:Frag}{mg:Str->Option Value}{base:Heap}{x:Str}{st:Stmt}{N ps:List Str}{k:Nat}{sp:Sp}(D:Df K mg x st)(S:aV N ps (aA st))
  (hb: ∀(kV doc pm:Value) (an:Option Addr) (cV ct:Value) (us:List Value),us.length=ps.length->bindArgs (fnOf x x (gG st) (dH st) (aA st) .none kV doc pm an cV ct) ⟨us,[]⟩=pure (ps.zip us))
  (len: ∀vs H Q E,sp vs H Q E->vs.length=ps.length)
  (fW: ∀(f:Addr) (cV:Value) (A:Around) (outer:List Env) (s:Shared) (H:Hp) (vs:List V) (Q:VK) (E:XK),eY k (A.deeper (envOfC x (aA st) s.heap.objs.size f cV))->sp vs H Q E->
   ∃t,pC (lq sU P w K mg base N x (aA st) f cV A outer s H E).D4 (dH st) t/\t {nx:=fun _ H'=>Q .en H',rt:=Q} (start N vs) H):eO P w K mg base x (k + 1) ps sp:=by
 obtain⟨f,fd,F,hm⟩:=D.ex;exact⟨f,fd,F.ok S len (fW f),hm,F.kp,F.binds hb⟩
def zW {X:Cx}{scope:Scope}(yL: ∀y∈scope.names,y.2≠ .free:=by decide +kernel)(mO: ∀y∈scope.names,y.2≠ .cell:=by decide +kernel)(nH:scope.kind= .function:=by rfl)(vL: ∀x∈scope.names,x.2= .local->scope.names.lookup x.1=some .local:=by decide +kernel):sV X scope [] [] []:=by
 have e:(relabel scope X.env).names=scope.names:=map_eq_self (l:=scope.names) (fun x hx=>by
  obtain⟨n,k⟩:=x;have:(k == NameKind.free)=false:=by simpa using yL _ hx
  simp[this])
 refine⟨closureFor_none yL,mO,nH,vL,fun x c h=>by simp at h,fun x h=>?_,.nil⟩;rw[e] at h;rcases h with h|h
 ·exact absurd rfl (mO _ (ck h))
 ·exact absurd rfl (yL _ (ck h))
def iy {X:Cx}{scope:Scope}{x:Str}{c:Addr}{j:Nat}(He:closureFor scope X.env=pure [(x,c)]:=by rfl)(mO: ∀y∈scope.names,y.2≠ .cell:=by decide +kernel)(nH:scope.kind= .function:=by rfl)(vL: ∀x∈scope.names,x.2= .local->scope.names.lookup x.1=some .local:=by decide +kernel)
  (hx:X.env.cells.lookup x=some c:=by rfl) (zX:List (Str×NameKind)) (Oe:(relabel scope X.env).names=zX:=by rfl) (Ci: ∀y∈zX,(y.2= .cell∨y.2= .free)->y.1=x:=by decide +kernel) (hN:X.N[j]? =some x:=by rfl) (hk:X.env.kindOf x=some .cell∨X.env.kindOf x=some .free:=by exact Or.inl rfl)
  (Oc:(relabel scope X.env).names.lookup x=some .cell∨(relabel scope X.env).names.lookup x=some .free:=by exact Or.inl rfl):sV X scope [(x,c)] [x] [j]:=by
 refine⟨He,mO,nH,vL,fun y c' h=>?_,fun y h=>?_,.cons ⟨hN,hk,Oc⟩ .nil⟩
 ·have h':=ck h;have e:(y,c')=(x,c):=by simpa using h'
  cases e;exact hx
 ·have e:y=x:=by
   rcases h with h|h
   ·rw[Oe] at h;exact Ci _ (ck h) (.inl rfl)
   ·rw[Oe] at h;exact Ci _ (ck h) (.inr rfl)
  subst e;exact⟨c,by simp[List.lookup_cons]⟩
section
variable {X:Cx}
def Tr (i j:Int):Prop:=Builtin.Int.intBits i<=2 ^ 20/\Builtin.Int.intBits j<=2 ^ 20
def MI:oP X (binaryOp .Mult) (rI Tr fun i j=> .int (i * j)):=SM fun _ _ _ _ _ _ _ hc q=>mul_int q (.of_bits hc.1 hc.2)
end
section
variable {prog:Program}{w:World}{A:Around}{E:Value->Shared->Prop}{s:Shared}
end
section
variable {X:Cx}
def El:hV X (.builtin "isinstance") (fun xs H Q=> ∃x c t b,xs=[x,.ty c]/\m9 X.K H x t/\PySem.W.kitOne X.K t (.type c)=some b/\Q (.bl b) H):=by
 intro pins s σ H xs us Q I r h;obtain⟨x,c,t,b,rfl,ty,e,q⟩:=h;obtain⟨u,u2,rfl,r1,r2⟩:=vals2 r;obtain rfl:u2=Value.type c:=r2;exact G4 I r1 ty e fun tk=>⟨.bl b,H,I.tok _,rfl,q⟩
def FI: ∀{cs:List String} {us:List Value},Vals (cs.map V.ty) us->us=cs.map Value.type
 |[],_,r=>by rw[xx] at r; cases r; rfl
 |c :: cs,_,r=>by
  rw[de] at r;cases r with
  |cons r1 r2=>
   have e1:_ =Value.type c:=r1;rw[e1,FI r2,de]
def Em {pins:List (Addr×Obj)}{σ:St}{H:Hp}{s:Shared}{A:Around}{E:Value->Shared->Prop}{Q:Value->Shared->Prop}{x:V}{u t:Value}{tp:Addr}{cs:List String}{b:Bool}(I:Inv X pins σ H s)(rx:RelV x u)(ty:m9 X.K H x t)
  (hp:H tp=some (.tup (cs.map V.ty))) (e:PySem.W.kitAny X.K t (cs.map Value.type)=some b) (h: ∀tk,Q (.bool b) {s with toks:=tk}):
  wpAny (model X.prog X.w) A (call (.builtin "isinstance") [u,.ref tp]) Q E s:=by
 obtain⟨_,b0,rv,⟨cl,dd,dt,sl⟩,hg,hc,n,hd⟩:=(show dG X.prog X.w H s.heap tp (.tup (cs.map V.ty)) from I.b9 tp _ hp);have ei:=FI rv;subst ei;simp only at hc hd;subst hc hd;cases ty with
 |en=>cases(show u=Value.none from rx); exact eh PySem.W.kitx_none I.gJ True.intro hg e (fun z=>nomatch z) h
 |bl y=>cases(show u=Value.bool y from rx); exact eh PySem.W.kitx_bool I.gJ True.intro hg e (fun z=>nomatch z) h
 |int i=>obtain⟨t,q⟩:=(show ∃t,u=Value.int i t from rx); cases q; exact eh PySem.W.kitx_int I.gJ True.intro hg e (fun z=>nomatch z) h
 |str y=>obtain⟨t,q⟩:=(show ∃t,u=Value.str y t from rx); cases q; exact eh PySem.W.kitx_str I.gJ True.intro hg e (fun z=>nomatch z) h
 |Md y=>obtain⟨t,q⟩:=(show ∃t,u=Value.float y t from rx); cases q; exact eh PySem.W.kitx_float I.gJ True.intro hg e (fun z=>nomatch z) h
 | @lst a xs ea=>
  cases(show u=Value.ref a from rx);obtain⟨_,_,n,_,h1⟩:=(show dG X.prog X.w H s.heap a (.lst xs) from I.b9 a _ ea);exact eh sG I.gJ ⟨_,h1,rfl⟩ hg e (fun z=>nomatch z) h
 | @DI a ob xs ea=>
  cases(show u=Value.ref a from rx);obtain⟨_,_,_,n,_,h1⟩:=(show dG X.prog X.w H s.heap a (.DI ob (.lst xs)) from I.b9 a _ ea);exact eh sG I.gJ ⟨_,h1,rfl⟩ hg e (fun z=>nomatch z) h
 | @tup a xs ea=>
  cases(show u=Value.ref a from rx);obtain⟨_,_,_,p⟩:=(show dG X.prog X.w H s.heap a (.tup xs) from I.b9 a _ ea);obtain⟨o,h1,h2,_⟩:=p;exact eh PySem.W.kitx_tuple I.gJ ⟨o,h1,h2⟩ hg e (fun z=>nomatch z) h
 | @dK a bf ea=>
  cases(show u=Value.ref a from rx);obtain⟨_,_,vs,_,p⟩:=(show dG X.prog X.w H s.heap a (.dK bf) from I.b9 a _ ea);obtain⟨o,es,ep,h1,h2,_⟩:=p;exact eh sH I.gJ ⟨o,h1,h2.1⟩ hg e (fun z=>nomatch z) h
 | @dT a bf ea=>
  cases(show u=Value.ref a from rx);obtain⟨_,_,xs,_,o,es,ep,h1,h2,_⟩:=(show dG X.prog X.w H s.heap a (.dT bf) from I.b9 a _ ea);exact eh sH I.gJ ⟨o,h1,h2.1⟩ hg e (fun z=>nomatch z) h
 | @ins a C dx fs ea cl ha hn ni hm=>
  cases(show u=Value.ref a from rx);obtain⟨mA,O,_⟩:=qV I.b9 ea;obtain⟨od,J,_⟩:=O.look;exact eh (PySem.W.kitx_own (cl.get _) cl.hd ha hn ni hm) I.gJ J hg e (fun z=>nomatch z) h
def En:hV X (.builtin "isinstance") (fun xs H Q=> ∃(x:V) (tp:Addr) (cs:List String) (t:Value) (b:Bool),xs=[x,.ref tp]/\H tp=some (.tup (cs.map V.ty))/\m9 X.K H x t/\PySem.W.kitAny X.K t (cs.map Value.type)=some b/\Q (.bl b) H):=by
 intro pins s σ H xs us Q I r h;obtain⟨x,tp,cs,t,b,rfl,hp,ty,e,q⟩:=h;obtain⟨u,u2,rfl,r1,r2⟩:=vals2 r;obtain rfl:u2=Value.ref tp:=r2;exact Em I r1 ty hp e fun tk=>⟨.bl b,H,I.tok _,rfl,q⟩
def PR (K:Frag):R2:=fun x y H Q=> ∃a b xs,x= .ref a/\y= .ref b/\bD K H a xs/\bD K H b []/\Q (.bl (!xs.isEmpty)) H
def JW {n:Nat}(hu:X.A.units + n < cLine):oP X (compareOp .NotEq) (PR X.K):=by
 intro pins s σ H x y v u Q I rx ry h;obtain⟨a,b,xs,rfl,rfl,ha,hb,q⟩:=h;cases rx;cases ry;obtain⟨b0,r1,p1,_⟩:=I.list ha;obtain⟨G6,r2,p2,_⟩:=I.list hb;have e2:G6=[]:=r2.zero;subst e2;cases xs with
 |nil=>
  have e1:b0=[]:=r1.zero;subst e1;exact SeqAt.RcNeAt.lists (e:=fun _=>true) p1.isList p2.isList rfl (by lia) (fun j h1 _=>absurd h1 (by simp)) X.prog X.w X.xe _ ⟨.bl false,H,I,rfl,q⟩
 |cons z zs=>
  have l1:=r1.length;exact SeqAt.RcNeAt.lists_lengths p1.isList p2.isList (by simp only[List.size_toArray,← l1]; simp) (by lia) X.prog X.w X.xe _ ⟨.bl true,H,I,rfl,q⟩
def XU (K:Frag):R2:=fun x y H Q=> ∃p xs i v,x= .ref p/\y= .int i/\(bD K H p xs∨cy K H p xs)/\qY xs i=some v/\Q v H
def Of:JJ X (XU X.K):=by
 intro value slice pins s σ H x y v u Q I rx ry h hs;obtain⟨p,xs,i,z,e1,e2,hq|hq,he,q⟩:=h
 ·exact zP value slice pins s σ H x y v u Q I rx ry ⟨p,xs,i,z,e1,e2,hq,he,q⟩ hs
 ·exact Ed value slice pins s σ H x y v u Q I rx ry ⟨p,xs,i,z,e1,e2,hq,he,q⟩ hs
end
def ay.new {H:Hp}{p:Addr}{o:HO}(h:H p=none):ay H (upd H p o):=fun b u e=>by rw[aB (aI e h)]; exact e
def XW (t u:TS):TS:=fun D σ H=> ∃M:St->Hp->Prop,t {D with nx:=M} σ H/\ ∀σ' H',M σ' H'->u D σ' H'
def iz {X:Cx}{st:Stmt}{rest:List Stmt}{t u:TS}(h1:PS X st t)(h2:pC X rest u):pC X (st :: rest) (XW t u):=by
 intro pins s σ H D I ⟨M,h,hM⟩;refine wpAny_execs_cons (dS (h1 pins s σ H {D with nx:=M} I h) fun f s1 q=>?_);cases f with
 |next=>
  obtain⟨σ',H',I',q⟩:=q;exact h2 pins s1 σ' H' D I' (hM _ _ q)
 |ret v=>exact q
 |brk=>exact q
 |cont=>exact q
section
variable {X:Cx}{K:Frag}
def lN (h:X.K=K):JJ X (Pn K):=by subst h; exact zP
def jH (h:X.K=K):JJ X (Pp K):=by subst h; exact Ed
end
inductive Dt where
 |en|bl (b:Bool)|int (i:Int)|str (x:Str)|tup (ds:List Dt)|lst (ds:List Dt)
mutual
def Rp (H:Hp):Dt->V->Prop
 | .en,v=>v= .en
 | .bl b,v=>v= .bl b
 | .int i,v=>v= .int i
 | .str x,v=>v= .str x
 | .tup ds,v=> ∃a xs,v= .ref a/\H a=some (.tup xs)/\gX H ds xs
 | .lst ds,v=> ∃a xs,v= .ref a/\H a=some (.lst xs)/\gX H ds xs
def gX (H:Hp):List Dt->List V->Prop
 |[],vs=>vs=[]
 |d :: ds,vs=> ∃v r,vs=v :: r/\Rp H d v/\gX H ds r
end
mutual
def Dt.size:Dt->Nat
 | .tup ds=>1 + Dt.fq ds
 | .lst ds=>1 + Dt.fq ds
 | .en=>1
 | .bl _=>1
 | .int _=>1
 | .str _=>1
def Dt.fq:List Dt->Nat
 |[]=>0
 |d :: ds=>d.size + Dt.fq ds
end
def Dt.size_pos (d:Dt):1<=d.size:=by cases d <;> simp[Dt.size]
def Dt.iA (a b:List Dt):Dt.fq (a ++ b)=Dt.fq a + Dt.fq b:=by
 induction a with
 |nil=>simp[Dt.fq]
 |cons d ds ih=>simp[Dt.fq,ih]; lia
def Dt.rg (a:List Dt):a.length<=Dt.fq a:=by
 induction a with
 |nil=>simp[Dt.fq]
 |cons d ds ih=>
  have:=d.size_pos;simp[Dt.fq]; lia
def vM {H:Hp}{v:V}:Rp H .en v↔v= .en:=by unfold Rp; exact Iff.rfl
def rh {H:Hp}{v:V}{b:Bool}:Rp H (.bl b) v↔v= .bl b:=by unfold Rp; exact Iff.rfl
def dE {H:Hp}{v:V}{i:Int}:Rp H (.int i) v↔v= .int i:=by unfold Rp; exact Iff.rfl
def gg {H:Hp}{v:V}{x:Str}:Rp H (.str x) v↔v= .str x:=by unfold Rp; exact Iff.rfl
def jY {H:Hp}{v:V}{ds:List Dt}:Rp H (.tup ds) v↔ ∃a xs,v= .ref a/\H a=some (.tup xs)/\gX H ds xs:=by unfold Rp; exact Iff.rfl
def jZ {H:Hp}{v:V}{ds:List Dt}:Rp H (.lst ds) v↔ ∃a xs,v= .ref a/\H a=some (.lst xs)/\gX H ds xs:=by unfold Rp; exact Iff.rfl
def cJ {H:Hp}{vs:List V}:gX H [] vs↔vs=[]:=by unfold gX; exact Iff.rfl
def bw {H:Hp}{d:Dt}{ds:List Dt}{vs:List V}:gX H (d :: ds) vs↔ ∃v r,vs=v :: r/\Rp H d v/\gX H ds r:=by
 conv=>lhs; unfold gX
mutual
def Rp.mono {H H':Hp}(s:ay H H'): ∀(d:Dt) {v:V},Rp H d v->Rp H' d v
 | .en,_,h=>vM.mpr (vM.mp h)
 | .bl _,_,h=>rh.mpr (rh.mp h)
 | .int _,_,h=>dE.mpr (dE.mp h)
 | .str _,_,h=>gg.mpr (gg.mp h)
 | .tup ds,_,h=>by
  obtain⟨a,xs,e,h1,h2⟩:=jY.mp h;exact jY.mpr ⟨a,xs,e,s _ _ h1,gX.mono s ds h2⟩
 | .lst ds,_,h=>by
  obtain⟨a,xs,e,h1,h2⟩:=jZ.mp h;exact jZ.mpr ⟨a,xs,e,s _ _ h1,gX.mono s ds h2⟩
def gX.mono {H H':Hp}(s:ay H H'): ∀(ds:List Dt) {vs:List V},gX H ds vs->gX H' ds vs
 |[],_,h=>cJ.mpr (cJ.mp h)
 |d :: ds,_,h=>by
  obtain⟨v,r,e,h1,h2⟩:=bw.mp h;exact bw.mpr ⟨v,r,e,Rp.mono s d h1,gX.mono s ds h2⟩
end
def gX.length {H:Hp}: ∀{ds:List Dt} {vs:List V},gX H ds vs->ds.length=vs.length
 |[],_,h=>by rw[cJ.mp h]; rfl
 |d :: ds,_,h=>by
  obtain⟨v,r,e,_,h2⟩:=bw.mp h;rw[e,bJ,bJ,gX.length h2]
def gX.get {H:Hp}: ∀{ds:List Dt} {vs:List V} {i:Nat} {d:Dt},gX H ds vs->ds[i]? =some d-> ∃v,vs[i]? =some v/\Rp H d v
 |[],_,_,_,_,e=>by simp at e
 |d :: ds,_,0,_,h,e=>by
  obtain⟨v,r,rfl,h1,_⟩:=bw.mp h;simp at e; subst e;exact⟨v,rfl,h1⟩
 |d :: ds,_,i + 1,_,h,e=>by
  obtain⟨v,r,rfl,_,h2⟩:=bw.mp h;obtain⟨u,h3,h4⟩:=gX.get (i:=i) h2 (by simpa using e);exact⟨u,by simpa using h3,h4⟩
def gX.append {H:Hp}: ∀{ds es:List Dt} {vs us:List V},gX H ds vs->gX H es us->gX H (ds ++ es) (vs ++ us)
 |[],_,_,_,h,h'=>by rw[cJ.mp h]; exact h'
 |d :: ds,_,_,_,h,h'=>by
  obtain⟨v,r,rfl,h1,h2⟩:=bw.mp h;exact bw.mpr ⟨v,r ++ _,rfl,h1,gX.append h2 h'⟩
def gX.one {H:Hp}{d:Dt}{v:V}(h:Rp H d v):gX H [d] [v]:=bw.mpr ⟨v,[],rfl,h,cJ.mpr rfl⟩
def gX.ints {H:Hp}: ∀(ns:List Int),gX H (ns.map Dt.int) (ns.map V.int)
 |[]=>cJ.mpr rfl
 |n :: ns=>bw.mpr ⟨_,_,rfl,dE.mpr rfl,gX.ints ns⟩
def gj {H:Hp}{a:Addr}{xs:List V}{ds:List Dt}(h:H a=some (.lst xs))(r:gX H ds xs):Rp H (.lst ds) (.ref a):=jZ.mpr ⟨a,xs,rfl,h,r⟩
def dC {H:Hp}{a:Addr}{xs:List V}{ds:List Dt}(h:H a=some (.tup xs))(r:gX H ds xs):Rp H (.tup ds) (.ref a):=jY.mpr ⟨a,xs,rfl,h,r⟩
def PU:Dt->String
 | .en=>"NoneType"| .bl _=>"bool"| .int _=>"int"| .str _=>"str"| .tup _=>"tuple"| .lst _=>"list"
def Rp.ty {K:Frag}{H:Hp}{d:Dt}{v:V}(h:Rp H d v):m9 K H v (.type (PU d)):=by
 cases d with
 |en=>rw[vM.mp h]; exact .en
 |bl b=>rw[rh.mp h]; exact .bl b
 |int i=>rw[dE.mp h]; exact .int i
 |str x=>rw[gg.mp h]; exact .str x
 |tup ds=>obtain⟨a,xs,e,h1,_⟩:=jY.mp h; rw[e]; exact .tup h1
 |lst ds=>obtain⟨a,xs,e,h1,_⟩:=jZ.mp h; rw[e]; exact .lst h1
def XX:Dt->Bool| .lst _=>true|_=>false
def XY:Dt->Bool| .tup _=>true|_=>false
def isLT:Dt->Bool| .lst _=>true| .tup _=>true|_=>false
def V7:Dt->Bool| .str _=>true|_=>false
def isB:Dt->Bool| .bl _=>true|_=>false
def isI:Dt->Bool| .int _=>true| .bl _=>true|_=>false
def isW:Dt->Bool| .int _=>true|_=>false
def Cj {K:Frag}(d:Dt):PySem.W.kitOne K (.type (PU d)) (.type "list")=some (XX d):=by cases d <;> (first|rfl|decide +kernel)
def JX {K:Frag}(d:Dt):PySem.W.kitOne K (.type (PU d)) (.type "tuple")=some (XY d):=by cases d <;> (first|rfl|decide +kernel)
def yX {K:Frag}(d:Dt):PySem.W.kitOne K (.type (PU d)) (.type "str")=some (V7 d):=by cases d <;> (first|rfl|decide +kernel)
def Og {K:Frag}(d:Dt):PySem.W.kitOne K (.type (PU d)) (.type "bool")=some (isB d):=by cases d <;> (first|rfl|decide +kernel)
def Ts {K:Frag}(d:Dt):PySem.W.kitOne K (.type (PU d)) (.type "int")=some (isI d):=by cases d <;> (first|rfl|decide +kernel)
def PV {K:Frag}(d:Dt):PySem.W.kitAny K (.type (PU d)) [.type "list",.type "tuple"]=some (isLT d):=by
 unfold PySem.W.kitAny;rw[Cj];cases d <;> (first|rfl|(show PySem.W.kitAny K _ [.type "tuple"]=_; unfold PySem.W.kitAny; rw[JX]; rfl))
def ub {α β:Type}{F:α->β->Prop}: ∀{l₁:List α} {l₂:List β} {y:β},Paired F l₁ l₂->l₂[l₂.length - 1]? =some y-> ∃l d,l₁=l ++ [d]/\F d y/\Paired F l l₂.dropLast
 |_,_,_,.nil,e=>by simp at e
 |a :: l₁,b :: l₂,y,.cons r t,e=>by
  cases t with
  |nil=>
   simp at e; subst e;exact⟨[],a,rfl,r,.nil⟩
  |cons r' t'=>
   rename_i a' b' m₁ m₂;have e':(b' :: m₂)[(b' :: m₂).length - 1]? =some y:=by
    have h1:(b :: b' :: m₂).length - 1=((b' :: m₂).length - 1) + 1:=by simp
    rw[h1] at e;simpa using e
   obtain⟨l,d,e1,h1,h2⟩:=ub (.cons r' t') e';refine⟨a :: l,d,by rw[e1]; rfl,h1,?_⟩;rw[List.dropLast_cons_of_ne_nil (by simp)];exact .cons r h2
def mq (H H':Hp)(d:Dt)(v:V):Prop:= ∃t u1 u2,v= .ref t/\H' t=some (.tup [u1,u2])/\Rp H d u1/\Rp H d u2
def mq.mono {H H' H2:Hp}{d:Dt}{v:V}(h:mq H H' d v)(k: ∀b xs,H' b=some (.tup xs)->H2 b=some (.tup xs)):mq H H2 d v:=by
 obtain⟨t,u1,u2,e,h1,h2⟩:=h;exact⟨t,u1,u2,e,k _ _ h1,h2⟩
def JY {H:Hp}{p:Addr}{o:HO}(h:H p=none): ∀b xs,H b=some (.tup xs)->upd H p o b=some (.tup xs):=fun b xs e=>ay.new h b _ e
def dI {H:Hp}{p:Addr}{o:HO}{ys:List V}(h:H p=some (.lst ys)): ∀b xs,H b=some (.tup xs)->upd H p o b=some (.tup xs):=fun b xs e=>by
 rw[aB (mN e h (by intro z; cases z))]; exact e
def ay.cW {H0 H:Hp}{p:Addr}{o:HO}(s:ay H0 H)(h:H0 p=none):ay H0 (upd H p o):=fun b u e=>by
 rw[aB (aI e h)]; exact s b u e
def kids:Dt->List Dt
 | .tup ds=>ds
 | .lst ds=>ds
 |_=>[]
def FJ {H:Hp}{d:Dt}{v:V}(h:Rp H d v)(hd:isLT d=true): ∃a xs,v= .ref a/\(∀(K:Frag) (H':Hp),ay H H'->bD K H' a xs∨cy K H' a xs)/\gX H (kids d) xs:=by
 cases d with
 |tup ds=>
  obtain⟨a,xs,e,h1,h2⟩:=jY.mp h;exact⟨a,xs,e,fun K H' s=> .inr (cy.of (s _ _ h1)),h2⟩
 |lst ds=>
  obtain⟨a,xs,e,h1,h2⟩:=jZ.mp h;exact⟨a,xs,e,fun K H' s=> .inl (bD.of (s _ _ h1)),h2⟩
 |_=>cases hd
def Hh {d:Dt}(hd:isLT d=true):d.size=1 + Dt.fq (kids d):=by
 cases d with
 |tup ds=>simp[Dt.size,kids]
 |lst ds=>simp[Dt.size,kids]
 |_=>cases hd
mutual
def Dt.plain:Dt->Bool
 | .int _=>true
 | .str _=>true
 | .tup ds=>Dt.mr ds
 | .lst ds=>Dt.mr ds
 | .en=>false
 | .bl _=>false
def Dt.mr:List Dt->Bool
 |[]=>true
 |d :: ds=>d.plain && Dt.mr ds
end
def Dt.qm {ds:List Dt}:Dt.mr ds=true↔ ∀d∈ds,d.plain=true:=by
 induction ds with
 |nil=>simp[Dt.mr]
 |cons d ds ih=>simp[Dt.mr,ih]
def Eo {d:Dt}(h:d.plain=true): ∀c∈kids d,c.plain=true:=by
 cases d with
 |tup ds=>exact Dt.qm.mp (by simpa[Dt.plain,kids] using h)
 |lst ds=>exact Dt.qm.mp (by simpa[Dt.plain,kids] using h)
 |_=>intro c hc; cases hc
def uL {ds:List Dt}{i:Nat}{d:Dt}(h:ds[i]? =some d):ds.take (i + 1)=ds.take i ++ [d]:=by rw[GN,h]; rfl
def xK (ds:List Dt)(i:Nat):Dt.fq (ds.take i)<=Dt.fq ds:=by
 have:=Dt.iA (ds.take i) (ds.drop i);rw[List.take_append_drop] at this;lia
def ja {n:Nat}(h:n<=1000000):n < sizeLine:=qK h (by rw[eX]; decide)
open PySem.W
def j7 {α:Type}(key:Nat->Int)(n:Nat)(Po:α->Prop):KasT α->Prop
 | .ret a=>Po a
 | .ask i j k=>i < n/\j < n/\j7 key n Po (k (decide (key i < key j)))
def gY {α:Type}{key:Nat->Int}{n:Nat}{Po Po':α->Prop}(h: ∀a,Po a->Po' a): ∀(t:KasT α),j7 key n Po t->j7 key n Po' t
 | .ret a,q=>h a q
 | .ask i j k,q=>⟨q.1,q.2.1,gY h _ q.2.2⟩
def iZ {α β:Type}{key:Nat->Int}{n:Nat}{Po:β->Prop}{f:α->KasT β}: ∀(t:KasT α),j7 key n (fun a=>j7 key n Po (f a)) t->j7 key n Po (t.bind f)
 | .ret a,q=>q
 | .ask i j k,q=>⟨q.1,q.2.1,iZ _ q.2.2⟩
def vN {α:Type}{key:Nat->Int}{n:Nat}{Po:α->Prop}{cmp:Nat->Nat->(Bool->Shared->Prop)->Shared->Prop}{s:Shared}{Q:α->Shared->Prop}
  (hc: ∀i j (C:Bool->Shared->Prop),i < n->j < n->C (decide (key i < key j)) s->cmp i j C s) (hq: ∀a,Po a->Q a s): ∀(t:KasT α),j7 key n Po t->t.kasWp cmp Q s
 | .ret a,q=>hq a q
 | .ask i j k,q=>hc i j _ q.1 q.2.1 (vN hc hq _ q.2.2)
def kf (key:Nat->Int)(p:Array Nat)(i:Nat):Int:=key (p.getD i 0)
def rj (n:Nat)(p:Array Nat):Prop:=p.Perm (List.toArray (List.range n))
def rj.size {n:Nat}{p:Array Nat}(h:rj n p):p.size=n:=by
 have:=Array.Perm.size_eq h;simpa using this
def rj.lt {n:Nat}{p:Array Nat}(h:rj n p)(h0:0 < n)(i:Nat):p.getD i 0 < n:=by
 by_cases hi:i < p.size
 ·have e:p.getD i 0=p[i]:=by simp[Array.getD,hi]
  rw[e];have hm:p[i]∈p:=Array.getElem_mem hi;have:=(Array.Perm.mem_iff h).mp hm;simpa using this
 ·have e:p.getD i 0=0:=by simp[Array.getD,hi]
  rw[e]; exact h0
def rm {p q:Array Nat}{i j:Nat}(h:p[i]? =q[j]?):p.getD i 0=q.getD j 0:=by
 rw[L9,L9,h]
def qo {key:Nat->Int}{p:Array Nat}{i j:Nat}(hj:j<=p.size)(a:Nat):kf key (kas_rev p i j) a=if i<=a/\a < j then kf key p (i + j - 1 - a) else kf key p a:=by
 have:=getElem?_mirror_all (xs:=p) (i:=i) hj a;by_cases h:i<=a/\a < j
 ·rw[a0 h] at this ⊢;exact dr key (rm this)
 ·rw[aQ h] at this ⊢;exact dr key (rm this)
def rj.rev {n:Nat}{p:Array Nat}(h:rj n p)(i j:Nat):rj n (kas_rev p i j):=(mirror_perm p i j _).trans h
def JZ {key:Nat->Int}{p:Array Nat}{src d:Nat}(hs:src < p.size)(hd:d<=src)(k:Nat):kf key (bubble p src d) k=if k=src - d then kf key p src else if src - d < k/\k<=src then kf key p (k - 1) else kf key p k:=by
 have:=getElem?_bubble (xs:=p) hs d hd k;by_cases h:k=src - d
 ·rw[a0 h] at this ⊢;exact dr key (rm this)
 ·rw[aQ h] at this ⊢;by_cases h2:src - d < k/\k<=src
  ·rw[a0 h2] at this ⊢;exact dr key (rm this)
  ·rw[aQ h2] at this ⊢;exact dr key (rm this)
def lO (key:Nat->Int)(p:Array Nat)(m:Nat):Prop:= ∀a b,a<=b->b < m->kf key p a<=kf key p b
def J0 (key:Nat->Int)(p:Array Nat)(m:Nat):Prop:= ∀a b,a<=b->b < m->kf key p b<=kf key p a
section
variable {key:Nat->Int}{n:Nat}
def J1 {p:Array Nat}(hp:rj n p)(h0:0 < n): ∀(f m:Nat),1<=m->lO key p m->j7 key n (fun r=>m<=r/\r<=m + f/\lO key p r/\(r=m + f∨kf key p r < kf key p (r - 1))) (kas_asc p f m)
 |0,m,h1,hs=>⟨aD _,aD _,hs,.inl rfl⟩
 |f + 1,m,h1,hs=>by
  unfold kas_asc;refine⟨hp.lt h0 _,hp.lt h0 _,?_⟩;by_cases c:key (p.getD m 0) < key (p.getD (m - 1) 0)
  ·rw[decide_eq_true c]; dsimp only; rw[if_pos rfl];exact⟨aD _,by lia,hs,.inr c⟩
  ·rw[decide_eq_false c]; dsimp only; rw[if_neg Bool.false_ne_true];have MH:lO key p (m + 1):=by
    intro a b Jc hb;by_cases MJ:b < m
    ·exact hs a b Jc MJ
    ·have e:b=m:=by lia
     subst e;by_cases PX:a=b
     ·rw[PX]; exact fN _
     ·have h2:=hs a (b - 1) (by lia) (by lia);have h3:kf key p (b - 1)<=kf key p b:=by unfold kf; lia
      lia
   refine gY (fun r ⟨q1,q2,q3,q4⟩=>⟨by lia,by lia,q3,?_⟩) _ (J1 hp h0 f (m + 1) (by lia) MH);rcases q4 with q4|q4
   ·exact .inl (by lia)
   ·exact .inr q4
def zY (h0:0 < n): ∀(f:Nat) (p:Array Nat) (m q:Nat),rj n p->m + f<=n->q + 1<=m->J0 key p m->(∀a,m - (q + 1)<=a->a < m->kf key p a=kf key p (m - 1))->
  j7 key n (fun r=>rj n r.1/\1<=r.2.1/\r.2.1<=n/\r.2.2 + 1<=r.2.1/\J0 key r.1 r.2.1/\ ∀a,r.2.1 - (r.2.2 + 1)<=a->a < r.2.1->kf key r.1 a=kf key r.1 (r.2.1 - 1)) (kas_desc f p m q)
 |0,p,m,q,hp,hm,hq,hs,he=>⟨hp,(by show 1<=m; lia),(by show m<=n; lia),hq,hs,he⟩
 |f + 1,p,m,q,hp,hm,hq,hs,he=>by
  unfold kas_desc;have dn: ∀{r:Array Nat},(∀a,a < m->kf key r a=kf key p a)->kf key r m=kf key p m->kf key p m<=kf key p (m - 1)->J0 key r (m + 1):=by
   intro r hr Tt c a b Jc hb;by_cases MJ:b < m
   ·rw[hr a (by lia),hr b MJ]; exact hs a b Jc MJ
   ·have e:b=m:=by lia
    subst e;by_cases PX:a=b
    ·rw[PX]; exact fN _
    ·rw[Tt,hr a (by lia)];have h2:=hs a (b - 1) (by lia) (by lia);lia
  refine⟨hp.lt h0 _,hp.lt h0 _,?_⟩;by_cases c:key (p.getD m 0) < key (p.getD (m - 1) 0)
  ·rw[decide_eq_true c]; dsimp only; rw[if_pos rfl];have c':kf key p m<=kf key p (m - 1):=by unfold kf; lia
   have last: ∀{r:Array Nat} (a:Nat),m + 1 - (0 + 1)<=a->a < m + 1->kf key r a=kf key r (m + 1 - 1):=fun{r} a h1 h2=>by
    have e:a=m + 1 - 1:=by lia
    rw[e]
   by_cases hq0:q > 0
   ·rw[a0 hq0];have hz:m<=p.size:=by rw[hp.size]; lia
    have hr: ∀a,a < m->kf key (kas_rev p (m - (q + 1)) m) a=kf key p a:=fun a ha=>by
     rw[qo hz];split
     ·rename_i h;rw[he a h.1 h.2,he _ (by lia) (by lia)]
     ·rfl
    have Tt:kf key (kas_rev p (m - (q + 1)) m) m=kf key p m:=by rw[qo hz,aQ (by lia)]
    exact zY h0 f _ (m + 1) 0 (hp.rev _ _) (by lia) (by lia) (dn hr Tt c') last
   ·rw[aQ hq0];exact zY h0 f p (m + 1) 0 hp (by lia) (by lia) (dn (fun _ _=>rfl) rfl c') last
  ·rw[decide_eq_false c]; dsimp only; rw[if_neg Bool.false_ne_true];refine⟨hp.lt h0 _,hp.lt h0 _,?_⟩;by_cases d:key (p.getD (m - 1) 0) < key (p.getD m 0)
   ·rw[decide_eq_true d]; dsimp only; rw[if_pos rfl];exact⟨hp,(by show 1<=m; lia),(by show m<=n; lia),hq,hs,he⟩
   ·rw[decide_eq_false d]; dsimp only; rw[if_neg Bool.false_ne_true];have e0:kf key p m=kf key p (m - 1):=by unfold kf; lia
    refine zY h0 f p (m + 1) (q + 1) hp (by lia) (by lia) (dn (fun _ _=>rfl) rfl (by lia)) (fun a h1 h2=>?_);have e1:m + 1 - 1=m:=by lia
    rw[e1];by_cases PX:a=m
    ·rw[PX]
    ·rw[e0]; exact he a (by lia) (by lia)
def FK (h0:0 < n){p:Array Nat}{m:Nat}(hp:rj n p)(h1:1<=m)(hm:m<=n)(hs:J0 key p m):j7 key n (fun r=>rj n r.2/\1<=r.1/\r.1<=n/\lO key r.2 r.1) (kas_tail3 m n p):=by
 unfold kas_tail3;have hz:m<=p.size:=by rw[hp.size]; lia
 have hu:lO key (kas_rev p 0 m) m:=by
  intro a b Jc hb;rw[qo hz,qo hz,a0 ⟨bu _,by lia⟩,a0 ⟨bu _,hb⟩];exact hs _ _ (by lia) (by lia)
 refine iZ _ (gY (fun r ⟨q1,q2,q3,_⟩=>?_) _ (J1 (hp.rev 0 m) h0 (n - m) m h1 hu));exact⟨hp.rev 0 m,by lia,by lia,q3⟩
def vO (h0:0 < n){p:Array Nat}{m:Nat}(hp:rj n p)(hm:m + 1<=n)(hs:J0 key p (m + 1)):j7 key n (fun r=>rj n r.2/\1<=r.1/\r.1<=n/\lO key r.2 r.1) (kas_descPart m n p):=by
 unfold kas_descPart;refine iZ _ (gY (fun r ⟨q1,q2,q3,q4,q5,q6⟩=>?_) _ (zY h0 (n - (m + 1)) p (m + 1) 0 hp (by lia) (by lia) hs fun a h1 h2=>by
  have e:a=m + 1 - 1:=by lia
  rw[e]))
 by_cases hq:r.2.2 > 0
 ·rw[a0 hq];have hz:r.2.1<=r.1.size:=by rw[q1.size]; lia
  refine FK h0 (q1.rev _ _) q2 q3 fun a b Jc hb=>?_;have hr: ∀a,a < r.2.1->kf key (kas_rev r.1 (r.2.1 - (r.2.2 + 1)) r.2.1) a=kf key r.1 a:=fun a ha=>by
   rw[qo hz];split
   ·rename_i h;rw[q6 a h.1 h.2,q6 _ (by lia) (by lia)]
   ·rfl
  rw[hr a (by lia),hr b hb];exact q5 a b Jc hb
 ·rw[aQ hq];exact FK h0 q1 q2 q3 q5
def MK (h0:0 < n){p:Array Nat}(hp:rj n p):j7 key n (fun r=>rj n r.2/\1<=r.1/\r.1<=n/\lO key r.2 r.1) (kas_count n p):=by
 unfold kas_count;have hs1:lO key p 1:=fun a b Jc hb=>by
  have e:a=b:=by lia
  rw[e]; exact fN _
 refine iZ _ (gY (fun m ⟨q1,q2,q3,q4⟩=>?_) _ (J1 hp h0 (n - 1) 1 (aD _) hs1));by_cases Tu:(m == n)=true
 ·rw[a0 Tu];exact⟨hp,q1,by lia,q3⟩
 ·rw[aQ Tu];have i9:m≠n:=fun z=>Tu (by simp[z]);have iX:kf key p m < kf key p (m - 1):=by
   rcases q4 with q4|q4
   ·exact absurd q4 (by lia)
   ·exact q4
  by_cases hm1:m > 1
  ·rw[a0 hm1];refine⟨hp.lt h0 _,hp.lt h0 _,?_⟩;by_cases c:key (p.getD 0 0) < key (p.getD (m - 1) 0)
   ·rw[decide_eq_true c]; dsimp only; rw[if_pos rfl];exact⟨hp,q1,by lia,q3⟩
   ·rw[decide_eq_false c]; dsimp only; rw[if_neg Bool.false_ne_true];have hz:m<=p.size:=by rw[hp.size]; lia
    have heq: ∀a,a < m->kf key p a=kf key p (m - 1):=fun a ha=>by
     have h1:=q3 0 a (bu _) ha;have h2:=q3 a (m - 1) (by lia) (by lia);have h3:kf key p (m - 1)<=kf key p 0:=by unfold kf; lia
     lia
    have hr: ∀a,a < m->kf key (kas_rev p 0 m) a=kf key p (m - 1):=fun a ha=>by
     rw[qo hz,a0 ⟨bu _,ha⟩];exact heq _ (by lia)
    refine vO h0 (hp.rev _ _) (by lia) fun a b Jc hb=>?_;by_cases MJ:b < m
    ·rw[hr a (by lia),hr b MJ]; exact fN _
    ·have e:b=m:=by lia
     subst e;by_cases PX:a=b
     ·rw[PX]; exact fN _
     ·rw[hr a (by lia),qo hz,aQ (by lia)];lia
  ·rw[aQ hm1];have e:m=1:=by lia
   subst e;refine vO h0 hp (by lia) fun a b Jc hb=>?_;by_cases XZ:a=b
   ·rw[XZ]; exact fN _
   ·have e1:a=0:=by lia
    have e2:b=1:=by lia
    subst e1 e2;have e3:(1:Nat) - 1=0:=rfl;rw[e3] at iX;lia
def zZ (h0:0 < n){p:Array Nat}{k:Nat}(hp:rj n p)(hs:lO key p k): ∀(f l r:Nat),l<=r->r<=k->r - l<=f->(∀i,i < l->kf key p i<=kf key p k)->(∀i,r<=i->i < k->kf key p k < kf key p i)->
  j7 key n (fun m=>m<=k/\(∀i,i < m->kf key p i<=kf key p k)/\ ∀i,m<=i->i < k->kf key p k < kf key p i) (kas_place p k f l r)
 |0,l,r,hlr,V8,hf,h1,h2=>by
  have e:l=r:=by lia
  subst e;exact⟨V8,h1,h2⟩
 |f + 1,l,r,hlr,V8,hf,h1,h2=>by
  unfold kas_place;by_cases PY:l≥r
  ·rw[a0 PY];have e:l=r:=by lia
   subst e;exact⟨V8,h1,h2⟩
  ·rw[aQ PY];refine⟨hp.lt h0 _,hp.lt h0 _,?_⟩;by_cases c:key (p.getD k 0) < key (p.getD ((l + r) / 2) 0)
   ·rw[decide_eq_true c]; dsimp only; rw[if_pos rfl];refine zZ h0 hp hs f l ((l + r) / 2) (by lia) (by lia) (by lia) h1 fun i hi X0=>?_;have:=hs ((l + r) / 2) i hi X0;have c':kf key p k < kf key p ((l + r) / 2):=c;lia
   ·rw[decide_eq_false c]; dsimp only; rw[if_neg Bool.false_ne_true];refine zZ h0 hp hs f ((l + r) / 2 + 1) r (by lia) V8 (by lia) (fun i hi=>?_) h2;have:=hs i ((l + r) / 2) (by lia) (by lia);have c': ¬ kf key p k < kf key p ((l + r) / 2):=c;lia
def Oh (h0:0 < n): ∀(f:Nat) (p:Array Nat) (k:Nat),rj n p->k + f=n->lO key p k->j7 key n (fun r=>rj n r/\lO key r n) (kas_bin f p k)
 |0,p,k,hp,hk,hs=>⟨hp,by rw[← hk]; exact hs⟩
 |f + 1,p,k,hp,hk,hs=>by
  unfold kas_bin;refine iZ _ (gY (fun l ⟨q1,q2,q3⟩=>?_) _ (zZ h0 hp hs k 0 k (bu _) (aD _) (by lia) (fun i hi=>absurd hi (iO _)) fun i h1 h2=>by lia));have hz:k < p.size:=by rw[hp.size]; lia
  refine Oh h0 f _ (k + 1) ((bubble_perm p k _).trans hp) (by lia) fun a b Jc hb=>?_;rw[JZ hz (by lia),JZ hz (by lia)];have el:k - (k - l)=l:=by lia
  rw[el];by_cases ha:a=l
  ·rw[a0 ha];by_cases zV:b=l
   ·rw[a0 zV]; exact fN _
   ·rw[aQ zV,a0 ⟨by lia,by lia⟩];have:=q3 (b - 1) (by lia) (by lia);lia
  ·rw[aQ ha];by_cases ha2:l < a/\a<=k
   ·rw[a0 ha2,aQ (by lia),a0 ⟨by lia,by lia⟩];exact hs _ _ (by lia) (by lia)
   ·rw[aQ ha2];have X1:a < l:=by lia
    by_cases zV:b=l
    ·rw[a0 zV]; exact q2 a X1
    ·rw[aQ zV];by_cases RO:l < b/\b<=k
     ·rw[a0 RO];exact hs _ _ (by lia) (by lia)
     ·rw[aQ RO];exact hs _ _ Jc (by lia)
def J2 (h0:0 < n):j7 key n (fun r=>rj n r/\lO key r n) (kas_sort n):=by
 unfold kas_sort;refine iZ _ (gY (fun r ⟨q1,q2,q3,q4⟩=>?_) _ (MK h0 (Ma _)));by_cases h:r.1 < n
 ·rw[a0 h];have e:max r.1 1=r.1:=by lia
  rw[e];exact Oh h0 _ _ _ q1 (by lia) q4
 ·rw[aQ h];have e:r.1=n:=by lia
  rw[e] at q4;exact⟨q1,q4⟩
end
section
variable {prog:Program}{w:World}{A:Around}{E:Value->Shared->Prop}{s:Shared}
def z5 {a:Addr}{vs:List Value}{n:Nat}{P:PySem.Fin->Shared->Prop}{key:Nat->Int}{κ:SortKind}(ho:s.heap.get? a=some (seqObj "list" vs.toArray n))(DK:vs.length < 64)
  (hk:2<=vs.length-> ∀(s':Shared) (Q:SortKind->Shared->Prop),(∀b o,b≠a->s.heap.get? b=some o->s'.heap.get? b=some o)->Q κ s'->wpAny (model prog w) A (keyKind' vs.toArray) Q (fun _ _=>False) s')
  (hc: ∀(s':Shared) (i j:Nat) (C:Bool->Shared->Prop),(∀b o,b≠a->s.heap.get? b=some o->s'.heap.get? b=some o)->i < vs.length->j < vs.length->C (decide (key i < key j)) s'->
   wpAny (model prog w) A (keyLt' κ (vs.getD i Value.none) (vs.getD j Value.none)) C (fun _ _=>False) s')
  (h: ∀p:Array Nat,rj vs.length p->lO key p vs.length->P (.done (.ret .none)) {s with heap:=sortedHeap s.heap a vs (p.toList.map fun i=>vs.getD i Value.none).toArray}):
  wpAny (model prog w) A (Builtin.«list.sort» ⟨[.ref a],[]⟩) P E s:=by
 rw[list_sort_plain];have ha:a < s.heap.objs.size:=aN ho;have hl:sizeLine=16777216:=eX;refine aC (listItems_at ho rfl ?_);refine aC (xq ho rfl ?_ (by rw[bA]; lia) (bu _));obtain⟨e1,Hj⟩: ∃e1,(s.heap.update a (Obj.mapSeq fun _=>(#[]:Array Value))).get? a=some (seqObj "list" #[] e1):=⟨_,N4 ho (fun _=> #[])⟩;refine aC (seqEpoch_at Hj rfl ?_);refine aC (wpAny_newTuple ?_ (by show vs.length<=_; lia));refine aC (Mb ?_ (bu _));refine iq ?_;have V9:(((s.heap.update a (Obj.mapSeq fun _=>(#[]:Array Value))).push (seqObj "tuple" vs.toArray 0)).push (seqObj "list" #[] 0)).get? a=some (seqObj "list" #[] e1):=by
  rw[nz _ _ _ (by rw[size_push',pX]; exact a7 (iW ha)),nz _ _ _ (by rw[pX]; exact a7 ha)];exact Hj
 show wpAny (model prog w) A _ P E {s with heap:=((s.heap.update a (Obj.mapSeq fun _=>(#[]:Array Value))).push (seqObj "tuple" vs.toArray 0)).push (seqObj "list" #[] 0)};dsimp only;have keep: ∀b o,b≠a->s.heap.get? b=some o->(((s.heap.update a (Obj.mapSeq fun _=>(#[]:Array Value))).push (seqObj "tuple" vs.toArray 0)).push (seqObj "list" #[] 0)).get? b=some o:=fun b o hb e=>
  az _ (az _ ((ny s.heap _ (xu hb)).trans e))
 have hsz:vs.toArray.size=vs.length:=by simp
 by_cases h2:vs.toArray.size < 2
 ·rw[a0 h2,a0 h2];refine aC (bI ?_);rw[StateT.run_pure];refine aC (bI ?_);dsimp only;have Ep:(arrOf (SortSt.mk' general' (vs.toArray.zip vs.toArray) #[] 7 none)).map (·.2)=((List.toArray (List.range vs.length)).toList.map fun i=>vs.getD i Value.none).toArray:=by
   show(vs.toArray.zip vs.toArray).map (·.2)=_;apply Array.toList_inj.mp;apply GO;intro i;simp only[Array.toList_map,Array.toList_zip,List.getElem?_map,List.getElem?_zip_eq_some,List.getElem?_range];by_cases hi:i < vs.length
   ·simp[hi,List.getElem?_zip_eq_some,List.zip]
   ·simp[hi]
  refine aC (seqEpoch_at V9 rfl ?_);rw[Ep];refine wpAny_bind (listUpdate_at V9 rfl ?_ (Nat.zero_le _) (by simp; lia));simp only[bne_self_eq_false,Bool.false_eq_true,if_false];refine bI (h _ (Ma _) ?_);intro i j hij hj;have:i=j:=by lia
  subst this; exact fN _
 ·rw[aQ h2,aQ h2];have Tv:2<=vs.length:=by lia
  refine aC (cm (hk Tv _ (fun κ' s'=>κ'=κ/\s'={s with heap:=((s.heap.update a (Obj.mapSeq fun _=>(#[]:Array Value))).push (seqObj "tuple" vs.toArray 0)).push (seqObj "list" #[] 0)}) keep ⟨rfl,rfl⟩) (fun κ' s' LS=>?_) fun _ _ x=>x.elim);obtain⟨rfl,rfl⟩:=LS;refine aC (cm (kat_run (Q:=fun Bz s'=>s'={s with heap:=((s.heap.update a (Obj.mapSeq fun _=>(#[]:Array Value))).push (seqObj "tuple" vs.toArray 0)).push (seqObj "list" #[] 0)}/\ ∃p:Array Nat,p.size=vs.length/\arrOf Bz=p.map (kas_item (vs.toArray.zip vs.toArray))/\failedOf Bz=none/\rj vs.length p/\lO key p vs.length)
   (G:=fun p s'=>s'={s with heap:=((s.heap.update a (Obj.mapSeq fun _=>(#[]:Array Value))).push (seqObj "tuple" vs.toArray 0)).push (seqObj "list" #[] 0)}/\rj vs.length p/\lO key p vs.length)
   (κ:=κ') rfl Tv DK (fun p' Bz s' a1 a2 a3 a4=>⟨a4.1,p',a1,a2,a3,a4.2⟩) (vN (fun i j C hi hj q=>hc _ i j C keep hi hj q) (fun p q=>⟨rfl,q⟩) _ (J2 (by lia)))) ?_ fun _ _ e=>e)
  rintro⟨⟨⟩,Bz⟩ s' ⟨rfl,p,hp,X2,hf,q1,q2⟩;dsimp only;have Ep:=kat_snds (ks:=vs) (vs:=vs) rfl X2;rw[Ep];refine aC (seqEpoch_at V9 rfl ?_);refine aC (xq V9 rfl ?_ (bu _) (by rw[bA,ae,o5,hp]; lia));rw[hf];simp only[bne_self_eq_false,Bool.false_eq_true,if_false];exact bI (h p q1 q2)
def Hl {l:Addr}{vs:List Value}{Q:Value->Shared->Prop}{key:Nat->Int}{κ:SortKind}(hl:s.heap.IsList l vs.toArray)(DK:vs.length < 64)
  (hk:2<=vs.length-> ∀(s':Shared) (Q:SortKind->Shared->Prop),(∀b o,s.heap.get? b=some o->s'.heap.get? b=some o)->Q κ s'->wpAny (model prog w) A.in1.in1 (keyKind' vs.toArray) Q (fun _ _=>False) s')
  (hc: ∀(s':Shared) (i j:Nat) (C:Bool->Shared->Prop),(∀b o,s.heap.get? b=some o->s'.heap.get? b=some o)->i < vs.length->j < vs.length->C (decide (key i < key j)) s'->
   wpAny (model prog w) A.in1.in1 (keyLt' κ (vs.getD i Value.none) (vs.getD j Value.none)) C (fun _ _=>False) s')
  (h: ∀p:Array Nat,rj vs.length p->lO key p vs.length->Q (.ref (s.heap.objs.size + 1)) {s with heap:=sortedAll s.heap vs (p.toList.map fun i=>vs.getD i Value.none).toArray}):
  wpAny (model prog w) A (call (.builtin "sorted") [.ref l]) Q E s:=by
 have Tw:sizeLine=16777216:=eX;refine Calls.call_function_entry kind_sorted plain_sorted entry_sorted (args_sorted1 _) ?_;unfold Builtin.«sorted»;refine aC (m:=checkCount "sorted" 1 1 _) (bI ?_);refine aC (collect_list hl ?_ (by lia));refine aC (Mb ?_ (by show vs.length<=_; lia));have hsz:((s.heap.push (seqObj "list" #[] 0)).update s.heap.objs.size (Obj.mapSeq (· ++ vs.toArray))).objs.size=s.heap.objs.size + 1:=by
  rw[pX,size_push']
 have O6:(((s.heap.push (seqObj "list" #[] 0)).update s.heap.objs.size (Obj.mapSeq (· ++ vs.toArray))).push (seqObj "list" vs.toArray 0)).get? (s.heap.objs.size + 1)=some (seqObj "list" vs.toArray 0):=by
  rw[← hsz]; exact bO _ rfl
 have keep: ∀b o,s.heap.get? b=some o->b≠s.heap.objs.size + 1/\(((s.heap.push (seqObj "list" #[] 0)).update s.heap.objs.size (Obj.mapSeq (· ++ vs.toArray))).push (seqObj "list" vs.toArray 0)).get? b=some o:=fun b o q=>by
  have iX:b < s.heap.objs.size:=aN q;refine⟨a7 (iW iX),?_⟩;rw[nz _ _ _ (by rw[hsz]; exact a7 (iW iX)),Jm _ _ _ _ (a7 iX),nz _ _ _ (a7 iX)];exact q
 show wpAny _ _ _ _ _ {s with heap:=((s.heap.push (seqObj "list" #[] 0)).update s.heap.objs.size (Obj.mapSeq (· ++ vs.toArray))).push (seqObj "list" vs.toArray 0)};rw[hsz];refine aC (iq (wpAny_call_entry slot_list_sort ⟨_,O6,rfl⟩ entry_list_sort (z5 (key:=key) (κ:=κ) O6 DK
  (fun h2 s' Q' kp q=>hk h2 s' Q' (fun b o e=>kp b o (keep b o e).1 (keep b o e).2) q) (fun s' i j C kp hi hj q=>hc s' i j C (fun b o e=>kp b o (keep b o e).1 (keep b o e).2) hi hj q) fun p a1 a2=>⟨_,rfl,?_⟩) (args_list_sort _)))
 exact bI ⟨_,rfl,h p a1 a2⟩
def nN {b:Bool}{Q:Bool->Shared->Prop}: ∀{ts us:List Int} {vs ws:List Value} (i:Nat),IntsAre vs ts->IntsAre ws us->Q (HT.lexLt ts us) s->
  KatLex prog w A b (decide (ts.length < us.length)) Q (vs.zip ws) i s
 |_,_,_,_,i,.nil,.nil,q=>q
 |_,_,_,_,i,.nil,.cons _ _ _,q=>by
  show Q (decide _) s;rw[decide_eq_true (by simp)]; exact q
 |_,_,_,_,i,.cons _ _ _,.nil,q=>by
  show Q (decide _) s;rw[decide_eq_false (by simp)]; exact q
 |_,_,_,_,i,.cons x t r,.cons y u r',q=>by
  refine kat_cons ?_;have he:=SeqAt.EqAt.int_int (A:=A) (s:=s) x t y u;refine he prog w _ _ ?_;rw[HT.mh] at q;by_cases e:x=y
  ·rw[a0 e] at q;have eb:(x == y)=true:=by simp[e]
   rw[eb];refine kat_yes ?_;have hd: ∀(a b:Nat),decide (a + 1 < b + 1)=decide (a < b):=fun a b=>by
    rw[Bool.eq_iff_iff]; simp
   rw[bJ,bJ,hd];exact nN (i + 1) r r' q
  ·rw[aQ e] at q;have eb:(x == y)=false:=by simpa using e
   rw[eb];refine kat_no ?_;cases hb:(b && i == 0) with
   |true=>exact oneLt_int q
   |false=>exact kat_one _ _ (PyProof.Rows.lt_int q)
end
def gv (H:Hp)(ts:List (List Int))(xs:List V):Prop:=Paired (fun(t:List Int) v=> ∃p,v= .ref p/\H p=some (.tup (t.map V.int))) ts xs
def gv.mono {H H':Hp}{ts:List (List Int)}{xs:List V}(h:gv H ts xs)(k: ∀b xs,H b=some (.tup xs)->H' b=some (.tup xs)):gv H' ts xs:=
 Paired.iu h fun _ _ ⟨p,e,q⟩=>⟨p,e,k _ _ q⟩
def gv.get {H:Hp}{ts:List (List Int)}{xs:List V}(h:gv H ts xs){i:Nat}(hi:i < ts.length): ∃p,xs.getD i .en= .ref p/\H p=some (.tup ((ts.getD i []).map V.int)):=by
 have g:ts[i]? =some ts[i]:=ag hi;obtain⟨v,hv,p,e,q⟩:=bL h g;refine⟨p,?_,?_⟩
 ·rw[aj,hv,e]; rfl
 ·rw[aj,g]; exact q
def jN {xs:List V}{us:List Value}(r:Vals xs us)(i:Nat):RelV (xs.getD i .en) (us.getD i .none):=by
 by_cases hi:i < xs.length
 ·have g:xs[i]? =some xs[i]:=ag hi;obtain⟨u,h1,h2⟩:=r.get g;rw[aj,aj,g,h1];exact h2
 ·have h1:xs[i]? =none:=l8 (by lia);rw[aj,aj,h1,r.none_of h1];rfl
def sW {xs:List V}{us:List Value}(r:Vals xs us): ∀l:List Nat,Vals (l.map fun i=>xs.getD i .en) (l.map fun i=>us.getD i .none)
 |[]=> .nil
 |i :: l=> .cons (jN r i) (sW r l)
def yY {H:Hp}{ts:List (List Int)}{xs:List V}(h:gv H ts xs): ∀l:List Nat,(∀i∈l,i < ts.length)->gv H (l.map fun i=>ts.getD i []) (l.map fun i=>xs.getD i .en)
 |[],_=> .nil
 |i :: l,hl=> .cons (by
   obtain⟨p,e,q⟩:=h.get (hl i ba);exact⟨p,e,q⟩) (yY h l fun j hj=>hl j (aW _ hj))
def range_getD {α:Type}(ts:List α)(d:α):(List.range ts.length).map (fun i=>ts.getD i d)=ts:=by
 apply GO;intro i;rw[aE];by_cases hi:i < ts.length
 ·rw[List.getElem?_range hi,o4,aj,ag hi]; rfl
 ·rw[List.getElem?_eq_none (by simpa using hi),List.getElem?_eq_none (by lia)]; rfl
def rj.list {n:Nat}{p:Array Nat}(h:rj n p):p.toList.Perm (List.range n):=by
 have:=Array.perm_iff_toList_perm.mp h;simpa using this
def uc {p:Array Nat}{n:Nat}{key:Nat->Int}(hp:p.size=n)(h:lO key p n):p.toList.Pairwise (fun i j=>key i<=key j):=by
 rw[List.pairwise_iff_getElem];intro i j hi hj hij;have uM:i < p.size:=by simpa using hi
 have Wa:j < p.size:=by simpa using hj
 have:=h i j (by lia) (by lia);unfold kf at this;have e1:p.getD i 0=p.toList[i]:=by simp[Array.getD,uM]
 have e2:p.getD j 0=p.toList[j]:=by simp[Array.getD,Wa]
 rw[e1,e2] at this;exact this
section
variable {X:Cx}
def Inv.tupI {pins:List (Addr×Obj)}{σ:St}{H:Hp}{s:Shared}(I:Inv X pins σ H s){p:Addr}{t:List Int}(h:H p=some (.tup (t.map V.int))):
  ∃(o:Obj) (b0:List Value) (n:Nat),s.heap.get? p=some o/\o.cls= .type "tuple"/\o.data= .seq b0.toArray n/\IntsAre b0 t:=by
 obtain⟨_,b0,rv,o,ho,hc,n,hd⟩:=(show dG X.prog X.w H s.heap p (.tup (t.map V.int)) from I.b9 p _ h);exact⟨o,b0,n,ho,hc,hd,intsAre_of rv⟩
def sX {pins:List (Addr×Obj)}{σ:St}{H:Hp}{s:Shared}(I:Inv X pins σ H s){h':Heap}(kp: ∀b o,s.heap.get? b=some o->h'.get? b=some o): ∀{ts:List (List Int)} {xs:List V} {us:List Value},gv H ts xs->Vals xs us->(∀t∈ts,t≠[])->
  ∃fs:List Value,KatTups h' us fs/\fs.length=us.length/\ ∀v∈fs,∃n t,v= .int n t
 |[],_,us,.nil,r,_=>by
  have e:us=[]:=r.zero;subst e;exact⟨[],trivial,rfl,fun v hv=>by cases hv⟩
 |t :: ts,_,_,.cons ⟨p,e,q⟩ rest,.cons r1 r2,i9=>by
  subst e;obtain⟨fs,h1,h2,h3⟩:=sX I kp rest r2 fun t ht=>i9 t (aW _ ht);obtain⟨o,b0,n,ho,hc,hd,hi⟩:=I.tupI q;have ht:t≠[]:=i9 t ba;cases hi with
  |nil=>exact absurd rfl ht
  |cons z tk uM=>
   cases r1;refine⟨.int z tk :: fs,⟨⟨p,o,_,n,rfl,kp _ _ ho,hc,hd,by simp⟩,h1⟩,by rw[List.length_cons,List.length_cons,h2],fun v hv=>?_⟩;rcases aw.mp hv with rfl|hv
   ·exact⟨z,tk,rfl⟩
   ·exact h3 v hv
def PZ (K:Frag):List V->Hp->VK->Prop:=fun vs H Q=> ∃a xs ts,∃key:List Int->Int,vs=[V.ref a]/\bD K H a xs/\xs.length < 64/\gv H ts xs/\(∀t∈ts,t≠[])/\(∀t∈ts,∀u∈ts,HT.lexLt t u=decide (key t < key u))/\
 ∀D ys us,H D=none->gv H us ys->us.Perm ts->us.Pairwise (fun t u=>key t<=key u)->Q (V.ref D) (upd H D (.lst ys))
def rn:hV X (.builtin "sorted") (PZ X.K):=by
 intro pins s σ H xs us Q I r h;obtain⟨a,xs,ts,key,rfl,hq,DK,hT,i9,JA,q⟩:=h;obtain⟨u,rfl,ru⟩:=vals1 r;cases ru;obtain⟨b0,rv,pl,hz⟩:=I.list hq;have hl:=rv.length;have iX:ts.length=xs.length:=hT.length;refine Hl (κ:=tuples' true) (key:=fun i=>key (ts.getD i [])) pl.isList (by lia) (fun h2 s' Q' kp q'=>?_) (fun s' i j C kp hi hj q'=>?_) fun p hp hup=>?_
 ·obtain⟨fs,f1,f2,f3⟩:=sX I kp hT rv i9;refine kat_kind (T:= .type "int") f1 (by lia) (fun v hv=>?_) rfl q';obtain⟨n,t,rfl⟩:=f3 v hv;exact Looks.of_pure rfl
 ·obtain⟨p1,e1,g1⟩:=hT.get (i:=i) (by lia);obtain⟨p2,e2,g2⟩:=hT.get (i:=j) (by lia);have w1:=jN rv i;have w2:=jN rv j;rw[e1] at w1;rw[e2] at w2;have w1':b0.getD i Value.none= .ref p1:=w1;have w2':b0.getD j Value.none= .ref p2:=w2;rw[w1',w2'];obtain⟨o1,X3,n1,Hj,hc1,mv,Tx⟩:=I.tupI g1;obtain⟨o2,G6,n2,RP,ML,hd2,Tz⟩:=I.tupI g2;refine kat_lt (kp _ _ Hj) mv (kp _ _ RP) hd2 ?_;have l1:=Tx.length;have l2:=Tz.length;have m1:ts.getD i []∈ts:=by rw[aj,ag (show i < ts.length by lia)]; exact bN _
  have m2:ts.getD j []∈ts:=by rw[aj,ag (show j < ts.length by lia)]; exact bN _
  have k:=nN (prog:=X.prog) (w:=X.w) (A:=X.A.in1.in1) (b:=true) (Q:=C) (s:=s') 0 Tx Tz (by rw[JA _ m1 _ m2]; exact q');rw[bA,bA,l1,l2];exact k
 ·have kQ:=hp.size;have hD:H (s.heap.objs.size + 1)=none:=I.b9.fresh (cK _);obtain⟨e,he⟩:=sortedAll_at s.heap b0 (p.toList.map fun i=>b0.getD i Value.none).toArray;refine⟨.ref (s.heap.objs.size + 1),_,I.laid (t':=s.toks) (a:=s.heap.objs.size + 1) (o:= .lst (p.toList.map fun i=>xs.getD i .en)) (fun b o q=>sortedAll_old q) (cK _) ⟨?_,_,e,sW rv p.toList,he⟩,rfl,q _ _ (p.toList.map fun i=>ts.getD i []) hD ?_ ?_ ?_⟩
  ·rw[ae,o5,kQ];exact aR (iM hl.symm) hz
  ·refine yY hT p.toList fun i hi=>?_;have:=(hp.list.mem_iff).mp hi;rw[dz] at this;lia
  ·have e1:=hp.list.map (fun i=>ts.getD i []);rw[← hl,← iX,range_getD] at e1;exact e1
  ·rw[sI];exact uc kQ hup
def ue (ns:List Int): ∀n,n<=ns.length->preSum (fun i=>ns.getD i 0) n=(ns.take n).sum
 |0,_=>by simp[preSum]
 |n + 1,h=>by
  rw[preSum,ue ns n (by lia),By,List.sum_append,ag (by lia),aj,ag (by lia)];simp
def TB (K:Frag):List V->Hp->VK->Prop:=fun xs H Q=> ∃(p:Addr) (ns:List Int),xs=[V.ref p]/\bD K H p (ns.map V.int)/\Q (.int ns.sum) H
def sY (hc:X.calm=true):hV X (.builtin "sum") (TB X.K):=by
 intro pins s σ H xs us Q I r h;obtain⟨p,ns,rfl,hq,q⟩:=h;obtain⟨u,rfl,ru⟩:=vals1 r;cases ru;obtain⟨b0,rv,pl,hz⟩:=I.list hq;have hI:IntsAre b0 ns:=intsAre_of rv;have hl:=hI.length;have hh:=I.ok.hd hc;have hT:s.heap.IsList p b0.toArray:=pl.isList;have hp:p < s.heap.objs.size:=by
  obtain⟨o,ho,_⟩:=hT;exact aN ho
 have X4:p≠s.heap.objs.size:=a7 hp;refine call_sum_walkG (wpAny_pyIter_list hT ?_);refine⟨_,[_,p],[_],_,_,_,fun i=>ns.getD i 0,rfl,Walks.list (A:=X.A.in1) hh _ p X4 b0.toArray,
  ⟨⟨_,Heap.get?_push_size _ rfl,rfl,rfl⟩,hT.push _⟩,fun c hc=>?_,(fun i v hv=>IntsAre.int_at hI i v (by simpa using hv)),fun h' tk t' hk=>?_⟩
 ·show c < (s.heap.push _).objs.size;rw[oO];rcases aw.mp hc with rfl|hc
  ·exact fY _
  ·rcases aw.mp hc with rfl|hc
   ·exact iW hp
   ·cases hc
 ·refine⟨.int _,H,I.kept (t':=tk) (fun b o e=>hk b o (fun hm=>?_) (az _ e)),⟨_,rfl⟩,?_⟩
  ·rw[au] at hm;exact absurd hm (a7 (aN e))
  ·rw[bA,hl,ue ns ns.length (aD _),bb];exact q
def yZ (a:Array Nat): ∀(n:Nat) (acc:Array Nat),((List.replicate n a).foldl (· ++ ·) acc).size=acc.size + n * a.size
 |0,acc=>by simp
 |n + 1,acc=>by
  rw[dv,ee,yZ a n,Array.size_append,xy];lia
def TC:R2:=fun x y H Q=> ∃(z:Str) (n:Int),x= .str z/\y= .int n/\z.length=1/\0<=n/\n<=1000/\ ∀z':Str,z'.length<=1000->Q (.str z') H
def z6:oP X (binaryOp .Mult) TC:=by
 intro pins s σ H x y v u Q I rx ry h;obtain⟨z,n,rfl,rfl,hz,h0,h1,q⟩:=h;obtain⟨t,rfl⟩:=rx;obtain⟨t',rfl⟩:=ry;refine P.mul_str ?_ (fun _ _=>?_) (fun _ _=>?_) ?_
 ·rw[br (by lia),br (by lia)]; rfl
 ·rw[hz];intro MM;have:(2 ^ 63 - 1:Int) / n≥1:=by
   have hn:0 < n:=by
    by_cases c:0 < n
    ·exact c
    ·have e:n=0:=by lia
     subst e;simp at MM;lia
   exact Int.le_ediv_of_mul_le hn (by lia)
  lia
 ·rw[hz];unfold Builtin.Str.tooLong;simp;rw[eX];lia
 ·by_cases c:n < 1
  ·rw[a0 c];exact⟨by decide,⟨.str Str.empty,H,I.tok _,⟨_,rfl⟩,q _ (by show 0<=1000; lia)⟩⟩
  ·rw[aQ c];by_cases c2:(n == 1 || z.length == 0)=true
   ·rw[a0 c2];exact⟨.str z,H,I,⟨_,rfl⟩,q _ (by lia)⟩
   ·rw[aQ c2];have hsz:((List.replicate n.toNat z.cps).foldl (· ++ ·) #[]).size<=1000:=by
     rw[yZ];have:z.cps.size=1:=hz;rw[this];simp;lia
    refine⟨?_,⟨.str _,H,I.tok _,⟨_,rfl⟩,q _ hsz⟩⟩;show _<=_;refine aR hsz ?_;rw[eX]; lia
end
inductive bc where
 |dJ (aJ:Str) (day BB dP:Int)
 |o7 (aJ:Str) (day dP:Int)
 |note (b day dP:Int)
 |set (c b dP:Int)
 |fu (aJ:Str)
 |fC (n:Int)
 |ask (aU:Bool) (aJ:Str) (day:Int)
 |gZ (aJ:Str) (day:Int) (dj:List Int)
structure Rw where
 aJ:Str
 a:Int
 b:Int
 c:Int
 d:Int
instance:Inhabited Rw:=⟨⟨"",0,0,0,0⟩⟩
structure Bk where
 aG:List Rw
 credits:List Rw
 made:List (Nat×Nat×Int)
def Bk.new:Bk:=⟨[],[],[]⟩
def Bk.cr (S:Bk)(c:Nat):Rw:=S.credits.getD c default
def Bk.bl (S:Bk)(b:Nat):Rw:=S.aG.getD b default
def Bk.eG (S:Bk)(c b:Nat):Bool:=decide ((S.cr c).aJ=(S.bl b).aJ) && (decide ((S.cr c).c= -1) || decide ((S.cr c).c=(b:Int)))
def Rw.less (r:Rw)(x:Int):Rw:={r with d:=r.d - x}
def Bk.put (S:Bk)(c b:Nat)(x:Int):Bk:=⟨S.aG.set b ((S.bl b).less x),S.credits.set c ((S.cr c).less x),S.made ++ [(c,b,x)]⟩
def gq (a b:Int):Int:=if b < a then b else a
def uN (x:Int×Nat):Int:=x.1 * 1000 + (x.2:Int)
def ins (x:Int×Nat):List (Int×Nat)->List (Int×Nat)
 |[]=>[x]
 |y :: l=>if uN x<=uN y then x :: y :: l else y :: ins x l
def ez:List (Int×Nat)->List (Int×Nat)
 |[]=>[]
 |x :: l=>ins x (ez l)
def Ck (x y:Int×Nat)(l:List (Int×Nat)):ins x (y :: l)=if uN x<=uN y then x :: y :: l else y :: ins x l:=rfl
def vP (x:Int×Nat): ∀l,(ins x l).Perm (x :: l)
 |[]=>OV _
 |y :: l=>by
  unfold ins;split
  ·exact OV _
  ·exact(List.Perm.cons y (vP x l)).trans (List.Perm.swap x y l)
def dg: ∀l,(ez l).Perm l
 |[]=>OV _
 |x :: l=>(vP x (ez l)).trans (List.Perm.cons x (dg l))
def Ka (x:Int×Nat): ∀l,l.Pairwise (fun a b=>uN a<=uN b)->(ins x l).Pairwise (fun a b=>uN a<=uN b)
 |[],_=>List.pairwise_singleton _ _
 |y :: l,h=>by
  rw[ej] at h;unfold ins;split
  ·rename_i c;rw[ej];refine⟨fun z hz=>?_,ej.mpr h⟩;rcases aw.mp hz with rfl|hz
   ·exact c
   ·exact l9 c (h.1 z hz)
  ·rename_i c;rw[ej];refine⟨fun z hz=>?_,Ka x l h.2⟩;rcases aw.mp ((vP x l).mem_iff.mp hz) with rfl|hz
   ·lia
   ·exact h.1 z hz
def vQ: ∀l,(ez l).Pairwise (fun a b=>uN a<=uN b)
 |[]=>List.Pairwise.nil
 |x :: l=>Ka x _ (vQ l)
def Hm (x:Int×Nat): ∀l,(∀y∈l,uN x<=uN y)->ins x l=x :: l
 |[],_=>rfl
 |y :: l,h=>by
  unfold ins;rw[a0 (h y ba)]
def vR (p:Int×Nat->Bool)(x:Int×Nat): ∀l,l.Pairwise (fun a b=>uN a<=uN b)->(ins x l).filter p=if p x then ins x (l.filter p) else l.filter p
 |[],_=>by
  unfold ins;cases h:p x <;> simp[h,ins]
 |y :: l,hs=>by
  rw[ej] at hs;rw[Ck];by_cases c:uN x<=uN y
  ·rw[a0 c];cases h:p x
   ·rw[List.filter_cons_of_neg (by simp[h])];simp
   ·rw[cB h];simp only[if_true];rw[Hm x];intro z hz;rcases aw.mp (d8.mp hz).1 with rfl|hz'
    ·exact c
    ·exact l9 c (hs.1 z hz')
  ·rw[aQ c];have ih:=vR p x l hs.2;cases hy:p y
   ·rw[List.filter_cons_of_neg (by simp[hy]),ih,List.filter_cons_of_neg (by simp[hy])]
   ·rw[cB hy,ih,cB hy];cases h:p x
    ·simp
    ·simp only[if_true];rw[Ck,aQ c]
def my (p:Int×Nat->Bool): ∀l,ez (l.filter p)=(ez l).filter p
 |[]=>rfl
 |x :: l=>by
  show _ =(ins x (ez l)).filter p;rw[vR p x _ (vQ l),← my p l];cases h:p x
  ·rw[List.filter_cons_of_neg (by simp[h])];simp
  ·rw[cB h];simp[ez]
def gw (rows:List Rw)(aJ:Str)(key:Rw->Int):List (Int×Nat):=((List.range rows.length).filter fun k=>decide ((rows.getD k default).aJ=aJ)).map fun k=>(key (rows.getD k default),k)
def inOrder (rows:List Rw)(aJ:Str)(key:Rw->Int):List Nat:=(ez (gw rows aJ key)).map (·.2)
def vS (rows:List Rw)(aJ:Str)(key:Rw->Int):List (Int×Nat):=
 ((List.range rows.length).filter fun k=>decide ((rows.getD k default).aJ=aJ) && decide (0 < (rows.getD k default).d)).map fun k=>(key (rows.getD k default),k)
def inTurn (rows:List Rw)(aJ:Str)(key:Rw->Int):List Nat:=(ez (vS rows aJ key)).map (·.2)
def Cm (rows:List Rw)(aJ:Str)(key:Rw->Int):vS rows aJ key=(gw rows aJ key).filter fun x=>decide (0 < (rows.getD x.2 default).d):=by
 unfold vS gw;rw[Mc,qL]
 congr 1
 apply sJ;intro k _;simp[Bool.and_comm]
def uf {α β:Type}(f:α->β)(p:β->Bool)(l:List α):(l.filter fun x=>p (f x)).map f=(l.map f).filter p:=by
 rw[Mc]; rfl
def hX (rows:List Rw)(aJ:Str)(key:Rw->Int):inTurn rows aJ key=(inOrder rows aJ key).filter fun k=>decide (0 < (rows.getD k default).d):=by
 unfold inTurn inOrder;rw[Cm,my];exact uf (fun x:Int×Nat=>x.2) (fun k=>decide (0 < (rows.getD k default).d)) _
def kW {rows:List Rw}{aJ:Str}{key:Rw->Int}{k:Nat}:k∈inOrder rows aJ key↔k < rows.length/\(rows.getD k default).aJ=aJ:=by
 unfold inOrder gw;rw[bF];constructor
 ·rintro⟨x,hx,rfl⟩;obtain⟨j,hj,rfl⟩:=bF.mp ((dg _).mem_iff.mp hx);simpa using hj
 ·rintro⟨h1,h2⟩;refine⟨(key (rows.getD k default),k),(dg _).mem_iff.mpr (bF.mpr ⟨k,?_,rfl⟩),rfl⟩;exact List.mem_filter.mpr ⟨List.mem_range.mpr h1,by simpa using h2⟩
def dA {rows:List Rw}{aJ:Str}{key:Rw->Int}{k:Nat}:k∈inTurn rows aJ key↔k < rows.length/\(rows.getD k default).aJ=aJ/\0 < (rows.getD k default).d:=by
 rw[hX,d8,kW];simp[and_assoc]
def xM (rows:List Rw)(aJ:Str)(key:Rw->Int):(inOrder rows aJ key).Nodup:=by
 have h:((ez (gw rows aJ key)).map (·.2)).Perm ((gw rows aJ key).map (·.2)):=(dg _).map _;refine h.nodup_iff.mpr ?_;unfold gw;rw[eE];have e:((fun x:Int×Nat=>x.2) ∘ fun k=>(key (rows.getD k default),k))=id:=rfl;rw[e,BJ];exact mZ.filter _
def jI (rows:List Rw)(aJ:Str)(key:Rw->Int):(inTurn rows aJ key).Nodup:=by
 rw[hX];exact(xM rows aJ key).filter _
def o8 (r r':Rw):Prop:=r'.aJ=r.aJ/\r'.a=r.a/\r'.b=r.b/\r'.c=r.c
def o8.refl (r:Rw):o8 r r:=⟨rfl,rfl,rfl,rfl⟩
def o8.trans {r s t:Rw}(h:o8 r s)(k:o8 s t):o8 r t:=⟨k.1.trans h.1,k.2.1.trans h.2.1,k.2.2.1.trans h.2.2.1,k.2.2.2.trans h.2.2.2⟩
def Cn {rows iB:List Rw}{aJ:Str}{key:Rw->Int}(hk: ∀r r',o8 r r'->key r'=key r)(hl:iB.length=rows.length)(h: ∀k,o8 (rows.getD k default) (iB.getD k default)):gw iB aJ key=gw rows aJ key:=by
 unfold gw;rw[hl];have e:(fun k=>decide ((iB.getD k default).aJ=aJ))=fun k=>decide ((rows.getD k default).aJ=aJ):=by
  funext k
  rw[(h k).1]
 rw[e];apply gO;intro k _;rw[hk _ _ (h k)]
def z7 {rows iB:List Rw}{aJ:Str}{key:Rw->Int}(hk: ∀r r',o8 r r'->key r'=key r)(hl:iB.length=rows.length)(h: ∀k,o8 (rows.getD k default) (iB.getD k default)):inOrder iB aJ key=inOrder rows aJ key:=by
 unfold inOrder;rw[Cn hk hl h]
def z8 {rows iB:List Rw}{aJ:Str}{key:Rw->Int}(hk: ∀r r',o8 r r'->key r'=key r)(hl:iB.length=rows.length)(h: ∀k,o8 (rows.getD k default) (iB.getD k default))(hd: ∀k,(iB.getD k default).d<=(rows.getD k default).d):
  inTurn iB aJ key=(inTurn rows aJ key).filter fun k=>decide (0 < (iB.getD k default).d):=by
 rw[hX,hX,z7 hk hl h,qL];apply sJ;intro k _;have:=hd k;by_cases c:0 < (iB.getD k default).d
 ·have c2:0 < (rows.getD k default).d:=by lia
  rw[aH c,aH c2];rfl
 ·rw[br c];rfl
def bY (exact:Bool)(c:Nat)(S:Bk)(b:Nat):Bk:=
 if 0 < (S.cr c).d/\S.eG c b=true/\((S.cr c).d=(S.bl b).d∨exact=false) then S.put c b (gq (S.cr c).d (S.bl b).d) else S
def cu (aJ:Str)(exact:Bool)(S:Bk)(c:Nat):Bk:=(inTurn S.aG aJ (·.b)).foldl (bY exact c) S
def bQ (aJ:Str)(S:Bk)(exact:Bool):Bk:=(inTurn S.credits aJ (·.a)).foldl (cu aJ exact) S
def Bk.jz (S:Bk)(aJ:Str):Bk:=bQ aJ (bQ aJ S true) false
def Co {α:Type}{l:List α}{i k:Nat}{v d:α}(h:i < l.length):(l.set i v).getD k d=if k=i then v else l.getD k d:=by
 rw[aj,aj];by_cases c:k=i
 ·subst c;rw[a0 rfl,lF h];rfl
 ·rw[aQ c,nv (fun z=>c z.symm)]
def sZ {S:Bk}{c b k:Nat}{x:Int}(h:b < S.aG.length):(S.put c b x).bl k=if k=b then(S.bl b).less x else S.bl k:=Co h
def tf {S:Bk}{c b k:Nat}{x:Int}(h:c < S.credits.length):(S.put c b x).cr k=if k=c then(S.cr c).less x else S.cr k:=Co h
def kN (S:Bk)(l:List (Nat×Nat×Int)):Bk:=l.foldl (fun S t=>S.put t.1 t.2.1 t.2.2) S
def nO (S:Bk)(l m:List (Nat×Nat×Int)):kN S (l ++ m)=kN (kN S l) m:=by
 unfold kN; rw[List.foldl_append]
def jO (S:Bk): ∀l,(kN S l).made=S.made ++ l
 |[]=>by simp[kN]
 |t :: l=>by
  show(kN (S.put t.1 t.2.1 t.2.2) l).made=_;rw[jO _ l];simp[Bk.put]
structure Later (S S':Bk):Prop where
 bl:S'.aG.length=S.aG.length
 cl:S'.credits.length=S.credits.length
 b: ∀k,o8 (S.bl k) (S'.bl k)/\(S'.bl k).d<=(S.bl k).d
 c: ∀k,o8 (S.cr k) (S'.cr k)/\(S'.cr k).d<=(S.cr k).d
def Later.refl (S:Bk):Later S S:=⟨rfl,rfl,fun k=>⟨o8.refl _,fN _⟩,fun k=>⟨o8.refl _,fN _⟩⟩
def Later.trans {S T U:Bk}(h:Later S T)(k:Later T U):Later S U:=
 ⟨k.bl.trans h.bl,k.cl.trans h.cl,fun i=>⟨(h.b i).1.trans (k.b i).1,l9 (k.b i).2 (h.b i).2⟩,fun i=>⟨(h.c i).1.trans (k.c i).1,l9 (k.c i).2 (h.c i).2⟩⟩
def Later.put {S:Bk}{c b:Nat}{x:Int}(hb:b < S.aG.length)(hc:c < S.credits.length)(hx:0<=x):Later S (S.put c b x):=by
 refine⟨eW,eW,fun k=>?_,fun k=>?_⟩
 ·rw[sZ hb];split
  ·rename_i e;subst e;exact⟨o8.refl _,by show(S.bl k).d - x<=_; lia⟩
  ·exact⟨o8.refl _,fN _⟩
 ·rw[tf hc];split
  ·rename_i e;subst e;exact⟨o8.refl _,by show(S.cr k).d - x<=_; lia⟩
  ·exact⟨o8.refl _,fN _⟩
def Later.eG {S T:Bk}(h:Later S T)(c b:Nat):T.eG c b=S.eG c b:=by
 unfold Bk.eG;rw[(h.c c).1.1,(h.b b).1.1,(h.c c).1.2.2.2]
def Later.Oi {S T:Bk}(h:Later S T)(aJ:Str):inTurn T.aG aJ (·.b)=(inTurn S.aG aJ (·.b)).filter fun k=>decide (0 < (T.bl k).d):=
 z8 (fun r r' z=>z.2.2.1) h.bl (fun k=>(h.b k).1) (fun k=>(h.b k).2)
def g6 (f:Int)(ls:List Int)(row:List Bool)(tk:Nat->Bool):Option Nat:=(List.range ls.length).find? fun j=>row.getD j false && decide (ls.getD j 0=f) && !tk j
def bW (fs ls:List Int)(al:List (List Bool)):Nat->(Nat->Bool)×List (Nat×Nat×Int)
 |0=>(fun _=>false,[])
 |i + 1=>match g6 (fs.getD i 0) ls (al.getD i []) (bW fs ls al i).1 with
  |none=>bW fs ls al i
  |some j=>(fun x=>x == j || (bW fs ls al i).1 x,(bW fs ls al i).2 ++ [(i,j,fs.getD i 0)])
def mz (gs ts:List Nat)(t:Nat×Nat×Int):Nat×Nat×Int:=(gs.getD t.1 0,ts.getD t.2.1 0,t.2.2)
def y0 {α:Type}(l:List α)(d:α):(List.range l.length).map (fun j=>l.getD j d)=l:=by
 apply List.ext_getElem
 ·rw[ae,bT]
 ·intro i h1 h2;rw[List.getElem_map,List.getElem_range,aj,ag h2];rfl
def Er {α:Type}(l:List α)(d:α)(p:α->Bool):l.find? p=((List.range l.length).find? fun j=>p (l.getD j d)).map fun j=>l.getD j d:=by
 have e:l.find? p=((List.range l.length).map (fun j=>l.getD j d)).find? p:=by rw[y0]
 rw[e,List.find?_map];rfl
def j8 {l:List Nat}{i:Nat}(h:i < l.length):l.getD i 0∈l:=by
 rw[aj,ag h];exact bN _
def getD_map {α β:Type}(f:α->β)(l:List α)(i:Nat)(d:α)(e:β)(h:i < l.length):(l.map f).getD i e=f (l.getD i d):=by
 rw[aj,aj,aE,ag h];rfl
def getD_inj {l:List Nat}(nd:l.Nodup){i j:Nat}(hi:i < l.length)(hj:j < l.length)(h:l.getD i 0=l.getD j 0):i=j:=by
 rw[aj,aj,ag hi,ag hj] at h;exact(List.getElem_inj nd).mp h
def idle {ex:Bool}{c:Nat}: ∀{l:List Nat} {S:Bk},(S.cr c).d<=0->l.foldl (bY ex c) S=S
 |[],_,_=>rfl
 |b :: l,S,h=>by
  rw[ee];have e:bY ex c S b=S:=by
   unfold bY;rw[aQ (fun z=>by lia)]
  rw[e];exact idle h
def FL {c:Nat}{S:Bk}(hc:c < S.credits.length): ∀{l:List Nat},(∀b∈l,b < S.aG.length)->0 < (S.cr c).d->l.foldl (bY true c) S=match l.find? (fun b=>S.eG c b && decide ((S.bl b).d=(S.cr c).d)) with
  |none=>S
  |some b=>S.put c b (S.cr c).d
 |[],_,_=>rfl
 |b :: l,hl,h=>by
  rw[ee];by_cases z:(S.eG c b && decide ((S.bl b).d=(S.cr c).d))=true
  ·rw[List.find?_cons_of_pos (p:=fun b=>S.eG c b && decide ((S.bl b).d=(S.cr c).d)) z];have z':S.eG c b=true/\(S.bl b).d=(S.cr c).d:=by simpa using z
   have e:bY true c S b=S.put c b (S.cr c).d:=by
    unfold bY;rw[a0 ⟨h,z'.1,.inl z'.2.symm⟩,z'.2]
    congr 1
    unfold gq;split <;> rfl
   rw[e];refine idle ?_;rw[tf hc,a0 rfl];show(S.cr c).d - (S.cr c).d<=0;lia
  ·rw[List.find?_cons_of_neg (p:=fun b=>S.eG c b && decide ((S.bl b).d=(S.cr c).d)) z];have e:bY true c S b=S:=by
    unfold bY;rw[aQ];rintro⟨_,z1,z2⟩;rcases z2 with z2|z2
    ·exact z (by simp[z1,z2])
    ·cases z2
   rw[e];exact FL hc (fun x hx=>hl x (aW _ hx)) h
structure vT (S:Bk)(aJ:Str)(gs ts:List Nat)(fs ls:List Int)(al:List (List Bool)):Prop where
 eg:gs=inTurn S.credits aJ (·.a)
 et:ts=inTurn S.aG aJ (·.b)
 ef:fs=gs.map fun g=>(S.cr g).d
 el:ls=ts.map fun t=>(S.bl t).d
 ea:al=gs.map fun g=>ts.map fun t=>S.eG g t
section
variable {S:Bk}{aJ:Str}{gs ts:List Nat}{fs ls:List Int}{al:List (List Bool)}
def vT.g (R:vT S aJ gs ts fs ls al){i:Nat}(h:i < gs.length):gs.getD i 0 < S.credits.length/\0 < (S.cr (gs.getD i 0)).d/\fs.getD i 0=(S.cr (gs.getD i 0)).d:=by
 have m:=j8 h;rw[R.eg] at m;obtain⟨m1,_,m3⟩:=dA.mp m;rw[← R.eg] at m1 m3;exact⟨m1,m3,by rw[R.ef,getD_map _ gs i 0 0 h]⟩
def vT.t (R:vT S aJ gs ts fs ls al){i:Nat}(h:i < ts.length):ts.getD i 0 < S.aG.length/\0 < (S.bl (ts.getD i 0)).d/\ls.getD i 0=(S.bl (ts.getD i 0)).d:=by
 have m:=j8 h;rw[R.et] at m;obtain⟨m1,_,m3⟩:=dA.mp m;rw[← R.et] at m1 m3;exact⟨m1,m3,by rw[R.el,getD_map _ ts i 0 0 h]⟩
def vT.a (R:vT S aJ gs ts fs ls al){i j:Nat}(hi:i < gs.length)(hj:j < ts.length):(al.getD i []).getD j false=S.eG (gs.getD i 0) (ts.getD j 0):=by
 rw[R.ea,getD_map _ gs i 0 [] hi,getD_map _ ts j 0 false hj]
def vT.gn (R:vT S aJ gs ts fs ls al):gs.Nodup:=by rw[R.eg]; exact jI _ _ _
def vT.tn (R:vT S aJ gs ts fs ls al):ts.Nodup:=by rw[R.et]; exact jI _ _ _
def vT.ll (R:vT S aJ gs ts fs ls al):ls.length=ts.length:=by rw[R.el,ae]
def vT.tm (R:vT S aJ gs ts fs ls al){b:Nat}(h:b∈ts):b < S.aG.length:=by
 rw[R.et] at h;exact(dA.mp h).1
def qp {l:List Nat}{i:Nat}(h:i < l.length):l.take (i + 1)=l.take i ++ [l.getD i 0]:=by
 rw[By,ag h,aj,ag h];rfl
structure X5 (S:Bk)(aJ:Str)(gs ts:List Nat)(fs ls:List Int)(i:Nat)(st:(Nat->Bool)×List (Nat×Nat×Int))(Si:Bk):Prop where
 run:(gs.take i).foldl (cu aJ true) S=Si
 eq:Si=kN S (st.2.map (mz gs ts))
 later:Later S Si
 b: ∀j,j < ts.length->(Si.bl (ts.getD j 0)).d=if st.1 j=true then 0 else ls.getD j 0
 c: ∀k,i<=k->k < gs.length->(Si.cr (gs.getD k 0)).d=fs.getD k 0
def Cp (R:vT S aJ gs ts fs ls al){i:Nat}{Si:Bk}(hi:i < gs.length)(J:X5 S aJ gs ts fs ls i (bW fs ls al i) Si): ∃S',X5 S aJ gs ts fs ls (i + 1) (bW fs ls al (i + 1)) S':=by
 obtain⟨g1,g2,g3⟩:=R.g hi;have gc:gs.getD i 0 < Si.credits.length:=by rw[J.later.cl]; exact g1
 have fr:(Si.cr (gs.getD i 0)).d=fs.getD i 0:=J.c i (aD _) hi;have fp:0 < (Si.cr (gs.getD i 0)).d:=by rw[fr,g3]; exact g2
 have find:((inTurn Si.aG aJ (·.b)).find? fun b=>Si.eG (gs.getD i 0) b && decide ((Si.bl b).d=(Si.cr (gs.getD i 0)).d))=(g6 (fs.getD i 0) ls (al.getD i []) (bW fs ls al i).1).map fun j=>ts.getD j 0:=by
  rw[J.later.Oi,← R.et,List.find?_filter,Er ts 0];unfold g6;rw[R.ll]
  congr 1
  have q: ∀j∈List.range ts.length,(decide (0 < (Si.bl (ts.getD j 0)).d) && (Si.eG (gs.getD i 0) (ts.getD j 0) && decide ((Si.bl (ts.getD j 0)).d=(Si.cr (gs.getD i 0)).d)))=((al.getD i []).getD j false && decide (ls.getD j 0=fs.getD i 0) && !(bW fs ls al i).1 j):=by
   intro j hj;have hj:=dz.mp hj;rw[R.a hi hj,J.later.eG,J.b j hj,fr];obtain⟨_,t2,t3⟩:=R.t hj;cases h:(bW fs ls al i).1 j
   ·simp only[Bool.false_eq_true,if_false,Bool.not_false,Bool.and_true];rw[t3,aH t2];simp
   ·simp
  have key: ∀(l:List Nat) (p q:Nat->Bool),(∀j∈l,p j=q j)->l.find? p=l.find? q:=by
   intro l p q h
   induction l with
   |nil=>rfl
   |cons x l ih=>
    rw[List.find?_cons,List.find?_cons,h x ba,ih fun j hj=>h j (aW _ hj)]
  refine key _ _ _ fun j hj=>?_;rw[← q j hj];simp
 have run:(gs.take (i + 1)).foldl (cu aJ true) S=match(g6 (fs.getD i 0) ls (al.getD i []) (bW fs ls al i).1).map (fun j=>ts.getD j 0) with
   |none=>Si
   |some b=>Si.put (gs.getD i 0) b (Si.cr (gs.getD i 0)).d:=by
  rw[qp hi,lH,J.run];show cu aJ true Si (gs.getD i 0)=_;unfold cu;rw[FL gc (fun b hb=>(dA.mp hb).1) fp,find]
 cases h:g6 (fs.getD i 0) ls (al.getD i []) (bW fs ls al i).1 with
 |none=>
  rw[h] at run;have e:bW fs ls al (i + 1)=bW fs ls al i:=by rw[bW,h]
  rw[e];exact⟨Si,run,J.eq,J.later,J.b,fun k h1 h2=>J.c k (by lia) h2⟩
 |some j=>
  rw[h] at run;have e:bW fs ls al (i + 1)=(fun x=>x == j || (bW fs ls al i).1 x,(bW fs ls al i).2 ++ [(i,j,fs.getD i 0)]):=by rw[bW,h]
  have hj:j < ts.length:=by
   unfold g6 at h;have:=OW h;rw[R.ll] at this;exact dz.mp this
  have hj2:(al.getD i []).getD j false=true/\ls.getD j 0=fs.getD i 0/\(bW fs ls al i).1 j=false:=by
   unfold g6 at h;have:=List.find?_some h;simpa[and_assoc] using this
  obtain⟨t1,t2,t3⟩:=R.t hj;have tb:ts.getD j 0 < Si.aG.length:=by rw[J.later.bl]; exact t1
  have f0:0<=fs.getD i 0:=by rw[g3]; lia
  have run':(gs.take (i + 1)).foldl (cu aJ true) S=Si.put (gs.getD i 0) (ts.getD j 0) (fs.getD i 0):=by
   rw[run,← fr];rfl
  rw[e];refine⟨Si.put (gs.getD i 0) (ts.getD j 0) (fs.getD i 0),run',?_,J.later.trans (Later.put tb gc f0),fun j' Wa=>?_,fun k h1 h2=>?_⟩
  ·rw[aL,nO,← J.eq];rfl
  ·rw[sZ tb];by_cases q:j'=j
   ·subst q;rw[a0 rfl];simp only[beq_self_eq_true,Bool.true_or,if_true];show(Si.bl (ts.getD j' 0)).d - fs.getD i 0=0;rw[J.b j' hj,hj2.2.2,aQ (by decide),hj2.2.1];lia
   ·rw[aQ fun z=>q (getD_inj R.tn Wa hj z),J.b j' Wa];have:(j' == j)=false:=by simpa using q
    show _ =if(j' == j || (bW fs ls al i).1 j')=true then 0 else _;rw[this,Bool.false_or]
  ·rw[tf gc,aQ fun z=>by have:=getD_inj R.gn h2 hi z; lia];exact J.c k (by lia) h2
def vU (R:vT S aJ gs ts fs ls al): ∀i,i<=gs.length-> ∃Si,X5 S aJ gs ts fs ls i (bW fs ls al i) Si
 |0,_=>⟨S,rfl,rfl,Later.refl S,fun j hj=>by
   obtain⟨_,_,t3⟩:=R.t hj;show _ =if false=true then 0 else _;rw[aQ (by decide),t3],fun k _ h2=>by
   obtain⟨_,_,g3⟩:=R.g h2;exact g3.symm⟩
 |i + 1,h=>by
  obtain⟨Si,J⟩:=vU R i (by lia);exact Cp R (by lia) J
def Kb (R:vT S aJ gs ts fs ls al):bQ aJ S true=kN S ((bW fs ls al gs.length).2.map (mz gs ts))/\Later S (bQ aJ S true):=by
 obtain⟨Si,J⟩:=vU R gs.length (aD _);have e:bQ aJ S true=Si:=by
  unfold bQ;rw[← R.eg,← J.run,bb]
 rw[e];exact⟨J.eq,J.later⟩
end
def FN {l:List Int}{i j:Nat}{v:Int}(h:i≠j):(l.set i v).getD j 0=l.getD j 0:=by
 rw[aj,aj,nv h]
def MN {l:List Int}{i:Nat}{v:Int}(h:i < l.length):(l.set i v).getD i 0=v:=by
 rw[aj,lF h]; rfl
def dO (l:List Int)(ps:List (Nat×Int)):List Int:=ps.foldl (fun l x=>l.set x.1 (l.getD x.1 0 - x.2)) l
def ug (l:List Int)(ps:List (Nat×Int))(x:Nat×Int):dO l (ps ++ [x])=(dO l ps).set x.1 ((dO l ps).getD x.1 0 - x.2):=by
 unfold dO; rw[List.foldl_append]; rfl
def qq (ps:List (Nat×Int)): ∀l:List Int,(dO l ps).length=l.length:=by
 induction ps with
 |nil=>intro l; rfl
 |cons x ps ih=>
  intro l;show(dO (l.set x.1 _) ps).length=_;rw[ih,eW]
def bH (f:Int)(l:List Int)(row:List Bool):Nat->Int×List (Nat×Int)
 |0=>(f,[])
 |j + 1=>if row.getD j false=true/\0 < gq (bH f l row j).1 (l.getD j 0) then((bH f l row j).1 - gq (bH f l row j).1 (l.getD j 0),(bH f l row j).2 ++ [(j,gq (bH f l row j).1 (l.getD j 0))]) else bH f l row j
def cv (fs ls:List Int)(al:List (List Bool)):Nat->List Int×List (Nat×Nat×Int)
 |0=>(ls,[])
 |i + 1=>(dO (cv fs ls al i).1 (bH (fs.getD i 0) (cv fs ls al i).1 (al.getD i []) (cv fs ls al i).1.length).2,
   (cv fs ls al i).2 ++ (bH (fs.getD i 0) (cv fs ls al i).1 (al.getD i []) (cv fs ls al i).1.length).2.map fun x=>(i,x.1,x.2))
def jP (fs ls:List Int)(al:List (List Bool)): ∀i,(cv fs ls al i).1.length=ls.length
 |0=>rfl
 |i + 1=>by
  show(dO _ _).length=_;rw[qq,jP fs ls al i]
def gp (c:Nat)(S:Bk)(b:Nat):Bk:=if 0 < (S.bl b).d then bY false c S b else S
def Kc {c b:Nat}{S:Bk}(hc:c < S.credits.length)(hb:b < S.aG.length):Later S (gp c S b)/\ ∀k,k≠b->((gp c S b).bl k).d=(S.bl k).d:=by
 unfold gp bY;split
 ·rename_i h1;split
  ·rename_i h2;refine⟨Later.put hb hc ?_,fun k hk=>by rw[sZ hb,aQ hk]⟩;unfold gq;split <;> lia
  ·exact⟨Later.refl S,fun _ _=>rfl⟩
 ·exact⟨Later.refl S,fun _ _=>rfl⟩
def FO {c:Nat}{S0:Bk}: ∀{l:List Nat} {S:Bk},l.Nodup->c < S.credits.length->(∀b∈l,b < S.aG.length)->(∀b∈l,(S.bl b).d=(S0.bl b).d)->
  (l.filter fun b=>decide (0 < (S0.bl b).d)).foldl (bY false c) S=l.foldl (gp c) S
 |[],_,_,_,_,_=>rfl
 |b :: l,S,nd,hc,hl,hd=>by
  rw[eV] at nd;obtain⟨lt,ot⟩:=Kc (S:=S) hc (hl b ba);have ih:=FO (S:=gp c S b) (S0:=S0) (l:=l) nd.2 (by rw[lt.cl]; exact hc) (fun x hx=>by rw[lt.bl]; exact hl x (aW _ hx)) (fun x hx=>by
   rw[ot x (fun z=>nd.1 (z▸hx))];exact hd x (aW _ hx))
  rw[ee,← ih];have e:=hd b ba;by_cases z:0 < (S0.bl b).d
  ·rw[List.filter_cons_of_pos (by simpa using z),List.foldl_cons]
   congr 1
   unfold gp;rw[a0 (by lia)]
  ·rw[List.filter_cons_of_neg (by simpa using z)]
   congr 1
   unfold gp;rw[aQ (by lia)]
section
variable {S:Bk}{aJ:Str}{gs ts:List Nat}{fs ls:List Int}{al:List (List Bool)}
structure P0 (S:Bk)(ts:List Nat)(c:Nat)(L:List Int)(j:Nat)(st:Int×List (Nat×Int))(Sj:Bk):Prop where
 run:(ts.take j).foldl (gp c) S=Sj
 eq:Sj=kN S (st.2.map fun x=>(c,ts.getD x.1 0,x.2))
 later:Later S Sj
 f:(Sj.cr c).d=st.1
 b: ∀k,k < ts.length->(Sj.bl (ts.getD k 0)).d=(dO L st.2).getD k 0
 lt: ∀x∈st.2,x.1 < j
 oc: ∀k,k≠c->Sj.cr k=S.cr k
def z9 {c:Nat}{L:List Int}{row:List Bool}(nd:ts.Nodup)(hc:c < S.credits.length)(ht: ∀b∈ts,b < S.aG.length)(hL:L.length=ts.length)(hb: ∀k,k < ts.length->(S.bl (ts.getD k 0)).d=L.getD k 0)
  (hr: ∀k,k < ts.length->row.getD k false=S.eG c (ts.getD k 0)) {j:Nat} (hj:j < ts.length) {Sj:Bk} (J:P0 S ts c L j (bH (S.cr c).d L row j) Sj): ∃S',P0 S ts c L (j + 1) (bH (S.cr c).d L row (j + 1)) S':=by
 have ap:(dO L (bH (S.cr c).d L row j).2).getD j 0=L.getD j 0:=by
  have other: ∀(ps:List (Nat×Int)) (l:List Int),(∀x∈ps,x.1≠j)->(dO l ps).getD j 0=l.getD j 0:=by
   intro ps
   induction ps with
   |nil=>intro l h; rfl
   |cons x ps ih=>
    intro l h;show(dO (l.set x.1 _) ps).getD j 0=_;rw[ih _ fun y hy=>h y (aW _ hy),FN (h x ba)]
  exact other _ _ fun x hx=>a7 (J.lt x hx)
 have bd:(Sj.bl (ts.getD j 0)).d=L.getD j 0:=by rw[J.b j hj,ap]
 have cj:c < Sj.credits.length:=by rw[J.later.cl]; exact hc
 have bj:ts.getD j 0 < Sj.aG.length:=by rw[J.later.bl]; exact ht _ (j8 hj)
 have run:(ts.take (j + 1)).foldl (gp c) S=gp c Sj (ts.getD j 0):=by
  rw[qp hj,lH,J.run];rfl
 have g:Sj.eG c (ts.getD j 0)=row.getD j false:=by rw[J.later.eG,hr j hj]
 by_cases z:row.getD j false=true/\0 < gq (bH (S.cr c).d L row j).1 (L.getD j 0)
 ·have e:bH (S.cr c).d L row (j + 1)=((bH (S.cr c).d L row j).1 - gq (bH (S.cr c).d L row j).1 (L.getD j 0),(bH (S.cr c).d L row j).2 ++ [(j,gq (bH (S.cr c).d L row j).1 (L.getD j 0))]):=by
   rw[bH,a0 z]
  have z1:0 < (Sj.bl (ts.getD j 0)).d/\0 < (Sj.cr c).d:=by
   rw[bd,J.f];have:=z.2;unfold gq at this;split at this <;> lia
  have e2:gp c Sj (ts.getD j 0)=Sj.put c (ts.getD j 0) (gq (bH (S.cr c).d L row j).1 (L.getD j 0)):=by
   unfold gp bY;rw[a0 z1.1,a0 ⟨z1.2,by rw[g]; exact z.1,.inr rfl⟩,J.f,bd]
  rw[e];refine⟨_,run.trans e2,?_,J.later.trans (Later.put bj cj (by lia)),?_,fun k hk=>?_,fun x hx=>?_,fun k hk=>?_⟩
  ·rw[aL,nO,← J.eq];rfl
  ·rw[tf cj,a0 rfl];show(Sj.cr c).d - _ =_;rw[J.f]
  ·rw[sZ bj,ug];have len:(dO L (bH (S.cr c).d L row j).2).length=ts.length:=by rw[qq,hL]
   by_cases q:k=j
   ·subst q;rw[a0 rfl,MN (by rw[len]; exact hk)];show(Sj.bl (ts.getD k 0)).d - _ =(dO L _).getD k 0 - _;rw[J.b k hk]
   ·rw[aQ fun w=>q (getD_inj nd hk hj w),J.b k hk,FN (xu q)]
  ·rcases bg.mp hx with hx|hx
   ·have:=J.lt x hx;lia
   ·rw[au.mp hx];exact fY _
  ·rw[tf cj,aQ hk];exact J.oc k hk
 ·have e:bH (S.cr c).d L row (j + 1)=bH (S.cr c).d L row j:=by rw[bH,aQ z]
  have e2:gp c Sj (ts.getD j 0)=Sj:=by
   unfold gp bY;split
   ·rename_i h1;rw[aQ];rintro⟨h2,h3,_⟩;refine z ⟨by rw[← g]; exact h3,?_⟩;rw[bd] at h1;rw[J.f] at h2;unfold gq;split <;> assumption
   ·rfl
  rw[e];exact⟨Sj,run.trans e2,J.eq,J.later,J.f,J.b,fun x hx=>by have:=J.lt x hx; lia,J.oc⟩
def FP {c:Nat}{L:List Int}{row:List Bool}(nd:ts.Nodup)(hc:c < S.credits.length)(ht: ∀b∈ts,b < S.aG.length)(hL:L.length=ts.length)(hb: ∀k,k < ts.length->(S.bl (ts.getD k 0)).d=L.getD k 0)
  (hr: ∀k,k < ts.length->row.getD k false=S.eG c (ts.getD k 0)): ∀j,j<=ts.length-> ∃Sj,P0 S ts c L j (bH (S.cr c).d L row j) Sj
 |0,_=>⟨S,rfl,rfl,Later.refl S,rfl,hb,(fun _ h=>by cases h),fun _ _=>rfl⟩
 |j + 1,h=>by
  obtain⟨Sj,J⟩:=FP nd hc ht hL hb hr j (by lia);exact z9 nd hc ht hL hb hr (by lia) J
structure X6 (S:Bk)(aJ:Str)(gs ts:List Nat)(fs:List Int)(i:Nat)(st:List Int×List (Nat×Nat×Int))(Si:Bk):Prop where
 run:(gs.take i).foldl (cu aJ false) S=Si
 eq:Si=kN S (st.2.map (mz gs ts))
 later:Later S Si
 b: ∀j,j < ts.length->(Si.bl (ts.getD j 0)).d=st.1.getD j 0
 c: ∀k,i<=k->k < gs.length->(Si.cr (gs.getD k 0)).d=fs.getD k 0
def Cq (R:vT S aJ gs ts fs ls al){i:Nat}{Si:Bk}(hi:i < gs.length)(J:X6 S aJ gs ts fs i (cv fs ls al i) Si): ∃S',X6 S aJ gs ts fs (i + 1) (cv fs ls al (i + 1)) S':=by
 obtain⟨g1,g2,g3⟩:=R.g hi;have gc:gs.getD i 0 < Si.credits.length:=by rw[J.later.cl]; exact g1
 have fr:(Si.cr (gs.getD i 0)).d=fs.getD i 0:=J.c i (aD _) hi;have tl:(cv fs ls al i).1.length=ts.length:=by rw[jP,R.ll]
 have tb: ∀b∈ts,b < Si.aG.length:=fun b hb=>by rw[J.later.bl]; exact R.tm hb
 obtain⟨S',K⟩:=FP (S:=Si) (ts:=ts) (c:=gs.getD i 0) (L:=(cv fs ls al i).1) (row:=al.getD i []) R.tn gc tb tl J.b (fun k hk=>by rw[R.a hi hk,J.later.eG]) ts.length (aD _);have e:(gs.take (i + 1)).foldl (cu aJ false) S=S':=by
  rw[qp hi,lH,J.run];show cu aJ false Si (gs.getD i 0)=_;unfold cu;rw[J.later.Oi,← R.et,FO R.tn gc tb (fun _ _=>rfl),← K.run,bb]
 rw[fr] at K;have pe:bH (fs.getD i 0) (cv fs ls al i).1 (al.getD i []) ts.length=bH (fs.getD i 0) (cv fs ls al i).1 (al.getD i []) (cv fs ls al i).1.length:=by rw[tl]
 rw[pe] at K;refine⟨S',e,?_,J.later.trans K.later,K.b,fun k h1 h2=>?_⟩
 ·show S'=kN S (((cv fs ls al i).2 ++ _).map (mz gs ts));rw[aL,nO,← J.eq,K.eq,eE];rfl
 ·rw[K.oc _ fun z=>by have:=getD_inj R.gn h2 hi z; lia];exact J.c k (by lia) h2
def vV (R:vT S aJ gs ts fs ls al): ∀i,i<=gs.length-> ∃Si,X6 S aJ gs ts fs i (cv fs ls al i) Si
 |0,_=>⟨S,rfl,rfl,Later.refl S,fun j hj=>by
   obtain⟨_,_,t3⟩:=R.t hj;exact t3.symm,fun k _ h2=>by
   obtain⟨_,_,g3⟩:=R.g h2;exact g3.symm⟩
 |i + 1,h=>by
  obtain⟨Si,J⟩:=vV R i (by lia);exact Cq R (by lia) J
def Kd (R:vT S aJ gs ts fs ls al):bQ aJ S false=kN S ((cv fs ls al gs.length).2.map (mz gs ts))/\Later S (bQ aJ S false):=by
 obtain⟨Si,J⟩:=vV R gs.length (aD _);have e:bQ aJ S false=Si:=by
  unfold bQ;rw[← R.eg,← J.run,bb]
 rw[e];exact⟨J.eq,J.later⟩
end
inductive uZ where
 |int (i:Int)
 |txt (s:Str)
 |sets (l:List (Nat×Nat×Int))
 |pairs (l:List (Nat×Int))
 |ints (l:List Int)
def bc.isSet:bc->Bool
 | .set _ _ _=>true
 | .fu _=>true
 |_=>false
def bc.tells:bc->Bool
 | .dJ _ _ _ _=>true
 | .o7 _ _ _=>true
 | .note _ _ _=>true
 | .set _ _ _=>true
 | .fu _=>true
 |_=>false
def qM (x:Int)(n:Nat):Prop:=0<=x/\x < (n:Int)
instance (x:Int) (n:Nat):Decidable (qM x n):=inferInstanceAs (Decidable (_/\_))
def Bk.bar (S:Bk):bc->Str
 | .dJ _ day BB dP=>if dP < 1 then "no amount" else if BB < day then "too early" else ""
 | .o7 _ _ dP=>if dP < 1 then "no amount" else ""
 | .note b _ dP=>if ¬ qM b S.aG.length then "no bill" else if dP < 1 then "no amount" else ""
 | .set c b dP=>if ¬ qM c S.credits.length then "no credit" else if ¬ qM b S.aG.length then "no bill" else if S.eG c.toNat b.toNat=false then "not theirs" else
   if dP < 1 then "no amount" else if gq (S.cr c.toNat).d (S.bl b.toNat).d < dP then "too much" else ""
 |_=>""
def vW (S:Bk)(b d a:Int):S.bar (.note b d a)=(if ¬ qM b S.aG.length then("no bill":Str) else if a < 1 then("no amount":Str) else("":Str)):=rfl
def Aa (S:Bk)(c b a:Int):S.bar (.set c b a)=(if ¬ qM c S.credits.length then("no credit":Str) else if ¬ qM b S.aG.length then("no bill":Str) else if S.eG c.toNat b.toNat=false then("not theirs":Str) else
   if a < 1 then("no amount":Str) else if gq (S.cr c.toNat).d (S.bl b.toNat).d < a then("too much":Str) else("":Str)):=rfl
def n1:("no credit":Str)≠"":=by decide +kernel
def n2:("no bill":Str)≠"":=by decide +kernel
def n3:("not theirs":Str)≠"":=by decide +kernel
def n4:("no amount":Str)≠"":=by decide +kernel
def n6:("too much":Str)≠"":=by decide +kernel
def tj {S:Bk}{b d a:Int}(h:S.bar (.note b d a)=""):qM b S.aG.length/\1<=a:=by
 rw[vW] at h;split at h
 ·exact absurd h n2
 ·rename_i q;split at h
  ·exact absurd h n4
  ·exact⟨GQ.mp q,by lia⟩
def nP {S:Bk}{c b a:Int}(h:S.bar (.set c b a)=""):qM c S.credits.length/\qM b S.aG.length/\S.eG c.toNat b.toNat=true/\1<=a/\a<=(S.cr c.toNat).d/\a<=(S.bl b.toNat).d:=by
 rw[Aa] at h;split at h
 ·exact absurd h n1
 rename_i q1;split at h
 ·exact absurd h n2
 rename_i q2;split at h
 ·exact absurd h n3
 rename_i q3;split at h
 ·exact absurd h n4
 rename_i q4;split at h
 ·exact absurd h n6
 rename_i q5;refine⟨Classical.not_not.mp q1,Classical.not_not.mp q2,by simpa using q3,by lia,?_⟩;unfold gq at q5;split at q5 <;> lia
def Bk.kO (S:Bk)(r:Rw):Bk:={S with aG:=S.aG ++ [r]}
def Bk.il (S:Bk)(r:Rw):Bk:={S with credits:=S.credits ++ [r]}
def Bk.enter (S:Bk):bc->Bk
 | .dJ w d u a=>S.kO ⟨w,d,u,a,a⟩
 | .o7 w d a=>S.il ⟨w,d,a,-1,a⟩
 | .note b d a=>S.il ⟨(S.bl b.toNat).aJ,d,a,b,a⟩
 | .set c b a=>S.put c.toNat b.toNat a
 | .fu w=>S.jz w
 |_=>S
def Bk.Ke (S:Bk):bc->uZ
 | .dJ _ _ _ _=> .int S.aG.length
 | .o7 _ _ _=> .int S.credits.length
 | .note _ _ _=> .int S.credits.length
 | .set _ _ a=> .int a
 | .fu w=> .sets ((S.jz w).made.drop S.made.length)
 |_=> .int 0
def cH:List (Int×bc)->Bk->Option Bk
 |[],S=>some S
 |(_,d) :: l,S=>if S.bar d="" then cH l (S.enter d) else none
def iC:List (Int×bc)->Bk->Str
 |[],_=>""
 |(_,d) :: l,S=>if S.bar d="" then iC l (S.enter d) else S.bar d
def Bk.gh (S:Bk)(t:Nat×Nat×Int):Int:=if(S.bl t.2.1).a > (S.cr t.1).a then(S.bl t.2.1).a else(S.cr t.1).a
def spotOf (aU:Bool)(t:Nat×Nat×Int):Nat:=if aU then t.2.1 else t.1
def Bk.cnt (S:Bk)(aU:Bool)(k:Nat)(day:Int)(t:Nat×Nat×Int):Bool:=decide (spotOf aU t=k) && decide (S.gh t<=day)
def Bk.rows (S:Bk)(aU:Bool):List Rw:=if aU then S.aG else S.credits
def uh (aU:Bool)(r:Rw):Int:=if aU then r.c else r.b
def keyOf (aU:Bool)(r:Rw):Int:=if aU then r.b else r.a
def Bk.rest (S:Bk)(aU:Bool)(k:Nat)(day:Int):Int:=uh aU ((S.rows aU).getD k default) - ((S.made.filter (S.cnt aU k day)).map (·.2.2)).sum
def Bk.hZ (S:Bk)(aU:Bool)(aJ:Str)(day:Int):List (Nat×Int):=
 ((inOrder (S.rows aU) aJ (keyOf aU)).filter fun k=>decide (((S.rows aU).getD k default).a<=day) && decide (0 < S.rest aU k day)).map fun k=>(k,S.rest aU k day)
def placeOf (gh:Int)(dj:List Int):Nat:=if gh<=0 then 0 else 1 + (dj.filter fun l=>decide (l < gh)).length
def ui (l:List Int)(i:Nat)(x:Int):List Int:=l.set i (l.getD i 0 + x)
def Bk.P1 (S:Bk)(aJ:Str)(day:Int)(dj:List Int):List Int:=
 (S.hZ true aJ day).foldl (fun l t=>ui l (placeOf (day - (S.bl t.1).b) dj) t.2) (List.replicate (dj.length + 2) 0)
structure eL where
 steps:List (Int×bc)
 bk:Bk
def eL.new:eL:=⟨[],Bk.new⟩
def cX (m:Int)(st:Int×bc):Bool:= !(decide (st.1=m) && st.2.isSet)
def cz (T:eL)(n:Int):bc->uZ×eL
 | .fC m=>if(T.steps.filter (cX m)).length=T.steps.length then(.txt "no setting",T) else
   match cH (T.steps.filter (cX m)) Bk.new with
   |none=>(.txt "needed",T)
   |some S=>(.txt "undone",⟨T.steps.filter (cX m),S⟩)
 | .ask o w d=>(.pairs (T.bk.hZ o w d),T)
 | .gZ w d l=>(.ints (T.bk.P1 w d l),T)
 |d=>if T.bk.bar d="" then(T.bk.Ke d,⟨T.steps ++ [(n,d)],T.bk.enter d⟩) else(.txt (T.bk.bar d),T)
def cM:List bc->eL->Nat->List uZ×eL
 |[],T,_=>([],T)
 |d :: l,T,n=>((cz T n d).1 :: (cM l (cz T n d).2 (n + 1)).1,(cM l (cz T n d).2 (n + 1)).2)
structure WF (S:Bk)(n:Nat):Prop where
 m: ∀t∈S.made,t.1 < S.credits.length/\t.2.1 < S.aG.length
 o: ∀c,c < S.credits.length->(S.cr c).c= -1∨ ∃b:Nat,(S.cr c).c=(b:Int)/\b < S.aG.length/\(S.cr c).aJ=(S.bl b).aJ
 lb:S.aG.length<=n
 lc:S.credits.length<=n
 lm:S.made.length<=8000 * n
def WF.new:WF Bk.new 0:=⟨(fun t h=>by cases h),fun c h=>absurd h (iO _),aD _,aD _,aD _⟩
def WF.mono {S:Bk}{n m:Nat}(h:WF S n)(k:n<=m):WF S m:=⟨h.m,h.o,aR h.lb k,aR h.lc k,aR h.lm (Nat.mul_le_mul_left _ k)⟩
def getD_snoc {α:Type}{l:List α}{x d:α}{k:Nat}(h:k < l.length):(l ++ [x]).getD k d=l.getD k d:=by
 rw[aj,aj,OX h]
def getD_last {α:Type}{l:List α}{x d:α}:(l ++ [x]).getD l.length d=x:=by
 rw[aj,pW (aD _)];simp
def WF.kO {S:Bk}{n:Nat}(h:WF S n)(r:Rw):WF (S.kO r) (n + 1):=by
 have len:(S.kO r).aG.length=S.aG.length + 1:=by simp[Bk.kO]
 refine⟨fun t ht=>⟨(h.m t ht).1,by rw[len]; have:=(h.m t ht).2; lia⟩,fun c hc=>?_,by rw[len]; have:=h.lb; lia,by have:=h.lc; exact lI this,by have:=h.lm; show S.made.length<=_; lia⟩;rcases h.o c hc with z|⟨b,z1,z2,z3⟩
 ·exact .inl z
 ·refine .inr ⟨b,z1,by rw[len]; lia,?_⟩;show(S.cr c).aJ=((S.aG ++ [r]).getD b default).aJ;rw[getD_snoc z2];exact z3
def WF.il {S:Bk}{n:Nat}(h:WF S n)(r:Rw)(hr:r.c= -1∨ ∃b:Nat,r.c=(b:Int)/\b < S.aG.length/\r.aJ=(S.bl b).aJ):WF (S.il r) (n + 1):=by
 have len:(S.il r).credits.length=S.credits.length + 1:=by simp[Bk.il]
 refine⟨fun t ht=>⟨by rw[len]; have:=(h.m t ht).1; lia,(h.m t ht).2⟩,fun c hc=>?_,by have:=h.lb; exact lI this,by rw[len]; have:=h.lc; lia,by have:=h.lm; show S.made.length<=_; lia⟩;by_cases q:c < S.credits.length
 ·have e:(S.il r).cr c=S.cr c:=getD_snoc q;rw[e];exact h.o c q
 ·have q':c=S.credits.length:=by lia
  have e:(S.il r).cr c=r:=by rw[q']; exact getD_last
  rw[e];exact hr
def WF.later {S S':Bk}{n m:Nat}(h:WF S n)(l:Later S S')(hm: ∀t∈S'.made,t.1 < S.credits.length/\t.2.1 < S.aG.length)(hn:n<=m)(hl:S'.made.length<=8000 * m):WF S' m:=by
 refine⟨fun t ht=>by rw[l.cl,l.bl]; exact hm t ht,fun c hc=>?_,by rw[l.bl]; exact aR h.lb hn,by rw[l.cl]; exact aR h.lc hn,hl⟩;rw[l.cl] at hc;rw[(l.c c).1.2.2.2,(l.c c).1.1];rcases h.o c hc with z|⟨b,z1,z2,z3⟩
 ·exact .inl z
 ·exact .inr ⟨b,z1,by rw[l.bl]; exact z2,by rw[(l.b b).1.1]; exact z3⟩
def vX: ∀{n:Nat} {l:List Nat},l.Nodup->(∀x∈l,x < n)->l.length<=n
 |0,l,_,h=>by
  cases l with
  |nil=>exact aD _
  |cons x l=>exact absurd (h x ba) (iO _)
 |n + 1,l,nd,h=>by
  by_cases q:n∈l
  ·have h1:=vX (n:=n) (l:=l.erase n) (nd.erase n) (fun x hx=>by
    have h2:=h x (List.mem_of_mem_erase hx);have h3:x≠n:=fun z=>(List.Nodup.mem_erase_iff nd).mp hx |>.1 z;lia)
   rw[List.length_erase_of_mem q] at h1;lia
  ·have:=vX (n:=n) nd (fun x hx=>by
    have h2:=h x hx;have h3:x≠n:=fun z=>q (z▸hx);lia)
   lia
def j9 (rows:List Rw)(aJ:Str)(key:Rw->Int):(inTurn rows aJ key).length<=rows.length:=vX (jI _ _ _) fun _ h=>(dA.mp h).1
def ie (fs ls:List Int)(al:List (List Bool)): ∀i,(bW fs ls al i).2.length<=i
 |0=>aD _
 |i + 1=>by
  have:=ie fs ls al i;unfold bW;split
  ·lia
  ·rw[ax];show _ + 1<=_;lia
def gx (f:Int)(l:List Int)(row:List Bool): ∀j,(bH f l row j).2.length<=j
 |0=>aD _
 |j + 1=>by
  have:=gx f l row j;rw[bH];split
  ·rw[ax];show _ + 1<=_;lia
  ·lia
def qr (fs ls:List Int)(al:List (List Bool)): ∀i,(cv fs ls al i).2.length<=i * ls.length
 |0=>by simp[cv]
 |i + 1=>by
  have h1:=qr fs ls al i;have h2:=gx (fs.getD i 0) (cv fs ls al i).1 (al.getD i []) (cv fs ls al i).1.length;show((cv fs ls al i).2 ++ _).length<=_;rw[ax,ae,xy];rw[jP] at h2 ⊢;lia
def mB (fs ls:List Int)(al:List (List Bool)): ∀i,∀t∈(bW fs ls al i).2,t.1 < i/\t.2.1 < ls.length
 |0,t,h=>by cases h
 |i + 1,t,h=>by
  rw[bW] at h;split at h
  ·have:=mB fs ls al i t h;lia
  ·rename_i j hj;rcases bg.mp h with h|h
   ·have:=mB fs ls al i t h;lia
   ·rw[au.mp h];unfold g6 at hj;have:=dz.mp (OW hj);exact⟨fY _,this⟩
def qt (f:Int)(l:List Int)(row:List Bool): ∀j,∀x∈(bH f l row j).2,x.1 < j
 |0,x,h=>by cases h
 |j + 1,x,h=>by
  rw[bH] at h;split at h
  ·rcases bg.mp h with h|h
   ·have:=qt f l row j x h;lia
   ·rw[au.mp h];exact fY _
  ·have:=qt f l row j x h;lia
def vY (fs ls:List Int)(al:List (List Bool)): ∀i,∀t∈(cv fs ls al i).2,t.1 < i/\t.2.1 < ls.length
 |0,t,h=>by cases h
 |i + 1,t,h=>by
  rcases bg.mp (show t∈(cv fs ls al i).2 ++ _ from h) with h|h
  ·have:=vY fs ls al i t h;lia
  ·obtain⟨x,hx,rfl⟩:=bF.mp h;have:=qt _ _ _ _ x hx;rw[jP] at this;exact⟨fY _,this⟩
def rnd (S:Bk)(aJ:Str):vT S aJ (inTurn S.credits aJ (·.a)) (inTurn S.aG aJ (·.b)) ((inTurn S.credits aJ (·.a)).map fun g=>(S.cr g).d) ((inTurn S.aG aJ (·.b)).map fun t=>(S.bl t).d)
  ((inTurn S.credits aJ (·.a)).map fun g=>(inTurn S.aG aJ (·.b)).map fun t=>S.eG g t):=⟨rfl,rfl,rfl,rfl,rfl⟩
def FQ {S:Bk}{gs ts:List Nat}{l:List (Nat×Nat×Int)}(hl: ∀t∈l,t.1 < gs.length/\t.2.1 < ts.length)(hg: ∀g∈gs,g < S.credits.length)(ht: ∀t∈ts,t < S.aG.length): ∀t∈l.map (mz gs ts),t.1 < S.credits.length/\t.2.1 < S.aG.length:=by
 intro t h;obtain⟨x,hx,rfl⟩:=bF.mp h;obtain⟨h1,h2⟩:=hl x hx;exact⟨hg _ (j8 h1),ht _ (j8 h2)⟩
def vZ (S:Bk)(aJ:Str)(ex:Bool):Later S (bQ aJ S ex)/\ ∃l,(bQ aJ S ex).made=S.made ++ l/\(∀t∈l,t.1 < S.credits.length/\t.2.1 < S.aG.length)/\l.length<=S.credits.length + S.credits.length * S.aG.length:=by
 have gl:=j9 S.credits aJ (·.a);have tl:=j9 S.aG aJ (·.b);have hg: ∀g∈inTurn S.credits aJ (·.a),g < S.credits.length:=fun g h=>(dA.mp h).1;have ht: ∀t∈inTurn S.aG aJ (·.b),t < S.aG.length:=fun g h=>(dA.mp h).1;have mul:(inTurn S.credits aJ (·.a)).length * (inTurn S.aG aJ (·.b)).length<=S.credits.length * S.aG.length:=qQ gl tl;cases ex with
 |true=>
  obtain⟨e,l⟩:=Kb (rnd S aJ);refine⟨l,_,by rw[e]; exact jO _ _,FQ (fun t h=>?_) hg ht,?_⟩
  ·have:=mB _ _ _ _ t h;rwa [ae] at this
  ·rw[ae];have:=ie ((inTurn S.credits aJ (·.a)).map fun g=>(S.cr g).d) ((inTurn S.aG aJ (·.b)).map fun t=>(S.bl t).d) ((inTurn S.credits aJ (·.a)).map fun g=>(inTurn S.aG aJ (·.b)).map fun t=>S.eG g t) (inTurn S.credits aJ (·.a)).length;lia
 |false=>
  obtain⟨e,l⟩:=Kd (rnd S aJ);refine⟨l,_,by rw[e]; exact jO _ _,FQ (fun t h=>?_) hg ht,?_⟩
  ·have:=vY _ _ _ _ t h;rwa [ae] at this
  ·rw[ae];have:=qr ((inTurn S.credits aJ (·.a)).map fun g=>(S.cr g).d) ((inTurn S.aG aJ (·.b)).map fun t=>(S.bl t).d) ((inTurn S.credits aJ (·.a)).map fun g=>(inTurn S.aG aJ (·.b)).map fun t=>S.eG g t) (inTurn S.credits aJ (·.a)).length;rw[ae] at this;lia
def rq (S:Bk)(aJ:Str):Later S (S.jz aJ)/\ ∃l,(S.jz aJ).made=S.made ++ l/\(∀t∈l,t.1 < S.credits.length/\t.2.1 < S.aG.length)/\l.length<=2 * (S.credits.length + S.credits.length * S.aG.length):=by
 obtain⟨l1,m1,e1,h1,n1⟩:=vZ S aJ true;obtain⟨l2,m2,e2,h2,n2⟩:=vZ (bQ aJ S true) aJ false;refine⟨l1.trans l2,m1 ++ m2,by show(bQ aJ (bQ aJ S true) false).made=_; rw[e2,e1,dR],fun t ht=>?_,?_⟩
 ·rcases bg.mp ht with ht|ht
  ·exact h1 t ht
  ·have:=h2 t ht;rwa [l1.cl,l1.bl] at this
 ·rw[l1.cl,l1.bl] at n2;rw[ax];lia
def WF.enter {S:Bk}{n:Nat}{d:bc}(h:WF S n)(hn:n < 60)(hb:S.bar d=""):WF (S.enter d) (n + 1):=by
 cases d with
 |dJ w d u a=>exact h.kO _
 |o7 w d a=>exact h.il _ (.inl rfl)
 |note b d a=>
  refine h.il _ (.inr ⟨b.toNat,?_⟩);have z:=(tj hb).1;obtain⟨z1,z2⟩:=z;refine⟨?_,?_,rfl⟩
  ·show b=(b.toNat:Int);lia
  ·lia
 |set c b a=>
  obtain⟨zc,zb,_,za,_⟩:=nP hb;obtain⟨c1,c2⟩:=zc;obtain⟨b1,b2⟩:=zb;have l:Later S (S.put c.toNat b.toNat a):=Later.put (by lia) (by lia) (by lia);refine h.later l (fun t ht=>?_) (cK _) ?_
  ·rcases bg.mp ht with ht|ht
   ·exact h.m t ht
   ·rw[au.mp ht];show c.toNat < _/\b.toNat < _;lia
  ·show(S.made ++ [_]).length<=_;rw[ax];have:=h.lm;show _ + 1<=_;lia
 |fu w=>
  obtain⟨l,m,e,h1,h2⟩:=rq S w;refine h.later l (fun t ht=>?_) (cK _) ?_
  ·rw[show(S.enter (.fu w)).made=S.made ++ m from e] at ht;rcases bg.mp ht with ht|ht
   ·exact h.m t ht
   ·exact h1 t ht
  ·show(S.jz w).made.length<=_;rw[e,ax];have h3:=h.lm;have h4:=h.lb;have h5:=h.lc;have:S.credits.length * S.aG.length<=60 * 60:=qQ (by lia) (by lia);lia
 |fC m=>exact h.mono (cK _)
 |ask o w d=>exact h.mono (cK _)
 |gZ w d l=>exact h.mono (cK _)
structure nQ (S T:Bk):Prop where
 bl:T.aG.length=S.aG.length
 cl:T.credits.length=S.credits.length
 b: ∀k,o8 (S.bl k) (T.bl k)
 c: ∀k,o8 (S.cr k) (T.cr k)
def o8.symm {r s:Rw}(h:o8 r s):o8 s r:=⟨h.1.symm,h.2.1.symm,h.2.2.1.symm,h.2.2.2.symm⟩
def nQ.refl (S:Bk):nQ S S:=⟨rfl,rfl,fun _=>o8.refl _,fun _=>o8.refl _⟩
def nQ.symm {S T:Bk}(h:nQ S T):nQ T S:=⟨h.bl.symm,h.cl.symm,fun k=>(h.b k).symm,fun k=>(h.c k).symm⟩
def nQ.trans {S T U:Bk}(h:nQ S T)(k:nQ T U):nQ S U:=⟨k.bl.trans h.bl,k.cl.trans h.cl,fun i=>(h.b i).trans (k.b i),fun i=>(h.c i).trans (k.c i)⟩
def Later.sP {S T:Bk}(h:Later S T):nQ S T:=⟨h.bl,h.cl,fun k=>(h.b k).1,fun k=>(h.c k).1⟩
def nQ.eG {S T:Bk}(h:nQ S T)(c b:Nat):T.eG c b=S.eG c b:=by
 unfold Bk.eG;rw[(h.c c).1,(h.b b).1,(h.c c).2.2.2]
def tq {l m:List Rw}{r s:Rw}(hl:m.length=l.length)(h: ∀k,o8 (l.getD k default) (m.getD k default))(hr:o8 r s)(k:Nat):o8 ((l ++ [r]).getD k default) ((m ++ [s]).getD k default):=by
 by_cases q:k < l.length
 ·rw[getD_snoc q,getD_snoc (by rw[hl]; exact q)];exact h k
 ·by_cases e:k=l.length
  ·subst e;rw[getD_last,← hl,getD_last];exact hr
  ·have o1:(l ++ [r]).getD k default=default:=by
    rw[aj,l8 (by rw[ax]; show l.length + 1<=k; lia)];rfl
   have o2:(m ++ [s]).getD k default=default:=by
    rw[aj,l8 (by rw[ax]; show m.length + 1<=k; lia)];rfl
   rw[o1,o2];exact o8.refl _
def Kf {S T:Bk}(h:nQ S T){d:bc}(hb:S.bar d=""):T.bar d=""∨T.bar d="too much":=by
 cases d with
 |note b d a=>
  obtain⟨z1,z2⟩:=tj hb;left;rw[vW,h.bl,aQ (fun z=>z z1),aQ (by lia)]
 |set c b a=>
  obtain⟨z1,z2,z3,z4,_⟩:=nP hb;rw[Aa,h.bl,h.cl,h.eG,aQ (fun z=>z z1),aQ (fun z=>z z2),aQ (by rw[z3]; decide),aQ (by lia)];split
  ·exact .inr rfl
  ·exact .inl rfl
 |dJ w d u a=>exact .inl hb
 |o7 w d a=>exact .inl hb
 |fu w=>exact .inl rfl
 |fC m=>exact .inl rfl
 |ask o w d=>exact .inl rfl
 |gZ w d l=>exact .inl rfl
def lP {S:Bk}{d:bc}(hs:d.isSet=true)(hb:S.bar d=""):Later S (S.enter d):=by
 cases d with
 |set c b a=>
  obtain⟨⟨_,_⟩,⟨_,_⟩,_,_,_⟩:=nP hb;exact Later.put (by lia) (by lia) (by lia)
 |fu w=>exact(rq S w).1
 |dJ w d u a=>cases hs
 |o7 w d a=>cases hs
 |note b d a=>cases hs
 |fC m=>cases hs
 |ask o w d=>cases hs
 |gZ w d l=>cases hs
def Es {S T:Bk}(h:nQ S T){d:bc}(hs:S.bar d="")(ht:T.bar d=""):nQ (S.enter d) (T.enter d):=by
 cases d with
 |dJ w d u a=>exact⟨by simp[Bk.enter,Bk.kO,h.bl],h.cl,tq h.bl h.b (o8.refl _),h.c⟩
 |o7 w d a=>exact⟨h.bl,by simp[Bk.enter,Bk.il,h.cl],h.b,tq h.cl h.c (o8.refl _)⟩
 |note b d a=>exact⟨h.bl,by simp[Bk.enter,Bk.il,h.cl],h.b,tq h.cl h.c ⟨(h.b _).1,rfl,rfl,rfl⟩⟩
 |set c b a=>exact(lP rfl hs).sP.symm.trans (h.trans (lP rfl ht).sP)
 |fu w=>exact(lP (d:= .fu w) rfl hs).sP.symm.trans (h.trans (lP (d:= .fu w) rfl ht).sP)
 |fC m=>exact h
 |ask o w d=>exact h
 |gZ w d l=>exact h
def P2 (m:Int): ∀(l:List (Int×bc)) {S T:Bk},nQ S T->(cH l S).isSome=true->iC (l.filter (cX m)) T=""∨iC (l.filter (cX m)) T="too much"
 |[],_,_,_,_=> .inl rfl
 |(n,d) :: l,S,T,h,hw=>by
  unfold cH at hw;split at hw
  ·rename_i hb;by_cases k:cX m (n,d)=true
   ·rw[cB k];unfold iC;split
    ·rename_i ht;exact P2 m l (Es h hb ht) hw
    ·rename_i ht;exact .inr ((Kf h hb).resolve_left ht)
   ·rw[gP k];have ds:d.isSet=true:=by
     unfold cX at k;simp at k;exact k.2
    exact P2 m l ((lP ds hb).sP.symm.trans h) hw
  ·cases hw
def tw: ∀(l:List (Int×bc)) {S T:Bk} {n:Nat},WF S n->cH l S=some T->n + l.length<=60->WF T (n + l.length)
 |[],S,T,n,h,e,_=>by
  cases e;exact h
 |(k,d) :: l,S,T,n,h,e,hl=>by
  unfold cH at e;split at e
  ·rename_i hb;have len:((k,d) :: l).length=l.length + 1:=rfl;rw[len] at hl ⊢;have:=tw l (h.enter (by lia) hb) e (by lia);rwa [show n + (l.length + 1)=n + 1 + l.length by lia]
  ·cases e
def lx: ∀(l m:List (Int×bc)) (S:Bk),cH (l ++ m) S=(cH l S).bind (cH m)
 |[],m,S=>rfl
 |(k,d) :: l,m,S=>by
  show(if S.bar d="" then cH (l ++ m) (S.enter d) else none)=(if S.bar d="" then cH l (S.enter d) else none).bind (cH m);split
  ·exact lx l m _
  ·rfl
structure Good (T:eL)(n:Nat):Prop where
 w:cH T.steps Bk.new=some T.bk
 lt: ∀st∈T.steps,0<=st.1/\st.1 < (n:Int)
 inc:T.steps.Pairwise fun a b=>a.1 < b.1
 tl: ∀st∈T.steps,st.2.tells=true
 len:T.steps.length<=n
def Good.new:Good eL.new 0:=⟨rfl,(fun _ h=>by cases h),List.Pairwise.nil,(fun _ h=>by cases h),aD _⟩
def Good.mono {T:eL}{n m:Nat}(h:Good T n)(k:n<=m):Good T m:=⟨h.w,fun st hs=>⟨(h.lt st hs).1,by have:=(h.lt st hs).2; lia⟩,h.inc,h.tl,aR h.len k⟩
def Good.wf {T:eL}{n:Nat}(h:Good T n)(hn:n<=60):WF T.bk n:=by
 have z:=tw T.steps WF.new h.w (by have:=h.len; lia);rw[Nat.zero_add] at z;exact z.mono h.len
def Good.add {T:eL}{n:Nat}(h:Good T n){d:bc}(ht:d.tells=true)(hb:T.bk.bar d=""):Good ⟨T.steps ++ [((n:Int),d)],T.bk.enter d⟩ (n + 1):=by
 refine⟨?_,fun st hs=>?_,?_,fun st hs=>?_,?_⟩
 ·show cH (T.steps ++ [((n:Int),d)]) Bk.new=_;rw[lx,h.w];show(if T.bk.bar d="" then some (T.bk.enter d) else none)=_;rw[a0 hb]
 ·rcases bg.mp hs with hs|hs
  ·have:=h.lt st hs;lia
  ·rw[au.mp hs];show(0:Int)<=(n:Int)/\(n:Int) < _;lia
 ·rw[List.pairwise_append];refine⟨h.inc,List.pairwise_singleton _ _,fun a ha b hb=>?_⟩;rw[au.mp hb];exact(h.lt a ha).2
 ·rcases bg.mp hs with hs|hs
  ·exact h.tl st hs
  ·rw[au.mp hs];exact ht
 ·show(T.steps ++ [_]).length<=_;rw[ax];have:=h.len;show _ + 1<=_;lia
def Good.fC {T:eL}{n:Nat}(h:Good T n)(m k:Int):Good (cz T k (.fC m)).2 n/\ ∃s,(cz T k (.fC m)).1= .txt s:=by
 rw[cz];split
 ·exact⟨h,_,rfl⟩
 ·cases e:cH (T.steps.filter (cX m)) Bk.new with
  |none=>exact⟨h,_,rfl⟩
  |some S=>exact⟨⟨e,fun st hs=>h.lt st (d8.mp hs).1,h.inc.filter _,fun st hs=>h.tl st (d8.mp hs).1,aR (aZ _ _) h.len⟩,_,rfl⟩
def Good.step {T:eL}{n:Nat}(h:Good T n)(d:bc):Good (cz T n d).2 (n + 1):=by
 have keep:=h.mono (cK n);have dflt: ∀d:bc,d.tells=true->Good (if T.bk.bar d="" then(T.bk.Ke d,(⟨T.steps ++ [((n:Int),d)],T.bk.enter d⟩:eL)) else(.txt (T.bk.bar d),T)).2 (n + 1):=fun d ht=>by
  split
  ·rename_i hb;exact h.add ht hb
  ·exact keep
 cases d with
 |fC m=>exact(h.fC m n).1.mono (cK n)
 |ask o w d=>exact keep
 |gZ w d l=>exact keep
 |dJ w d u a=>exact dflt _ rfl
 |o7 w d a=>exact dflt _ rfl
 |note b d a=>exact dflt _ rfl
 |set c b a=>exact dflt _ rfl
 |fu w=>exact dflt _ rfl
def jh: ∀(l:List bc) (T:eL) (n:Nat),(cM l T n).1.length=l.length
 |[],_,_=>rfl
 |d :: l,T,n=>by
  show(cM l _ _).1.length + 1=_;rw[jh l];rfl
def bc.dt:bc->Dt
 | .dJ w d u a=> .tup [.str "bill",.str w,.int d,.int u,.int a]
 | .o7 w d a=> .tup [.str "pay",.str w,.int d,.int a]
 | .note b d a=> .tup [.str "note",.int b,.int d,.int a]
 | .set c b a=> .tup [.str "set",.int c,.int b,.int a]
 | .fu w=> .tup [.str "sweep",.str w]
 | .fC n=> .tup [.str "undo",.int n]
 | .ask o w d=> .tup [.str (if o then "owed" else "free"),.str w,.int d]
 | .gZ w d l=> .tup [.str "ages",.str w,.int d,.tup (l.map Dt.int)]
def tF:Int:=10 ^ 62
def FR {x:Int}(h:x<=10 ^ 60):x<=tF:=l9 h (by decide +kernel)
def bc.ok:bc->Prop
 | .dJ _ d _ _=>d<=tF
 | .o7 _ d _=>d<=tF
 | .note _ d _=>d<=tF
 | .gZ _ _ l=>l.length<=11/\l.Pairwise (· < ·)/\ ∀x∈l,1<=x
 |_=>True
mutual
def Dt.LU:Dt->Bool
 | .lst _=>false
 | .tup ds=>Dt.xN ds
 | .en=>true
 | .bl _=>true
 | .int _=>true
 | .str _=>true
def Dt.xN:List Dt->Bool
 |[]=>true
 |d :: ds=>d.LU && Dt.xN ds
end
def cw (H H':Hp):Prop:= ∀b xs,H b=some (.tup xs)->H' b=some (.tup xs)
def cw.trans {H1 H2 H3:Hp}(a:cw H1 H2)(b:cw H2 H3):cw H1 H3:=fun x xs e=>b x xs (a x xs e)
def ay.tk {H H':Hp}(s:ay H H'):cw H H':=fun b xs e=>s _ _ e
def eZ {H:Hp}{p:Addr}{o:HO}{ys:List V}(h:H p=some (.lst ys)):cw H (upd H p o):=dI h
mutual
def Rp.Cr {H H':Hp}(k:cw H H'): ∀(d:Dt) {v:V},d.LU=true->Rp H d v->Rp H' d v
 | .en,_,_,h=>vM.mpr (vM.mp h)
 | .bl _,_,_,h=>rh.mpr (rh.mp h)
 | .int _,_,_,h=>dE.mpr (dE.mp h)
 | .str _,_,_,h=>gg.mpr (gg.mp h)
 | .tup ds,_,n,h=>by
  obtain⟨a,xs,e,h1,h2⟩:=jY.mp h;exact jY.mpr ⟨a,xs,e,k _ _ h1,gX.Cr k ds (by simpa[Dt.LU] using n) h2⟩
 | .lst ds,_,n,h=>by simp[Dt.LU] at n
def gX.Cr {H H':Hp}(k:cw H H'): ∀(ds:List Dt) {vs:List V},Dt.xN ds=true->gX H ds vs->gX H' ds vs
 |[],_,_,h=>cJ.mpr (cJ.mp h)
 |d :: ds,_,n,h=>by
  obtain⟨v,r,e,h1,h2⟩:=bw.mp h;have n':d.LU=true/\Dt.xN ds=true:=by simpa[Dt.xN] using n
  exact bw.mpr ⟨v,r,e,Rp.Cr k d n'.1 h1,gX.Cr k ds n'.2 h2⟩
end
def Hn (l:List Int):Dt.xN (l.map Dt.int)=true:=by
 induction l with
 |nil=>rfl
 |cons x l ih=>simp[Dt.xN,Dt.LU,ih]
def bc.LU (d:bc):d.dt.LU=true:=by
 cases d <;> simp[bc.dt,Dt.LU,Dt.xN,Hn]
def Ho (ds:List bc):Dt.xN (ds.map bc.dt)=true:=by
 induction ds with
 |nil=>rfl
 |cons d ds ih=>simp[Dt.xN,bc.LU,ih]
def bU (H:Hp)(ds:List bc)(ms:List V):Prop:=gX H (ds.map bc.dt) ms
def bU.mono {H H':Hp}{ds:List bc}{ms:List V}(h:bU H ds ms)(k:cw H H'):bU H' ds ms:=gX.Cr k _ (Ho ds) h
def bU.snoc {H:Hp}{ds:List bc}{ms:List V}{d:bc}{v:V}(h:bU H ds ms)(hd:Rp H d.dt v):bU H (ds ++ [d]) (ms ++ [v]):=by
 unfold bU;rw[aL];exact gX.append h (gX.one hd)
def bU.length {H:Hp}{ds:List bc}{ms:List V}(h:bU H ds ms):ds.length=ms.length:=by
 have:=gX.length h;rwa [ae] at this
def MO (n:Nat)(b:Str):(List.replicate n [V.str b]).flatten=(List.replicate n b).map V.str:=by
 induction n with
 |zero=>rfl
 |succ n ih=>rw[dv,iV,ih,dv]; rfl
def Rw.vs (r:Rw):List V:=[.str r.aJ,.int r.a,.int r.b,.int r.c,.int r.d]
structure fA where
 pb:Addr
 pc:Addr
 pm:Addr
 iD:List Addr
 cps:List Addr
def fA.fp (f:fA):List Addr:=f.pb :: f.pc :: f.pm :: (f.iD ++ f.cps)
def bk3 (f:fA):List (Key×V):=[(Sum.inr "bills",.ref f.pb),(Sum.inr "credits",.ref f.pc),(Sum.inr "made",.ref f.pm)]
def eR (H:Hp)(rs:List Rw)(ps:List Addr):Prop:=Paired (fun(r:Rw) p=>H p=some (.lst r.vs)) rs ps
def gy (H:Hp)(ms:List (Nat×Nat×Int))(vs:List V):Prop:=Paired (fun(t:Nat×Nat×Int) v=> ∃p,v= .ref p/\H p=some (.tup [.int t.1,.int t.2.1,.int t.2.2])) ms vs
def gy.mono {H H':Hp}{ms:List (Nat×Nat×Int)}{vs:List V}(h:gy H ms vs)(k:cw H H'):gy H' ms vs:=
 Paired.iu h fun _ _ ⟨p,e,q⟩=>⟨p,e,k _ _ q⟩
structure dh (H:Hp)(sd:Addr)(S:Bk)(f:fA):Prop where
 dict:H sd=some (.dK (bk3 f))
 hb:H f.pb=some (.lst (f.iD.map V.ref))
 hc:H f.pc=some (.lst (f.cps.map V.ref))
 hm: ∃ms,H f.pm=some (.lst ms)/\gy H S.made ms
 rb:eR H S.aG f.iD
 rc:eR H S.credits f.cps
 nd:f.fp.Nodup
 ns:sd∉f.fp
def eR.keep {H H':Hp}{rs:List Rw}{ps:List Addr}(h:eR H rs ps)(k: ∀p∈ps,∀o,H p=some o->H' p=some o):eR H' rs ps:=by
 induction h with
 |nil=>exact .nil
 | @cons r p rs ps hr t ih=>exact .cons (k p ba _ hr) (ih fun q hq=>k q (aW _ hq))
def dh.keep {H H':Hp}{sd:Addr}{S:Bk}{f:fA}(h:dh H sd S f)(k: ∀b o,(b=sd∨b∈f.fp)->H b=some o->H' b=some o)(t:cw H H'):dh H' sd S f:=by
 obtain⟨ms,m1,m2⟩:=h.hm;refine⟨k _ _ (.inl rfl) h.dict,k _ _ (.inr (by simp[fA.fp])) h.hb,k _ _ (.inr (by simp[fA.fp])) h.hc,⟨ms,k _ _ (.inr (by simp[fA.fp])) m1,m2.mono t⟩,h.rb.keep fun p hp o e=>k p o (.inr (by simp[fA.fp,hp])) e,h.rc.keep fun p hp o e=>k p o (.inr (by simp[fA.fp,hp])) e,h.nd,h.ns⟩
def dh.same {H H':Hp}{sd:Addr}{S:Bk}{f:fA}(h:dh H sd S f)(s:ay H H'):dh H' sd S f:=h.keep (fun b o _ e=>s _ _ e) s.tk
def Frame (fp:List Addr)(H H':Hp):Prop:= ∀b o,b∉fp->H b=some o->H' b=some o
def Frame.refl {fp:List Addr}{H:Hp}:Frame fp H H:=fun _ _ _ e=>e
def Frame.trans {fp TF:List Addr}{H1 H2 H3:Hp}(a:Frame fp H1 H2)(b:Frame TF H2 H3)(h: ∀x∈TF,x∈fp∨H1 x=none):Frame fp H1 H3:=fun x o hx e=>
 b x o (fun hx'=>by
  rcases h x hx' with h|h
  ·exact hx h
  ·rw[h] at e; cases e) (a x o hx e)
def ay.frame {fp:List Addr}{H H':Hp}(s:ay H H'):Frame fp H H':=fun b o _ e=>s _ _ e
def Frame.upd {fp:List Addr}{H:Hp}{p:Addr}{o:HO}(h:p∈fp):Frame fp H (upd H p o):=fun b u hb e=>by
 have i9:b≠p:=fun z=>hb (by rw[z]; exact h);rw[aB i9]; exact e
def Frame.same {fp:List Addr}{H0 H H':Hp}(a:Frame fp H H')(s:ay H0 H)(h: ∀x∈fp,H0 x=none):ay H0 H':=fun b o e=>a b o (fun hb=>by rw[h b hb] at e; cases e) (s b o e)
def eR.length {H:Hp}{rs:List Rw}{ps:List Addr}(h:eR H rs ps):rs.length=ps.length:=aM h
def eR.at {H:Hp}{rs:List Rw}{ps:List Addr}(h:eR H rs ps){i:Nat}(hi:i < rs.length): ∃p,ps[i]? =some p/\H p=some (.lst (rs.getD i default).vs):=by
 obtain⟨p,e,q⟩:=bL h (ag hi);refine⟨p,e,?_⟩;rw[aj,ag hi];exact q
def eR.set {H:Hp}: ∀{rs:List Rw} {ps:List Addr} {i:Nat} {p:Addr} {r:Rw},eR H rs ps->ps.Nodup->ps[i]? =some p->eR (upd H p (.lst r.vs)) (rs.set i r) ps
 |_,_,i,p,r,.nil,_,h=>by simp at h
 |_,_,0,p,r,.cons (b:=q) hr t,nd,h=>by
  injection h with h;subst h;rw[eV] at nd;refine .cons af (eR.keep t fun x hx o e=>?_);have i9:x≠q:=fun z=>nd.1 (by rw[← z]; exact hx);rw[aB i9]; exact e
 |_,_,i + 1,p,r,.cons (b:=q) hr t,nd,h=>by
  rw[eV] at nd;rw[List.getElem?_cons_succ] at h;have i9:q≠p:=fun z=>nd.1 (by rw[z]; exact fB h);refine .cons ?_ (eR.set t nd.2 h);rw[aB i9]; exact hr
def eR.ig {H:Hp}{rs:List Rw}{ps:List Addr}{p:Addr}{o:HO}(h:eR H rs ps)(hp:p∉ps):eR (upd H p o) rs ps:=
 h.keep fun q hq u e=>by
  have i9:q≠p:=fun z=>hp (by rw[← z]; exact hq);rw[aB i9]; exact e
def fA.TH {f:fA}(h:f.fp.Nodup):f.pb≠f.pc/\f.pb≠f.pm/\f.pc≠f.pm/\(∀p∈f.iD,p≠f.pb/\p≠f.pc/\p≠f.pm/\p∉f.cps)/\(∀p∈f.cps,p≠f.pb/\p≠f.pc/\p≠f.pm/\p∉f.iD)/\f.iD.Nodup/\f.cps.Nodup:=by
 unfold fA.fp at h;simp only[List.nodup_cons,List.mem_cons,List.mem_append,not_or,List.nodup_append] at h;obtain⟨⟨h1,h2,h3,h4⟩,⟨h5,h6,h7⟩,⟨h8,h9⟩,LV,X7,Wb⟩:=h;refine⟨h1,h2,h5,fun p hp=>⟨fun e=>h3 (e▸hp),fun e=>h6 (e▸hp),fun e=>h8 (e▸hp),fun hc=>Wb p hp p hc rfl⟩,fun p hp=>⟨fun e=>h4 (e▸hp),fun e=>h7 (e▸hp),fun e=>h9 (e▸hp),fun hb=>Wb p hb p hp rfl⟩,LV,X7⟩
def dh.setB {H:Hp}{sd:Addr}{S:Bk}{f:fA}(h:dh H sd S f){i:Nat}{p:Addr}{r:Rw}(hp:f.iD[i]? =some p)(hl: ∃xs,H p=some (.lst xs)):dh (upd H p (.lst r.vs)) sd {S with aG:=S.aG.set i r} f:=by
 obtain⟨d1,d2,d3,d4,d5,d6,d7⟩:=fA.TH h.nd;have hm:=fB hp;obtain⟨e1,e2,e3,e4⟩:=d4 p hm;obtain⟨ms,m1,m2⟩:=h.hm;obtain⟨xs,hx⟩:=hl;have es:sd≠p:=fun z=>h.ns (by rw[z]; simp[fA.fp,hm]);exact⟨by rw[aB es]; exact h.dict,by rw[aB e1.symm]; exact h.hb,by rw[aB e2.symm]; exact h.hc,⟨ms,by rw[aB e3.symm]; exact m1,m2.mono (eZ hx)⟩,h.rb.set d6 hp,h.rc.ig e4,h.nd,h.ns⟩
def dh.setC {H:Hp}{sd:Addr}{S:Bk}{f:fA}(h:dh H sd S f){i:Nat}{p:Addr}{r:Rw}(hp:f.cps[i]? =some p)(hl: ∃xs,H p=some (.lst xs)):dh (upd H p (.lst r.vs)) sd {S with credits:=S.credits.set i r} f:=by
 obtain⟨d1,d2,d3,d4,d5,d6,d7⟩:=fA.TH h.nd;have hm:=fB hp;obtain⟨e1,e2,e3,e4⟩:=d5 p hm;obtain⟨ms,m1,m2⟩:=h.hm;obtain⟨xs,hx⟩:=hl;have es:sd≠p:=fun z=>h.ns (by rw[z]; simp[fA.fp,hm]);exact⟨by rw[aB es]; exact h.dict,by rw[aB e1.symm]; exact h.hb,by rw[aB e2.symm]; exact h.hc,⟨ms,by rw[aB e3.symm]; exact m1,m2.mono (eZ hx)⟩,h.rb.ig e4,h.rc.set d7 hp,h.nd,h.ns⟩
def dh.X8 {H:Hp}{sd:Addr}{S:Bk}{f:fA}(h:dh H sd S f){ms:List V}{t:Nat×Nat×Int}{p:Addr}(hm:H f.pm=some (.lst ms))(hms:gy H S.made ms)(hp:H p=some (.tup [.int t.1,.int t.2.1,.int t.2.2])):
  dh (upd H f.pm (.lst (ms ++ [.ref p]))) sd {S with made:=S.made ++ [t]} f:=by
 obtain⟨d1,d2,d3,d4,d5,d6,d7⟩:=fA.TH h.nd;have es:sd≠f.pm:=fun z=>h.ns (by rw[z]; simp[fA.fp]);exact⟨by rw[aB es]; exact h.dict,by rw[aB d2]; exact h.hb,by rw[aB d3]; exact h.hc,⟨_,af,cG (hms.mono (eZ hm)) ⟨p,rfl,dI hm _ _ hp⟩⟩,h.rb.ig fun z=>(d4 _ z).2.2.1 rfl,h.rc.ig fun z=>(d5 _ z).2.2.1 rfl,h.nd,h.ns⟩
def TJ:("bills":Str)≠"credits":=by decide +kernel
def TK:("bills":Str)≠"made":=by decide +kernel
def TL:("credits":Str)≠"made":=by decide +kernel
def TM (a b c:V):fQ [((Sum.inr "bills":Key),a),(Sum.inr "credits",b),(Sum.inr "made",c)] (Sum.inr "bills")=some a:=by
 unfold fQ;rw[List.find?_cons_of_pos (by simp)]; rfl
def TN (a b c:V):fQ [((Sum.inr "bills":Key),a),(Sum.inr "credits",b),(Sum.inr "made",c)] (Sum.inr "credits")=some b:=by
 unfold fQ;rw[List.find?_cons_of_neg (by simpa using TJ),List.find?_cons_of_pos (by simp)]; rfl
def TQ (a b c:V):fQ [((Sum.inr "bills":Key),a),(Sum.inr "credits",b),(Sum.inr "made",c)] (Sum.inr "made")=some c:=by
 unfold fQ;rw[List.find?_cons_of_neg (by simpa using TK),List.find?_cons_of_neg (by simpa using TL),List.find?_cons_of_pos (by simp)]; rfl
def P4 (a b c:V):qk [] [((Sum.inr "bills":Key),a),(Sum.inr "credits",b),(Sum.inr "made",c)]=[((Sum.inr "bills":Key),a),(Sum.inr "credits",b),(Sum.inr "made",c)]:=by
 unfold qk;rw[ee,ee,ee,List.foldl_nil];have h1:putK ([]:List (Key×V)) (Sum.inr "bills") a=[((Sum.inr "bills":Key),a)]:=by
  unfold putK; rw[if_neg (by simp)]; rfl
 have h2:putK [((Sum.inr "bills":Key),a)] (Sum.inr "credits") b=[((Sum.inr "bills":Key),a),(Sum.inr "credits",b)]:=by
  unfold putK; rw[if_neg (by simpa using TJ)]; rfl
 have h3:putK [((Sum.inr "bills":Key),a),(Sum.inr "credits",b)] (Sum.inr "made") c=[((Sum.inr "bills":Key),a),(Sum.inr "credits",b),(Sum.inr "made",c)]:=by
  unfold putK; rw[if_neg (by simpa using⟨TK,TL⟩)]; rfl
 dsimp only;rw[h1,h2,h3]
def dh.gB {H:Hp}{sd:Addr}{S:Bk}{f:fA}(h:dh H sd S f):lu H sd (.str "bills") (some (.ref f.pb)):=TM (.ref f.pb) (.ref f.pc) (.ref f.pm)▸lu.k (k:=Sum.inr "bills") h.dict
def dh.gC {H:Hp}{sd:Addr}{S:Bk}{f:fA}(h:dh H sd S f):lu H sd (.str "credits") (some (.ref f.pc)):=TN (.ref f.pb) (.ref f.pc) (.ref f.pm)▸lu.k (k:=Sum.inr "credits") h.dict
def dh.gM {H:Hp}{sd:Addr}{S:Bk}{f:fA}(h:dh H sd S f):lu H sd (.str "made") (some (.ref f.pm)):=TQ (.ref f.pb) (.ref f.pc) (.ref f.pm)▸lu.k (k:=Sum.inr "made") h.dict
def dh.lb {H:Hp}{sd:Addr}{S:Bk}{f:fA}(h:dh H sd S f){b:Nat}(hb:b < S.aG.length): ∃p,f.iD[b]? =some p/\qY (f.iD.map V.ref) (b:Int)=some (.ref p)/\H p=some (.lst (S.bl b).vs):=by
 obtain⟨p,e,q⟩:=h.rb.at hb;exact⟨p,e,cI (by rw[aE,e]; rfl),q⟩
def dh.lc {H:Hp}{sd:Addr}{S:Bk}{f:fA}(h:dh H sd S f){b:Nat}(hb:b < S.credits.length): ∃p,f.cps[b]? =some p/\qY (f.cps.map V.ref) (b:Int)=some (.ref p)/\H p=some (.lst (S.cr b).vs):=by
 obtain⟨p,e,q⟩:=h.rc.at hb;exact⟨p,e,cI (by rw[aE,e]; rfl),q⟩
section
variable {prog:Program}{w:World}{A:Around}{E:Value->Shared->Prop}
def uj (prog:Program)(w:World)(A:Around)(kS:Addr)(f:Value)(Fi:List Value->Shared->Prop):List Value->List Value->Shared->Prop
 |[],ks,s=>Fi ks s
 |v :: r,ks,s=>wpAny (model prog w) A (call f [v]) (fun k s'=> ∃e,s'.heap.get? kS=some (seqObj "list" ks.toArray e)/\ ∀h' c,Heap.SameBut kS s'.heap h'->h'.get? kS=some (seqObj "list" (ks ++ [k]).toArray c)->uj prog w A kS f Fi r (ks ++ [k]) {s' with heap:=h'}) (fun _ _=>False) s
def Hq (prog:Program)(w:World)(A:Around)(D kS:Addr)(e1:Nat)(vs:List Value)(Q:Shared->Prop)(ks:List Value)(s:Shared):Prop:=
 ∃(κ:SortKind) (key:Nat->Int),D≠kS/\s.heap.get? D=some (seqObj "list" #[] e1)/\(2<=vs.length-> ∀Q':SortKind->Shared->Prop,Q' κ s->wpAny (model prog w) A (keyKind' ks.toArray) Q' (fun _ _=>False) s)/\
  (∀(i j:Nat) (C:Bool->Shared->Prop),i < vs.length->j < vs.length->C (decide (key i < key j)) s->wpAny (model prog w) A (keyLt' κ (ks.getD i Value.none) (ks.getD j Value.none)) C (fun _ _=>False) s)/\
  ∀(p:Array Nat) (h':Heap) (n:Nat),rj vs.length p->lO key p vs.length->h'.objs.size=s.heap.objs.size->h'.get? D=some (seqObj "list" (p.toList.map fun i=>vs.getD i Value.none).toArray n)->(∀b,b≠D->b≠kS->h'.get? b=s.heap.get? b)->Q {s with heap:=h'}
def FT {f:Value}{kS:Addr}{Fi:List Value->Shared->Prop}{n:Nat}{body:Value->PUnit->Sem (ForInStep PUnit)}(hn:n < 64)
  (hb: ∀x ks (s:Shared) (C:Value->Shared->Prop),List.length ks < 64->wpAny (model prog w) A (call f [x]) (fun k s'=> ∃e,s'.heap.get? kS=some (seqObj "list" ks.toArray e)/\ ∀h' c,Heap.SameBut kS s'.heap h'->h'.get? kS=some (seqObj "list" (ks ++ [k]).toArray c)->C k {s' with heap:=h'}) (fun _ _=>False) s->
   wpAny (model prog w) A (body x ⟨⟩) (fun r s'=>r= .yield ⟨⟩/\ ∃k c,s'.heap.get? kS=some (seqObj "list" (ks ++ [k]).toArray c)/\C k s') E s): ∀(r ks:List Value) (e:Nat) (s:Shared),ks.length + r.length=n->
   s.heap.get? kS=some (seqObj "list" ks.toArray e)->uj prog w A kS f Fi r ks s->
   wpAny (model prog w) A (forIn r PUnit.unit body) (fun _ s'=> ∃ks e,s'.heap.get? kS=some (seqObj "list" ks.toArray e)/\ks.length=n/\Fi ks s') E s
 |[],ks,e,s,hl,hk,h=>by
  rw[List.forIn_nil];exact wpAny_pure ⟨ks,e,hk,by simpa using hl,h⟩
 |x :: r,ks,e,s,hl,hk,h=>by
  rw[bJ] at hl;rw[List.forIn_cons];refine aC (cm (hb x ks s (fun k s'=>uj prog w A kS f Fi r (ks ++ [k]) s') (by lia) h) (fun q s' hq=>?_) fun _ _ x=>x);obtain⟨rfl,k,c,LS,h2⟩:=hq;show wpAny (model prog w) A (forIn r PUnit.unit body) _ E s';exact FT hn hb r (ks ++ [k]) c s' (by rw[ax,List.length_singleton]; lia) LS h2
variable {s:Shared}
def FU {D kS:Addr}{e e1:Nat}{ks out:List Value}{st:SortSt}{P:PySem.Fin->Shared->Prop}(hD:s.heap.get? D=some (seqObj "list" #[] e1))(hk:s.heap.get? kS=some (seqObj "list" ks.toArray e))(ne:D≠kS)
  (Ep:(arrOf st).map (·.2)=out.toArray) (hz:out.length < 64) (hkz:ks.length < 64) (hf:failedOf st=none)
  (h: ∀(h':Heap) (n:Nat),h'.objs.size=s.heap.objs.size->h'.get? D=some (seqObj "list" out.toArray n)->(∀b,b≠D->b≠kS->h'.get? b=s.heap.get? b)->P (.done (.ret .none)) {s with heap:=h'}):
  wpAny (model prog w) A (ksk_tail D false e1 (.ref kS) st) P E s:=by
 have hl:sizeLine=16777216:=eX;unfold ksk_tail
 try dsimp only
 rw[Ep];have s1:=sM s.heap kS (Obj.mapSeq fun _=>(#[]:Array Value));have d1:(s.heap.update kS (Obj.mapSeq fun _=>(#[]:Array Value))).get? D=some (seqObj "list" #[] e1):=(s1.2 D ne).trans hD;have s2:=sM (s.heap.update kS (Obj.mapSeq fun _=>(#[]:Array Value))) D (Obj.mapSeq fun _=>out.toArray);obtain⟨c2,ML⟩: ∃c2,((s.heap.update kS (Obj.mapSeq fun _=>(#[]:Array Value))).update D (Obj.mapSeq fun _=>out.toArray)).get? D=some (seqObj "list" out.toArray c2):=⟨_,N4 d1 fun _=>out.toArray⟩;refine aC (xq hk rfl ?_ (by rw[bA]; lia) (bu _));refine aC (wpAny_letGo ?_);refine aC (seqEpoch_at d1 rfl ?_);simp only[Bool.false_eq_true,if_false];refine aC (xq d1 rfl ?_ (bu _) (by rw[bA]; lia));rw[hf];simp only[bne_self_eq_false,Bool.false_eq_true,if_false];refine bI (h _ c2 (s2.1.trans s1.1) ML fun b n1 n2=>(s2.2 b n1).trans (s1.2 b n2))
def P5 {D kS:Addr}{e e1:Nat}{ks vs:List Value}{P:PySem.Fin->Shared->Prop}(hk:s.heap.get? kS=some (seqObj "list" ks.toArray e))(hl:ks.length=vs.length)(DK:vs.length < 64)
  (h:Hq prog w A D kS e1 vs (fun s'=>P (.done (.ret .none)) s') ks s):wpAny (model prog w) A (ksk_end D false vs.toArray e1 (.ref kS) ks.toArray) P E s:=by
 obtain⟨κ,key,ne,hD,kind,cmp,fin⟩:=h;have hsz:vs.toArray.size=vs.length:=by simp
 unfold ksk_end
 try dsimp only
 simp only[Bool.false_eq_true,if_false];by_cases h2:vs.toArray.size < 2
 ·rw[a0 h2,a0 h2];refine aC (bI ?_);rw[StateT.run_pure];refine aC (bI ?_);dsimp only;have Ep:(arrOf (SortSt.mk' general' (ks.toArray.zip vs.toArray) #[] 7 none)).map (·.2)=((List.toArray (List.range vs.length)).toList.map fun i=>vs.getD i Value.none).toArray:=by
   show(ks.toArray.zip vs.toArray).map (·.2)=_;apply Array.toList_inj.mp;have e1:((ks.toArray.zip vs.toArray).map (·.2)).toList=vs:=by
    rw[Array.toList_map,Array.toList_zip];exact List.map_snd_zip (by rw[BK,BK]; lia)
   rw[e1];show vs=(List.range vs.length).map fun i=>vs.getD i Value.none;exact(range_getD vs Value.none).symm
  refine FU hD hk ne Ep (by rw[ae,BK,bT]; exact DK) (by lia) rfl fun h' n z1 z2 z3=>?_;refine fin (List.toArray (List.range vs.length)) h' n (Ma _) (fun i j hij hj=>?_) z1 z2 z3;have:i=j:=by lia
  subst this;exact fN _
 ·rw[aQ h2,aQ h2];have Tv:2<=vs.length:=by lia
  refine aC (cm (kind Tv (fun κ' s'=>κ'=κ/\s'=s) ⟨rfl,rfl⟩) (fun κ' s' LS=>?_) fun _ _ x=>x.elim);obtain⟨rfl,rfl⟩:=LS;refine aC (cm (kat_run (Q:=fun Bz FA=>FA=s'/\ ∃p:Array Nat,p.size=vs.length/\arrOf Bz=p.map (kas_item (ks.toArray.zip vs.toArray))/\failedOf Bz=none/\rj vs.length p/\lO key p vs.length)
   (G:=fun p FA=>FA=s'/\rj vs.length p/\lO key p vs.length) (κ:=κ') hl Tv DK (fun p' Bz FA a1 a2 a3 a4=>⟨a4.1,p',a1,a2,a3,a4.2⟩) (vN (fun i j C hi hj q=>cmp i j C hi hj q) (fun p q=>⟨rfl,q⟩) _ (J2 (by lia)))) ?_ fun _ _ e=>e)
  rintro⟨⟨⟩,Bz⟩ FA ⟨rfl,p,hp,X2,hf,q1,q2⟩;dsimp only;exact FU hD hk ne (kat_snds hl X2) (by rw[ae,o5,hp]; exact DK) (by lia) hf fun h' n z1 z2 z3=>fin p h' n q1 q2 z1 z2 z3
def MP {D:Addr}{n:Nat}{vs:List Value}{f:Value}{P:PySem.Fin->Shared->Prop}(ho:s.heap.get? D=some (seqObj "list" vs.toArray n))(DK:vs.length < 64)
  (h: ∀(kS:Addr) (e1:Nat) (h':Heap),(∀b o,b≠D->s.heap.get? b=some o->h'.get? b=some o)->h'.get? D=some (seqObj "list" #[] e1)->h'.get? kS=some (seqObj "list" #[] 0)->D≠kS->s.heap.objs.size<=kS->
   uj prog w A kS f (Hq prog w A D kS e1 vs (fun s'=>P (.done (.ret .none)) s')) vs [] {s with heap:=h'}):wpAny (model prog w) A (ksk_tree D f false) P E s:=by
 have ha:D < s.heap.objs.size:=aN ho;have hl:sizeLine=16777216:=eX;have s1:=sM s.heap D (Obj.mapSeq fun _=>(#[]:Array Value));obtain⟨e1,Hj⟩: ∃e1,(s.heap.update D (Obj.mapSeq fun _=>(#[]:Array Value))).get? D=some (seqObj "list" #[] e1):=⟨_,N4 ho fun _=> #[]⟩;have X9:((s.heap.update D (Obj.mapSeq fun _=>(#[]:Array Value))).push (seqObj "tuple" vs.toArray 0)).objs.size=s.heap.objs.size + 1:=by rw[size_push',pX]
 unfold ksk_tree;refine aC (listItems_at ho rfl ?_);refine aC (xq ho rfl ?_ (by rw[bA]; lia) (bu _));refine aC (seqEpoch_at Hj rfl ?_);refine aC (wpAny_newTuple ?_ (by show vs.length<=_; lia));refine aC (Mb ?_ (bu _));refine iq ?_;generalize hU:((s.heap.update D (Obj.mapSeq fun _=>(#[]:Array Value))).push (seqObj "tuple" vs.toArray 0))=U at X9;have kU: ∀b o,(s.heap.update D (Obj.mapSeq fun _=>(#[]:Array Value))).get? b=some o->U.get? b=some o:=fun b o z=>by
  rw[← hU];exact az _ z
 have RQ:(U.push (seqObj "list" #[] 0)).get? U.objs.size=some (seqObj "list" #[] 0):=bO _ rfl;have start:=h U.objs.size e1 (U.push (seqObj "list" #[] 0)) (fun b o n z=>az _ (kU b o ((s1.2 b n).trans z))) (az _ (kU D _ Hj)) RQ (by rw[X9]; exact a7 (iW ha)) (by rw[X9]; exact cK _);show wpAny (model prog w) A (ksk_rest D f false vs.toArray e1 (.ref U.objs.size)) P E {s with heap:=U.push (seqObj "list" #[] 0)};unfold ksk_rest;refine aC (wpAny_rule ?_)
 first
  |rw[List.forIn_toArray]
  |(rw[← Array.forIn_toList]; simp only[List.toList_toArray])
 refine wpAny_bind (wpAny_mono (FT DK (fun x ks s' C hz hx=>?_) vs [] 0 _ (by simp) RQ start) (fun _ s' hd=>?_) fun _ _ x=>x)
 ·refine aC (wpAny_attempt (cm hx (fun k FA hk=>?_) fun _ _ hF=>hF.elim));obtain⟨e,nk,c⟩:=hk;have s2:=sM FA.heap U.objs.size (Obj.mapSeq (·.push k));have ea:ks.toArray.push k=(ks ++ [k]).toArray:=by simp
  obtain⟨c2,ML⟩: ∃c2,(FA.heap.update U.objs.size (Obj.mapSeq (·.push k))).get? U.objs.size=some (seqObj "list" (ks ++ [k]).toArray c2):=⟨_,by rw[← ea]; exact N4 nk (·.push k)⟩
  try dsimp only
  refine aC (xq nk rfl ?_ (by rw[bA]; lia) (aR (iM (Array.size_push ..)) (by rw[bA]; lia)));exact bI ⟨rfl,k,c2,ML,c _ c2 s2 ML⟩
 ·obtain⟨ks,e,LS,hl',fin⟩:=hd
  try dsimp only
  refine aC (listItems_at LS rfl ?_);exact P5 LS hl' DK fin
def sortedK {l q:Addr}{vs:List Value}{Q:Value->Shared->Prop}(hl:s.heap.IsList l vs.toArray)(DK:vs.length < 64)
  (h: ∀(D kS:Addr) (e1:Nat) (h':Heap),(∀b o,s.heap.get? b=some o->h'.get? b=some o)->h'.get? D=some (seqObj "list" #[] e1)->h'.get? kS=some (seqObj "list" #[] 0)->D≠kS->s.heap.objs.size<=D->s.heap.objs.size<=kS->
   uj prog w A.in1.in1 kS (.ref q) (Hq prog w A.in1.in1 D kS e1 vs (fun s'=>Q (.ref D) s')) vs [] {s with heap:=h'}):
  wpAny (model prog w) A (call (.builtin "sorted") [.ref l] [(Str.ofString "key",.ref q)]) Q E s:=by
 have Tw:sizeLine=16777216:=eX;refine call_function_entry_kw kind_sorted plain_sorted entry_sorted (ksk_s1 _ _) ?_;unfold Builtin.«sorted»;refine aC (m:=checkCount "sorted" 1 1 _) (bI ?_);refine aC (collect_list hl ?_ (by lia));refine aC (Mb ?_ (by show vs.length<=_; lia));have hsz:((s.heap.push (seqObj "list" #[] 0)).update s.heap.objs.size (Obj.mapSeq (· ++ vs.toArray))).objs.size=s.heap.objs.size + 1:=by
  rw[pX,size_push']
 generalize hU:((s.heap.push (seqObj "list" #[] 0)).update s.heap.objs.size (Obj.mapSeq (· ++ vs.toArray)))=U at hsz;have keep: ∀b o,s.heap.get? b=some o->U.get? b=some o:=fun b o z=>by
  have lt:b < s.heap.objs.size:=aN z;rw[← hU,Jm _ _ _ _ (a7 lt),nz _ _ _ (a7 lt)];exact z
 have O6:(U.push (seqObj "list" vs.toArray 0)).get? U.objs.size=some (seqObj "list" vs.toArray 0):=bO _ rfl;show wpAny _ _ _ _ _ {s with heap:=U.push (seqObj "list" vs.toArray 0)};refine aC (iq (wpAny_call_entry_kw slot_list_sort ⟨_,O6,rfl⟩ entry_list_sort ?body (ksk_l1 _ _)))
 case body=>
  show wpAny (model prog w) A.in1.in1 (Builtin.«list.sort» ⟨[.ref U.objs.size],[(Str.ofString "key",.ref q)]⟩) _ _ _;rw[ksk_t1];refine MP (s:={s with heap:=U.push (seqObj "list" vs.toArray 0)}) O6 DK fun kS e1 h' kp d1 k1 ne le=>?_;have z:=h U.objs.size kS e1 h' (fun b o w=>kp b o (fun w2=>by rw[w2] at w; exact absurd (aN w) (by rw[hsz]; exact yI.mpr (cK _))) (az _ (keep b o w))) d1 k1 ne (by rw[hsz]; exact cK _) (by
   have le':(U.push (seqObj "list" vs.toArray 0)).objs.size<=kS:=le;rw[size_push',hsz] at le';exact aR (lI (cK _)) le')
  have mono: ∀(r ks:List Value) (s':Shared),uj prog w A.in1.in1 kS (.ref q) (Hq prog w A.in1.in1 U.objs.size kS e1 vs (fun s'=>Q (.ref U.objs.size) s')) r ks s'->
    uj prog w A.in1.in1 kS (.ref q) (Hq prog w A.in1.in1 U.objs.size kS e1 vs (fun s'=> ∃v,PySem.Fin.done (.ret .none)= .done (.ret v)/\wpAny (model prog w) A.in1 (ret (.ref U.objs.size)) (fun fin s'=> ∃v,fin=PySem.Fin.done (Flow.ret v)/\Q v s') E s')) r ks s':=by
   intro r
   induction r with
   |nil=>
    rintro ks s' ⟨κ,key,a1,a2,a3,a4,a5⟩;exact⟨κ,key,a1,a2,a3,a4,fun p h2 n b1 b2 b3 b4 b5=>⟨_,rfl,bI ⟨_,rfl,a5 p h2 n b1 b2 b3 b4 b5⟩⟩⟩
   |cons v r ih=>
    intro ks s' hh;exact cm hh (fun k s2 ⟨e,z1,z2⟩=>⟨e,z1,fun h2 c w1 w2=>ih _ _ (z2 h2 c w1 w2)⟩) fun _ _ x=>x
  exact mono vs [] _ z
end
end L2
namespace LW
open PySem
def Hr (f:Array Value->Array Value)(o:Obj):(Obj.mapFields f o).dict=o.dict:=by
 obtain⟨c,d,dt,sl⟩:=o;cases dt <;> rfl
def i6 (h:Heap)(e:Addr)(cls:Value)(iR:Option Addr)(vs:Array Value):Prop:= ∃oe,h.get? e=some oe/\oe.cls=cls/\oe.dict=iR/\oe.data= .fields vs
def i6.set {h:Heap}{e:Addr}{cls:Value}{iR:Option Addr}{vs:Array Value}(x:i6 h e cls iR vs)(i:Nat)(v:Value):
  i6 (h.update e (Obj.mapFields (·.setIfInBounds i v))) e cls iR (vs.setIfInBounds i v):=by
 obtain⟨oe,he,hc,hd,hv⟩:=x;have q:=Obj.data_mapFields hv (·.setIfInBounds i v);exact⟨_,DY _ he (Obj.isFreed_of_fields q),(Obj.cls_mapFields _ _).trans hc,(Hr _ _).trans hd,q⟩
def i6.same {h h':Heap}{e:Addr}{cls:Value}{iR:Option Addr}{vs:Array Value}(x:i6 h e cls iR vs)(k: ∀o,h.get? e=some o->h'.get? e=some o):i6 h' e cls iR vs:=
 let⟨oe,he,r⟩:=x
 ⟨oe,k _ he,r⟩
def nR (fr own:List Addr)(h h':Heap):Prop:= ∀b o,h.get? b=some o->b∉own->(b∉fr->h'.get? b=some o)/\ ∃sl,h'.get? b=some {o with slots:=sl}
def nR.trans {fr o1 o2:List Addr}{h h1 h2:Heap}(a:nR fr o1 h h1)(b:nR fr o2 h1 h2):nR fr (o1 ++ o2) h h2:=fun c ob q n=>by
 obtain⟨k,sl,e⟩:=a c ob q (fun z=>n (c9 _ z));obtain⟨_,Wc,e2⟩:=b c _ e (fun z=>n (bB _ z));exact⟨fun hn=>(b c ob (k hn) (fun z=>n (bB _ z))).1 hn,Wc,e2⟩
def nR.mono {fr RS o1 o2:List Addr}{h h1:Heap}(a:nR fr o1 h h1)(hf: ∀b∈fr,b∈RS)(ho: ∀b∈o1,b∈o2):nR RS o2 h h1:=fun c ob q n=>
 let⟨k,sl,e⟩:=a c ob q (fun z=>n (ho c z))
 ⟨fun hn=>k (fun z=>hn (hf c z)),sl,e⟩
def Ab {fr:List Addr}{h:Heap}{a:Addr}(f:Obj->Obj):nR fr [a] h (h.update a f):=fun b o q n=>by
 have z:(h.update a f).get? b=some o:=(ny _ _ (fun(e:a=b)=>n (au.mpr e.symm))).trans q;exact⟨fun _=>z,o.slots,z⟩
def v7 {fr own:List Addr}{h:Heap}(o':Obj):nR fr own h (h.push o'):=fun b o q _=>⟨fun _=>az _ q,o.slots,az _ q⟩
def i6.but {fr own:List Addr}{h h':Heap}{e:Addr}{cls:Value}{iR:Option Addr}{vs:Array Value}(x:i6 h e cls iR vs)(b:nR fr own h h')(n:e∉own):i6 h' e cls iR vs:=by
 obtain⟨oe,he,hc,hd,hv⟩:=x;obtain⟨_,sl,q⟩:=b e oe he n;exact⟨_,q,hc,hd,hv⟩
def LX (h:Heap)(T:Addr)(fl:Value):Prop:= ∃c d ts,i6 h T c d ts/\ts[3]? =some fl
def fh {ts:Array Value}{i:Nat}{v:Value}(h:ts[i]? =some v):i < ts.size:=(Array.getElem?_eq_some_iff.mp h).1
def qu {ts:Array Value}{i:Nat}{v:Value}(h:i < ts.size):(ts.setIfInBounds i v)[i]? =some v:=by
 rw[Array.getElem?_setIfInBounds_self_of_lt h]
def rA {ts:Array Value}{i j:Nat}{v:Value}(h:i≠j):(ts.setIfInBounds i v)[j]? =ts[j]? :=by
 rw[Array.getElem?_setIfInBounds_ne h]
section
variable {M:Model}{A:Around}{E:Value->Shared->Prop}{s:Shared}{env:Env}{outer:List Env}{base:Heap}{L e T:Addr}{cls:Value}{iR:Option Addr}{vs:Array Value}{Q:Unit->Shared->Prop}
def rB {a:Addr}{i:Nat}{v:Value}{R:Value->Shared->Prop}(x:i6 s.heap a cls iR vs)(h:vs[i]? =some v)(q:R v s):wpAny M A (field (.ref a) i) R E s:=by
 obtain⟨oe,he,_,_,hv⟩:=x;exact Jn he hv h q
def oQ {a:Addr}{i:Nat}{v:Value}(x:i6 s.heap a cls iR vs)(h:i < vs.size)
  (q: ∀h',nR [] [a] s.heap h'->i6 h' a cls iR (vs.setIfInBounds i v)->h'.objs.size=s.heap.objs.size->Q () {s with heap:=h'}):wpAny M A (setField (.ref a) i v) Q E s:=by
 obtain⟨oe,he,hc,hd,hv⟩:=id x;exact wpAny_setField he hv h (q _ (Ab _) (x.set i v) (Heap.size_after_update ..))
def v8 {fl:Value}(x:i6 s.heap e cls iR vs)(h1:vs[1]? =some (.ref T))(ht:LX s.heap T fl)
  (q: ∀h',nR [] [T] s.heap h'->LX h' T .none->h'.objs.size=s.heap.objs.size->Q () {s with heap:=h'}):wpAny M A (setFlight (.ref e) none) Q E s:=by
 obtain⟨c,d,ts,xt,h3⟩:=ht;unfold setFlight;refine aC (rB x h1 ?_);rw[if_pos (show(Value.ref T != Value.none)=true from by simp)];exact oQ xt (fh h3) fun h' b x' z=>q h' b ⟨c,d,_,x',qu (fh h3)⟩ z
def entry {head:Value}{had:Bool}(DM:A.frames=some (env :: outer))(hl:s.heap.FunFrames base (env :: outer))(hf:env.frame=some L)(x:i6 s.heap e cls iR vs)(hsz:1 < vs.size)
  (q: ∀h' T,nR ((env :: outer).filterMap (·.frame)) [e] s.heap h'->i6 h' e cls iR (vs.setIfInBounds 1 (.ref T))->T=s.heap.objs.size->LX h' T (rawInt L)->Q () {s with heap:=h'}):
  wpAny M A (do let a ← frameOf env; let pl ← entryPlaceOf L had; let b ← EntryCells.newEntry head a .none (rawInt L) .none pl; setField (.ref e) 1 b) Q E s:=by
 refine aC (wpAny_frameOf_fun DM hl hf fun h1 so=>?_);refine aC (wpAny_entryPlaceOf fun pl gQ=>?_);unfold EntryCells.newEntry newFields;refine aC (wpAny_newObj_type ?_ (gQ.sizeOk5 _ _ _ _ _));have b1:nR ((env :: outer).filterMap (·.frame)) [] s.heap h1:=fun b o z _=>⟨fun n=>(so.2.1 b n).trans z,so.2.2 b o z⟩;have x1:i6 h1 e cls iR vs:=x.but b1 (by simp);generalize Wd:({cls:= .type "traceback",dict:=none,data:= .fields ([head,.ref L,.none,rawInt L,.none] ++ (if pl.isEmpty then List.replicate 6 Value.none else pl)).toArray}:Obj)=ob;have x2:i6 (h1.push ob) e cls iR vs:=x1.same fun o z=>az _ z;have ne:h1.objs.size≠e:=by
  obtain⟨_,z,_⟩:=x1;exact qI (aN z)
 have xt:i6 (h1.push ob) h1.objs.size ob.cls ob.dict ([head,.ref L,.none,rawInt L,.none] ++ (if pl.isEmpty then List.replicate 6 Value.none else pl)).toArray:=by
  subst Wd;exact⟨_,bO _ rfl,rfl,rfl,rfl⟩
 refine oQ (s:={s with heap:=h1.push ob}) x2 hsz fun h' b x' _=>q h' h1.objs.size ?_ x' so.1 ⟨_,_,_,xt.but b (by simpa using ne),?_⟩
 ·exact((b1.trans (v7 ob (own:=[]))).trans (b.mono (by simp) (fun _ z=>z))).mono (fun _ z=>z) (by simp)
 ·simp
def P6 (DM:A.frames=some (env :: outer))(hl:s.heap.FunFrames base (env :: outer))(hf:env.frame=some L)(x:i6 s.heap e cls iR vs)(h1:vs[1]? =some .none)
  (q: ∀h' T,nR ((env :: outer).filterMap (·.frame)) [e] s.heap h'->i6 h' e cls iR (vs.setIfInBounds 1 (.ref T))->T=s.heap.objs.size->LX h' T .none->Q () {s with heap:=h'}):
  wpAny M A (leaving env (.ref e)) Q E s:=by
 have ne:s.heap.objs.size≠e:=by
  obtain⟨_,z,_⟩:=x;exact qI (aN z)
 unfold leaving noteFrame;simp only[hf];refine aC (aC (rB x h1 ?_));rw[aQ (by decide)];refine entry DM hl hf x (fh h1) fun h' T b x' hT t=>?_;refine v8 x' (qu (fh h1)) t fun h2 b2 t2 _=>q h2 T ?_ (x'.but b2 (by rw[hT]; simpa using ne.symm)) hT t2;intro c o z n;have hc:c≠T:=fun w=>by rw[w,hT] at z; exact absurd (aN z) (iU _)
 exact(b.trans (b2.mono (by simp) (fun _ z=>z))) c o z (by simpa using⟨by simpa using n,hc⟩)
def Oj (DM:A.frames=some (env :: outer))(hl:s.heap.FunFrames base (env :: outer))(hf:env.frame=some L)(x:i6 s.heap e cls iR vs)(h1:vs[1]? =some (.ref T))(ht:LX s.heap T .none)(Ya:T≠e)
  (q: ∀h' T',nR ((env :: outer).filterMap (·.frame)) [T,e] s.heap h'->i6 h' e cls iR (vs.setIfInBounds 1 (.ref T'))->T'=s.heap.objs.size->LX h' T' (rawInt L)->Q () {s with heap:=h'}):
  wpAny M A (noteFrame (.ref e) env) Q E s:=by
 obtain⟨c,d,ts,xt,h3⟩:=ht;unfold noteFrame;simp only[hf];refine aC (rB x h1 ?_);rw[if_pos (show(Value.ref T != Value.none)=true from by simp)];refine aC (rB xt h3 ?_);rw[if_neg (show ¬ ((Value.none == rawInt L)=true) from by simp[rawInt])];refine aC (oQ xt (fh h3) fun h' b xt' sz=>?_);refine entry (s:={s with heap:=h'}) DM (hl.of_keeps fun a o z nf=>?_) hf (x.but b (by simpa using Ya.symm)) (fh h1) fun h2 T' b2 x2 hT t2=>q h2 T' ?_ x2 (hT.trans sz) t2
 ·have na:a≠T:=fun w=>by
   obtain⟨_,z',_,_,hd⟩:=xt;rw[w,z'] at z;cases z;exact nf _ hd
  obtain⟨_,sl,z'⟩:=b a o z (by simpa using na);exact⟨_,z',rfl⟩
 ·exact((b.mono (fun _ z=>absurd z (by simp)) (fun _ z=>z)).trans b2).mono (fun _ z=>z) (by simp)
def P7 (DM:A.frames=some (env :: outer))(hl:s.heap.FunFrames base (env :: outer))(hf:env.frame=some L)(x:i6 s.heap e cls iR vs)(h1:vs[1]? =some (.ref T))(ht:LX s.heap T .none)(Ya:T≠e)
  (q: ∀h' T',nR ((env :: outer).filterMap (·.frame)) [T,e] s.heap h'->i6 h' e cls iR (vs.setIfInBounds 1 (.ref T'))->T'=s.heap.objs.size->LX h' T' .none->Q () {s with heap:=h'}):
  wpAny M A (leaving env (.ref e)) Q E s:=by
 have ne:s.heap.objs.size≠e:=by
  obtain⟨_,z,_⟩:=x;exact qI (aN z)
 unfold leaving;refine aC (Oj DM hl hf x h1 ht Ya fun h' T' b x' hT t=>?_);refine v8 (s:={s with heap:=h'}) x' (qu (fh h1)) t fun h2 b2 t2 _=>q h2 T' ?_ (x'.but b2 (by rw[hT]; simpa using ne.symm)) hT t2;intro c o z n;have hc:c≠T':=fun w=>by rw[w,hT] at z; exact absurd (aN z) (iU _)
 have n': ¬ (c=T∨c=e):=by simpa using n
 exact(b.trans (b2.mono (by simp) (fun _ z=>z))) c o z (by simp; exact⟨fun w=>n' (.inl w),fun w=>n' (.inr w),hc⟩)
end
def LY {α:Type}(M:Model)(h:Heap)(t:Sem α)(r:α):Prop:=
 ∀(A:Around) (Q:α->Shared->Prop) (E:Value->Shared->Prop) (s:Shared),(∀b o,h.get? b=some o->s.heap.get? b=some o)->Q r s->wpAny M A t Q E s
section
variable {M:Model}{A:Around}{E:Value->Shared->Prop}{h:Heap}{g:Array GenState}{d:Drawn}{t:Nat}{os:OsState}
variable {nm q:Str}{C N:Addr}{bs bm FV:List Value}{o9:Bool}{sn:List Str}{sub:List Value}{ab:Bool}{col:Option Bool}{dd:Option Addr}{k0 k1 k2 k3 k5:Option Value}{B newId ly:String}
def iE {X:String}{r:Bool}(hb:bm.contains (.type X)=r):(Value.ref C :: bm).contains (.type X)=r:=by
 rw[List.contains_cons,hb];rfl
def MQ (F:ExcBaseFacts B newId ly FV)(hB:bm.contains (.type B)=true){rest:List Value}{Q:Unit->Shared->Prop}
  (hC:h.get? C=some (excClassObj nm q C N bs bm o9 sn sub ab col dd k0 k1 k2 k3 k5 newId)) (hq:Q () ⟨h,g,d,t,os⟩):wpAny M A (checkBuiltinCall newId ⟨.ref C :: rest,[]⟩) Q E ⟨h,g,d,t,os⟩:=by
 have js:=iE (C:=C) hB; have st:=F.noStar;simp only[checkBuiltinCall,F.newKind,F.newSplit,F.newRow]
 repeat (first
  |refine bE hC ?_
  |(refine cZ hC ?_; rw[js])
  |refine wpAny_staticBase_exc hC ?_
  |refine wpAny_madeBy_exc hC ?_
  |simp only[bne_self_eq_false,Bool.false_eq_true,if_false]
  |wp_step)
 exact hq
end
section
variable {prog:Program}{w:World}{A:Around}{E:Value->Shared->Prop}{R:Result->Shared->Prop}{h:Heap}{g:Array GenState}{d:Drawn}{t:Nat}{os:OsState}
variable {nm q:Str}{C N f:Addr}{bs bm FV:List Value}{o9:Bool}{sn:List Str}{sub:List Value}{ab:Bool}{col:Option Bool}{dd:Option Addr}{k0 k1 k2 k3 k5:Option Value}{B newId ly:String}
abbrev mC (C t:Addr):Obj:={cls:= .ref C,data:= .fields #[.ref t,.none,.none,.none,.bool false,.none]}
abbrev jt (l:List Value):Obj:={cls:= .type "tuple",data:= .seq l.toArray}
def MR (F:ExcBaseFacts B newId ly FV)(hB:bm.contains (.type B)=true)(hA:bm.contains (.type "AttributeError")=false)(hN:bm.contains (.type "NameError")=false)
  (hC:h.get? C=some (excClassObj nm q C N bs bm o9 sn sub ab col dd k0 k1 k2 k3 k5 newId)) (hq:R (.ok (.ret (.ref (h.objs.size + 1)))) ⟨(h.push (jt [])).push (mC C h.objs.size),g,d,t,os⟩):
  codeAny (model prog w) A (.builtin newId ⟨[.ref C],[]⟩) R ⟨h,g,d,t,os⟩:=by
 have he:=F.ends;have h1:=iE (C:=C) hB; have h2:=iE (C:=C) hA; have h3:=iE (C:=C) hN;refine codeAny_builtinAt F.entry ?_;unfold Builtin.«BaseException.__new__»;refine wpAt_bind ?_;show wpAt _ _ _ (stack >>=_) _ _ _;refine wpAt_bind (wpAt_stack fun p below=>wpAt_of_wpAny ?_)
 wp_walk
 refine wpAt_of_wpAny ?_;rw[F.owner]
 repeat (first
  |with_reducible refine wpAny_madeHere_exc F.canon hC ?_
  |with_reducible refine bE hC ?_
  |(with_reducible refine cZ hC ?_; first|rw[h1]|rw[h2]|rw[h3])
  |wp_step)
 show R _ _;rw[oO];exact hq
def Hs (F:ExcBaseFacts B newId ly FV)(hB:bm.contains (.type B)=true)(hA:bm.contains (.type "AttributeError")=false)(hN:bm.contains (.type "NameError")=false){oI:Obj}{Q:Fin->Shared->Prop}
  (hC:h.get? C=some (excClassObj nm q C N bs bm o9 sn sub ab col dd k0 k1 k2 k3 k5 newId)) (hi:LY (model prog w) h (typeLookup (.ref C) "__init__") (some (.ref f))) (hf:h.get? f=some oI) (TR:oI.cls= .type "function")
  (hq:wpAny (model prog w) A (call (.ref f) [.ref (h.objs.size + 1)]) (fun r s'=>r= .none/\Q (.done (.ret (.ref (h.objs.size + 1)))) s') E ⟨(h.push (jt [])).push (mC C h.objs.size),g,d,t,os⟩):
  wpAny (model prog w) A (Builtin.«type.__call__» ⟨[.ref C],[]⟩) Q E ⟨h,g,d,t,os⟩:=by
 repeat (first
  |with_reducible refine bE hC ?_
  |with_reducible refine wpAny_madeBy_exc hC ?_
  |wp_step)
 refine codeAny_call_builtin_code (Code.quiet_builtin _ F.quiet) (MQ F hB hC ?_);refine MR F hB hA hN hC ?_;show wpAny _ _ _ _ _ _;have kp: ∀b o,h.get? b=some o->((h.push (jt [])).push (mC C h.objs.size)).get? b=some o:=fun b o z=>az _ (az _ z);have Kg:=kp _ _ hC;have hg:((h.push (jt [])).push (mC C h.objs.size)).get? (h.objs.size + 1)=some (mC C h.objs.size):=by heap_get
 have TU:(Value.ref C :: bm).contains (.ref C)=true:=by simp
 unfold isInstance
 repeat (first
  |with_reducible refine bE hg ?_
  |(with_reducible refine cZ Kg ?_; rw[TU])
  |wp_step)
 show wpAny _ _ (typeLookup (.ref C) _) _ _ _;refine hi _ _ _ _ kp ?_;refine iq (aC ?_);unfold bindSpecial;refine aC (wpAny_typeOf (T:="function") ⟨_,kp _ _ hf,TR⟩ ?_);rw[a0 (by decide)];refine bI (aC (cm hq (fun r s' hr=>?_) fun _ _ x=>x));obtain⟨rfl,z⟩:=hr
 wp_walk
 exact z
def call_exc (F:ExcBaseFacts B newId ly FV)(hB:bm.contains (.type B)=true)(hA:bm.contains (.type "AttributeError")=false)(hN:bm.contains (.type "NameError")=false){oI:Obj}{Q:Value->Shared->Prop}
  (hC:h.get? C=some (excClassObj nm q C N bs bm o9 sn sub ab col dd k0 k1 k2 k3 k5 newId)) (hi:LY (model prog w) h (typeLookup (.ref C) "__init__") (some (.ref f))) (hf:h.get? f=some oI) (TR:oI.cls= .type "function")
  (hq:wpAny (model prog w) (A.under (.builtin "type.__call__" ⟨[.ref C],[]⟩)) (call (.ref f) [.ref (h.objs.size + 1)]) (fun r s'=>r= .none/\Q (.ref (h.objs.size + 1)) s') E ⟨(h.push (jt [])).push (mC C h.objs.size),g,d,t,os⟩):
  wpAny (model prog w) A (call (.ref C) []) Q E ⟨h,g,d,t,os⟩:=by
 have f1:=tc_lookup; have f2:=tc_bind (.ref C);have hT:(⟨h,g,d,t,os⟩:Shared).TypeIs (.ref C) "type":=⟨_,hC,rfl⟩;refine Fm (codeAny_of_tree ?_);show wpAny _ _ (callAny (.ref C) _) _ _ _
 repeat (any_goals (first
  |assumption
  |with_reducible refine bE hC ?_
  |wp_step))
 refine⟨rfl,?_⟩;exact codeAny_call_builtin_at (Code.quiet_builtin _ (by decide +kernel)) entry_typeCall (wpAny_check_type_call_sub hC (Hs F hB hA hN hC hi hf TR hq))
end
def Stop (P:Prop):Prop:=P
def Stop.out {P:Prop}(h:Stop P):P:=h
def Stop.in {P:Prop}(h:P):Stop P:=h
section
variable {prog:Program}{w:World}{A:Around}{E:Value->Shared->Prop}{R:Result->Shared->Prop}{h:Heap}{g:Array GenState}{d:Drawn}{t:Nat}{os:OsState}
variable {nm q:Str}{C N e:Addr}{bs bm FV:List Value}{o9:Bool}{sn:List Str}{sub:List Value}{ab:Bool}{col:Option Bool}{dd iR:Option Addr}{k0 k1 k2 k3 k5:Option Value}{B newId nid ly:String}{vs:Array Value}
def Kh {M:Model}(F:ExcBaseFacts B nid ly FV)(hB:bm.contains (.type B)=true){oe:Obj}{rest:List Value}{Q:Unit->Shared->Prop}
  (hC:h.get? C=some (excClassObj nm q C N bs bm o9 sn sub ab col dd k0 k1 k2 k3 k5 newId)) (he:h.get? e=some oe) (hc:oe.cls= .ref C) (hq:Q () ⟨h,g,d,t,os⟩):
  wpAny M A (checkBuiltinCall ly ⟨.ref e :: rest,[]⟩) Q E ⟨h,g,d,t,os⟩:=by
 have h1:=iE (C:=C) hB; have h2:=F.noStar;simp only[checkBuiltinCall,F.initKind,F.initSplit,F.initRow]
 repeat (first
  |(with_reducible refine bE he ?_; rw[hc])
  |with_reducible refine bE hC ?_
  |(with_reducible refine cZ hC ?_; rw[h1])
  |wp_step)
 refine wpAny_onRaise ?_;rw[show ∀(a b:String) (n:Nat),Bind.check ⟨.positional,"*",B,.self,[⟨"args",.varPos,false⟩]⟩ a b n (List.map (fun x=>x.fst) ({pos:=Value.ref e :: rest}:Args).kw)=pure () from fun a b n=>
  check_star_args _ _ _ _ _ _]
 exact bI hq
def Ht (F:ExcBaseFacts B nid ly FV)(hB:bm.contains (.type B)=true){v:Value}{Q:Value->Shared->Prop}
  (hC:h.get? C=some (excClassObj nm q C N bs bm o9 sn sub ab col dd k0 k1 k2 k3 k5 newId)) (x:i6 h e (.ref C) iR vs) {t0:Addr} (h0:vs[0]? =some (.ref t0))
  (hq: ∀h',nR [] [e] h h'->i6 h' e (.ref C) iR (vs.setIfInBounds 0 (.ref h.objs.size))->Q .none ⟨h',g,d,t,os⟩):
  wpAny (model prog w) A (call (.builtin ly) [.ref e,v]) Q E ⟨h,g,d,t,os⟩:=by
 obtain⟨oe,he,hc,TV,hv⟩:=id x;refine Fm (GR F.init.plain F.initEntry (Kh F hB hC he hc ?_));unfold Builtin.«BaseException.__init__»;have Yb:(h.push (jt [v])).get? e=some oe:=az _ he;have x1:i6 (h.push (jt [v])) e (.ref C) iR vs:=⟨oe,Yb,hc,TV,hv⟩;have hs:=fh h0
 repeat (first
  |with_reducible refine Jn Yb hv h0 ?_
  |with_reducible refine wpAny_setField Yb hv hs ?_
  |wp_step)
 have bt:nR [] [e] h ((h.push (jt [v])).update e (Obj.mapFields (·.setIfInBounds 0 (Value.ref h.objs.size)))):=(v7 (fr:=[]) (own:=[]) (jt [v])).trans (Ab _);exact hq _ bt (x1.set 0 _)
end
section
variable {M:Model}{A:Around}{E:Value->Shared->Prop}{s:Shared}{env:Env}
variable {nm q:Str}{C N e:Addr}{bs bm FV:List Value}{o9:Bool}{sn:List Str}{sub:List Value}{ab:Bool}{col:Option Bool}{dd iR:Option Addr}{k0 k1 k2 k3 k5:Option Value}{newId:String}{vs:Array Value}
def Et {x:Sem Value}{Q:Flow->Shared->Prop}(hB:bm.contains (.type "BaseException")=true)(hh:A.handled=none)
  (h:wpAny M A x (fun v s1=> ∃e iR vs,v= .ref e/\s1.heap.get? C=some (excClassObj nm q C N bs bm o9 sn sub ab col dd k0 k1 k2 k3 k5 newId)/\i6 s1.heap e (.ref C) iR vs/\vs[1]? =some .none/\E (.ref e) s1) E s):
  wpAny M A (raiseStmt env (some x) none) Q E s:=by
 have h1:=iE (C:=C) hB;unfold raiseStmt;refine aC (cm h (fun v s1 z=>?_) fun _ _ x=>x);obtain⟨e,iR,vs,rfl,hC,⟨oe,he,hc,TV,hv⟩,v1,hE⟩:=z;obtain⟨hp,g,d,tk,os⟩:=s1
 repeat (first
  |(with_reducible refine bE he ?_; rw[hc])
  |with_reducible refine bE hC ?_
  |(with_reducible refine cZ hC ?_; rw[h1])
  |with_reducible refine Jn he hv v1 ?_
  |wp_step)
 exact wpAny_raiseNew_none hh hE
def MS {a:Addr}{cls:Value}{i:Nat}{v:Value}{Q:Unit->Shared->Prop}(x:i6 s.heap a cls iR vs)(h:i < vs.size)
  (q: ∀h',nR [] [a] s.heap h'->i6 h' a cls iR (vs.setIfInBounds i v)->Q () {s with heap:=h'}):wpAny M A (updateField a i v) Q E s:=
 oQ (i:=i) (v:=v) x h fun h' b x' _=>q h' b x'
def xO:entryFor table "proto.unchain"=some Builtin.«proto.unchain»:=entryFor_of_tree (by kernel_rfl)
end
section
variable {prog:Program}{w:World}{A:Around}{E:Value->Shared->Prop}{s:Shared}{env:Env}
variable {nm q:Str}{C N e:Addr}{bs bm FV:List Value}{o9:Bool}{sn:List Str}{sub:List Value}{ab:Bool}{col:Option Bool}{dd iR:Option Addr}{k0 k1 k2 k3 k5:Option Value}{newId:String}{vs:Array Value}
def Eu {x c:Sem Value}{Q:Flow->Shared->Prop}{e0:Addr}(hB:bm.contains (.type "BaseException")=true)(hh:A.handled=some (.ref e0))(hc: ∀(R:Value->Shared->Prop) (s:Shared),R .none s->wpAny (model prog w) A c R E s)
  (h:wpAny (model prog w) A x (fun v s1=> ∃e iR vs c0 d0 Tf,v= .ref e/\e≠e0/\s1.heap.get? C=some (excClassObj nm q C N bs bm o9 sn sub ab col dd k0 k1 k2 k3 k5 newId)/\i6 s1.heap e (.ref C) iR vs/\vs[1]? =some .none/\vs.size=6/\
   i6 s1.heap e0 c0 d0 Tf/\Tf[2]? =some .none/\ ∀h',nR [] [e] s1.heap h'->i6 h' e (.ref C) iR (((vs.setIfInBounds 3 .none).setIfInBounds 4 (.bool true)).setIfInBounds 2 (.ref e0))->E (.ref e) {s1 with heap:=h'}) E s):
  wpAny (model prog w) A (raiseStmt env (some x) (some c)) Q E s:=by
 have h1:=iE (C:=C) hB;unfold raiseStmt;refine aC (cm h (fun v s1 z=>?_) fun _ _ x=>x);obtain⟨e,iR,vs,c0,d0,Tf,rfl,ne,hC,xe,v1,sz,x0,c2,hE⟩:=z;obtain⟨oe,he,rC,TV,hv⟩:=id xe;obtain⟨hp,g,d,tk,os⟩:=s1;have eC:e≠C:=fun q=>by
  rw[q] at he;rw[hC] at he;cases he;cases hv
 repeat (first
  |(with_reducible refine bE he ?_; rw[rC])
  |with_reducible refine bE hC ?_
  |(with_reducible refine cZ hC ?_; rw[h1])
  |with_reducible refine oQ xe (by rw[sz]; decide) fun h2 b2 x2 _=>Stop.out ?_
  |with_reducible refine hc _ _ ?_
  |wp_step)
 have b2':nR [] [e] hp h2:=b2;refine Stop.in ?_;refine aC (oQ (s:=⟨h2,g,d,tk,os⟩) x2 (by rw[sN,sz]; decide) fun h3 b3 x3 _=>?_);have b3':nR [] [e] h2 h3:=b3;have Yc:nR [] [e] hp h3:=(b2'.trans b3').mono (fun _ z=>z) (by simp);have hC3:h3.get? C=_:=(Yc C _ hC (by simpa using eC.symm)).1 (by simp);have x03:i6 h3 e0 c0 d0 Tf:=i6.but x0 Yc (by simpa using ne.symm);obtain⟨o3,he3,hc3,_,hv3⟩:=id x3;obtain⟨o0,he0,_,_,Yd⟩:=id x03;have v31:((vs.setIfInBounds 3 Value.none).setIfInBounds 4 (Value.bool true))[1]? =some Value.none:=by rw[rA (by decide),rA (by decide)]; exact v1
 repeat (first
  |(with_reducible refine bE he3 ?_; rw[hc3])
  |with_reducible refine bE hC3 ?_
  |(with_reducible refine cZ hC3 ?_; rw[h1])
  |with_reducible refine Jn he3 hv3 v31 ?_
  |wp_step)
 have sz3:((vs.setIfInBounds 3 Value.none).setIfInBounds 4 (Value.bool true)).size=6:=by rw[sN,sN,sz]
 unfold raiseNew;refine aC (wpAny_handled ?_);rw[hh];dsimp only;rw[if_pos (show(Value.ref e0 != Value.ref e)=true from by simpa using ne.symm)];refine aC (iq (wpAny_runValue (codeAny_builtin xO ?_)));unfold Builtin.«proto.unchain»
 repeat (first
  |with_reducible refine Jn he0 Yd c2 ?_
  |with_reducible refine aC (MS (s:=⟨h3,g,d,tk,os⟩) x3 (by rw[sz3]; decide) fun h4 b4 x4=>Stop.out ?_)
  |wp_step)
 refine Stop.in ?_;refine wpAny_throw (hE h4 ?_ x4);have b4':nR [] [e] h3 h4:=b4;exact(Yc.trans b4').mono (fun _ z=>z) (by simp)
end
open PySem.Builtin PySem.Builtin.ObjectAttr
section
variable {prog:Program}{w:World}{A:Around}{E:Value->Shared->Prop}{h:Heap}{g:Array GenState}{d:Drawn}{t:Nat}{os:OsState}
variable {nm q:Str}{C N e:Addr}{bs bm:List Value}{sn:List Str}{sub:List Value}{ab:Bool}{col:Option Bool}{dd:Option Addr}{k0 k1 k2 k3 k5:Option Value}{newId:String}{vs:Array Value}{name:Str}{v:Value}
def Hu {tk:Tok}{Q:Fin->Shared->Prop}(hC:h.get? C=some (excClassObj nm q C N bs bm true sn sub ab col dd k0 k1 k2 k3 k5 newId))(hp: ∀self:Value,refuseLoop self "__setattr__" (.ref C :: bm)=pure ())
  (tx:LY (model prog w) h (typeLookup (.ref C) name) none) (x:i6 h e (.ref C) none vs)
  (hq: ∀h' P8,nR [] [e] h h'->i6 h' e (.ref C) (some h.objs.size) vs->h'.Ns1 h.objs.size (fun y=>if y=name then some v else none)->Q (.done (.ret .none)) ⟨h',g,d,P8,os⟩):
  wpAny (model prog w) A (Builtin.«object.__setattr__» ⟨[.ref e,.str name tk,v],[]⟩) Q E ⟨h,g,d,t,os⟩:=by
 obtain⟨o,hx,hc,Ye,hv⟩:=id x;have TX:=hp (.ref e);have Yf: ∀{A':Around} {Q':Option Value->Shared->Prop} {E':Value->Shared->Prop},Q' none ⟨h,g,d,t,os⟩->wpAny (model prog w) A' (typeLookup (.ref C) name) Q' E' ⟨h,g,d,t,os⟩:=fun z=>tx _ _ _ _ (fun _ _ y=>y) z;have hnc: ∀c,o.data≠ .cls c:=fun c z=>by rw[hv] at z; cases z
 unfold Builtin.«object.__setattr__»
 repeat (first
  |rw[refuse_eq]
  |rw[TX]
  |(with_reducible refine bE hx ?_; rw[hc])
  |with_reducible refine wpAny_mroOf_exc hC ?_
  |with_reducible refine Yf ?_
  |wp_step)
 rw[Ye,if_neg (by simp[typeHasDict])];rw[hv];dsimp only;have lt:=aN hx;have ne:e≠h.objs.size:=a7 lt;generalize hD:({cls:= .type "dict",data:= .dict #[]}:Obj)=D;have y1:(h.push D).get? e=some o:=az _ hx;refine aC (wpAny_alloc' (aC (wpAny_update' y1 (bI ?_))));generalize hU:(h.push D).update e (fun o=>{cls:=o.cls,dict:=some h.objs.size,data:=o.data,slots:=o.slots})=U;have b1:nR [] [e] h U:=by
  rw[← hU];exact(v7 (fr:=[]) (own:=[]) D).trans (Ab _)
 have x1:i6 U e (.ref C) (some h.objs.size) vs:=by
  refine⟨{cls:=o.cls,dict:=some h.objs.size,data:=o.data,slots:=o.slots},?_,hc,rfl,hv⟩;rw[← hU];exact DY _ y1 (Obj.isFreed_of_fields (vs:=vs) hv)
 have gd:U.get? h.objs.size=some {cls:= .type "dict",data:= .dict #[]}:=by
  rw[← hU,← hD];exact(Jm _ _ _ _ ne.symm).trans (Heap.get?_push_at rfl rfl)
 have nd:U.Ns h.objs.size (fun _=>none):=⟨_,#[],_,gd,rfl,fun _ he=>absurd he (by simp),fun _=>rfl⟩;show wpAny _ _ (storeInDict h.objs.size (.str name tk) name v) _ _ _;unfold storeInDict newKeyGuard;refine aC (bI (aC (wpAny_nsSet1 (s:=⟨U,g,d,t,os⟩) (Heap.Ns1.of_empty nd) fun h' hn hs=>?_)));obtain⟨oD,esD,epD,Xr,Xs,Xt⟩:=hn.count (Within.cons name v Within.nil);refine aC (wpAny_lookBehind Xr (by rw[Xs]; exact pastItsLine_dict (aR Xt (by rw[bJ,xA,eX]; lia))) ?_)
 wp_walk
 have lt': ∀b o',h.get? b=some o'->h'.get? b=U.get? b:=fun b o' z=>hs.2 b (a7 (aN z));refine hq h' _ (fun b ob z n=>?_) (x1.same fun ob z=>(hs.2 e ne).trans z) hn;obtain⟨z1,sl,z2⟩:=b1 b ob z n;exact⟨fun n'=>(lt' b ob z).trans (z1 n'),sl,(lt' b ob z).trans z2⟩
def P9 {M:Model}{B sa owner:String}{FV:List Value}{o:Obj}{wa:Value}{Q:Unit->Shared->Prop}(SF:StoreFacts B FV sa owner)(ho:bm.contains (.type owner)=true)
  (hC:h.get? C=some (excClassObj nm q C N bs bm true sn sub ab col dd k0 k1 k2 k3 k5 newId)) (hx:h.get? e=some o) (hc:o.cls= .ref C) (hq:Q () ⟨h,g,d,t,os⟩):
  wpAny M A (checkBuiltinCall sa ⟨[.ref e,wa,v],[]⟩) Q E ⟨h,g,d,t,os⟩:=by
 have h1:=iE (C:=C) ho; have ha:=SF.args (.ref e) wa v;simp only[checkBuiltinCall,SF.kind,SF.split];refine aC ?_;unfold isInstance
 repeat (first
  |(with_reducible refine bE hx ?_; rw[hc])
  |(with_reducible refine cZ hC ?_; rw[h1])
  |wp_step)
 cases hs:Manifest.signature? sa with
 |none=>exact bI hq
 |some sg=>
  simp only[argsOk,hs] at ha;have h2:Bind.checkArgs sa sg ⟨[.ref e,wa,v],[]⟩=pure ():=ha;show wpAny M A (Bind.checkArgs sa sg ⟨[.ref e,wa,v],[]⟩) Q E _;rw[h2];exact bI hq
def MT {B sa owner:String}{FV:List Value}{Q:Unit->Shared->Prop}(SF:StoreFacts B FV sa owner)(ho:bm.contains (.type owner)=true)(hC:h.get? C=some (excClassObj nm q C N bs bm true sn sub ab col dd k0 k1 k2 k3 k5 newId))
  (hp: ∀self:Value,refuseLoop self "__setattr__" (.ref C :: bm)=pure ()) (sL:LY (model prog w) h (typeLookup (.ref C) "__setattr__") (some (.builtin sa))) (tx:LY (model prog w) h (typeLookup (.ref C) name) none) (x:i6 h e (.ref C) none vs)
  (hq: ∀h' P8,nR [] [e] h h'->i6 h' e (.ref C) (some h.objs.size) vs->h'.Ns1 h.objs.size (fun y=>if y=name then some v else none)->Q () ⟨h',g,d,P8,os⟩):
  wpAny (model prog w) A (setAttr (.ref e) name v) Q E ⟨h,g,d,t,os⟩:=by
 obtain⟨o,hx,hc,_⟩:=id x;have f3:=SF.slot.bind (.ref e);have sL': ∀{tk:Nat} {A':Around} {Q':Option Value->Shared->Prop} {E':Value->Shared->Prop},Q' (some (.builtin sa)) ⟨h,g,d,tk,os⟩->wpAny (model prog w) A' (typeLookup (.ref C) "__setattr__") Q' E' ⟨h,g,d,tk,os⟩:=fun z=>sL _ _ _ _ (fun _ _ y=>y) z;unfold setAttr callSpecial? specialOf
 repeat (any_goals (first
  |assumption
  |(with_reducible refine bE hx ?_; rw[hc])
  |with_reducible refine sL' ?_
  |wp_step))
 refine GR SF.slot.plain SF.entry (P9 SF ho hC hx hc (Hu hC hp tx x fun h' P8 b x' n=>?_))
 repeat (any_goals (first
  |assumption
  |wp_step))
 exact hq h' P8 b x' n
end
section
variable {prog:Program}{w:World}{A:Around}{E:Value->Shared->Prop}{h:Heap}{g:Array GenState}{d:Drawn}{t:Nat}{os:OsState}
variable {nm q:Str}{C N e dx:Addr}{bs bm:List Value}{sn:List Str}{sub:List Value}{ab:Bool}{col:Option Bool}{dd:Option Addr}{k0 k1 k2 k3 k5:Option Value}{newId:String}{vs:Array Value}{name:Str}{v:Value}{mA:Str->Option Value}
def Hv {tk:Tok}{Q:Fin->Shared->Prop}(hC:h.get? C=some (excClassObj nm q C N bs bm true sn sub ab col dd k0 k1 k2 k3 k5 newId))(tx:LY (model prog w) h (typeLookup (.ref C) name) none)(x:i6 h e (.ref C) (some dx) vs)
  (n:h.Ns dx mA) (hm:mA name=some v) (hq:Q (.done (.ret v)) ⟨h,g,d,t,os⟩):wpAny (model prog w) A (Builtin.«object.__getattribute__» ⟨[.ref e,.str name tk],[]⟩) Q E ⟨h,g,d,t,os⟩:=by
 obtain⟨o,hx,hc,Ye,hv⟩:=id x;have Yf: ∀{A':Around} {Q':Option Value->Shared->Prop} {E':Value->Shared->Prop},Q' none ⟨h,g,d,t,os⟩->wpAny (model prog w) A' (typeLookup (.ref C) name) Q' E' ⟨h,g,d,t,os⟩:=fun z=>tx _ _ _ _ (fun _ _ y=>y) z
 repeat (any_goals (first
  |assumption
  |(with_reducible refine bE hx ?_; rw[hc])
  |with_reducible refine Yf ?_
  |wp_step))
 rw[hv];show wpAny _ _ (instanceDict e false) _ _ _;unfold instanceDict;refine aC (bE hx ?_);rw[hc];dsimp only;unfold classData;refine aC (aC (bE hC (bI ?_)));rw[if_neg (by simp)];rw[Ye];refine bI ?_;show wpAny _ _ (nsGet dx name) _ _ _;refine wpAny_nsGet n ?_;rw[hm]
 repeat (first
  |exact hq
  |wp_step)
def Qa {M:Model}{wa:Value}{o:Obj}{Q:Unit->Shared->Prop}(hB:bm.contains (.type "BaseException")=true)(hC:h.get? C=some (excClassObj nm q C N bs bm true sn sub ab col dd k0 k1 k2 k3 k5 newId))
  (hx:h.get? e=some o) (hc:o.cls= .ref C) (hq:Q () ⟨h,g,d,t,os⟩):wpAny M A (checkBuiltinCall "BaseException.__getattribute__" ⟨[.ref e,wa],[]⟩) Q E ⟨h,g,d,t,os⟩:=by
 have hk:builtinKind "BaseException.__getattribute__"=some .slot:=by decide +kernel
 have hs:splitId "BaseException.__getattribute__"=some ("BaseException","__getattribute__"):=by decide +kernel
 have h1:=iE (C:=C) hB; have ha:=F.args_bexc_ga (.ref e) wa;simp only[checkBuiltinCall,hk,hs];refine aC ?_;unfold isInstance
 repeat (first
  |(with_reducible refine bE hx ?_; rw[hc])
  |(with_reducible refine cZ hC ?_; rw[h1])
  |wp_step)
 exact hq
def MU {T:String}{expr:Bool}{Q:Value->Shared->Prop}(FB:Slot T "__getattribute__" "BaseException.__getattribute__")(hB:bm.contains (.type "BaseException")=true)(hC:h.get? C=some (excClassObj nm q C N bs bm true sn sub ab col dd k0 k1 k2 k3 k5 newId))
  (gL:LY (model prog w) h (typeLookup (.ref C) "__getattribute__") (some (.builtin "BaseException.__getattribute__"))) (kL:LY (model prog w) h (typeLookup (.ref C) "__getattr__") none) (tx:LY (model prog w) h (typeLookup (.ref C) name) none)
  (x:i6 h e (.ref C) (some dx) vs) (n:h.Ns dx mA) (hm:mA name=some v) (hv:handedOut v=pure v) (hq:Q v ⟨h,g,d,t + 1,os⟩):wpAny (model prog w) A (getAttr (.ref e) name expr) Q E ⟨h,g,d,t,os⟩:=by
 obtain⟨o,hx,hc,_⟩:=id x;have f3:=FB.bind (.ref e);have x0:(expr && onTheHeap (Value.builtin "BaseException.__getattribute__"))=false:=by cases expr <;> rfl
 have x2:(Value.builtin "BaseException.__getattribute__" == Value.builtin "object.__getattribute__")=false:=by decide +kernel
 have x1:(onTheHeap (Value.ref C) && Value.builtin "BaseException.__getattribute__" == Value.builtin "object.__getattribute__")=false:=by rw[x2]; rfl
 have gL': ∀{tk:Nat} {A':Around} {Q':Option Value->Shared->Prop} {E':Value->Shared->Prop},Q' (some (.builtin "BaseException.__getattribute__")) ⟨h,g,d,tk,os⟩->wpAny (model prog w) A' (typeLookup (.ref C) "__getattribute__") Q' E' ⟨h,g,d,tk,os⟩:=
  fun z=>gL _ _ _ _ (fun _ _ y=>y) z
 have kL': ∀{tk:Nat} {A':Around} {Q':Option Value->Shared->Prop} {E':Value->Shared->Prop},Q' none ⟨h,g,d,tk,os⟩->wpAny (model prog w) A' (typeLookup (.ref C) "__getattr__") Q' E' ⟨h,g,d,tk,os⟩:=fun z=>kL _ _ _ _ (fun _ _ y=>y) z;unfold getAttr
 repeat (any_goals (first
  |assumption
  |(with_reducible refine bE hx ?_; rw[hc])
  |with_reducible refine gL' ?_
  |with_reducible refine kL' ?_
  |wp_step))
 refine GR FB.plain F.entry_bexc_ga (Qa hB hC hx hc (Hv hC tx x n hm ?_))
 repeat (any_goals (first
  |assumption
  |wp_step))
end
section
variable {M:Model}{A:Around}{E:Value->Shared->Prop}
variable {nm q:Str}{C N:Addr}{bs bm:List Value}{o9:Bool}{sn:List Str}{sub:List Value}{ab:Bool}{col:Option Bool}{dd:Option Addr}{k0 k1 k2 k3 k5:Option Value}{newId:String}
variable {nm' q':Str}{R N':Addr}{bs' Yg:List Value}{TY:Bool}{sn':List Str}{Yh:List Value}{ab':Bool}{Yi:Option Bool}{FH:Option Addr}{j0 j1 j2 j3 j5:Option Value}{Qb:String}
def y2 {h:Heap}{g:Array GenState}{d:Drawn}{t:Nat}{os:OsState}{e:Addr}{iR:Option Addr}{vs:Array Value}{b:Bool}{Q:Bool->Shared->Prop}
  (hC:h.get? C=some (excClassObj nm q C N bs bm o9 sn sub ab col dd k0 k1 k2 k3 k5 newId)) (hR:h.get? R=some (excClassObj nm' q' R N' bs' Yg TY sn' Yh ab' Yi FH j0 j1 j2 j3 j5 Qb))
  (x:i6 h e (.ref C) iR vs) (q0:Yg.contains (.type "BaseException")=true) (up:(Value.ref C :: bm).contains (.ref R)=b)
  (hq:Q b ⟨h,g,d,t,os⟩):wpAny M A (excMatches (.ref e) (.ref R)) Q E ⟨h,g,d,t,os⟩:=by
 obtain⟨oe,he,O5,_⟩:=x;have Yj:(Value.ref R :: Yg).contains (.type "BaseException")=true:=by rw[List.contains_cons,q0,Bool.or_true]
 have f:=tc_notTuple;unfold excMatches
 repeat (first|(with_reducible refine cZ hR ?_; rw[Yj])|(with_reducible refine cZ hC ?_; rw[up])|(with_reducible refine bE he ?_; rw[O5])|with_reducible refine bE hR ?_|wp_step)
 cases b <;> (wp_walk; exact hq)
end
end LW
namespace L2
open PySem PySem.Spec PyProof.Rows LW
structure gS (K:Frag)(C R:Addr):Prop where
 obj: ∃(nm q:Str) (N:Addr) (bs bm:List Value) (sn:List Str) (sub:List Value) (ab:Bool) (col:Option Bool) (dd:Option Addr) (k0 k1 k2 k3 k5:Option Value),
  K.lookup C=some (excClassObj nm q C N bs bm true sn sub ab col dd k0 k1 k2 k3 k5 "Exception.__new__")/\
   (bm=[.type "Exception",.type "BaseException",.type "object"]/\C=R∨bm=[.ref R,.type "Exception",.type "BaseException",.type "object"])
 sa:findIn K (.ref C) "__setattr__"=some (some (.builtin "object.__setattr__"))
 ga:findIn K (.ref C) "__getattribute__"=some (some (.builtin "BaseException.__getattribute__"))
 gk:findIn K (.ref C) "__getattr__"=some none
 tx:findIn K (.ref C) "text"=some none
structure Yk (h:Heap)(C R:Addr)(nm q:Str)(N:Addr)(bs bm:List Value)(sn:List Str)(sub:List Value)(ab:Bool)(col:Option Bool)(dd:Option Addr)(k0 k1 k2 k3 k5:Option Value):Prop where
 at_:h.get? C=some (excClassObj nm q C N bs bm true sn sub ab col dd k0 k1 k2 k3 k5 "Exception.__new__")
 e:bm.contains (.type "Exception")=true
 b:bm.contains (.type "BaseException")=true
 o:bm.contains (.type "object")=true
 na:bm.contains (.type "AttributeError")=false
 nn:bm.contains (.type "NameError")=false
 rf: ∀self:Value,refuseLoop self "__setattr__" (.ref C :: bm)=pure ()
 up:(Value.ref C :: bm).contains (.ref R)=true
def gS.on {K:Frag}{C R:Addr}(k:gS K C R): ∃nm q N bs bm sn sub ab col dd k0 k1 k2 k3 k5,∀h:Heap,K.In h->Yk h C R nm q N bs bm sn sub ab col dd k0 k1 k2 k3 k5:=by
 obtain⟨nm,q,N,bs,bm,sn,sub,ab,col,dd,k0,k1,k2,k3,k5,l,hb⟩:=k.obj;have pass: ∀self:Value,refuseLoop self "__setattr__" [.type "Exception",.type "BaseException",.type "object"]=pure ():=F.store_Exception.passes;refine⟨nm,q,N,bs,bm,sn,sub,ab,col,dd,k0,k1,k2,k3,k5,fun h X=>?_⟩;rcases hb with⟨rfl,rfl⟩|rfl
 ·exact⟨X _ _ l,by decide +kernel,by decide +kernel,by decide +kernel,by decide +kernel,by decide +kernel,fun self=>by rw[refuseLoop_ref]; exact pass self,by simp⟩
 ·exact⟨X _ _ l,iE (by decide +kernel),iE (by decide +kernel),iE (by decide +kernel),iE (by decide +kernel),iE (by decide +kernel),fun self=>by rw[refuseLoop_ref,refuseLoop_ref]; exact pass self,by simp⟩
def lQ {K:Frag}{M:Model}{h:Heap}(X:K.In h){t:Value}{name:Str}{r:Option Value}(e:findIn K t name=some r):LY M h (typeLookup t name) r:=PySem.W.looks_findIn X e
abbrev xo (e C:Addr)(iR:Option Addr)(vs:Array Value):HO:= .ext fun h=>i6 h e (.ref C) iR vs
def Ki {P:Program}{w:World}{H:Hp}{h:Heap}{e C:Addr}{iR:Option Addr}{vs:Array Value}(x:i6 h e (.ref C) iR vs):dG P w H h e (xo e C iR vs):=by
 refine⟨x,?_,fun h1 h2 z k=>i6.same z k⟩;obtain⟨o,z,_⟩:=x;exact⟨o,z⟩
abbrev v0 (t:Addr):Array Value:= #[.ref t,.none,.none,.none,.bool false,.none]
section
variable {X:Cx}{pins:List (Addr×Obj)}{σ:St}{H:Hp}{s:Shared}{e C R dx:Addr}{iR:Option Addr}{vs Yl:Array Value}{h':Heap}{t':Nat}
def Inv.Ew (I:Inv X pins σ H s)(h:H e=some (xo e C iR vs)):i6 s.heap e (.ref C) iR vs:=(I.b9 e _ h).1
def Inv.Qc (I:Inv X pins σ H s)(h:H e=some (xo e C iR vs))(b:nR [] [e] s.heap h')(x:i6 h' e (.ref C) iR Yl):Inv X pins σ (upd H e (xo e C iR Yl)) {s with heap:=h',toks:=t'}:=by
 refine I.write (x:=e) (e:=e) (by rw[h]; exact True.intro) (.inl rfl) (fun c u n z=>(b c u z (by simpa using n)).1 (by simp)) ?_ (Ki x);obtain⟨o,z,_⟩:=x;exact⟨o,z⟩
def Inv.MV {f:Str}{y:V}{u:Value}(I:Inv X pins σ H s)(h:H e=some (xo e C none vs))(b:nR [] [e] s.heap h')(x:i6 h' e (.ref C) (some s.heap.objs.size) vs)(n:h'.Ns1 s.heap.objs.size (fun z=>if z=f then some u else none))(r:RelV y u):
  Inv X pins σ (upd (upd H s.heap.objs.size (.xd [(f,y)])) e (xo e C (some s.heap.objs.size) vs)) {s with heap:=h',toks:=t'}:=by
 have hn:H s.heap.objs.size=none:=I.b9.fresh (aD _);have ne:e≠s.heap.objs.size:=aI h hn;have off: ∀c u,H c=some u->c≠s.heap.objs.size:=fun c u z=>aI z hn;have kp: ∀c o,c≠e->s.heap.get? c=some o->h'.get? c=some o:=fun c o n z=>(b c o z (by simpa using n)).1 (by simp);have low: ∀c o,s.heap.get? c=some o->c≠s.heap.objs.size:=fun c o z=>a7 (aN z);have same: ∀c,c≠e->c≠s.heap.objs.size->upd (upd H s.heap.objs.size (.xd [(f,y)])) e (xo e C (some s.heap.objs.size) vs) c=H c:=fun c n1 n2=>by rw[aB n1,aB n2]
 refine I.un ⟨fun c o z hc _ _=>kp c o (fun w=>by rw[w,h] at hc; cases hc) z,fun c o z hc _ _=>⟨o.slots,kp c o (fun w=>by rw[w,h] at hc; cases hc) z⟩,fun c o z hc _=>?_,fun c o z _=>?_,fun c xs z=>?_,fun c o u z=>?_,fun c ps z=>?_⟩ fun c u z=>?_
 ·rw[same c (fun w=>by rw[w,h] at hc; cases hc) (low c o z)];exact hc
 ·by_cases q:c=e
  ·rw[q];obtain⟨oe,w,_⟩:=x;exact⟨oe,w⟩
  ·exact⟨o,kp c o q z⟩
 ·rw[same c (fun w=>by rw[w,h] at z; cases z) (off c _ z)];exact z
 ·rw[same c (fun w=>by rw[w,h] at z; cases z) (off c _ z)];exact z
 ·refine⟨#[],?_⟩;rw[same c (fun w=>by rw[w,h] at z; cases z) (off c _ z),z];simp
 ·by_cases q:c=e
  ·subst q;rw[af] at z;cases z;exact Ki x
  ·rw[aB q] at z;by_cases q2:c=s.heap.objs.size
   ·subst q2;rw[af] at z;cases z;refine⟨_,n,fun g=>?_⟩;show kM (List.lookup g [(f,y)]) (if g=f then some u else none);by_cases w:g=f
    ·subst w;rw[a0 rfl];simpa[List.lookup,kM] using r
    ·rw[aQ w];have:(g == f)=false:=by simpa using w
     simp[List.lookup,this,kM]
   ·rw[aB q2] at z;refine(I.b9 c u z).uI (fun d o hd w=>?_) (fun d w=>?_) fun d xs w=>?_
    ·refine kp d o (fun w2=>?_) w;rcases hd with hd|hd
     ·exact q (hd▸w2)
     ·rw[w2,h] at hd;cases hd
    ·rw[same d (fun w2=>by rw[w2,h] at w; cases w) (off d _ w)];exact w
    ·rw[same d (fun w2=>by rw[w2,h] at w; cases w) (off d _ w)];exact w
def gone (H:Hp)(a:Addr):Hp:=fun b=>if b=a then none else H b
def y3 {a:Addr}:gone H a a=none:=by unfold gone; rw[if_pos rfl]
def iF {a b:Addr}(h:b≠a):gone H a b=H b:=by unfold gone; rw[if_neg h]
def Inv.drop {H0:Hp}{s0:Shared}{φ:Heap->Prop}(I0:Inv X pins σ H0 s0)(h0:H0 e=none)(I:Inv X pins σ H s)(h:H e=some (.ext φ)):Inv X pins σ (gone H e) s:=by
 have off: ∀c u,H c=some u->u≠ .ext φ->c≠e:=fun c u z n w=>by
  rw[w,h] at z;cases z;exact n rfl
 refine⟨I.ok,I.os,I.bare,⟨I.base.keep,I.base.slot,fun c o z hc hx=>?_,I.base.there,fun c xs z=>?_,fun c o u z=>?_,fun c ps z=>?_⟩,I.loc,I.cell,?_,fun x c z=>?_,fun p hp=>?_,fun c u z=>?_,I.len⟩
 ·have w:=I.base.free c o z hc hx;rw[iF (fun q=>by rw[q,h] at w; cases w)];exact w
 ·rw[iF (aI (I0.base.qR c xs z) h0)];exact I.base.qR c xs z
 ·rw[iF (aI (I0.base.pY c o u z) h0)];exact I.base.pY c o u z
 ·obtain⟨m,w⟩:=I0.base.pZ c ps z;obtain⟨m',w'⟩:=I.base.pZ c ps z;exact⟨m',by rw[iF (aI w h0)]; exact w'⟩
 ·rw[iF (fun q=>by have w:=I.free; rw[q,h] at w; cases w)];exact I.free
 ·have w:=I.iS x c z;rw[iF (fun q=>by rw[q,h] at w; cases w)];exact w
 ·obtain⟨w1,w2,w3⟩:=I.pin p hp;refine⟨w1,?_,w3⟩;rw[iF (fun q=>by rw[q,h] at w2; cases w2)];exact w2
 ·by_cases q:c=e
  ·rw[q,y3] at z;cases z
  ·rw[iF q] at z;refine(I.b9 c u z).uI (fun d o _ w=>w) (fun d w=>?_) fun d xs w=>?_
   ·rw[iF (off d _ w (by intro z; cases z))];exact w
   ·rw[iF (off d _ w (by intro z; cases z))];exact w
end
structure ij (k:Nat)(A:Around):Prop where
 dp:A.depth + 3 * k + 5 < recursionLimit
 un:A.units + 16 * k + 200 < cLine
def eY.h {k:Nat}{A:Around}(r:eY k A):ij k A:=⟨r.dp,r.un⟩
def ij.mono {j k:Nat}{A:Around}(r:ij k A)(h:j<=k):ij j A:=⟨by have:=r.dp; lia,by have:=r.un; lia⟩
def ij.deeper {k:Nat}{A:Around}(r:ij (k + 1) A)(env:Env):ij k (A.deeper env):=
 ⟨by have:=r.dp; show A.depth + 1 + 3 * k + 5 < _; lia,by have:=r.un; show A.units + 3 + 16 * k + 200 < _; lia⟩
def ij.make {k:Nat}{A:Around}(r:ij (k + 1) A)(C:Addr)(us:List Value)(kw:List (Str×Value)):ij k (A.under (.builtin "type.__call__" ⟨.ref C :: us,kw⟩)):=
 ⟨by have:=r.dp; rw[vy]; lia,by have:=r.un; rw[vz]; lia⟩
def ij.mark {k:Nat}{A:Around}(r:ij k A)(e:Option Value):ij k (A.mark e):=⟨r.dp,r.un⟩
structure TZ (P:Program)(w:World)(K:Frag)(mg:Str->Option Value)(base:Heap)(k:Nat)(f:Addr)(fd:FuncData)(ps:List Str)(sp:Sp):Prop where
 len: ∀vs H Q E,sp vs H Q E->vs.length=ps.length
 run: ∀(A:Around) (outer:List Env) (s:Shared) (H:Hp) (args:Args) (us:List Value) (vs:List V) (Q:VK) (E:XK),ij k A->qW P w K mg base A outer s H->BindsTo s fd args (ps.zip us)->Vals vs us->sp vs H Q E->
  codeAny (model P w) A (.call (.ref f) args) (CR sU outer P w H s Q E) s
abbrev wb (P:Program)(w:World)(K:Frag)(mg:Str->Option Value)(base:Heap)(N:List Str)(qual:Str)(scope:Scope)(f:Addr)(cd:Value)(A:Around)(outer:List Env)(s:Shared)(H:Hp)(E:XK):Cx:=
 {lq sU P w K mg base N qual scope f cd A outer s H E with calm:=false}
def wc {P:Program}{w:World}{K:Frag}{mg:Str->Option Value}{base:Heap}{N ps:List Str}{qual:Str}{scope:Scope}{f:Addr}{cd:Value}{A:Around}{outer:List Env}{s s1:Shared}{H:Hp}{E:XK}{us:List Value}{vs:List V}
  (S:aV N ps scope) (e0:qW P w K mg base A outer s H) (hl:vs.length=ps.length) (r:Vals vs us)
  (x:InCallC s s.heap.objs.size (bindL (envOfC qual scope s.heap.objs.size f cd).kindOf (ps.zip us) fun _=>none) (cellsFrom (s.heap.objs.size + 1) scope.names []) (bindC (envOfC qual scope s.heap.objs.size f cd).kindOf (ps.zip us) fun _=>none) s1):
  Inv (wb P w K mg base N qual scope f cd A outer s H E) [] (start N vs) H s1:=by
 have I:=yQ (CX:=sU) (E:=E) (A:={A with handled:=none}) (K:=K) (base:=base) (P:=P) (w:=w) (mg:=mg) (N:=N) S rfl ⟨e0.frames,e0.mod,e0.bs,e0.BO,e0.md,e0.Fo,e0.b9,e0.bare⟩ hl r x;have ok:=I.ok;exact⟨⟨ok.mod,ok.kind,ok.glob,ok.blt,ok.above,ok.inj,ok.has,ok.LP,(fun z=>by cases z),Around.frames_deeper e0.frames,ok.Ja,ok.Mg,ok.bs,ok.BO,ok.xD,ok.xE,ok.md,ok.Fo⟩,I.os,I.bare,I.base,I.loc,I.cell,I.free,I.iS,I.pin,I.b9,I.len⟩
def mD {P:Program}{w:World}{K:Frag}{mg:Str->Option Value}{base:Heap}{k:Nat}{f:Addr}{x qual:Str}{st:Stmt}{fd:FuncData}{N ps:List Str}{sp:Sp}(F:gu K x qual st f fd)(S:aV N ps (aA st))
  (len: ∀vs H Q E,sp vs H Q E->vs.length=ps.length)
  (fW: ∀(cV:Value) (A:Around) (outer:List Env) (s:Shared) (H:Hp) (vs:List V) (Q:VK) (E:XK),ij k (A.deeper (envOfC qual (aA st) s.heap.objs.size f cV))->sp vs H Q E->
   ∃t,pC (wb P w K mg base N qual (aA st) f cV A outer s H E).D4 (dH st) t/\t {nx:=fun _ H'=>Q .en H',rt:=Q} (start N vs) H):TZ P w K mg base (k + 1) f fd ps sp:=by
 obtain⟨oc,od,kV,doc,pm,an,cV,ct,G5,rfl,lk,sD⟩:=F.ex;refine⟨len,fun A outer s H args us vs Q E hr e0 hb r xG=>?_⟩;have hl:=len _ _ _ _ xG;have KX:K.In s.heap:=e0.mod.Mf.keeps fun b o e=>(e0.bs b o e).1;have lim:s.heap.NoLimit:=e0.mod.nolimit.keeps fun b o e=>(e0.bs b o e).1;have nH: ∀y∈ps.zip us,(aA st).names.lookup y.1=some .local∨((aA st).names.lookup y.1=some .cell/\((cellsFrom (s.heap.objs.size + 1) (aA st).names []).lookup y.1).isSome=true):=fun⟨n,v⟩ hy=>by
  rcases S.par n (oZ hy).1 with q|q
  ·exact .inl q
  ·exact .inr ⟨q,lG _ _ _ (.inl q)⟩
 have dp:A.depth < recursionLimit:=by have:=hr.dp; lia
 refine codeAny_call_function dp (KX _ _ lk) rfl S.co S.gen rfl (PySem.W.codeRec_of KX sD) (hb _ _ _ _ ?_);refine uF S.kind nH fun env he s1 y=>?_;subst he;refine⟨lim.keeps y.toInCall.keep,codeAny_func ?_⟩;obtain⟨t,ht,hq⟩:=fW cV A outer s H vs Q E (hr.deeper _) xG;have I:Inv (wb P w K mg base N qual (aA st) f cV A outer s H E) [] (start N vs) H s1:=wc S e0 hl r y;refine cm (ht.D4 [] s1 (start N vs) H _ I hq) (fun fl s' hs=>?_) fun e s' hs=>hs;have fin: ∀{σ':St} {H':Hp} {v:V} {u:Value},Inv (wb P w K mg base N qual (aA st) f cV A outer s H E) [] σ' H' s'->RelV v u->Q v H'->CE outer P w H s Q u s':=
  fun{σ' H' v u} J rv q=>⟨v,H',J.os,J.bare,J.base,J.b9,rv,q⟩
 cases fl with
 |ret u=>
  obtain⟨v,σ',H',J,rv,q⟩:=hs;exact fin J rv q
 |next=>
  obtain⟨σ',H',J,q⟩:=hs;exact fin (v:=V.en) (u:=Value.none) J rfl q
 |brk=>
  obtain⟨_,_,_,q⟩:=hs;exact False.elim q
 |cont=>
  obtain⟨_,_,_,q⟩:=hs;exact False.elim q
section
variable {X:Cx}{k:Nat}{f C R:Addr}{fd:FuncData}{ps:List Str}{sp:Sp}{x:Str}{p pos apos pos':Pos}{a b o value e:Expr}{es:List Expr}{ta tb tv:TE}{t:TA}
def FW {A:Around}{xe:Value->Shared->Prop}{pins:List (Addr×Obj)}{σ:St}{H:Hp}{s:Shared}{Q:VK}{us:List Value}{vs:List V}(F:TZ X.prog X.w X.K X.mg X.base k f fd ps sp)(hr:ij k A)(e0:qW X.prog X.w X.K X.mg X.base A X.stack s H)(hb:Binds X.K fd ps [])
  (I:Inv X pins σ H s) (r:Vals vs us) (h:sp vs H Q E0):wpAny (model X.prog X.w) A (call (.ref f) us) (EP X pins σ Q) xe s:=by
 have hl:(us ++ []).length=ps.length:=by rw[bS,← r.length]; exact F.len _ _ _ _ h
 have bd:=hb s us I.gJ hl;rw[bS] at bd;refine Fm (DX (F.run A X.stack s H ⟨us,[]⟩ us vs Q E0 hr e0 bd r h) fun r s' hq=>?_);cases r with
 |error e=>exact False.elim hq
 |ok fl=>
  cases fl with
  |ret u=>exact I.after hq
  |next=>exact False.elim hq
  |brk=>exact False.elim hq
  |cont=>exact False.elim hq
def Qd (K:Frag)(t:TA):TE:=fun σ H Q=>t σ H fun xs H2=> ∃(e C R t0:Addr) (iR:Option Addr) (vs:Array Value) (y:V),xs=[.ref e,y]/\H2 e=some (xo e C iR vs)/\gS K C R/\vs[0]? =some (.ref t0)/\ ∀t',Q .en (upd H2 e (xo e C iR (vs.setIfInBounds 0 (.ref t'))))
def Kj {pl:Sem Bool}(hg:Gl X "Exception")(hm:X.mg "Exception"=none)(ha:PA X (e :: es) t)
  (hs:starEach (e :: es) X.env=(false,eval e X.env) :: starEach es X.env:=by rfl) (gQ:(backTo pos (starEach es X.env)).any (·.1)=false:=by rfl)
  (ht:eval (.Call (.Attribute (.Name "Exception" p) "__init__" apos) (e :: es) [] pos) X.env=(do
   let ov ← eval (.Name "Exception" p) X.env
   standAt apos.atName
   let(f,first) ← holding [ov] (getMethod ov "__init__" pl)
   callWith pos f first (backTo pos (starEach (e :: es) X.env)) (backToKw pos (keywordEach [] X.env))):=by rfl):
  PE X (.Call (.Attribute (.Name "Exception" p) "__init__" apos) (e :: es) [] pos) (Qd X.K t):=by
 intro pins s σ H Q I h;obtain⟨m,F⟩:=I.fr;refine xv (pl:=pl) (qf I hg hm (u:= .type "Exception") (by rfl) ?_) ht;refine PySem.W.method_type (v:= .builtin "Exception.__init__") F I.mod.Mf (by rfl) (by decide +kernel) (by rfl) (by rfl) ?_;have hA:=ha pos pins {s with toks:=s.toks + 1} σ H _ (I.tok _) h;rw[hs] at hA ⊢;refine gi (by show(false || (backTo pos (starEach es X.env)).any (·.1))=false; rw[gQ] <;> rfl) (qJ ?_);refine dS hA fun us s2 ⟨vs,H2,I2,r2,e,C,R,t0,iR,ws,y,e1,e2,k,e3,q⟩=>?_;subst e1;obtain⟨u1,u2,rfl,ru,_⟩:=vals2 r2;obtain rfl:u1=Value.ref e:=ru;obtain⟨nm,qn,N,bs,bm,sn,sub,ab,col,dd,k0,k1,k2,k3,k5,c⟩:=k.on;have c:=c _ I2.gJ;obtain⟨hp,g,d,tk,os⟩:=s2;exact Ht OY c.e c.at_ (I2.Ew e2) e3 fun h' b x'=>⟨.en,_,I2.Qc (t':=tk) e2 b x',rfl,q _⟩
def T1 (K:Frag)(ta tv:TE):TS:=fun D σ H=>tv σ H fun y H1=>ta σ H1 fun x H2=> ∃(e C R:Addr) (vs:Array Value),x= .ref e/\H2 e=some (xo e C none vs)/\gS K C R/\
 ∀dx,H2 dx=none->D.nx σ (upd (upd H2 dx (.xd [("text",y)])) e (xo e C (some dx) vs))
def MW (ha:PE X o ta)(hv:PE X value tv)(hs:swapsWith value (some (.Attribute o "text" pos')) pos.line X.env=pure false):PS X (.Assign [.Attribute o "text" pos'] value pos) (T1 X.K ta tv):=by
 intro pins s σ H D I h;refine OT (dS (hv pins s σ H _ I h) fun u s1 ⟨y,H1,I1,ry,q⟩=>dS (ha pins s1 σ H1 _ I1 q) fun ov s2 ⟨x,H2,I2,rx,e,C,R,vs,e1,e2,k,q2⟩=>?_) hs;subst e1;obtain rfl:ov=Value.ref e:=rx;obtain⟨nm,qn,N,bs,bm,sn,sub,ab,col,dd,k0,k1,k2,k3,k5,c⟩:=k.on;have c:=c _ I2.gJ;have hn:=I2.b9.fresh (aD s2.heap.objs.size);obtain⟨hp,g,d,tk,os⟩:=s2;refine MT PySem.F.store_Exception c.o c.at_ c.rf (lQ I2.gJ k.sa) (lQ I2.gJ k.tx) (I2.Ew e2) fun h' P8 b x' n=>?_;exact⟨σ,_,I2.MV (t':=P8) e2 b x' n ry,q2 _ hn⟩
structure FX (K:Frag)(R f:Addr):Prop where
 rd:readsIn K R (.type "type")=true
 sp:specialIn K (.ref R) "__getattribute__"=some (some (.builtin "type.__getattribute__"))
 fd:findCls K (.ref R) (.type "type") "__init__"=some (.val (.ref f))
 kp:keepIn K (.ref f)=true
def ji {pl:Sem Bool}(i:FX X.K R f)(F:TZ X.prog X.w X.K X.mg X.base k f fd ps sp)(hr:ij k X.A)(hb:Binds X.K fd ps [])(hg:Gl X x)(hm:X.mg x=some (.ref R))(ha:PA X (e :: es) t)(qX:(x == ("__debug__":Str))=false:=by decide)
  (hs:starEach (e :: es) X.env=(false,eval e X.env) :: starEach es X.env:=by rfl) (gQ:(backTo pos (starEach es X.env)).any (·.1)=false:=by rfl)
  (ht:eval (.Call (.Attribute (.Name x p) "__init__" apos) (e :: es) [] pos) X.env=(do
   let ov ← eval (.Name x p) X.env
   standAt apos.atName
   let(f,first) ← holding [ov] (getMethod ov "__init__" pl)
   callWith pos f first (backTo pos (starEach (e :: es) X.env)) (backToKw pos (keywordEach [] X.env))):=by rfl):
  PE X (.Call (.Attribute (.Name x p) "__init__" apos) (e :: es) [] pos) (vA sp [] E0 t):=by
 intro pins s σ H Q I h;refine xv (pl:=pl) (jF I hg hm ?_ qX) ht;refine PySem.W.method_cls I.gJ i.sp (PySem.W.cls_value I.gJ i.rd i.fd rfl ?_);refine kI (h₀:=X.base) I.ok.mod.Mf i.kp (dS (ha pos pins _ σ H _ (I.tok _) h) fun us s1 ⟨vs,H1,I1,r,q⟩=>⟨I1.gJ,?_⟩) hs gQ;have q2:sp (vs ++ []) H1 Q E0:=q;rw[bS] at q2;exact FW F hr I1.JE hb I1 r q2
end
def Fly (mg:Str->Option Value)(n0:Nat)(H:Hp)(h:Heap)(a C dx:Addr):Prop:=
 ∃(vs:Array Value) (T:Addr),i6 h a (.ref C) (some dx) vs/\vs[1]? =some (.ref T)/\LX h T .none/\T≠a/\n0<=a/\n0<=T/\H a=none/\H T=none/\(vs[2]? =some .none∨mg "Needed"=some (.ref C))
def nj (P:Program)(w:World)(mg:Str->Option Value):Fx:=fun outer H s E e s'=>
 ∃(a C dx:Addr) (H':Hp),e= .ref a/\s'.os=s.os/\AllBare s'.gens/\Un (DZ outer) [] H H' s.heap s'.heap/\o6 P w H' s'.heap/\Fly mg s.heap.objs.size H' s'.heap a C dx/\E (.ref C) (some dx) H'
def FY {fs fr own:List Addr}{H H2:Hp}{h h2 h3:Heap}(u:Un fs [] H H2 h h2)(b:nR fr own h2 h3)(ho: ∀c∈own,h.objs.size<=c)(hf: ∀c∈fr,c∈fs∨h.objs.size<=c):Un fs [] H H2 h h3 where
 keep:=fun c o z n hc hx=>(b c o (u.keep c o z n hc hx) (fun w=>absurd (aN z) (yI.mpr (ho c w)))).1 (fun w=>(hf c w).elim hc (fun q=>absurd (aN z) (yI.mpr q)))
 slot:=fun c o z n hc hx=>by
  obtain⟨sl,e⟩:=u.slot c o z n hc hx;obtain⟨_,Wc,e2⟩:=b c _ e (fun w=>absurd (aN z) (yI.mpr (ho c w)));exact⟨Wc,e2⟩
 free:=u.free
 there:=fun c o z hx=>by
  obtain⟨o',e⟩:=u.there c o z hx;obtain⟨_,Wc,e2⟩:=b c _ e (fun w=>absurd (aN z) (yI.mpr (ho c w)));exact⟨_,e2⟩
 qR:=u.qR
 pY:=u.pY
 pZ:=u.pZ
def Ac {P:Program}{w:World}{fr own:List Addr}{H:Hp}{h h':Heap}(k:o6 P w H h)(b:nR fr own h h')(hf: ∀c∈fr,H c=none)(ho: ∀c∈own,H c=none):o6 P w H h':=fun c u z=>by
 refine(k c u z).uI (fun d o hd w=>?_) (fun _ q=>q) fun _ _ q=>q;have t: ∃u',H d=some u':=hd.elim (fun q=>⟨u,by rw[q]; exact z⟩) (fun q=>⟨_,q⟩);obtain⟨u',y⟩:=t;exact(b d o w (fun q=>by rw[ho d q] at y; cases y)).1 (fun q=>by rw[hf d q] at y; cases y)
section
variable {X:Cx}{pins:List (Addr×Obj)}{σ:St}{H:Hp}{s:Shared}{h':Heap}{own:List Addr}
def Inv.ka {c:Addr}(I:Inv X pins σ H s)(h:s.heap.objs.size<=c):(c∈X.ex∨X.s₀.heap.objs.size<=c)/\c≠X.env.locals/\(∀x k,X.env.cells.lookup x=some k->k≠c)/\ ∀p∈X.pn ++ pins,p.1≠c:=by
 refine⟨.inr (aR I.sz h),(a7 (bo I.lt h)).symm,fun x k z=>?_,fun p hp=>?_⟩
 ·obtain⟨v,w⟩:=I.cell x k z;exact a7 (bo w.lt h)
 ·exact a7 (bo (aN (I.pin p hp).1) h)
def Inv.but (I:Inv X pins σ H s)(b:nR (DZ X.stack) own s.heap h')
  (ho: ∀c∈own,H c=none/\(c∈X.ex∨X.s₀.heap.objs.size<=c)/\c≠X.env.locals/\(∀x k,X.env.cells.lookup x=some k->k≠c)/\ ∀p∈X.pn ++ pins,p.1≠c):Inv X pins σ H {s with heap:=h'}:=by
 refine I.Fp (s':={s with heap:=h'}) (ch:=own) rfl ⟨fun c o z n hc hx=>(b c o z hx).1 hc,fun c o z n hc hx=>(b c o z hx).2,fun c o z n hx=>n,fun c o z hx=>?_,fun _ _ z=>z,fun _ _ _ z=>z,fun c ps z=>⟨#[],by rw[z]; simp⟩⟩ ?_ I.bare fun c hc=>(ho c hc).2
 ·obtain⟨_,sl,e⟩:=b c o z hx;exact⟨_,e⟩
 ·exact Ac I.b9 b I.qS fun c hc=>(ho c hc).1
end
structure RT (X:Cx)(E:XK):Prop where
 pass:Passes (nj X.prog X.w X.mg) X E
 mQ: ∀{pins:List (Addr×Obj)} {σ:St} {H:Hp} {s:Shared} {a C dx:Addr} {vs:Array Value},Inv X pins σ H s->i6 s.heap a (.ref C) (some dx) vs->vs[1]? =some .none->(vs[2]? =some .none∨X.mg "Needed"=some (.ref C))->
  X.s₀.heap.objs.size<=a->H a=none->E (.ref C) (some dx) H->X.xe (.ref a) s
 own:PassesOwn (model X.prog X.w) X.A X.env X.xe
 ownAt: ∀hd:Option Value,PassesOwnAt (model X.prog X.w) (X.A.mark hd) X.A X.env X.xe
 Ja:X.stack=X.env :: X.outer
 frm:X.env.frame=some X.env.locals
section
variable {P:Program}{w:World}{K:Frag}{mg:Str->Option Value}{base:Heap}{N:List Str}{qual:Str}{scope:Scope}{f:Addr}{cd:Value}{A:Around}{outer:List Env}{s:Shared}{H:Hp}{E:XK}
def T2:Passes (nj P w mg) (lq (nj P w mg) P w K mg base N qual scope f cd A outer s H E) E:=by
 rintro pins σ H1 s1 e s2 I ⟨a,C,dx,H2,rfl,ho,hg,u,b9,⟨vs,T,x,h1,ft,ne,na,nT,Ha,HT,h2⟩,q⟩;have I2:=I.Fp (ch:=[]) ho u b9 hg (fun b z=>absurd z (by simp));have sz:s.heap.objs.size<=s1.heap.objs.size:=I.sz;have RU:a < s2.heap.objs.size:=by
  obtain⟨o,z,_⟩:=x;exact aN z
 show wpAny _ _ (leaving (envOfC qual scope s.heap.objs.size f cd) (.ref a)) _ _ s2;refine P7 (base:=base) (outer:=outer) (L:=s.heap.objs.size) I.ok.frames I2.stack rfl x h1 ft ne fun h3 T' b x' hT t'=>?_;have RV:T'≠a:=by
  rw[hT];exact(a7 RU).symm
 refine⟨a,C,dx,H2,rfl,I2.os,I2.bare,FY I2.base b ?_ ?_,Ac b9 b I2.qS ?_,⟨_,T',x',qu (fh h1),t',RV,aR sz na,?_,Ha,I2.b9.fresh (iM hT.symm),?_⟩,q⟩
 ·intro c hc;rcases aw.mp hc with rfl|hc
  ·exact aR sz nT
  ·rw[au.mp hc];exact aR sz na
 ·intro c hc;rcases aw.mp (I2.vq c hc) with hc|hc
  ·rw[hc];exact .inr (aD _)
  ·exact .inl hc
 ·intro c hc;rcases aw.mp hc with rfl|hc
  ·exact HT
  ·rw[au.mp hc];exact Ha
 ·rw[hT];exact I2.sz
 ·rw[rA (by decide)];exact h2
def Qe:RT (lq (nj P w mg) P w K mg base N qual scope f cd A outer s H E) E where
 pass:=T2
 mQ:=by
  intro pins σ H1 s1 a C dx vs I x h1 h2 na Ha q;have RU:a < s1.heap.objs.size:=by
   obtain⟨o,z,_⟩:=x;exact aN z
  show wpAny _ _ (leaving (envOfC qual scope s.heap.objs.size f cd) (.ref a)) _ _ s1;refine P6 (base:=base) (outer:=outer) (L:=s.heap.objs.size) I.ok.frames I.stack rfl x h1 fun h3 T' b x' hT t'=>?_;have RV:T'≠a:=by
   rw[hT];exact(a7 RU).symm
  refine⟨a,C,dx,H1,rfl,I.os,I.bare,FY I.base b ?_ ?_,Ac I.b9 b I.qS ?_,⟨_,T',x',qu (fh h1),t',RV,na,?_,Ha,I.b9.fresh (iM hT.symm),?_⟩,q⟩
  ·intro c hc;rw[au.mp hc];exact na
  ·intro c hc;rcases aw.mp (I.vq c hc) with hc|hc
   ·rw[hc];exact .inr (aD _)
   ·exact .inl hc
  ·intro c hc;rw[au.mp hc];exact Ha
  ·rw[hT];exact I.sz
  ·rw[rA (by decide)];exact h2
 own:=PassesOwn.leaving
 ownAt:=fun _=>PassesOwnAt.leaving
 Ja:=rfl
 frm:=rfl
def gu.okX {x qual:Str}{st:Stmt}{f:Addr}{fd:FuncData}{N ps:List Str}{k:Nat}{sp:Sp}(F:gu K x qual st f fd)(S:aV N ps (aA st))(len: ∀vs H Q E,sp vs H Q E->vs.length=ps.length)
  (fW: ∀(cV:Value) (A:Around) (outer:List Env) (s:Shared) (H:Hp) (vs:List V) (Q:VK) (E:XK),eY k (A.deeper (envOfC qual (aA st) s.heap.objs.size f cV))->RT (lq (nj P w mg) P w K mg base N qual (aA st) f cV A outer s H E) E->sp vs H Q E->
   ∃t,pC (lq (nj P w mg) P w K mg base N qual (aA st) f cV A outer s H E) (dH st) t/\t {nx:=fun _ H'=>Q .en H',rt:=Q} (start N vs) H):mf P w K mg base (nj P w mg) (k + 1) f fd ps sp:=by
 obtain⟨oc,od,kV,doc,pm,an,cV,ct,G5,rfl,lk,sD⟩:=F.ex;exact JH lk sD S len fun A outer s H vs Q E hr xG=>fW cV A outer s H vs Q E hr Qe xG
end
def Qf (K:Frag)(txt:Str):Sp:=fun vs H Q _=> ∃(e C R t0:Addr),vs=[.ref e]/\H e=some (xo e C none (v0 t0))/\gS K C R/\ ∀dx t',H dx=none->Q .en (upd (upd H dx (.xd [("text",.str txt)])) e (xo e C (some dx) (v0 t')))
def Qg (E:XK)(C:Addr)(txt:Str):TS:=fun _ _ H=> ∀dx,H dx=none->E (.ref C) (some dx) (upd H dx (.xd [("text",.str txt)]))
structure Kk (P:Program)(w:World)(K:Frag)(mg:Str->Option Value)(base:Heap)(k:Nat)(x:Str)(C R:Addr)(txt:Str):Prop where
 mgC:mg x=some (.ref C)
 ek:gS K C R
 kp:keepIn K (.ref C)=true
 init: ∃(f:Addr) (fd:FuncData),findIn K (.ref C) "__init__"=some (some (.ref f))/\typeIn K (.ref f)=some (.type "function")/\TZ P w K mg base k f fd ["self"] (Qf K txt)/\Binds K fd ["self"] []
section
variable {X:Cx}{k:Nat}{C R:Addr}{x txt:Str}{p pos fJ:Pos}{E:XK}
def Kl (M:Kk X.prog X.w X.K X.mg X.base k x C R txt)(hr:ij (k + 1) X.A)(hg:Gl X x)(qX:(x == ("__debug__":Str))=false){pins:List (Addr×Obj)}{σ:St}{H:Hp}{s:Shared}{Q:Value->Shared->Prop}{xe:Value->Shared->Prop}(I:Inv X pins σ H s)
  (q: ∀(s2:Shared) (e dx t':Addr),s.heap.objs.size<=e->H dx=none->H e=none->dx≠e->Inv X pins σ (upd H dx (.xd [("text",.str txt)])) s2->i6 s2.heap e (.ref C) (some dx) (v0 t')->Q (.ref e) s2):
  wpAny (model X.prog X.w) X.A (eval (.Call (.Name x p) [] [] fJ) X.env) Q xe s:=by
 obtain⟨f,fd,hi,hf,F,hb⟩:=M.init;refine eK (jF I hg M.mgC ?_ qX);refine BI I.gJ M.kp ?_;obtain⟨nm,qn,N,bs,bm,sn,sub,ab,col,dd,k0,k1,k2,k3,k5,c⟩:=M.ek.on;have c:=c _ I.gJ;have hz:=I.b9.fresh (cK s.heap.objs.size);have I1:=I.kept (t':=s.toks) (h':=s.heap.push (jt [])) (fun b u z=>az _ z);have ex:i6 ((s.heap.push (jt [])).push (mC C s.heap.objs.size)) (s.heap.objs.size + 1) (.ref C) none (v0 s.heap.objs.size):=⟨mC C s.heap.objs.size,by heap_get,rfl,rfl,rfl⟩;have I2:=I1.laid (a:=s.heap.objs.size + 1) (o:=xo (s.heap.objs.size + 1) C none (v0 s.heap.objs.size)) (t':=s.toks) (h':=(s.heap.push (jt [])).push (mC C s.heap.objs.size)) (fun b u z=>az _ z) (iM (oO _ _)) (Ki ex);have V4:=PySem.W.looks_typeIn (M:=model X.prog X.w) I.gJ hf;have Qh: ∃oI,s.heap.get? f=some oI/\oI.cls= .type "function":=by
  have z:=hf;unfold typeIn at z;dsimp only at z;cases w:X.K.lookup f with
  |none=>rw[w] at z; cases z
  |some o=>
   rw[w] at z;exact⟨o,I.gJ _ _ w,aF z⟩
 obtain⟨oI,Qh,TR⟩:=Qh;have e0:=I2.JE.make C [] [];obtain⟨hp,g,d,tk,os⟩:=s;refine call_exc OY c.e c.na c.nn c.at_ (lQ I.gJ hi) Qh TR ?_;refine dS (FW (X:=X) F (hr.make C [] []) e0 hb I2 (us:=[.ref (hp.objs.size + 1)]) (vs:=[.ref (hp.objs.size + 1)]) (Q:=fun v H'=>v= .en/\ ∃dx t',H dx=none/\dx≠hp.objs.size + 1/\H'=upd (upd (upd H (hp.objs.size + 1) (xo (hp.objs.size + 1) C none (v0 hp.objs.size))) dx (.xd [("text",.str txt)])) (hp.objs.size + 1) (xo (hp.objs.size + 1) C (some dx) (v0 t'))) (.cons rfl .nil) ?_) fun u s2 h2=>?_
 ·refine⟨_,C,R,_,rfl,af,M.ek,fun dx t' DN=>⟨rfl,dx,t',?_⟩⟩;have ne:dx≠hp.objs.size + 1:=fun z=>by
   rw[z,af] at DN;cases DN
  rw[aB ne] at DN;exact⟨DN,ne,rfl⟩
 ·obtain⟨v,H',I3,rv,rfl,dx,t',DN,ne,rfl⟩:=h2;refine⟨rv,?_⟩;have I4:=Inv.drop I hz I3 af;have eH:gone (upd (upd (upd H (hp.objs.size + 1) (xo (hp.objs.size + 1) C none (v0 hp.objs.size))) dx (.xd [("text",.str txt)])) (hp.objs.size + 1) (xo (hp.objs.size + 1) C (some dx) (v0 t'))) (hp.objs.size + 1)=upd H dx (.xd [("text",.str txt)]):=by
   funext b
   by_cases h1:b=hp.objs.size + 1
   ·rw[h1,y3,aB ne.symm,hz]
   ·rw[iF h1,aB h1];by_cases h2:b=dx
    ·rw[h2,af,af]
    ·rw[aB h2,aB h2,aB h1]
  rw[eH] at I4;exact q s2 _ dx t' (cK _) DN hz ne I4 (I3.Ew af)
def kb (T:RT X E)(M:Kk X.prog X.w X.K X.mg X.base k x C R txt)(hr:ij (k + 1) X.A)(hg:Gl X x)(hc:X.calm=true)(qX:(x == ("__debug__":Str))=false:=by decide):
  PS X (.Raise (some (.Call (.Name x p) [] [] fJ)) none pos) (Qg E C txt):=by
 intro pins s σ H D I h;rw[arm_exec_Raise];obtain⟨nm,qn,N,bs,bm,sn,sub,ab,col,dd,k0,k1,k2,k3,k5,c⟩:=M.ek.on;refine aC (ir (Et (C:=C) (nm:=nm) (q:=qn) (N:=N) (bs:=bs) (bm:=bm) (o9:=true) (sn:=sn) (sub:=sub) (ab:=ab) (col:=col) (dd:=dd) (k0:=k0) (k1:=k1) (k2:=k2) (k3:=k3) (k5:=k5) (newId:="Exception.__new__") (c _ I.gJ).b (I.ok.hd hc) (aC (Kl M hr hg qX I fun s2 e dx t' he DN hz ne I2 x2=>aC (ir (bI ?_))))));exact⟨e,some dx,v0 t',rfl,(c _ I2.gJ).at_,x2,rfl,T.mQ I2 x2 rfl (.inl rfl) (aR I.sz he) (by rw[aB ne.symm]; exact hz) (h dx DN)⟩
end
abbrev Cx.xP (X:Cx)(xe:Value->Shared->Prop)(pn:List (Addr×Obj)):Cx:={X with xe:=xe,pn:=pn}
abbrev Cx.LZ (X:Cx)(e:Value)(pn:List (Addr×Obj))(xe:Value->Shared->Prop):Cx:={X with A:=X.A.mark (some e),calm:=false,pn:=pn,xe:=xe}
section
variable {X:Cx}{pins BQ l:List (Addr×Obj)}{σ:St}{H:Hp}{s:Shared}{xe:Value->Shared->Prop}{E:XK}
def Inv.xP (I:Inv X pins σ H s)(xe:Value->Shared->Prop):Inv (X.xP xe (X.pn ++ pins)) [] σ H s:=
 have ok:=I.ok
 ⟨⟨ok.mod,ok.kind,ok.glob,ok.blt,ok.above,ok.inj,ok.has,ok.LP,ok.hd,ok.frames,ok.Ja,ok.Mg,ok.bs,ok.BO,ok.xD,ok.xE,ok.md,ok.Fo⟩,I.os,I.bare,I.base,I.loc,I.cell,I.free,I.iS,fun p hp=>I.pin p (by simpa using hp),I.b9,I.len⟩
def Inv.ke (I:Inv (X.xP xe (X.pn ++ pins)) BQ σ H s):Inv X pins σ H s:=
 have ok:=I.ok
 ⟨⟨ok.mod,ok.kind,ok.glob,ok.blt,ok.above,ok.inj,ok.has,ok.LP,ok.hd,ok.frames,ok.Ja,ok.Mg,ok.bs,ok.BO,ok.xD,ok.xE,ok.md,ok.Fo⟩,I.os,I.bare,I.base,I.loc,I.cell,I.free,I.iS,fun p hp=>I.pin p (c9 _ hp),I.b9,I.len⟩
def Inv.LZ (I:Inv X pins σ H s)(e:Value)(xe:Value->Shared->Prop)(h: ∀p∈l,s.heap.get? p.1=some p.2/\H p.1=none/\p.1≠X.env.locals/\p.1∉X.fs/\ ∀v,p.2.data≠ .cell v):Inv (X.LZ e (X.pn ++ pins ++ l) xe) [] σ H s:=
 have ok:=I.ok
 ⟨⟨ok.mod,ok.kind,ok.glob,ok.blt,ok.above,ok.inj,ok.has,ok.LP,(fun z=>by cases z),ok.frames,ok.Ja,ok.Mg,ok.bs,ok.BO,ok.xD,ok.xE,ok.md,ok.Fo⟩,I.os,I.bare,I.base,I.loc,I.cell,I.free,I.iS,
  fun p hp=>by
   rw[bS] at hp;exact(bg.mp hp).elim (fun z=>I.pin p z) (h p),I.b9,I.len⟩
def Inv.T3 (I0:Inv X pins σ H s){e:Value}{σ':St}{H':Hp}{s':Shared}(I:Inv (X.LZ e (X.pn ++ pins ++ l) xe) BQ σ' H' s'):Inv X pins σ' H' s':=
 have ok:=I.ok
 ⟨⟨ok.mod,ok.kind,ok.glob,ok.blt,ok.above,ok.inj,ok.has,ok.LP,I0.ok.hd,ok.frames,ok.Ja,ok.Mg,ok.bs,ok.BO,ok.xD,ok.xE,ok.md,ok.Fo⟩,I.os,I.bare,I.base,I.loc,I.cell,I.free,I.iS,
  fun p hp=>I.pin p (c9 _ (c9 _ hp)),I.b9,I.len⟩
def SP.ke {D:Ends}{f:Flow}{s':Shared}(h:SP (X.xP xe (X.pn ++ pins)) [] D f s'):SP X pins D f s':=by
 cases f with
 |next=>obtain⟨σ',H',I,q⟩:=h; exact⟨σ',H',I.ke,q⟩
 |brk=>obtain⟨σ',H',I,q⟩:=h; exact⟨σ',H',I.ke,q⟩
 |cont=>obtain⟨σ',H',I,q⟩:=h; exact⟨σ',H',I.ke,q⟩
 |ret u=>obtain⟨v,σ',H',I,r,q⟩:=h; exact⟨v,σ',H',I.ke,r,q⟩
def Inv.renamed {h5:Heap}{m5:Str->Option Value}{t':Nat}(I:Inv X pins σ H s)(n5:h5.Ns X.env.locals m5)(sb:Heap.SameBut X.env.locals s.heap h5):Inv X pins (List.replicate X.N.length none) H {s with heap:=h5,toks:=t'}:=by
 have low: ∀c o,X.s₀.heap.get? c=some o->c≠X.env.locals:=fun c o z=>a7 (bo (aN z) I.ok.above);refine⟨I.ok,I.os,I.bare,⟨fun c o z n hc hx=>(sb.2 c (low c o z)).trans (I.base.keep c o z n hc hx),fun c o z n hc hx=>?_,I.base.free,fun c o z hx=>?_,I.base.qR,I.base.pY,I.base.pZ⟩,⟨m5,n5,fun i x v h1 h2 _=>?_⟩,fun x c z=>?_,I.free,I.iS,fun p hp=>?_,fun c u z=>?_,?_⟩
 ·obtain⟨sl,e⟩:=I.base.slot c o z n hc hx;exact⟨sl,(sb.2 c (low c o z)).trans e⟩
 ·obtain⟨o',e⟩:=I.base.there c o z hx;exact⟨o',(sb.2 c (low c o z)).trans e⟩
 ·rw[List.getElem?_replicate] at h2;split at h2 <;> cases h2
 ·obtain⟨v,w⟩:=I.cell x c z;exact⟨v,w.sameBut sb (I.N5 x c z)⟩
 ·obtain⟨w1,w2,w3,w4⟩:=I.pin p hp;exact⟨(sb.2 _ w3).trans w1,w2,w3,w4⟩
 ·refine(I.b9 c u z).uI (fun d o hd w=>(sb.2 d (fun q=>?_)).trans w) (fun _ q=>q) fun _ _ q=>q;rcases hd with hd|hd
  ·rw[← hd,q,I.free] at z;cases z
  ·rw[q,I.free] at hd;cases hd
 ·rw[iN]
def land (sE:X.stack=X.env :: X.outer)(DM:X.env.frame=some X.env.locals){e:Value}{s':Shared}(I:Inv X pins σ H s)(c:nj X.prog X.w X.mg X.stack H s E e s'){hs:List ExceptHandler}{Q:Flow->Shared->Prop}
  (q: ∀(a C dx T:Addr) (vs:Array Value) (H':Hp) (s3:Shared),e= .ref a->Inv X pins σ H' s3->i6 s3.heap a (.ref C) (some dx) vs->vs[1]? =some (.ref T)->LX s3.heap T .none->T≠a->s.heap.objs.size<=a->s.heap.objs.size<=T->H' a=none->H' T=none->
   (vs[2]? =some .none∨X.mg "Needed"=some (.ref C))->E (.ref C) (some dx) H'->wpAny (model X.prog X.w) X.A (handleBy e X.env hs) Q xe s3):
  wpAny (model X.prog X.w) X.A (noteFrame e X.env) (fun _ s2=>wpAny (model X.prog X.w) X.A (setFlight e none) (fun _ s3=>wpAny (model X.prog X.w) X.A (handleBy e X.env hs) Q xe s3) xe s2) xe s':=by
 obtain⟨a,C,dx,H2,rfl,ho,hg,u,b9,⟨vs,T,x,h1,ft,ne,na,nT,Ha,HT,h2⟩,z⟩:=c;have I2:=I.Fp (ch:=[]) ho u b9 hg (fun b z=>absurd z (by simp));have st:=I2.stack;rw[sE] at st;have RU:a < s'.heap.objs.size:=by
  obtain⟨o,z,_⟩:=x;exact aN z
 have Ym:s.heap.objs.size<=s'.heap.objs.size:=aR na (cq RU);refine Oj (base:=X.base) (outer:=X.outer) (by rw[I.ok.frames,sE]) st DM x h1 ft ne fun h3 T' b x3 hT t3=>?_;have RV:T'≠a:=by
  rw[hT];exact(a7 RU).symm
 have HT':H2 T'=none:=I2.b9.fresh (iM hT.symm);have nT':=I2.ka (iM hT.symm);have b':nR (DZ X.stack) [T,a] s'.heap h3:=by
  rw[sE];exact b
 have I3:=I2.but b' (fun c hc=>by
  rcases aw.mp hc with rfl|hc
  ·exact⟨HT,I.ka nT⟩
  ·rw[au.mp hc];exact⟨Ha,I.ka na⟩)
 refine v8 (s:={s' with heap:=h3}) x3 (qu (fh h1)) t3 fun h4 b4 t4 _=>?_;have I4:=I3.but (h':=h4) (own:=[T']) (b4.mono (fun _ z=>absurd z (by simp)) (fun _ z=>z)) (fun c hc=>by
  rw[au.mp hc];exact⟨HT',nT'⟩)
 refine q a C dx T' _ H2 _ rfl I4 (x3.but b4 (by simpa using RV.symm)) (qu (fh h1)) t4 RV na (by rw[hT]; exact Ym) Ha HT' ?_ z;rw[rA (by decide)];exact h2
end
section
variable {X:Cx}{R:Addr}{n x:Str}{i k:Nat}{p1 p2 p3 p4 p5 pos fJ:Pos}{body:List Stmt}{t:XK->TS}{E:XK}{CN:Addr}{txt:Str}
def T4 (K:Frag)(R:Addr)(D:Ends):XK:=fun c d H'=> ∃(C dx:Addr) (txt:Str),c= .ref C/\d=some dx/\gS K C R/\H' dx=some (.xd [("text",.str txt)])/\D.rt (.str txt) H'
def MX (K:Frag)(R:Addr)(t:XK->TS):TS:=fun D σ H=>t (T4 K R D) D σ H
def Hw (sE:X.stack=X.env :: X.outer)(DM:X.env.frame=some X.env.locals)(hc:X.calm=true)(hN:X.N.Nodup)(hi:X.N[i]? =some n)(hl:X.env.scope.names.lookup n=some .local)(hg:Gl X x)(hm:X.mg x=some (.ref R))(kR:gS X.K R R)
  (hb: ∀(xe:Value->Shared->Prop) (pn:List (Addr×Obj)) (E:XK),Passes (nj X.prog X.w X.mg) (X.xP xe pn) E->pC (X.xP xe pn) body (t E)) (hd:(n == ("__debug__":Str))=false:=by decide) (sD:(n == ("__classdict__":Str))=false:=by decide) (hx:(x == ("__debug__":Str))=false:=by decide):
  PS X (.Try body [.ExceptHandler (some (.Name x p1)) (some n) [.Return (some (.Attribute (.Name n p2) "text" p3)) p4] p5] [] [] pos) (MX X.K R t):=by
 intro pins s σ H D I h;refine wpAny_Try_except (cm (hb (fun e s1=>wpAny (model X.prog X.w) X.A (noteFrame e X.env) (fun _ s2=>wpAny (model X.prog X.w) X.A (setFlight e none) (fun _ s3=>
  wpAny (model X.prog X.w) X.A (handleBy e X.env [.ExceptHandler (some (.Name x p1)) (some n) [.Return (some (.Attribute (.Name n p2) "text" p3)) p4] p5]) (SP X pins D) X.xe s3) X.xe s2) X.xe s1) (X.pn ++ pins) (T4 X.K R D) ?_ [] s σ H D (I.xP _) h) (fun f s1 q=>?_) fun _ _ z=>z)
 ·rintro T5 σ1 H1 s1 e s2 I1 cx;refine land sE DM I1.ke cx fun a C dx T vs H2 s3 he I3 x3 h1 ft ne na nT Ha HT h2 z=>?_;subst he;obtain⟨C',dx',txt,e1,e2,ek,ed,q⟩:=z;cases e1;cases e2;obtain⟨oe,Yn,RG,Qi,T6⟩:=id x3;have cC:=ek.on;have cR:=kR.on;obtain⟨_,_,_,_,_,_,_,_,_,_,_,_,_,_,_,cC⟩:=cC;obtain⟨_,_,_,_,_,_,_,_,_,_,_,_,_,_,_,cR⟩:=cR;have nw:=I1.ke.ka na;have Im:=I3.LZ (l:=[(a,oe)]) (.ref a) (fun _ _=>False) (fun p hp=>by
   rw[au.mp hp];exact⟨Yn,Ha,nw.2.1,I1.ke.GX na,fun v z=>by rw[T6] at z; cases z⟩)
  refine wpAny_handleBy_cons (codeAny_handlers_test (jF Im hg hm ?_ hx)) (by intro q; cases q);obtain⟨hp,g,d,tk,os⟩:=s3;refine y2 (cC _ I3.gJ).at_ (cR _ I3.gJ).at_ x3 (cR _ I3.gJ).b (cC _ I3.gJ).up ?_;refine codeAny_handlers_suite_as ?_;refine v8 x3 h1 ft fun h4 b4 t4 _=>?_;have MY:=I1.ke.ka nT;have I4:=Im.but (h':=h4) (own:=[T]) (b4.mono (fun _ z=>absurd z (by simp)) (fun _ z=>z)) (fun c hc=>by
   rw[au.mp hc];refine⟨HT,MY.1,MY.2.1,MY.2.2.1,fun p hp=>?_⟩;rw[bS] at hp;rcases bg.mp hp with hp|hp
   ·exact MY.2.2.2 p hp
   ·rw[au.mp hp];exact ne.symm)
  refine vt (X:=X.LZ (.ref a) (X.pn ++ pins ++ [(a,oe)]) (fun _ _=>False)) (v:= .ref a) I4 hN hi (.inl hl) rfl (fun s5 I5=>?_) (.inr hl);have pe:PE (X.LZ (.ref a) (X.pn ++ pins ++ [(a,oe)]) (fun _ _=>False)) (.Attribute (.Name n p2) "text" p3) (fun σ H Q=>σ[i]? =some (some (.ref a))/\H dx=some (.xd [("text",.str txt)])/\Q (.str txt) H):=by
   rintro Ol s6 σ6 H6 Q6 J ⟨e1,e2,q6⟩;refine Fw rfl (dS (D0 (X:=X.LZ (.ref a) (X.pn ++ pins ++ [(a,oe)]) (fun _ _=>False)) hi (.inl hl) hd sD Ol s6 σ6 H6 (fun v H'=>v= .ref a/\H'=H6) J ⟨_,e1,rfl,rfl⟩) ?_);rintro u s7 ⟨v,H7,J7,rv,rfl,rfl⟩;obtain rfl:u=Value.ref a:=rv;obtain⟨w1,_⟩:=J7.pin (a,oe) (c9 _ (bB _ (au.mpr rfl)));obtain⟨mA,n1,rl⟩:=J7.b9 dx _ e2;have rt:=rl "text";have lk:List.lookup ("text":Str) [("text",V.str txt)]=some (V.str txt):=by simp[List.lookup]
   rw[lk] at rt;cases Yo:mA "text" with
   |none=>rw[Yo] at rt; exact False.elim rt
   |some u7=>
    rw[Yo] at rt;obtain⟨tk7,rfl⟩: ∃tk,u7=Value.str txt tk:=rt;obtain⟨hp7,g7,d7,t7,os7⟩:=s7;refine MU PySem.F.attr_Exception.ga (cC _ J7.gJ).b (cC _ J7.gJ).at_ (lQ J7.gJ ek.ga) (lQ J7.gJ ek.gk) (lQ J7.gJ ek.tx) ⟨oe,w1,RG,Qi,T6⟩ n1.ns Yo rfl ?_;exact⟨.str txt,H7,J7.tok _,⟨_,rfl⟩,q6⟩
  have hlen:i < σ1.length:=by
   rw[I1.len];exact(ak.mp hi).1
  refine wpAny_mono (av (a6 pe) [] s5 _ H2 {nx:=fun _ _=>False,rt:=fun v H'=>v= .str txt/\H'=H2} I5 ⟨by simp[hlen],ed,rfl,rfl⟩) (fun f s6 q6=>?_) fun _ _ z=>z.elim;cases f with
  |next=>obtain⟨_,_,_,z⟩:=q6; exact z.elim
  |brk=>obtain⟨_,_,_,z⟩:=q6; exact z.elim
  |cont=>obtain⟨_,_,_,z⟩:=q6; exact z.elim
  |ret u=>
   obtain⟨v,σ6,H6,I6,rv,rfl,rfl⟩:=q6;have I7:Inv X pins σ6 H6 s6:=Inv.T3 I3 I6;obtain⟨m6,n6,_⟩:=id I7.loc;have kd:(X.env.scope.kind == .class || (X.env.scope.kind == .module && X.env.locals != X.env.globals))=false:=by
    rw[I.ok.kind];rfl
   refine wpAny_nameGoes hl n6 kd fun h7 m7 n7 sb=>?_;exact⟨.str txt,_,H6,I7.renamed n7 sb,rv,q⟩
 ·have q':=SP.ke q;cases f with
  |next=>exact jr q'
  |brk=>exact q'
  |cont=>exact q'
  |ret u=>exact q'
def Km (CT CN:Addr)(txt:Str)(E:XK):XK:=fun c d H'=>c= .ref CT/\ ∀dx,H' dx=none->E (.ref CN) (some dx) (upd H' dx (.xd [("text",.str txt)]))
def Hx (CT CN:Addr)(txt:Str)(E:XK)(t:XK->TS):TS:=fun D σ H=>t (Km CT CN txt E) D σ H
def Cs {CT:Addr}{kk:_}(T:RT X E)(hc:X.calm=true)(hg:Gl X x)(hm:X.mg x=some (.ref CT))(kT:gS X.K CT R)(i9:X.mg "Needed"≠some (.ref CT))(M:Kk X.prog X.w X.K X.mg X.base k "Needed" CN R txt)(hr:ij (k + 1) X.A)(hgN:Gl X "Needed")
  (hb: ∀(xe:Value->Shared->Prop) (pn:List (Addr×Obj)) (E:XK),Passes (nj X.prog X.w X.mg) (X.xP xe pn) E->pC (X.xP xe pn) body (t E)) (hx:(x == ("__debug__":Str))=false:=by decide):
  PS X (.Try body [.ExceptHandler (some (.Name x p1)) none [.Raise (some (.Call (.Name "Needed" p2) [] [] fJ)) (some (.Constant .none kk p3)) p4] p5] [] [] pos) (Hx CT CN txt E t):=by
 intro pins s σ H D I h;refine wpAny_Try_except (cm (hb (fun e s1=>wpAny (model X.prog X.w) X.A (noteFrame e X.env) (fun _ s2=>wpAny (model X.prog X.w) X.A (setFlight e none) (fun _ s3=>
  wpAny (model X.prog X.w) X.A (handleBy e X.env [.ExceptHandler (some (.Name x p1)) none [.Raise (some (.Call (.Name "Needed" p2) [] [] fJ)) (some (.Constant .none kk p3)) p4] p5]) (SP X pins D) X.xe s3) X.xe s2) X.xe s1) (X.pn ++ pins) (Km CT CN txt E) ?_ [] s σ H D (I.xP _) h) (fun f s1 q=>?_) fun _ _ z=>z)
 ·rintro T5 σ1 H1 s1 e s2 I1 cx;refine land T.Ja T.frm I1.ke cx fun a C dx T0 vs H2 s3 he I3 x3 h1 ft ne na nT Ha HT h2 z=>?_;subst he;obtain⟨e1,q⟩:=z;cases e1;have v2:vs[2]? =some .none:=h2.elim id (fun z=>absurd z i9);obtain⟨oe,Yn,RG,Qi,T6⟩:=id x3;obtain⟨_,_,_,_,_,_,_,_,_,_,_,_,_,_,_,cT⟩:=kT.on;obtain⟨nm,qn,N,bs,bm,sn,sub,ab,col,dd,k0,k1,k2,k3,k5,cN⟩:=M.ek.on;have nw:=I1.ke.ka na;have Yp: ∀p∈[(a,oe)],s3.heap.get? p.1=some p.2/\H2 p.1=none/\p.1≠X.env.locals/\p.1∉X.fs/\ ∀v,p.2.data≠ .cell v:=fun p hp=>by
   rw[au.mp hp];exact⟨Yn,Ha,nw.2.1,I1.ke.GX na,fun v z=>by rw[T6] at z; cases z⟩
  have Im:=I3.LZ (l:=[(a,oe)]) (.ref a) X.xe Yp;refine wpAny_handleBy_cons (codeAny_handlers_test (jF Im hg hm ?_ hx)) (by intro q; cases q);obtain⟨hp,g,d,tk,os⟩:=s3;refine y2 (b:=true) (cT _ I3.gJ).at_ (cT _ I3.gJ).at_ x3 (cT _ I3.gJ).b (by simp) ?_;refine codeAny_handlers_suite ?_;refine v8 x3 h1 ft fun h4 b4 t4 _=>?_;have MY:=I1.ke.ka nT;have I4:=Im.but (h':=h4) (own:=[T0]) (b4.mono (fun _ z=>absurd z (by simp)) (fun _ z=>z)) (fun c hc=>by
   rw[au.mp hc];refine⟨HT,MY.1,MY.2.1,MY.2.2.1,fun p hp=>?_⟩;rw[bS] at hp;rcases bg.mp hp with hp|hp
   ·exact MY.2.2.2 p hp
   ·rw[au.mp hp];exact ne.symm)
  refine wpAny_passesOwnAt (T.ownAt (some (.ref a))) ?_;have ps:PS (X.LZ (.ref a) (X.pn ++ pins ++ [(a,oe)]) X.xe) (.Raise (some (.Call (.Name "Needed" p2) [] [] fJ)) (some (.Constant .none kk p3)) p4) (fun _ _ H=> ∀dx,H dx=none->E (.ref CN) (some dx) (upd H dx (.xd [("text",.str txt)]))):=by
   intro Ol s6 σ6 H6 D6 J h6;rw[arm_exec_Raise];refine aC (ir (Eu (C:=CN) (e0:=a) (nm:=nm) (q:=qn) (N:=N) (bs:=bs) (bm:=bm) (o9:=true) (sn:=sn) (sub:=sub) (ab:=ab) (col:=col) (dd:=dd) (k0:=k0) (k1:=k1) (k2:=k2) (k3:=k3) (k5:=k5) (newId:="Exception.__new__") (cN _ J.gJ).b rfl (fun Rr s7 z=>aC (Constant_none (aC (ir (bI z))))) (aC (Kl (X:=X.LZ (.ref a) (X.pn ++ pins ++ [(a,oe)]) X.xe) M (hr.mark _) hgN (by decide) J fun s7 e Yq t' he DN hz ne7 I7 x7=>aC (ir (bI ?_))))));obtain⟨w1,_⟩:=I7.pin (a,oe) (c9 _ (bB _ (au.mpr rfl)));have w0:=(J.pin (a,oe) (c9 _ (bB _ (au.mpr rfl)))).1;have nea:e≠a:=fun q=>by
    rw[q] at he;exact absurd (aN w0) (yI.mpr he)
   refine⟨e,some Yq,v0 t',.ref CT,some dx,vs,rfl,nea,(cN _ I7.gJ).at_,x7,rfl,rfl,⟨oe,w1,RG,Qi,T6⟩,v2,fun h8 b8 x8=>?_⟩;have Hz:upd H6 Yq (.xd [("text",.str txt)]) e=none:=by
    rw[aB ne7.symm];exact hz
   have I8:=I7.but (h':=h8) (own:=[e]) (b8.mono (fun _ z=>absurd z (by simp)) (fun _ z=>z)) (fun c hc=>by
    rw[au.mp hc];exact⟨Hz,J.ka he⟩)
   exact T.mQ (Inv.T3 I3 I8) x8 rfl (.inr M.mgC) (aR J.sz he) Hz (h6 Yq DN)
  refine cm (av ps [] _ _ H2 {nx:=fun _ _=>False,rt:=fun _ _=>False} I4 q) (fun f s9 z=>?_) fun _ _ z=>z;cases f with
  |next=>obtain⟨_,_,_,z⟩:=z; exact z.elim
  |brk=>obtain⟨_,_,_,z⟩:=z; exact z.elim
  |cont=>obtain⟨_,_,_,z⟩:=z; exact z.elim
  |ret u=>obtain⟨_,_,_,_,_,z⟩:=z; exact z.elim
 ·have q':=SP.ke q;cases f with
  |next=>exact jr q'
  |brk=>exact q'
  |cont=>exact q'
  |ret u=>exact q'
end
open PySem.W
def BMain (mg:Str->Option Value)(h:Heap):Prop:= ∃bm o,mg "__builtins__"=some (.ref bm)/\bm≠builtinsNs/\bm≠mainGlobals/\h.get? bm=some o/\o.cls= .type "module"/\o.dict=some builtinsNs/\o.data= .plain
abbrev y4 (c:Addr)(qual:Str):HO:= .ext fun h=>h.CodeRec (.ref c) qual
def Kn {P:Program}{w:World}{H:Hp}{h:Heap}{c:Addr}{qual:Str}(x:h.CodeRec (.ref c) qual):dG P w H h c (y4 c qual):=by
 refine⟨x,?_,fun h1 h2 z k=>?_⟩
 ·obtain⟨c',o,vs,t,e,g,_⟩:=x;cases e;exact⟨o,g⟩
 ·obtain⟨c',o,vs,t,e,g,r⟩:=z;cases e;exact⟨c,o,vs,t,rfl,k o g,r⟩
def Tb (H:Hp)(P:Addr)(pos:Pos)(qual:Str):Prop:= ∃ps:Array Value,H P=some (.nA ps)/\TriplesOk ps.toList/\(codeAmong pos ps.toList=none∨ ∃c',codeAmong pos ps.toList=some (.ref c')/\H c'=some (y4 c' qual))
section
variable {X:Cx}{pins:List (Addr×Obj)}{σ:St}{H:Hp}{s:Shared}{c P:Addr}{params:Arguments}{body:Expr}{scope:Scope}{pos:Pos}{Q:Value->Shared->Prop}{xe:Value->Shared->Prop}
def BMain.at {mg:Str->Option Value}{h h':Heap}(B:BMain mg h)(k: ∀b o,h.get? b=some o->h'.get? b=some o){ps:Array Value}(hP:h'.get? P=some (tabObj ps)):h'.BuiltinsAt mg P:=by
 obtain⟨bm,o,b1,b2,b3,b4,b5,b6,b7⟩:=B;refine⟨bm,o,b1,b2,b3,fun z=>?_,k _ _ b4,b5,b6,b7⟩;have e:=k _ _ b4;rw[z,hP] at e;cases e;cases b5
def Ko (I:Inv X pins σ H s)(B:BMain X.mg X.base)(FZ:X.env.code= .ref c)(C:CodeHd X.base c P)(tb:Tb H P pos (X.env.qual ++ "<lambda>"))(Qj:defaultsOf params X.env=([],[]))(rC:closureFor scope X.env=pure [])
  (q: ∀(f c':Addr) (F6:Value) (H':Hp) (s':Shared),Inv X pins σ H' s'->Frame [P] H H'->Tb H' P pos (X.env.qual ++ "<lambda>")->H' f=none->s'.heap.get? f=some (kla_obj "<lambda>" (X.env.qual ++ "<lambda>") params body scope [] ((X.mg "__name__").getD .none) c' F6)->
   H' c'=some (y4 c' (X.env.qual ++ "<lambda>"))->s.heap.objs.size<=f->Q (.ref f) s'):wpAny (model X.prog X.w) X.A (eval (.Lambda params body scope pos) X.env) Q xe s:=by
 obtain⟨ps,hP,ht,hc⟩:=tb;have We:s.heap.get? P=some (tabObj ps):=I.b9 P _ hP;have hg:s.heap.Ns mainGlobals X.mg:=I.mod.glob.keeps I.bk;have hgP:mainGlobals≠P:=fun z=>by
  obtain⟨o,es,ep,e,hd,_⟩:=hg;rw[z,We] at e;cases e;cases hd
 have hB:=B.at I.bk We;refine kla_eval Qj ?_;rcases hc with hn|⟨c',hf,Wf⟩
 ·refine kla_makeFunction rC I.ok.glob hg FZ (C.keeps I.bk) We ht hn hgP hB fun c' F6 h' tk hx PY iX Yr RW=>?_;have Ys:H c'=none:=I.b9.fresh PY;have cP:c'≠P:=fun z=>by rw[z,hP] at Ys; cases Ys
  have lt: ∀b o,s.heap.get? b=some o->b≠c':=fun b o z=>a7 (bo (aN z) PY);have same: ∀b,b≠P->b≠c'->upd (upd H P (.nA (ps ++ #[rawInt pos.line,rawInt pos.col,.ref c']))) c' (y4 c' (X.env.qual ++ "<lambda>")) b=H b:=fun b n1 n2=>by rw[aB n2,aB n1]
  have MZ: ∀b u,H b=some u->u≠ .nA ps->b≠P:=fun b u z n w=>by
   rw[w,hP] at z;cases z;exact n rfl
  have Hy: ∀b u,H b=some u->b≠c':=fun b u z=>aI z Ys;generalize Wd:kla_obj "<lambda>" (X.env.qual ++ "<lambda>") params body scope [] ((X.mg "__name__").getD .none) c' F6=ob;have hf:(h'.push ob).get? h'.objs.size=some ob:=by
   rw[← Wd];exact bO _ rfl
  have kp: ∀b o,b≠P->s.heap.get? b=some o->(h'.push ob).get? b=some o:=fun b o n z=>az _ (hx b o n z);have T7:(h'.push ob).get? P=some (tabObj (ps ++ #[rawInt pos.line,rawInt pos.col,.ref c'])):=az _ RW;have I2:Inv X pins σ (upd (upd H P (.nA (ps ++ #[rawInt pos.line,rawInt pos.col,.ref c']))) c' (y4 c' (X.env.qual ++ "<lambda>"))) {s with heap:=h'.push ob,toks:=tk}:=by
   refine I.un ⟨fun b o z n _ _=>kp b o (fun w=>by rw[w,hP] at n; cases n) z,fun b o z n _ _=>⟨o.slots,kp b o (fun w=>by rw[w,hP] at n; cases n) z⟩,fun b o z n _=>?_,fun b o z _=>?_,fun b xs z=>?_,fun b o u z=>?_,fun b qs z=>?_⟩ fun b u z=>?_
   ·rw[same b (fun w=>by rw[w,hP] at n; cases n) (lt b o z)];exact n
   ·by_cases w:b=P
    ·rw[w];exact⟨_,T7⟩
    ·exact⟨o,kp b o w z⟩
   ·rw[same b (MZ b _ z (by intro w; cases w)) (Hy b _ z)];exact z
   ·rw[same b (MZ b _ z (by intro w; cases w)) (Hy b _ z)];exact z
   ·by_cases w:b=P
    ·rw[w] at z ⊢;rw[hP] at z;cases z;exact⟨_,by rw[aB cP.symm,af]⟩
    ·exact⟨#[],by rw[same b w (Hy b _ z),z]; simp⟩
   ·by_cases w:b=c'
    ·subst w;rw[af] at z;cases z;exact Kn (Yr.push ob)
    ·rw[aB w] at z;by_cases w2:b=P
     ·subst w2;rw[af] at z;cases z;exact T7
     ·rw[aB w2] at z;refine(I.b9 b u z).uI (fun d o hd y=>kp d o (fun w3=>?_) y) (fun d y=>?_) fun d xs y=>?_
      ·rcases hd with hd|hd
       ·exact w2 (hd▸w3)
       ·rw[w3,hP] at hd;cases hd
      ·rw[same d (MZ d _ y (by intro w; cases w)) (Hy d _ y)];exact y
      ·rw[same d (MZ d _ y (by intro w; cases w)) (Hy d _ y)];exact y
  have Mi:H h'.objs.size=none:=I.b9.fresh (aR PY (cq iX));refine q h'.objs.size c' F6 _ _ I2 (fun b o nb z=>?_) ⟨ps ++ #[rawInt pos.line,rawInt pos.col,.ref c'],by rw[aB cP.symm,af],?_,.inr ⟨c',?_,af⟩⟩ ?_ (by rw[Wd]; exact hf) af (aR PY (cq iX))
  ·rw[same b (fun w=>nb (by rw[w]; exact au.mpr rfl)) (Hy b _ z)];exact z
  ·rw[Array.toList_append];exact TriplesOk_snoc _ _ _ _ ht
  ·rw[Array.toList_append];exact codeAmong_snoc _ ht hn
  ·rw[same _ (fun w=>by rw[w,hP] at Mi; cases Mi) (qI iX)];exact Mi
 ·refine kla_makeFunctionHit rC I.ok.glob hg FZ (C.keeps I.bk) We ht hf hB fun F6 h' tk hk hsz=>?_;have I2:=(I.kept (t':=tk) (h':=h'.push (kla_obj "<lambda>" (X.env.qual ++ "<lambda>") params body scope [] ((X.mg "__name__").getD .none) c' F6)) fun b u z=>az _ (hk b u z));exact q h'.objs.size c' F6 H _ I2 Frame.refl ⟨ps,hP,ht,.inr ⟨c',hf,Wf⟩⟩ (I.b9.fresh hsz) (bO _ rfl) Wf hsz
def Kp {A:Around}{name qual:Str}{pm F6:Value}{f c':Addr}{N ps:List Str}{us:List Value}{vs:List V}{t:TE}{R:VK}(I:Inv X pins σ H s)(e0:qW X.prog X.w X.K X.mg X.base A X.stack s H)(Wg:A.depth < recursionLimit)
  (ho:s.heap.get? f=some (kla_obj name qual params body scope [] pm c' F6)) (sD:s.heap.CodeRec (.ref c') qual) (S:aV N ps scope) (hb:bindArgs (kla_fn name qual params body scope [] pm (.ref c') F6) ⟨us,[]⟩=pure (ps.zip us)) (hl:vs.length=ps.length) (r:Vals vs us)
  (fW:PE (wb X.prog X.w X.K X.mg X.base N qual scope f (.ref c') A X.stack s H E0).D4 body t) (h:t (start N vs) H R):wpAny (model X.prog X.w) A (call (.ref f) us) (EP X pins σ R) xe s:=by
 have lim:s.heap.NoLimit:=I.nolimit;have nH: ∀y∈ps.zip us,scope.names.lookup y.1=some .local∨(scope.names.lookup y.1=some .cell/\((cellsFrom (s.heap.objs.size + 1) scope.names []).lookup y.1).isSome=true):=fun⟨n,v⟩ hy=>by
  rcases S.par n (oZ hy).1 with q|q
  ·exact .inl q
  ·exact .inr ⟨q,lG _ _ _ (.inl q)⟩
 refine Fm (kla_callFunE Wg ho rfl S.co S.gen rfl sD ?_);rw[hb];refine bI ?_;refine uF S.kind nH fun env he s1 y=>?_;subst he;refine⟨lim.keeps y.toInCall.keep,kla_codeExpr ?_⟩;have J:Inv (wb X.prog X.w X.K X.mg X.base N qual scope f (.ref c') A X.stack s H E0) [] (start N vs) H s1:=wc S e0 hl r y;refine cm (fW [] s1 (start N vs) H R (J.vv _) h) (fun v s' hs=>?_) fun e s' hs=>hs.elim;obtain⟨v',H',J',rv,q'⟩:=hs;exact I.after ⟨v',H',J'.os,J'.bare,J'.base,J'.b9,rv,q'⟩
end
section
variable {X:Cx}{pins:List (Addr×Obj)}{σ:St}{H:Hp}{s:Shared}
def Inv.T8 {D:Addr}{o:HO}(I:Inv X pins σ H s)(hn:H D=none)(ok:dG X.prog X.w (upd H D o) s.heap D o)(nw:(D∈X.ex∨X.s₀.heap.objs.size<=D)/\D≠X.env.locals/\(∀x k,X.env.cells.lookup x=some k->k≠D)/\ ∀p∈X.pn ++ pins,p.1≠D)
  (hx:X.s₀.heap.objs.size<=D):Inv X pins σ (upd H D o) s:=by
 have off: ∀b u,H b=some u->b≠D:=fun b u z=>aI z hn;have low: ∀b ob,X.s₀.heap.get? b=some ob->b≠D:=fun b ob z=>a7 (bo (aN z) hx);refine⟨I.ok,I.os,I.bare,⟨I.base.keep,I.base.slot,fun b ob z n hb=>?_,I.base.there,fun b xs z=>?_,fun b ob u z=>?_,fun b ps z=>?_⟩,I.loc,I.cell,?_,fun x k z=>?_,fun p hp=>?_,fun b u z=>?_,I.len⟩
 ·rw[aB (low b ob z)];exact I.base.free b ob z n hb
 ·have w:=I.base.qR b xs z;rw[aB (off b _ w)];exact w
 ·have w:=I.base.pY b ob u z;rw[aB (off b _ w)];exact w
 ·obtain⟨m,w⟩:=I.base.pZ b ps z;exact⟨m,by rw[aB (off b _ w)]; exact w⟩
 ·rw[aB nw.2.1.symm];exact I.free
 ·rw[aB (nw.2.2.1 x k z)];exact I.iS x k z
 ·obtain⟨w1,w2,w3⟩:=I.pin p hp;exact⟨w1,by rw[aB (nw.2.2.2 p hp)]; exact w2,w3⟩
 ·by_cases q:b=D
  ·subst q;rw[af] at z;cases z;exact ok
  ·rw[aB q] at z;exact(I.b9 b u z).uI (fun _ _ _ w=>w) (fun d w=>by rw[aB (off d _ w)]; exact w) fun d xs w=>by rw[aB (off d _ w)]; exact w
def Frame.sql {K:Frag}{fp:List Addr}{H H':Hp}{a:Addr}{xs:List V}(f:Frame fp H H')(h:bD K H a xs)(ha: ∀o,H a=some o->a∉fp):bD K H' a xs:=by
 rcases h with(h|⟨o,h⟩)|h
 ·exact .inl (.inl (f _ _ (ha _ h) h))
 ·exact .inl (.inr ⟨o,f _ _ (ha _ h) h⟩)
 ·exact .inr h
def Tb.upd {P:Addr}{pos:Pos}{qual:Str}{p:Addr}{o:HO}(t:Tb H P pos qual)(hp:H p=none):Tb (upd H p o) P pos qual:=by
 obtain⟨ps,h1,h2,h3⟩:=t;refine⟨ps,by rw[aB (aI h1 hp)]; exact h1,h2,?_⟩;rcases h3 with h3|⟨c',h3,h4⟩
 ·exact .inl h3
 ·exact .inr ⟨c',h3,by rw[aB (aI h4 hp)]; exact h4⟩
def Frame.new {fp:List Addr}{H H':Hp}{p:Addr}{o:HO}(f:Frame fp H H')(hp:H' p=none):Frame fp H (L2.upd H' p o):=fun b u hb z=>by
 have w:=f b u hb z;rw[aB (aI w hp)];exact w
end
def Om (K:Frag)(P:Addr)(pos:Pos)(qual:Str)(N:List Str)(tb:TE)(Q:VK)(x:V)(H1:Hp):Prop:= ∃(a:Addr) (xs:List V) (ts:List (List Int)) (key:List Int->Int),x= .ref a/\bD K H1 a xs/\xs.length < 64/\ts.length=xs.length/\Tb H1 P pos qual/\
 (∀t∈ts,t≠[])/\(∀t∈ts,∀u∈ts,HT.lexLt t u=decide (key t < key u))/\
 (∀i,i < xs.length-> ∀H2,Frame [P] H1 H2-> ∀R:VK,(∀p,H2 p=none->R (.ref p) (upd H2 p (.tup ((ts.getD i []).map V.int))))->tb (start N [xs.getD i .en]) H2 R)/\
 ∀(D:Addr) (p:List Nat) (H2:Hp),p.Perm (List.range xs.length)->p.Pairwise (fun i j=>key (ts.getD i [])<=key (ts.getD j []))->Frame [P] H1 H2->Tb H2 P pos qual->H1 D=none->H2 D=some (.lst (p.map fun i=>xs.getD i .en))->Q (.ref D) H2
def Kq (K:Frag)(P:Addr)(pos:Pos)(qual:Str)(N:List Str)(ta tb:TE):TE:=fun σ H Q=>ta σ H (Om K P pos qual N tb Q)
def gv.snoc {H:Hp}: ∀{ts:List (List Int)} {xs:List V} {t:List Int} {p:Addr},gv H ts xs->H p=some (.tup (t.map V.int))->gv H (ts ++ [t]) (xs ++ [.ref p])
 |_,_,_,p,.nil,h=> .cons ⟨p,rfl,h⟩ .nil
 |_,_,_,p,.cons a r,h=> .cons a (gv.snoc r h)
def take_succ_getD {α:Type}{l:List α}{i:Nat}{d:α}(h:i < l.length):l.take (i + 1)=l.take i ++ [l.getD i d]:=by
 rw[By,ag h,aj,ag h];rfl
section
variable {X:Cx}{c P:Addr}{params:Arguments}{body e:Expr}{scope:Scope}{p pos Kr SS:Pos}{ta tb:TE}{N:List Str}{y:Str}
def we (hg:Gl X "sorted")(hm:X.mg "sorted"=none)(B:BMain X.mg X.base)(FZ:X.env.code= .ref c)(C:CodeHd X.base c P)(hr:eY 1 X.A)(S:aV N [y] scope)
  (fW: ∀(f c':Addr) (A:Around) (s:Shared) (H:Hp),PE (wb X.prog X.w X.K X.mg X.base N (X.env.qual ++ "<lambda>") scope f (.ref c') A X.stack s H E0).D4 body tb) (ha:PE X e ta)
  (hb: ∀(pm F6 u:Value) (c':Addr),bindArgs (kla_fn "<lambda>" (X.env.qual ++ "<lambda>") params body scope [] pm (.ref c') F6) ⟨[u],[]⟩=pure ([y].zip [u]):=by intros; rfl)
  (Qj:defaultsOf params X.env=([],[]):=by rfl) (rC:closureFor scope X.env=pure []:=by rfl)
  (he:backTo pos (starEach [e] X.env)=(false,eval e X.env) :: backTo pos (starEach [] X.env):=by rfl)
  (hs:starEach [e] X.env=(false,eval e X.env) :: starEach [] X.env:=by rfl) (vD:(backTo pos (starEach [e] X.env)).any (·.1)=false:=by rfl):
  PE X (.Call (.Name "sorted" p) [e] [⟨some "key",.Lambda params body scope Kr,SS⟩] pos) (Kq X.K P Kr (X.env.qual ++ "<lambda>") N ta tb):=by
 intro pins s σ H Q I h;refine eK (qf I hg hm (u:= .builtin "sorted") (by rfl) ?_);refine PyProof.Rows.callWith_kw (dS ((aa ha ao hs) pos pins s σ H (fun vs H1=>match vs with|[x]=>Om X.K P Kr (X.env.qual ++ "<lambda>") N tb Q x H1|_=>False) I h) fun us s1 h1=>?_) he vD rfl rfl;obtain⟨vs,H1,I1,rv,q1⟩:=h1;cases vs with
 |nil=>exact q1.elim
 |cons x vs=>
 cases vs with
 |cons _ _=>exact q1.elim
 |nil=>
 obtain⟨a,xs,ts,key,rfl,hS,DK,iX,tb1,i9,JA,hbd,fin⟩:=q1;obtain⟨u,rfl,ru⟩:=vals1 rv;obtain rfl:u=Value.ref a:=ru;show wpAny _ _ (evalAll [(do let v ← eval (.Lambda params body scope Kr) X.env; standAt pos; pure v)]) _ _ s1;refine wpAny_evalAll_cons (aC (Ko I1 B FZ C tb1 Qj rC fun f c' F6 H2 s2 I2 fr2 tb2 Mi Qh Wf hle=>aC (ir (bI (wpAny_evalAll_nil ?_)))));show wpAny _ _ (call (.builtin "sorted") [.ref a] [(Str.ofString "key",.ref f)]) _ _ s2;have aP: ∀o,H1 a=some o->a∉[P]:=fun o z w=>by
  obtain⟨ps,hP,_⟩:=tb1;have w':=au.mp w;rcases hS with(hS|⟨_,hS⟩)|⟨ob,_,_,hK,rC,_⟩
  ·rw[w',hP] at hS; cases hS
  ·rw[w',hP] at hS; cases hS
  ·have e1:=I1.gJ _ _ hK;have e2:s1.heap.get? P=some _:=I1.b9 P _ hP;rw[w',e2] at e1;cases e1;cases rC
 have Qk:=fr2.sql hS aP;obtain⟨b0,Yt,pl,hz⟩:=I2.list Qk;have hl:=Yt.length;have lf:f < s2.heap.objs.size:=aN Qh;have Ym:s1.heap.objs.size<=s2.heap.objs.size:=aR hle (cq lf);refine sortedK pl.isList (by lia) fun D kS e1 h' kp d1 k1 neD RX Wh=>?_;have I3:=I2.kept (t':=s2.toks) kp;have HD:H2 D=none:=I2.b9.fresh RX;have HK:H2 kS=none:=I2.b9.fresh Wh;have Oo:=I2.ka RX;have Ql:=I2.ka Wh;have nwf:=I1.ka hle;have fD:f≠D:=a7 (bo lf RX);have fK:f≠kS:=a7 (bo lf Wh);have dp:X.A.in1.in1.depth < recursionLimit:=hr.depth;generalize T9:kla_obj "<lambda>" (X.env.qual ++ "<lambda>") params body scope [] ((X.mg "__name__").getD .none) c' F6=RY at Qh;have loop: ∀(r:List Value) (i:Nat) (ks:List Value) (bf:List V) (Hi:Hp) (si:Shared),r=b0.drop i->i<=xs.length->Inv X (pins ++ [(f,RY),(D,seqObj "list" #[] e1)]) σ Hi si->(∃e,si.heap.get? kS=some (seqObj "list" ks.toArray e))->Hi kS=none->
   Frame [P] H1 Hi->Tb Hi P Kr (X.env.qual ++ "<lambda>")->Hi c'=some (y4 c' (X.env.qual ++ "<lambda>"))->gv Hi (ts.take i) bf->Vals bf ks->
   uj X.prog X.w X.A.in1.in1 kS (.ref f) (Hq X.prog X.w X.A.in1.in1 D kS e1 b0 (fun s'=>EP X pins σ Q (.ref D) s')) r ks si:=by
  intro r
  induction r with
  |nil=>
   intro i ks bf Hi si hr hi Ii hk M0 Wi Yu Wj hT rk;have ei:i=xs.length:=by
    have:=dr List.length hr;rw[xA,mY] at this;lia
   have L0:gv Hi ts bf:=by rwa [ei,← iX,bb] at hT
   have lk:bf.length=xs.length:=by have:=L0.length; lia
   have lk2:=rk.length;obtain⟨w1,w2,_⟩:=Ii.pin (D,seqObj "list" #[] e1) (List.mem_append_right _ (List.mem_append_right _ (by simp)));refine⟨tuples' true,fun i=>key (ts.getD i []),neD,w1,fun h2 Q' q'=>?_,fun a b C ha hb q'=>?_,fun pr h5 n Ua hUp hsz Wk F9=>?_⟩
   ·obtain⟨fs,f1,f2,f3⟩:=sX Ii (fun _ _ z=>z) L0 rk i9;refine kat_kind (T:= .type "int") f1 (by lia) (fun v hv=>?_) rfl q';obtain⟨n,t,rfl⟩:=f3 v hv;exact Looks.of_pure rfl
   ·obtain⟨p1,g1,g2⟩:=L0.get (i:=a) (by lia);obtain⟨p2,g3,g4⟩:=L0.get (i:=b) (by lia);have v1:=jN rk a;have v2:=jN rk b;rw[g1] at v1;rw[g3] at v2;have v1':ks.getD a Value.none= .ref p1:=v1;have v2':ks.getD b Value.none= .ref p2:=v2;rw[v1',v2'];obtain⟨o1,X3,n1,Hj,hc1,mv,Tx⟩:=Ii.tupI g2;obtain⟨o2,G6,n2,RP,ML,hd2,Tz⟩:=Ii.tupI g4;refine kat_lt Hj mv RP hd2 ?_;have l1:=Tx.length;have l2:=Tz.length;have m1:ts.getD a []∈ts:=by rw[aj,ag (show a < ts.length by lia)]; exact bN _
    have m2:ts.getD b []∈ts:=by rw[aj,ag (show b < ts.length by lia)]; exact bN _
    have kx:=nN (prog:=X.prog) (w:=X.w) (A:=X.A.in1.in1) (b:=true) (Q:=C) (s:=si) 0 Tx Tz (by rw[JA _ m1 _ m2]; exact q');rw[bA,bA,l1,l2];exact kx
   ·have In:=Ii.jd;have bt:nR (DZ X.stack) [D,kS] si.heap h5:=fun b o z nb=>by
     have n1:b≠D:=fun w=>nb (by simp[w]);have n2:b≠kS:=fun w=>nb (by simp[w]);have e:=(F9 b n1 n2).trans z;exact⟨fun _=>e,o.slots,e⟩
    have I5:=In.but bt (fun cc hc=>by
     rcases aw.mp hc with rfl|hc
     ·exact⟨w2,Oo⟩
     ·rw[au.mp hc];exact⟨M0,Ql⟩)
    have kQ:=Ua.size;have I6:=I5.T8 (D:=D) (o:= .lst (pr.toList.map fun i=>xs.getD i .en)) w2 ⟨by rw[ae,o5,kQ]; exact aR (iM hl.symm) hz,_,n,sW Yt pr.toList,Wk⟩ Oo (aR I2.sz RX);refine⟨.ref D,_,I6,rfl,fin D pr.toList _ ?_ ?_ (Wi.new w2) (Yu.upd w2) (I1.b9.fresh (aR Ym RX)) af⟩
    ·have:=Ua.list;rwa [← hl] at this
    ·exact uc kQ hUp
  |cons v r ih=>
   intro i ks bf Hi si hr hi Ii hk M0 Wi Yu Wj hT rk;have uM:i < xs.length:=by
    have:=dr List.length hr;rw[bJ,mY] at this;lia
   have hv:v=b0.getD i Value.none/\r=b0.drop (i + 1):=by
    rw[OZ (by lia)] at hr;injection hr with h1 h2;refine⟨?_,h2⟩;rw[h1,aj,ag (by lia)];rfl
   obtain⟨hv,Ub⟩:=hv;obtain⟨ek,hk⟩:=hk;have Ip:Inv X (pins ++ [(f,RY),(D,seqObj "list" #[] e1)] ++ [(kS,seqObj "list" ks.toArray ek)]) σ Hi si:=Ii.uX fun p hp=>by
    rcases bg.mp hp with hp|hp
    ·exact Ii.pin p (bB _ hp)
    ·rw[au.mp hp];exact⟨hk,M0,Ql.2.1,I2.GX Wh,fun v z=>by cases z⟩
   have Yv:si.heap.get? f=some RY:=(Ip.pin (f,RY) (List.mem_append_right _ (List.mem_append_left _ (List.mem_append_right _ (by simp))))).1;have sD:si.heap.CodeRec (.ref c') (X.env.qual ++ "<lambda>"):=(Ip.b9 c' _ Wj).1;have rvi:=jN Yt i;rw[← hv] at rvi;show wpAny _ _ (call (.ref f) [v]) _ _ si;refine cm (Kp (us:=[v]) (vs:=[xs.getD i .en]) (R:=fun y H'=> ∃p,y= .ref p/\Hi p=none/\H'=upd Hi p (.tup ((ts.getD i []).map V.int))) (xe:=fun _ _=>False) Ip Ip.JE.in1.in1 dp (by rw[Yv,← T9]) sD S (hb _ _ _ _) rfl (.cons rvi .nil) (fW _ _ _ _ _)
    (hbd i uM Hi Wi _ fun p hp=>⟨p,rfl,hp,rfl⟩)) (fun u s5 h5=>?_) fun _ _ z=>z
   obtain⟨y,H5,I5,ry,pp,rfl,Jd,rfl⟩:=h5;obtain rfl:u=Value.ref pp:=ry;obtain⟨z1,z2,_⟩:=I5.pin (kS,seqObj "list" ks.toArray ek) (List.mem_append_right _ (List.mem_append_right _ (by simp)));refine⟨ek,z1,fun h6 cc sb hk6=>?_⟩;have I6:Inv X (pins ++ [(f,RY),(D,seqObj "list" #[] e1)]) σ _ _:=Inv.jd I5;have I7:=I6.turned (t':=s5.toks) (it:=kS) (h':=h6) (fun b o n z=>(sb.2 b n).trans z) z2 Ql.2.1 Ql.1 Ql.2.2.1 (fun p hp=>by
    rcases bg.mp hp with hp|hp
    ·exact Ql.2.2.2 p (c9 _ hp)
    ·rcases bg.mp hp with hp|hp
     ·exact Ql.2.2.2 p (bB _ hp)
     ·rcases aw.mp hp with rfl|hp
      ·exact fK
      ·rw[au.mp hp];exact neD)
   have cpp:c'≠pp:=aI Wj Jd;refine ih (i + 1) (ks ++ [.ref pp]) (bf ++ [.ref pp]) _ _ Ub uM I7 ⟨cc,hk6⟩ z2 (Wi.new Jd) (Yu.upd Jd) (by rw[aB cpp]; exact Wj) ?_ (rk.append (show Vals [V.ref pp] [Value.ref pp] from .cons rfl .nil));rw[take_succ_getD (d:=[]) (by lia)];exact gv.snoc (hT.mono fun b xs z=>by rw[aB (aI z Jd)]; exact z) af
 have Ip:Inv X (pins ++ [(f,RY),(D,seqObj "list" #[] e1)]) σ H2 {s2 with heap:=h'}:=I3.uX fun p hp=>by
  rcases bg.mp hp with hp|hp
  ·exact I3.pin p (bB _ hp)
  ·rcases aw.mp hp with rfl|hp
   ·exact⟨kp _ _ Qh,Mi,nwf.2.1,I1.GX hle,fun v z=>by rw[← T9] at z; cases z⟩
   ·rw[au.mp hp];exact⟨d1,HD,Oo.2.1,I2.GX RX,fun v z=>by cases z⟩
 exact loop b0 0 [] [] H2 _ rfl (bu _) Ip ⟨0,k1⟩ HK fr2 tb2 Wf .nil .nil
end
def HG {P:Program}{w:World}{K:Frag}{mg mb:Str->Option Value}{CX:Fx}{k:Nat}{fa a:Addr}{fd:FuncData}{x:Str}{sp:Sp}{s₁:Shared}{vs:List Value}{ns:List Int}{cps:List (Addr×Addr)}
  (KX:K.In s₁.heap) (hns:s₁.heap.Ns mainGlobals mg) (hb:s₁.heap.Ns builtinsNs mb) (hbb: ∀x:Str,x≠"__name__"->mb x=bootBuiltins x) (Yw:s₁.heap.NoLimit) (hg:s₁.gens= #[])
  (ha:s₁.heap.get? a=some {cls:= .type "list",data:= .seq vs.toArray}) (hi:IntsAre vs ns) (hl:ns.length<=sizeLine) (hr:eY k callerA)
  (bm:BMain mg s₁.heap) (RW: ∀cp∈cps,s₁.heap.get? cp.2=some (tabObj #[])) (Uc: ∀cp∈cps,codeHdIn K cp.1 cp.2=true/\K.lookup cp.2=none)
  (F: ∀base:Heap,K.In base->base.Ns mainGlobals mg->BMain mg base->mf P w K mg base CX k fa fd [x] sp) (Ud: ∀(s:Shared) (u:Value),BindsTo s fd ⟨[u],[]⟩ [(x,u)])
  (xG: ∀H:Hp,(∀cp∈cps,H cp.2=some (.nA #[]))->bD K H a (ns.map V.int)->sp [.ref a] H (fun v _=>v= .bl true) fun _ _ _=>False)
  (hCX: ∀H e s',CX [] H s₁ (fun _ _ _=>False) e s'->False):
  codeAny (model P w) callerA (.call (.ref fa) ⟨[.ref a],[]⟩) (fun r s'=>r= .ok (.ret (.bool true))/\OldK s₁.heap s'.heap/\s'.os=s₁.os/\AllBare s'.gens) s₁:=by
 have rv:=yU hi;have Ue:=hi.length;have aT: ∀cp∈cps,cp.2≠a:=fun cp hc z=>by
  have e:=RW cp hc;rw[z,ha] at e;cases e
 have core: ∀H:Hp,(∀b,H b=none∨(b=a/\H b=some (.DI {cls:= .type "list",data:= .seq vs.toArray} (.lst (ns.map V.int)))/\K.lookup a=none)∨ ∃cp∈cps,b=cp.2/\H b=some (.nA #[]))->(∀cp∈cps,H cp.2=some (.nA #[]))->bD K H a (ns.map V.int)->
   codeAny (model P w) callerA (.call (.ref fa) ⟨[.ref a],[]⟩) (fun r s'=>r= .ok (.ret (.bool true))/\OldK s₁.heap s'.heap/\s'.os=s₁.os/\AllBare s'.gens) s₁:=by
  intro H hO hT hS;have b9:o6 P w H s₁.heap:=fun b u z=>by
   rcases hO b with w|⟨rfl,w,_⟩|⟨cp,hc,rfl,w⟩
   ·rw[z] at w; cases w
   ·rw[z] at w;cases w;exact⟨ha,by rw[ae]; exact hl,vs,_,rv,ha⟩
   ·rw[z] at w;cases w;exact RW cp hc
  have Ad: ∀{b:Addr} {o:Obj},s₁.heap.get? b=some o->H b=none->(xC s₁.heap H).get? b=some o:=fun e n=>Jq e n;have noD: ∀{b:Addr} {o:Obj},s₁.heap.get? b=some o->((∃es ep,o.data= .dict es ep)∨o.data= .plain)->H b=none:=fun{b o} e d=>by
   rcases hO b with w|⟨rfl,w,_⟩|⟨cp,hc,rfl,w⟩
   ·exact w
   ·rw[ha] at e;cases e;rcases d with⟨es,ep,d⟩|d <;> cases d
   ·rw[RW cp hc] at e;cases e;rcases d with⟨es,ep,d⟩|d <;> cases d
  have Wl: ∀{b:Addr} {m:Str->Option Value},s₁.heap.Ns b m->(xC s₁.heap H).Ns b m:=fun{b m} ⟨o,es,ep,e,d,r⟩=>⟨o,es,ep,Ad e (noD e (.inl ⟨es,ep,d⟩)),d,r⟩;have hKb:K.In (xC s₁.heap H):=fun b o e=>Ad (KX b o e) (by
   rcases hO b with w|⟨rfl,w,hk⟩|⟨cp,hc,rfl,w⟩
   ·exact w
   ·rw[hk] at e; cases e
   ·rw[(Uc cp hc).2] at e; cases e)
  have hBb:BMain mg (xC s₁.heap H):=by
   obtain⟨b,o,b1,b2,b3,b4,b5,b6,b7⟩:=bm;exact⟨b,o,b1,b2,b3,Ad b4 (noD b4 (.inr b7)),b5,b6,b7⟩
  have hM:Mod K mg (xC s₁.heap H):=⟨hKb,Wl hns,⟨mb,Wl hb,hbb⟩,let⟨mc,h1,h2⟩:=Yw; ⟨mc,Wl h1,h2⟩⟩;have e0:qW P w K mg (xC s₁.heap H) callerA [] s₁ H:=⟨rfl,hM,fun b o e=>Me e,Nat.le_of_eq (GW _ _),trivial,fun b hb=>absurd (show b∈([]:List Addr) from hb) (by simp),b9,.of_eq hg⟩;refine DX ((F _ hKb (Wl hns) hBb).run callerA [] s₁ H ⟨[.ref a],[]⟩ [.ref a] [.ref a] _ _ hr e0 (Ud s₁ (.ref a)) (.cons rfl .nil) (xG H hT hS)) fun r s' h=>?_;cases r with
  |error e=>exact(hCX H e s' h).elim
  |ok fl=>
   cases fl with
   |next=>exact False.elim h
   |brk=>exact False.elim h
   |cont=>exact False.elim h
   |ret u=>
    obtain⟨v,H',os,bare,un,Ug,r',q⟩:=h;have q':v= .bl true:=q;subst q';obtain rfl:u=Value.bool true:=r';have old: ∀b o,s₁.heap.get? b=some o->asItWas s₁.heap s'.heap b o:=fun b o e=>by
     rcases hO b with z|⟨rfl,z,_⟩|⟨cp,hc,rfl,z⟩
     ·exact .inl (un.keep b o e z (by intro w; exact absurd (show b∈([]:List Addr) from w) (by simp)) (by simp))
     ·have z2:=un.pY b _ _ z;obtain⟨e2,_⟩:=Ug b _ z2;rw[ha] at e;cases e;exact .inl e2
     ·obtain⟨more,z2⟩:=un.pZ _ _ z;have e2:s'.heap.get? cp.2=some (tabObj (#[] ++ more)):=Ug _ _ z2;have e1:=RW cp hc;rw[e1] at e;cases e;obtain⟨oc,ws,_,_,_,_,_,_,_,c1,c2,c3,c4,_⟩:=codeHd_of_K KX (Uc cp hc).1;exact .inr (.inl ⟨⟨cp.1,oc,ws,c1,c2,c3,c4⟩,rfl,#[],more,rfl,e2⟩)
    refine⟨rfl,⟨old,fun b o e=>?_⟩,os,bare⟩;exact un.there b o e (by simp)
 cases hk:K.lookup a with
 |some o=>
  have e:=KX a o hk;rw[ha] at e;cases e;refine core (fun b=>if b∈cps.map (·.2) then some (.nA #[]) else none) (fun b=>?_) (fun cp hc=>if_pos (List.mem_map.mpr ⟨cp,hc,rfl⟩)) (.inr ⟨_,vs.toArray,_,hk,rfl,rfl,rfl,by rw[List.size_toArray,Ue]; exact hl,by simpa using rv⟩);by_cases hb:b∈cps.map (·.2)
  ·obtain⟨cp,hc,rfl⟩:=bF.mp hb;exact .inr (.inr ⟨cp,hc,rfl,a0 hb⟩)
  ·exact .inl (aQ hb)
 |none=>
  have na:a∉cps.map (·.2):=fun h=>by
   obtain⟨cp,hc,z⟩:=bF.mp h;exact aT cp hc z
  refine core (fun b=>if b=a then some (.DI {cls:= .type "list",data:= .seq vs.toArray} (.lst (ns.map V.int))) else if b∈cps.map (·.2) then some (.nA #[]) else none) (fun b=>?_) (fun cp hc=>?_) (.inl (.inr ⟨{cls:= .type "list",data:= .seq vs.toArray},a0 rfl⟩))
  ·by_cases h1:b=a
   ·exact .inr (.inl ⟨h1,by rw[a0 h1],hk⟩)
   ·by_cases hb:b∈cps.map (·.2)
    ·obtain⟨cp,hc,rfl⟩:=bF.mp hb;exact .inr (.inr ⟨cp,hc,rfl,by rw[aQ h1,a0 hb]⟩)
    ·exact .inl (by rw[aQ h1,aQ hb])
  ·show(if cp.2=a then _ else if cp.2∈cps.map (·.2) then _ else _)=_;rw[aQ (aT cp hc),a0 (bF.mpr ⟨cp,hc,rfl⟩)]
def Ks {l:PySem.W.OpenLaw}{n k:Nat}{q:Program}{loose:List Str}{XP:(Str->Option Value)->Heap->Prop}{YP:World->Heap->Prop}{d:DefRec}{K:Params->Frag}{ts:List Addr}{sp:Frag->List (Addr×Addr)->Sp}{x:Str}
  (hn:l.most=some n) (V0:n<=sizeLine) (XN:d.params.defaults=[]) (hr:eY k callerA)
  (hY: ∀(w:World) (h:Heap),YP w h->(K w.params).In h/\ ∀P∈ts,h.get? P=some (tabObj #[]))
  (F: ∀(w:World) (mg:Str->Option Value) (fa:Addr) (h:Heap),(K w.params).In h->h.Ns mainGlobals mg->mg d.name=some (.ref fa)->
   ∃(fd:FuncData) (cps:List (Addr×Addr)),(∀cp∈cps,cp.2∈ts)/\(∀cp∈cps,codeHdIn (K w.params) cp.1 cp.2=true/\(K w.params).lookup cp.2=none)/\(∀(s:Shared) (u:Value),BindsTo s fd ⟨[u],[]⟩ [(x,u)])/\
    ∀base:Heap,(K w.params).In base->base.Ns mainGlobals mg->BMain mg base->mf l.prog w (K w.params) mg base sU k fa fd [x] (sp (K w.params) cps))
  (xG: ∀(K:Frag) (cps:List (Addr×Addr)) (H:Hp) (a:Addr) (ns:List Int),ns.length<=n->(∀cp∈cps,H cp.2=some (.nA #[]))->bD K H a (ns.map V.int)->sp K cps [.ref a] H (fun v _=>v= .bl true) fun _ _ _=>False):
  PySem.W.WalkO q loose XP YP l.row.toRowW d [] (fun f vs=>PySem.call f vs):=by
 refine Att.Cd hn XN fun w s₀ s₁ mg mb fa o pm cd doc a vs ns G Y ho hd sD Tg PL hints hlen hg=>?_;obtain⟨KX,hT⟩:=hY w _ Y;obtain⟨fd,cps,h1,h2,hb,hF⟩:=F w mg fa _ KX G.T.g Tg;obtain⟨bm,ob,b1,b2,b3,b4,b5,b6⟩:=G.T.bmain;have b7:bm≠mainGlobals:=fun z=>by
  obtain⟨o',es,ep,e,DJ,_⟩:=G.T.g;rw[z,e] at b3;cases b3;rw[DJ] at b6;cases b6
 exact HG KX G.T.g G.T.b G.T.builtins G.T.nolimit hg PL hints (aR hlen V0) hr ⟨bm,ob,b1,b2,b7,b3,b4,b5,b6⟩ (fun cp hc=>hT _ (h1 cp hc)) h2 hF hb (fun H hO hS=>xG _ cps H a ns hlen hO hS) fun H e s' z=>z
def Kt {C:Fx}{P:Program}{w:World}{K:Frag}{mg:Str->Option Value}{base:Heap}{N:List Str}{q:Str}{sc:Scope}{f:Addr}{cd:Value}{A:Around}{o:List Env}{s:Shared}{H:Hp}{E:XK}:(lq C P w K mg base N q sc f cd A o s H E).D4.K=K:=rfl
section
variable {X:Cx}{K:Frag}{x:Str}{k n:Nat}{ps:List Str}{sp:Sp}{e:Expr}{es:List Expr}{t:TA}{p pos:Pos}
def fc (C:eO X.prog X.w X.K X.mg X.base x k ps sp)(hr:eY n X.A)(ha:PA X (e :: es) t)(hle:k<=n:=by decide)(hg:Gl X x:=by rfl)(qX:(x == ("__debug__":Str))=false:=by decide)
  (he:starEach (e :: es) X.env=(false,eval e X.env) :: starEach es X.env:=by rfl) (gQ:(backTo pos (starEach es X.env)).any (·.1)=false:=by rfl):PE X (.Call (.Name x p) (e :: es) [] pos) (vA sp [] E0 t):=Tq C (hr.mono hle) hg ha qX he gQ
def sv (i:Nat){te:TE}{pos':Pos}(hN:X.N.Nodup)(he:PE X e te)(hi:X.N[i]? =some x:=by rfl)(hx:Loc X.env.scope x:=by first|exact Or.inl rfl|exact Or.inr rfl)(hs:swapsWith e (some (.Name x pos')) pos.line X.env=pure false:=by rfl)(hf:X.fn x=true∨X.env.scope.names.lookup x=some .local:=by first|exact .inl rfl|exact .inr rfl|assumption):
  PS X (.Assign [.Name x pos'] e pos) (Mm te (BW i)):=Pc hN hi hx he hs hf
def gn (i:Nat)(hN:X.N.Nodup)(hi:X.N[i]? =some x:=by rfl)(hx:Loc X.env.scope x:=by first|exact Or.inl rfl|exact Or.inr rfl)(hf:X.fn x=true∨X.env.scope.names.lookup x=some .local:=by first|exact .inl rfl|exact .inr rfl|assumption):PG X (.Name x pos) (BW i):=eo hN hi hx hf
def xl {a b:Expr}{ta tb:TE}(ha:PE X a ta)(hb:PE X b tb)(hs:zO b:=by exact fun _ _=>rfl)(hK:X.K=K:=by first|with_reducible exact Kt|with_reducible exact kx|rfl):PE X (.Subscript a b pos) (RK (Pn K) ta tb):=by subst hK; exact ix zP ha hb hs
def xt {a b:Expr}{ta tb:TE}(ha:PE X a ta)(hb:PE X b tb)(hs:zO b:=by exact fun _ _=>rfl)(hK:X.K=K:=by first|with_reducible exact Kt|with_reducible exact kx|rfl):PE X (.Subscript a b pos) (RK (Pp K) ta tb):=by subst hK; exact ix Ed ha hb hs
def rD {tg l:Expr}{tl:TE}(hl:PE X l tl)(hK:X.K=K:=by first|with_reducible exact Kt|with_reducible exact kx|rfl):PI X tg l (N7 K tl):=by subst hK; exact Mn hl
def gT {es:List Expr}{k:Nat}{t:Ml}{n:Nat}(h:Js X es t)(hc:X.calm=true:=by rfl)(hn:(assignEach es X.env).length=n:=by first|exact(rfl:_ =2)|exact(rfl:_ =3)|exact(rfl:_ =4)|rfl)(sE:(assignEach es X.env).findIdx? (·.1)=none:=by rfl)(hK:X.K=K:=by first|with_reducible exact Kt|with_reducible exact kx|rfl):PG X (.Tuple es k pos) (Pb K n t):=by subst hK; exact Jt hc h hn sE
def RZ (hK:X.K=K:=by first|with_reducible exact Kt|with_reducible exact kx|rfl):Mu X (SW K):=by subst hK; exact Mw
def kg {f:Str}{ta:TE}(he:PE X e ta)(hb:attributeBase e f X.env (eval e X.env)=eval e X.env:=by rfl)(hK:X.K=K:=by first|with_reducible exact Kt|with_reducible exact kx|rfl):PE X (.Attribute e f pos) (Pj K ta f):=by subst hK; exact JD he hb
def mE {o value:Expr}{f:Str}{pos':Pos}{ta tv:TE}(ha:PE X o ta)(hv:PE X value tv)(hs:swapsWith value (some (.Attribute o f pos')) pos.line X.env=pure false:=by rfl)(hK:X.K=K:=by first|with_reducible exact Kt|with_reducible exact kx|rfl):PS X (.Assign [.Attribute o f pos'] value pos) (SR K ta tv f):=by subst hK; exact Pl ha hv hs
end
inductive EvN (xs:List V)(S:Addr->List V->Prop)(k:Int->Prop):Prop
 |mk (p:Addr)(ys:List V)(h:xs=[.ref p])(s:S p ys)(q:k ys.length):EvN xs S k
def Uh (K:Frag):List V->Hp->VK->Prop:=fun xs H Q=>EvN xs (fun p ys=>bD K H p ys∨cy K H p ys) fun n=>Q (.int n) H
def HI {X:Cx}:hV X (.builtin "len") (Uh X.K):=fun pins s σ H xs us Q I rv h=>zS pins s σ H xs us Q I rv (by obtain⟨p,ys,e,z,q⟩:=h; exact⟨p,ys,e,z,q⟩)
inductive EvS (K:Frag)(xs:List V)(H:Hp)(k:Bool->Prop):Prop
 |mk (x:V)(c:String)(t:Value)(b:Bool)(h:xs=[x,.ty c])(ty:m9 K H x t)(e:PySem.W.kitOne K t (.type c)=some b)(q:k b):EvS K xs H k
def rIs (K:Frag):List V->Hp->VK->Prop:=fun xs H Q=>EvS K xs H fun b=>Q (.bl b) H
def Ku {X:Cx}:hV X (.builtin "isinstance") (rIs X.K):=fun pins s σ H xs us Q I rv h=>El pins s σ H xs us Q I rv (by obtain⟨x,c,t,b,e,ty,z,q⟩:=h; exact⟨x,c,t,b,e,ty,z,q⟩)
section
variable {X:Cx}{K:Frag}{o e:Expr}{p pos apos fJ:Pos}{to te:TE}
def lz (hm:X.mg "len"=none)(h:PE X e te)(hg:Gl X "len":=by rfl)(he:starEach [e] X.env=(false,eval e X.env) :: starEach [] X.env:=by rfl)(gQ:(backTo pos (starEach [] X.env)).any (·.1)=false:=by rfl)(hK:X.K=K:=by first|with_reducible exact Kt|with_reducible exact kx|rfl):PE X (.Call (.Name "len" p) [e] [] pos) (V3 (Uh K) (BZ te BY)):=by
 subst hK;exact fk HI hg hm PySem.boot_len (aa h ao he) (by decide) (by decide) he gQ
def uO {c:String}{y:Str}{p2:Pos}(hm:X.mg "isinstance"=none)(hy:X.mg y=none)(hb:bootBuiltins y=some (.type c))(h:PE X e te)(hg:Gl X "isinstance":=by rfl)(hg2:Gl X y:=by rfl)(hn:y≠"__name__":=by decide)(hd:(y == ("__debug__":Str))=false:=by decide)(he:starEach [e,.Name y p2] X.env=(false,eval e X.env) :: starEach [.Name y p2] X.env:=by rfl)(XT:starEach [.Name y p2] X.env=(false,eval (.Name y p2) X.env) :: starEach [] X.env:=by rfl)(gQ:(backTo pos (starEach [.Name y p2] X.env)).any (·.1)=false:=by rfl)(hK:X.K=K:=by first|with_reducible exact Kt|with_reducible exact kx|rfl):PE X (.Call (.Name "isinstance" p) [e,.Name y p2] [] pos) (V3 (rIs K) (BZ te (BZ (tC (.ty c)) BY))):=by
 subst hK;exact fk Ku hg hm boot_isinstance (aa h (aa (zJ (v:= .ty c) hg2 hy hb rfl hn hd) ao XT) he) (by decide) (by decide) he gQ
def qv (ho:PE X o to)(h:PE X e te)(q0:attributeBase o "append" X.env (eval o X.env)=eval o X.env:=by rfl)
  (Pu:((backTo fJ (starEach [e] X.env)).all (fun x=> !x.1) && (backToKw fJ (keywordEach [] X.env)).all (fun x=>x.1.isSome)
   && decide ([e].length + ([]:List Keyword).length + (if([]:List Keyword).isEmpty then 0 else 1) < 30))=true:=by rfl)
  (vC:(apos.endLine == fJ.line)=true:=by rfl) (hs:starEach [e] X.env=(false,eval e X.env) :: starEach [] X.env:=by rfl) (vD:(backTo fJ (starEach [] X.env)).any (·.1)=false:=by rfl) (hK:X.K=K:=by first|with_reducible exact Kt|with_reducible exact kx|rfl):PE X (.Call (.Attribute o "append" apos) [e] [] fJ) (tBM K "list" FF to (BZ te BY)):=by
 subst hK;exact SX PySem.F.plainAttrs_list PySem.F.slot_list_append PySem.F.type_list_append yR ho (aa h ao hs) q0 Pu vC hs vD
end
def Df.fb {P:Program}{w:World}{K:Frag}{mg:Str->Option Value}{base:Heap}{x:Str}{st:Stmt}{N ps:List Str}{k:Nat}{sp:Sp}(D:Df K mg x st)(S:aV N ps (aA st))
  (fW: ∀(f:Addr) (cV:Value) (A:Around) (outer:List Env) (s:Shared) (H:Hp) (vs:List V) (Q:VK) (E:XK),eY k (A.deeper (envOfC x (aA st) s.heap.objs.size f cV))->sp vs H Q E->
   ∃t,pC (lq sU P w K mg base N x (aA st) f cV A outer s H E).D4 (dH st) t/\t {nx:=fun _ H'=>Q .en H',rt:=Q} (start N vs) H)
  (hb: ∀(kV doc pm:Value) (an:Option Addr) (cV ct:Value) (us:List Value),us.length=ps.length->bindArgs (fnOf x x (gG st) (dH st) (aA st) .none kV doc pm an cV ct) ⟨us,[]⟩=pure (ps.zip us):=by intro _ _ _ _ _ _ us hl; rcases us with _|⟨_,_|⟨_,_|⟨_,_|⟨_,_|⟨_,_|⟨_,_|⟨_,_⟩⟩⟩⟩⟩⟩⟩ <;> first|(cases hl; done)|rfl)
  (len: ∀vs H Q E,sp vs H Q E->vs.length=ps.length:=by intro _ _ _ _ h; first|(cases h; subst_vars; rfl)|(repeat (first|(obtain⟨rfl,_⟩:=h; rfl; done)|obtain⟨_,h⟩:=h))):eO P w K mg base x (k + 1) ps sp:=D.cal S hb len fW
end L2
namespace eJ
open PySem L2 PyProof.Rows LW
seal L2.pC L2.PS L2.PE L2.PT L2.PW L2.PA L2.PC L2.PG L2.Js L2.PI L2.MB L2.LR L2.PO L2.oP L2.N9 L2.hV L2.JJ L2.Mu
def top (i:Nat):Stmt:=PySem.Challenge.pw_spikebook_k07_whole_undone_as_never.main.body.getD i (.Pass ⟨0,0,0,0⟩)
structure Txt (K:Frag)(mg:Str->Option Value):Prop where
 Ex:Df K mg "place_of" (top 1)
 Qm:Df K mg "fits" (top 15)
 xQ:Df K mg "counts_from" (top 16)
 HJ:Df K mg "bills_in_order" (top 17)
 Ey:Df K mg "credits_in_order" (top 18)
 M3:Df K mg "alike" (top 20)
 xR:Df K mg "first_alike" (top 21)
 Ae:Df K mg "shared_out" (top 22)
 Ez:Df K mg "parts_of" (top 23)
 wg:Df K mg "check_amount" (top 26)
 xS:Df K mg "row_of_fits" (top 27)
 Qn:Df K mg "done" (top 30)
 Af:Df K mg "done_again" (top 31)
 HL:Df K mg "answers" (top 33)
 EA:Df K mg "settings" (top 34)
 Ag:Df K mg "answers_in" (top 35)
 Ct:Df K mg "answer_of" (top 36)
 HM:Df K mg "owed_at" (top 37)
 HN:Df K mg "free_at" (top 38)
 wj:Df K mg "remaining_at" (top 39)
 xT:Df K mg "counting_at" (top 40)
 Cu:Df K mg "counts_at" (top 41)
 HP:Df K mg "ages_at" (top 42)
 Cv:Df K mg "_law_room" (top 44)
 Cw:Df K mg "_law_draw" (top 45)
 Ah:Df K mg "_law_whole" (top 46)
 HQ:Df K mg "_law_at" (top 47)
 Ai:Df K mg "_law_alike" (top 48)
 xU:Df K mg "_law_people" (top 49)
 xV:Df K mg "_law_penned" (top 50)
 xW:Df K mg "_law_chosen" (top 51)
 Aj:Df K mg "_law_hasty" (top 52)
 xX:Df K mg "_law_due_in" (top 53)
 Ak:Df K mg "_law_deeds" (top 54)
 Al:Df K mg "_law_begun" (top 55)
 Cy:Df K mg "_law_goes" (top 56)
 EB:Df K mg "_law_put" (top 57)
 wm:Df K mg "_law_in_turn" (top 58)
 Am:Df K mg "_law_swept" (top 59)
 xY:Df K mg "_law_barred" (top 60)
 An:Df K mg "_law_enter" (top 61)
 xZ:Df K mg "_law_worked" (top 62)
 Ao:Df K mg "_law_tells" (top 63)
 Cz:Df K mg "_law_done" (top 64)
 ya:Df K mg "_law_at_day" (top 65)
 pj:Df K mg "_law_gone_through" (top 66)
 wo:Df K mg "_law_needing" (top 67)
 aba:Df K mg "law" (top 68)
 dk:mg "len"=none
 c8:mg "isinstance"=none
 zd:mg "int"=none
 Qo:mg "bool"=none
 Ga:mg "str"=none
 nS:mg "list"=none
 u0:mg "tuple"=none
 kX:mg "range"=none
 Kv:mg "min"=none
 Kw:mg "max"=none
 Kx:mg "sum"=none
 rE:mg "sorted"=none
 jj:mg "enumerate"=none
 Qp:mg "dict"=none
 CA:mg "Exception"=none
end eJ
namespace L2
open PySem PySem.Spec PySem.W PyProof.Rows LW
structure Yx (P:Program)(w:World)(K:Frag)(mg:Str->Option Value)(base:Heap)(k:Nat)(fa:Addr)(sp:Sp):Prop where
 ex: ∃(fd:FuncData) (ps:List Str),mf P w K mg base sU k fa fd ps sp/\keepIn K (.ref fa)=true/\Binds K fd ps []
def eO.fnv {P:Program}{w:World}{K:Frag}{mg:Str->Option Value}{base:Heap}{x:Str}{k:Nat}{ps:List Str}{sp:Sp}(C:eO P w K mg base x k ps sp): ∃fa,mg x=some (.ref fa)/\Yx P w K mg base k fa sp:=by
 obtain⟨f,fd,F,hm,hk,hb⟩:=C.ex;exact⟨f,hm,⟨fd,ps,F,hk,hb⟩⟩
section
variable {X:Cx}{x:Str}{i k:Nat}{e:Expr}{es:List Expr}{t:TA}{p pos:Pos}
def Qq (P:Program)(w:World)(K:Frag)(mg:Str->Option Value)(base:Heap)(k i:Nat)(t:TA):TE:=fun σ H Q=> ∃fa sp,σ[i]? =some (some (.ref fa))/\Yx P w K mg base k fa sp/\t σ H fun vs H1=>sp vs H1 Q E0
def Qr (hr:eY k X.A)(hN:X.N[i]? =some x)(hv:Su X.env.scope x)(ha:PA X (e :: es) t)(hd:(x == ("__debug__":Str))=false:=by decide)(sD:(x == ("__classdict__":Str))=false:=by decide)
  (he:starEach (e :: es) X.env=(false,eval e X.env) :: starEach es X.env:=by rfl) (gQ:(backTo pos (starEach es X.env)).any (·.1)=false:=by rfl):PE X (.Call (.Name x p) (e :: es) [] pos) (Qq X.prog X.w X.K X.mg X.base k i t):=by
 rintro pins s σ H Q I ⟨fa,sp,e1,⟨fd,ps,F,hk,hb⟩,h⟩;refine eK (dS (D0 hN hv hd sD pins s σ H (fun v H'=>v= .ref fa/\H'=H) I ⟨_,e1,rfl,rfl⟩) ?_);rintro u s1 ⟨v,H1,I1,rv,rfl,rfl⟩;obtain rfl:u=Value.ref fa:=rv;refine kI (h₀:=X.base) I.ok.mod.Mf hk (dS (ha pos pins s1 σ H1 _ I1 h) fun us s2 ⟨vs,H2,I2,r,q⟩=>⟨I2.gJ,?_⟩) he gQ;exact zM F hr hb .nil nK I2 r (by rw[bS]; exact q)
end
def CB {X:Cx}:hV X (.type "dict") (fun xs H Q=> ∃a bf,xs=[.ref a]/\H a=some (.dK bf)/\ ∀p,H p=none->Q (.ref p) (upd H p (.dK bf))):=by
 intro pins s σ H xs us Q I r h;obtain⟨a,bf,rfl,e,q⟩:=h;obtain⟨u,rfl,ru⟩:=vals1 r;cases ru;exact JT I (.inl e) fun p s' hp I'=>⟨.ref p,_,I',rfl,q p hp⟩
def Gb (P:Program)(w:World)(d:Addr)(bf:List (Key×V))(φ:Heap->Prop):Prop:=(∀(H:Hp) (h:Heap),φ h->dG P w H h d (.dK bf))/\ ∀q:Str,φ≠fun h=>h.CodeRec (.ref d) q
def Ui (P:Program)(w:World)(td:TE)(g:TG)(tb:TS):TS:=fun D σ H=>td σ H fun v H1=> ∃d bf,v= .ref d/\H1 d=some (.dK bf)/\ ∀φ,Gb P w d bf φ->
 ∃W:Nat->Nat->St->Hp->Prop,(∃m,W 0 m σ (upd H1 d (.ext φ)))/\ ∀i m σ' H',W i m σ' H'->H' d=some (.ext φ)/\((bf.length<=i/\D.nx σ' (upd H' d (.dK bf)))∨
  ∃x,(bf.map (·.2))[i]? =some x/\ ∃N:St->Hp->Prop,(∀MG Cg,N MG Cg-> ∃m',m' < m/\W (i + 1) m' MG Cg)/\g x σ' H' fun σ2 H2=>tb {D with nx:=N,ct:=N,bk:=fun _ _=>False} σ2 H2)
def M4 {X:Cx}{tg o:Expr}{apos fJ pos:Pos}{body:List Stmt}{td:TE}{g:TG}{tb:TS}(hp:PassesOwn (model X.prog X.w) X.A X.env X.xe)(hc:X.calm=true)(ho:PE X o td)(hg:PG X tg g)(hb:pC X body tb)
  (q0:attributeBase o "values" X.env (eval o X.env)=eval o X.env:=by rfl) (vC:(apos.endLine == fJ.line)=true:=by rfl)
  (hs: ∀x,foldedSetIterable (.Call (.Attribute o "values" apos) [] [] fJ) X.env x=pure x:=by intro _; rfl):PS X (.For tg (.Call (.Attribute o "values" apos) [] [] fJ) body [] pos) (Ui X.prog X.w td g tb):=by
 intro pins s σ H D I h;refine wpAny_For (wpAny_Call_method0_late q0 vC (dS (ho pins s σ H _ I h) ?_)) hs;rintro u s1 ⟨v,H1,I1,rv,d,bf,rfl,ed,h⟩;obtain rfl:u=Value.ref d:=rv;obtain⟨hz,hd,vs,rel,dd⟩:=FG I1.b9 ed;refine⟨"dict","dict.values",uH,RE,PySem.F.type_dict_values,dd.typeIs,dd.mapOf.noDict,gi rfl (PySem.evalArgs_none ?_)⟩;refine RD RE dd.typeIs PySem.F.entry_dict_values (PySem.F.args_dict_values_1 _) (meets_dict_values (dF X.prog X.w) d hd) ⟨⟨vs,dd⟩,?_⟩;have I2:=I1.kept (t':=s1.toks) (h':=s1.heap.push {cls:= .type "dict_values",data:= .fields #[.ref d]}) (fun b ob e=>az _ e);obtain⟨ep,da⟩:=dd.dictAt;obtain⟨od,es,Qi,r⟩:=id da;have Yy: ∀h:Heap,h.get? d=some od->h.DictAt (dF X.prog X.w) d vs ep:=fun h e=>⟨od,es,e,r⟩;have hKd:Gb X.prog X.w d bf (fun h=>h.get? d=some od):=⟨fun H h e=>⟨hz,hd,vs,rel,⟨od,es,ep,e,r⟩⟩,fun q z=>by
  have z1:(s1.heap.get? d=some od)=s1.heap.CodeRec (.ref d) q:=congrFun z s1.heap;obtain⟨c,o,Yl,t,e1,e2,e3,_⟩:=Eq.mp z1 Qi;cases e1;rw[Qi] at e2;cases e2;rw[r.2.1] at e3;cases e3⟩
 obtain⟨W,⟨m0,w0⟩,turn⟩:=h _ hKd;generalize hh2:s1.heap.push {cls:= .type "dict_values",data:= .fields #[.ref d]}=h2 at I2;have hv2:h2.IsValuesView s1.heap.objs.size d:=by
  rw[← hh2];exact⟨_,bO _ rfl,rfl,rfl⟩
 have Uj:h2.get? d=some od:=by
  rw[← hh2];exact az _ Qi
 refine wpAny_pyIter_values (knd:=dF X.prog X.w) hv2 (Yy _ Uj) ?_;have I3:=I2.kept (t':=s1.toks) (h':=h2.push {cls:= .type "dict_valueiterator",data:= .fields #[.ref d,.int 0 0,.int vs.length 0,.int ep 0]}) (fun b ob e=>az _ e);have Qs:(h2.push {cls:= .type "dict_valueiterator",data:= .fields #[.ref d,.int 0 0,.int vs.length 0,.int ep 0]}).IsValIter h2.objs.size d 0 vs.length ep:=⟨_,bO _ rfl,rfl,rfl⟩;have M5:(h2.push {cls:= .type "dict_valueiterator",data:= .fields #[.ref d,.int 0 0,.int vs.length 0,.int ep 0]}).get? d=some od:=az _ Uj;have DM:H1 h2.objs.size=none:=I2.b9.fresh (aD _);have i9:d≠h2.objs.size:=aI ed DM;have Yz:=I2.GZ (aD _) DM;generalize h2.push {cls:= .type "dict_valueiterator",data:= .fields #[.ref d,.int 0 0,.int vs.length 0,.int ep 0]}=h3 at I3 Qs M5;generalize h2.objs.size=it at Qs DM i9 Yz;have I4:Inv X pins σ (upd H1 d (.ext fun h=>h.get? d=some od)) {s1 with heap:=h3}:=by
  refine I3.write (x:=d) (e:=d) (t':=s1.toks) (h':=h3) (by rw[ed]; exact True.intro) (.inl rfl) (fun _ _ _ q=>q) ⟨od,M5⟩ ?_;exact⟨M5,⟨od,M5⟩,fun h1 h2 q k=>k od q⟩
 have fit:upd H1 d (.ext fun h=>h.get? d=some od) it=none:=by
  rw[aB i9.symm];exact DM
 have Ue:vs.length=bf.length:=(aM rel).symm;refine codeAny_forLoop_any (fun n s'=> ∃i σ' H',Inv X pins σ' H' s'/\s'.heap.IsValIter it d i vs.length ep/\H' it=none/\W i n σ' H') ?_ m0 ⟨0,σ,_,I4,Qs,fit,w0⟩;rintro n s5 ⟨i,σ5,H5,I5,it5,RJ,w5⟩;obtain⟨e5,tn⟩:=turn i n σ5 H5 w5;have YA:s5.heap.get? d=some od:=(I5.b9 d _ e5).1;have f5:vw X pins H5 it:=⟨RJ,Yz.2⟩;obtain⟨f0,f1,f2,f3,f4,f6⟩:=f5;rcases tn with⟨hle,qn⟩|⟨x,hx,N,hN,step⟩
 ·refine dQ hp (wpAny_pyNext_values_end (knd:=dF X.prog X.w) (I5.ok.hd hc) it5 (Yy _ YA) (by rw[jq]; lia) fun h6 eb=>?_);have I6:Inv X pins σ5 H5 {s5 with heap:=h6}:=I5.turned (t':=s5.toks) (fun b o hb e=>eb b o hb e) f0 f1 f3 f4 f6;have od6:h6.get? d=some od:=eb d od i9 YA;have I7:=I6.write (x:=d) (e:=d) (t':=s5.toks) (h':=h6) (o:= .dK bf) (by rw[e5]; exact True.intro) (.inl rfl) (fun _ _ _ q=>q) ⟨od,od6⟩ (hKd.1 _ _ od6);exact jr ⟨σ5,_,I7,qn⟩
 ·rw[aE] at hx;obtain⟨kv,Wm,rfl⟩:=bq.mp hx;obtain⟨ku,hku,e1,ru⟩:=bL rel Wm;obtain⟨k1,u⟩:=ku;refine dQ hp (wpAny_pyNext_values_item (knd:=dF X.prog X.w) it5 (Yy _ YA) hku fun h6 it6 sb=>?_);have I6:Inv X pins σ5 H5 {s5 with heap:=h6}:=I5.turned (t':=s5.toks) (fun b o hb e=>(sb.2 b hb).trans e) f0 f1 f3 f4 f6;obtain⟨oi,Hj,RP,YB⟩:=id it6;refine dQ hp (Fs (s:={s5 with heap:=h6}) Hj RP YB (by decide +kernel) ?_);have I6':Inv X (pins ++ qh [it] h6) σ5 H5 {s5 with heap:=h6}:=I6.pinned (fun b hb=>by rw[au.mp hb]; exact⟨RJ,Yz.2⟩) (fun b hb=>by
   rw[au.mp hb];exact⟨oi,Hj,fun v z=>by rw[YB] at z; cases z⟩)
  refine dQ hp (dS (hg _ _ σ5 H5 kv.2 u _ I6' ru step) fun _ s7 ⟨σ7,H7,I7,q7⟩=>?_);refine dQ hp (dS (hb _ s7 σ7 H7 _ I7 q7) fun f s8 q8=>?_);have again: ∀{σ8:St} {H8:Hp},Inv X (pins ++ qh [it] h6) σ8 H8 s8->N σ8 H8-> ∃m,m < n/\ ∃i σ' H',Inv X pins σ' H' s8/\s8.heap.IsValIter it d i vs.length ep/\H' it=none/\W i m σ' H':=fun{σ8 H8} I8 n8=>by
   obtain⟨m',hm,w8⟩:=hN σ8 H8 n8;have pn:=I8.pin (it,oi) (List.mem_append_right _ (List.mem_append_right _ (jV (by simp) Hj)));exact⟨m',hm,i + 1,σ8,H8,I8.jd,⟨oi,pn.1,RP,YB⟩,pn.2.1,w8⟩
  cases f with
  |next=>obtain⟨σ8,H8,I8,n8⟩:=q8; exact again I8 n8
  |cont=>obtain⟨σ8,H8,I8,n8⟩:=q8; exact again I8 n8
  |brk=>obtain⟨σ8,H8,I8,q8⟩:=q8; exact q8.elim
  |ret v=>obtain⟨x8,σ8,H8,I8,r8,q8⟩:=q8; exact⟨x8,σ8,H8,I8.jd,r8,q8⟩
def Ky {P:Program}{w:World}{td:TE}{g:TG}{tb:TS}{D:Ends}{σ:St}{H1:Hp}{d:Addr}{bf:List (Key×V)}(ed:H1 d=some (.dK bf))
  (h: ∀φ,Gb P w d bf φ-> ∃Pv:Nat->St->Hp->Prop,Pv 0 σ (upd H1 d (.ext φ))/\(∀i σ' H',Pv i σ' H'->H' d=some (.ext φ))/\(∀i x σ' H',(bf.map (·.2))[i]? =some x->Pv i σ' H'->g x σ' H' fun σ2 H2=>tb {D with nx:=Pv (i + 1),ct:=Pv (i + 1),bk:=fun _ _=>False} σ2 H2)/\
   ∀σ' H',Pv bf.length σ' H'->D.nx σ' (upd H' d (.dK bf))):
  ∃d' Kz,V.ref d= .ref d'/\H1 d'=some (.dK Kz)/\ ∀φ,Gb P w d' Kz φ->
 ∃W:Nat->Nat->St->Hp->Prop,(∃m,W 0 m σ (upd H1 d' (.ext φ)))/\ ∀i m σ' H',W i m σ' H'->H' d'=some (.ext φ)/\((Kz.length<=i/\D.nx σ' (upd H' d' (.dK Kz)))∨
  ∃x,(Kz.map (·.2))[i]? =some x/\ ∃N:St->Hp->Prop,(∀MG Cg,N MG Cg-> ∃m',m' < m/\W (i + 1) m' MG Cg)/\g x σ' H' fun σ2 H2=>tb {D with nx:=N,ct:=N,bk:=fun _ _=>False} σ2 H2):=by
 refine⟨d,bf,rfl,ed,fun φ hφ=>?_⟩;obtain⟨Pv,p0,pk,ps,pe⟩:=h φ hφ;refine⟨fun i m σ' H'=>m=bf.length - i/\i<=bf.length/\Pv i σ' H',⟨bf.length,by simp,Nat.zero_le _,p0⟩,?_⟩;rintro i m σ' H' ⟨rfl,hi,p⟩;refine⟨pk i σ' H' p,?_⟩;by_cases iX:i < bf.length
 ·have hg:(bf.map (·.2))[i]? =some bf[i].2:=by rw[aE,ag iX]; rfl
  exact .inr ⟨_,hg,Pv (i + 1),fun MG Cg p'=>⟨bf.length - (i + 1),by lia,rfl,iX,p'⟩,ps i _ σ' H' hg p⟩
 ·have e:i=bf.length:=by lia
  subst e;exact .inl ⟨aD _,pe σ' H' p⟩
def nU {α:Type}(f:α->Int): ∀(l2 l1:List α),l1.Perm l2->l1.Pairwise (fun a b=>f a<=f b)->l2.Pairwise (fun a b=>f a < f b)->l1=l2
 |[],l1,p,_,_=>List.Perm.eq_nil p
 |b :: l2,[],p,_,_=>absurd p.length_eq (by simp)
 |b :: l2,a :: l1,p,h1,h2=>by
  rw[ej] at h1 h2;have hb:b∈a :: l1:=p.mem_iff.mpr ba;have e:a=b:=by
   rcases aw.mp (p.mem_iff.mp (ba (a:=a) (l:=l1))) with e|ha
   ·exact e
   ·rcases aw.mp hb with e|hb
    ·exact e.symm
    ·have z1:=h1.1 b hb;have z2:=h2.1 a ha;lia
  subst e;rw[nU f l2 l1 (List.Perm.cons_inv p) h1.2 h2.2]
def M6 {x y:Int×Nat}(hx:x.2 < 1000)(hy:y.2 < 1000)(h:uN x=uN y):x.2=y.2:=by
 unfold uN at h;lia
def CC {l:List (Int×Nat)}(h: ∀x∈l,x.2 < 1000)(nd:(l.map (·.2)).Nodup):(ez l).Pairwise (fun a b=>uN a < uN b):=by
 have p:=dg l;have Wn:((ez l).map (·.2)).Nodup:=(p.map (·.2)).nodup_iff.mpr nd;have h': ∀x∈ez l,x.2 < 1000:=fun x hx=>h x (p.mem_iff.mp hx);have le:=vQ l;generalize ez l=m at Wn h' le
 induction m with
 |nil=>exact .nil
 |cons a m ih=>
  rw[ej] at le ⊢;rw[de,eV] at Wn;refine⟨fun b hb=>?_,ih Wn.2 (fun x hx=>h' x (aW _ hx)) le.2⟩;have z:=le.1 b hb;have n:uN a≠uN b:=fun e=>Wn.1 (by
   rw[M6 (h' a ba) (h' b (aW _ hb)) e];exact bF.mpr ⟨b,hb,rfl⟩)
  lia
def uP (t:List Int):Int:=t.getD 0 0 * 1000 + t.getD 1 0
def rF {x y:Int×Nat}{u v:List Int}(hx:x.2 < 1000)(hy:y.2 < 1000)(h:x.2=y.2->u=v/\x=y)(hs:HT.lexLt u u=false):HT.lexLt (x.1 :: (x.2:Int) :: u) (y.1 :: (y.2:Int) :: v)=decide (uP (x.1 :: (x.2:Int) :: u) < uP (y.1 :: (y.2:Int) :: v)):=by
 show _ =decide (x.1 * 1000 + (x.2:Int) < y.1 * 1000 + (y.2:Int));rw[HT.mh];by_cases c:x.1=y.1
 ·rw[a0 c,HT.mh];by_cases d:x.2=y.2
  ·rw[a0 (by lia),← (h d).1,hs,br (by lia)]
  ·rw[aQ (by lia)];exact m8.mpr (by lia)
 ·rw[aQ c];exact m8.mpr (by lia)
def uk {ks:List (Int×Nat)}{g:Int×Nat->List Int}{us:List (List Int)}(h: ∀x∈ks,x.2 < 1000)(nd:(ks.map (·.2)).Nodup)(hg: ∀x∈ks,uP (g x)=uN x)(p:us.Perm (ks.map g))(le:us.Pairwise (fun t u=>uP t<=uP u)):us=(ez ks).map g:=by
 refine nU uP _ _ (p.trans ((dg ks).map g).symm) le ?_;rw[sI];refine(CC h nd).imp_of_mem fun{a b} ha hb z=>?_;rw[hg a ((dg ks).mem_iff.mp ha),hg b ((dg ks).mem_iff.mp hb)];exact z
def dh.tk {H H':Hp}{sd:Addr}{S:Bk}{f:fA}(h:dh H sd S f)(k:Frame f.fp H H'):cw H H':=fun b xs e=>k b _ (fun hb=>by
 obtain⟨ms,m1,_⟩:=h.hm;unfold fA.fp at hb;rcases aw.mp hb with rfl|hb
 ·rw[h.hb] at e; cases e
 ·rcases aw.mp hb with rfl|hb
  ·rw[h.hc] at e; cases e
  ·rcases aw.mp hb with rfl|hb
   ·rw[m1] at e; cases e
   ·have rows: ∀(rs:List Rw) (ps:List Addr),eR H rs ps->b∈ps->False:=fun rs ps hr hp=>by
     obtain⟨i,hi⟩:=zI hp;have iX:i < rs.length:=by
      rw[hr.length];exact(ak.mp hi).1
     obtain⟨q,e1,e2⟩:=hr.at iX;rw[e1] at hi;cases hi;rw[e2] at e;cases e
    rcases bg.mp hb with hb|hb
    ·exact rows _ _ h.rb hb
    ·exact rows _ _ h.rc hb) e
def Frame.mF {fp:List Addr}{H1 H2 H3:Hp}(a:ay H1 H2)(b:Frame fp H2 H3):Frame fp H1 H3:=fun x o hx e=>b x o hx (a x o e)
def Frame.cA {fp:List Addr}{H1 H2 H3:Hp}(a:Frame fp H1 H2)(b:ay H2 H3):Frame fp H1 H3:=fun x o hx e=>b x o (a x o hx e)
def Frame.tr {fp:List Addr}{H1 H2 H3:Hp}(a:Frame fp H1 H2)(b:Frame fp H2 H3):Frame fp H1 H3:=fun x o hx e=>b x o hx (a x o hx e)
def uZ.dt:uZ->Dt
 | .int i=> .int i
 | .txt s=> .str s
 | .sets l=> .lst (l.map fun t=> .tup [.int t.1,.int t.2.1,.int t.2.2])
 | .pairs l=> .lst (l.map fun t=> .tup [.int t.1,.int t.2])
 | .ints l=> .lst (l.map Dt.int)
def gy.Oq {H:Hp}: ∀{ms:List (Nat×Nat×Int)} {vs:List V},gy H ms vs->gX H (ms.map fun t=> .tup [.int t.1,.int t.2.1,.int t.2.2]) vs
 |_,_,.nil=>cJ.mpr rfl
 |_,_,.cons ⟨p,e,q⟩ t=>by
  subst e;exact bw.mpr ⟨_,_,rfl,dC q (bw.mpr ⟨_,_,rfl,dE.mpr rfl,bw.mpr ⟨_,_,rfl,dE.mpr rfl,bw.mpr ⟨_,_,rfl,dE.mpr rfl,cJ.mpr rfl⟩⟩⟩),gy.Oq t⟩
def fA.kO (f:fA)(p:Addr):fA:={f with iD:=f.iD ++ [p]}
def fA.il (f:fA)(p:Addr):fA:={f with cps:=f.cps ++ [p]}
def fA.KA (f:fA)(p:Addr):(f.kO p).fp.Perm (p :: f.fp):=by
 show(f.pb :: f.pc :: f.pm :: ((f.iD ++ [p]) ++ f.cps)).Perm (p :: f.pb :: f.pc :: f.pm :: (f.iD ++ f.cps));have h:((f.iD ++ [p]) ++ f.cps).Perm (p :: (f.iD ++ f.cps)):=by
  rw[dR];exact List.perm_middle
 exact(((h.cons f.pm).trans (List.Perm.swap _ _ _)).cons f.pc |>.trans (List.Perm.swap _ _ _)).cons f.pb |>.trans (List.Perm.swap _ _ _)
def fA.Gd (f:fA)(p:Addr):(f.il p).fp.Perm (p :: f.fp):=by
 show(f.pb :: f.pc :: f.pm :: (f.iD ++ (f.cps ++ [p]))).Perm (p :: f.pb :: f.pc :: f.pm :: (f.iD ++ f.cps));have h:(f.iD ++ (f.cps ++ [p])).Perm (p :: (f.iD ++ f.cps)):=by
  rw[← dR];exact List.perm_append_singleton _ _
 exact(((h.cons f.pm).trans (List.Perm.swap _ _ _)).cons f.pc |>.trans (List.Perm.swap _ _ _)).cons f.pb |>.trans (List.Perm.swap _ _ _)
def dh.off {H:Hp}{sd D:Addr}{S:Bk}{f:fA}(h:dh H sd S f)(n:H D=none):D∉f.fp:=fun z=>by
 obtain⟨ms,m1,_⟩:=h.hm;have rows: ∀(rs:List Rw) (ps:List Addr),eR H rs ps->D∈ps->False:=fun rs ps hr hp=>by
  obtain⟨i,hi⟩:=zI hp;have iX:i < rs.length:=by
   rw[hr.length];exact(ak.mp hi).1
  obtain⟨q,e1,e2⟩:=hr.at iX;rw[e1] at hi;cases hi;rw[n] at e2;cases e2
 unfold fA.fp at z;rcases aw.mp z with rfl|z
 ·have:=h.hb; rw[n] at this; cases this
 rcases aw.mp z with rfl|z
 ·have:=h.hc; rw[n] at this; cases this
 rcases aw.mp z with rfl|z
 ·rw[n] at m1; cases m1
 rcases bg.mp z with z|z
 ·exact rows _ _ h.rb z
 ·exact rows _ _ h.rc z
section
variable {H:Hp}{sd pr:Addr}{S:Bk}{f:fA}{r:Rw}
def dh.kO (h:dh H sd S f)(n:H pr=none):dh (upd (upd H pr (.lst r.vs)) f.pb (.lst (f.iD.map V.ref ++ [.ref pr]))) sd (S.kO r) (f.kO pr):=by
 have s1:ay H (upd H pr (.lst r.vs)):=ay.new n;have h1:=h.same s1;have g1:upd H pr (.lst r.vs) pr=some (.lst r.vs):=af;have np:=h.off n;have M7:sd≠pr:=aI h.dict n;generalize upd H pr (.lst r.vs)=H1 at s1 h1 g1;obtain⟨d1,d2,d3,d4,d5,d6,d7⟩:=fA.TH h.nd;obtain⟨ms,m1,m2⟩:=h1.hm;have es:sd≠f.pb:=fun z=>h.ns (by rw[z]; simp[fA.fp]);have ep:pr≠f.pb:=fun z=>np (by rw[z]; simp[fA.fp]);refine⟨by rw[aB es]; exact h1.dict,?_,by rw[show(f.kO pr).pc=f.pc from rfl,aB d1.symm]; exact h1.hc,⟨ms,by rw[show(f.kO pr).pm=f.pm from rfl,aB d2.symm]; exact m1,m2.mono (eZ h1.hb)⟩,?_,?_,?_,?_⟩
 ·show upd H1 f.pb _ f.pb=some (.lst ((f.iD ++ [pr]).map V.ref));rw[af,aL]; rfl
 ·exact cG (h1.rb.ig fun z=>(d4 _ z).1 rfl) (by rw[aB ep]; exact g1)
 ·exact h1.rc.ig fun z=>(d5 _ z).1 rfl
 ·exact(f.KA pr).nodup_iff.mpr (eV.mpr ⟨np,h.nd⟩)
 ·intro z;rcases aw.mp ((f.KA pr).mem_iff.mp z) with z|z
  ·exact M7 z
  ·exact h.ns z
def dh.il (h:dh H sd S f)(n:H pr=none):dh (upd (upd H pr (.lst r.vs)) f.pc (.lst (f.cps.map V.ref ++ [.ref pr]))) sd (S.il r) (f.il pr):=by
 have s1:ay H (upd H pr (.lst r.vs)):=ay.new n;have h1:=h.same s1;have g1:upd H pr (.lst r.vs) pr=some (.lst r.vs):=af;have np:=h.off n;have M7:sd≠pr:=aI h.dict n;generalize upd H pr (.lst r.vs)=H1 at s1 h1 g1;obtain⟨d1,d2,d3,d4,d5,d6,d7⟩:=fA.TH h.nd;obtain⟨ms,m1,m2⟩:=h1.hm;have es:sd≠f.pc:=fun z=>h.ns (by rw[z]; simp[fA.fp]);have ep:pr≠f.pc:=fun z=>np (by rw[z]; simp[fA.fp]);refine⟨by rw[aB es]; exact h1.dict,by rw[show(f.il pr).pb=f.pb from rfl,aB d1]; exact h1.hb,?_,⟨ms,by rw[show(f.il pr).pm=f.pm from rfl,aB d3.symm]; exact m1,m2.mono (eZ h1.hc)⟩,?_,?_,?_,?_⟩
 ·show upd H1 f.pc _ f.pc=some (.lst ((f.cps ++ [pr]).map V.ref));rw[af,aL]; rfl
 ·exact h1.rb.ig fun z=>(d4 _ z).2.1 rfl
 ·exact cG (h1.rc.ig fun z=>(d5 _ z).2.1 rfl) (by rw[aB ep]; exact g1)
 ·exact(f.Gd pr).nodup_iff.mpr (eV.mpr ⟨np,h.nd⟩)
 ·intro z;rcases aw.mp ((f.Gd pr).mem_iff.mp z) with z|z
  ·exact M7 z
  ·exact h.ns z
end
structure dU where
 dJ:Addr
 dY:Addr
 work:Addr
 book:Addr
 refusal:Addr
 kh:Addr
 qw:Addr
 jQ:Addr
 iG:Addr
 tooEarly:Addr
 tooMuch:Addr
 jR:Addr
 iH:Addr
def eA (H:Hp)(p C:Addr)(fs:List (Str×V)):Prop:= ∃dx,H p=some (.ins C dx fs)
def eA.same {H H':Hp}{p C:Addr}{fs:List (Str×V)}(h:eA H p C fs)(s:ay H H'):eA H' p C fs:=let⟨dx,e⟩:=h; ⟨dx,s _ _ e⟩
def eA.frame {H H':Hp}{p C:Addr}{fs:List (Str×V)}{fp:List Addr}(h:eA H p C fs)(s:Frame fp H H')(n:p∉fp):eA H' p C fs:=let⟨dx,e⟩:=h; ⟨dx,s _ _ n e⟩
def uo (c:Int):V:=if c= -1 then .en else .int c
def fE (i:Nat)(r:Rw):List (Str×V):=[("number",.int i),("who",.str r.aJ),("day",.int r.a),("due",.int r.b),("amount",.int r.c)]
def fe (i:Nat)(r:Rw):List (Str×V):=[("number",.int i),("who",.str r.aJ),("day",.int r.a),("amount",.int r.b),("only",uo r.c)]
section
variable (i:Nat)(r:Rw)
def lR:(fE i r).lookup ("number":Str)=some (V.int i):=by rfl
def EC:(fE i r).lookup ("who":Str)=some (V.str r.aJ):=by rfl
def Qt:(fE i r).lookup ("day":Str)=some (V.int r.a):=by rfl
def KC:(fE i r).lookup ("due":Str)=some (V.int r.b):=by rfl
def oR:(fe i r).lookup ("number":Str)=some (V.int i):=by rfl
def KD:(fe i r).lookup ("who":Str)=some (V.str r.aJ):=by rfl
def KG:(fe i r).lookup ("day":Str)=some (V.int r.a):=by rfl
def M8:(fe i r).lookup ("only":Str)=some (uo r.c):=by rfl
end
structure eM where
 pb:Addr
 pc:Addr
 pl:Addr
 pf:Addr
 pm:Addr
 iD:List Addr
 cps:List Addr
def eM.fp (f:eM):List Addr:=[f.pb,f.pc,f.pl,f.pf,f.pm]
def lS (f:eM):List (Str×V):=[("bills",.ref f.pb),("all_credits",.ref f.pc),("lefts",.ref f.pl),("frees",.ref f.pf),("made",.ref f.pm)]
def jk (f:eM):(lS f).lookup ("bills":Str)=some (V.ref f.pb):=by rfl
def g8 (f:eM):(lS f).lookup ("all_credits":Str)=some (V.ref f.pc):=by rfl
def lT (f:eM):(lS f).lookup ("lefts":Str)=some (V.ref f.pl):=by rfl
def lU (f:eM):(lS f).lookup ("frees":Str)=some (V.ref f.pf):=by rfl
def Ap (f:eM):(lS f).lookup ("made":Str)=some (V.ref f.pm):=by rfl
def gz (H:Hp)(C:Addr)(fs:Nat->Rw->List (Str×V))(rows:List Rw)(ps:List Addr):Prop:=ps.length=rows.length/\ ∀i p,ps[i]? =some p->eA H p C (fs i (rows.getD i default))
def gz.keep {H H':Hp}{C:Addr}{fs:Nat->Rw->List (Str×V)}{rows:List Rw}{ps:List Addr}(h:gz H C fs rows ps)(k: ∀p dx gs,H p=some (.ins C dx gs)->H' p=some (.ins C dx gs)):gz H' C fs rows ps:=
 ⟨h.1,fun i p e=>let⟨dx,z⟩:=h.2 i p e; ⟨dx,k _ _ _ z⟩⟩
def gz.get {H:Hp}{C:Addr}{fs:Nat->Rw->List (Str×V)}{rows:List Rw}{ps:List Addr}(h:gz H C fs rows ps){i:Nat}(hi:i < rows.length): ∃p,ps[i]? =some p/\eA H p C (fs i (rows.getD i default)):=by
 have iX:i < ps.length:=by rw[h.1]; exact hi
 exact⟨ps[i],ag iX,h.2 i _ (ag iX)⟩
def gz.rows {H:Hp}{C:Addr}{fs:Nat->Rw->List (Str×V)}{rows iB:List Rw}{ps:List Addr}(h:gz H C fs rows ps)(hl:iB.length=rows.length)(e: ∀i,fs i (iB.getD i default)=fs i (rows.getD i default)):gz H C fs iB ps:=
 ⟨h.1.trans hl.symm,fun i p z=>by rw[e]; exact h.2 i p z⟩
def gz.add {H:Hp}{C p:Addr}{fs:Nat->Rw->List (Str×V)}{rows:List Rw}{r:Rw}{ps:List Addr}(h:gz H C fs rows ps)(n:eA H p C (fs rows.length r)):gz H C fs (rows ++ [r]) (ps ++ [p]):=by
 refine⟨by rw[ax,ax,h.1]; rfl,fun i q e=>?_⟩;by_cases hi:i < ps.length
 ·rw[OX hi] at e;rw[getD_snoc (by rw[← h.1]; exact hi)];exact h.2 i q e
 ·rw[pW (by lia)] at e;have e0:i - ps.length=0:=by
   have:=(ak.mp e).1;simp at this;lia
  rw[e0] at e;obtain rfl:p=q:=by simpa using e
  obtain rfl:i=rows.length:=by have:=h.1; lia
  rw[getD_last];exact n
structure dM (A:dU)(H:Hp)(pw:Addr)(S:Bk)(f:eM):Prop where
 obj:eA H pw A.work (lS f)
 hb:H f.pb=some (.lst (f.iD.map V.ref))
 hc:H f.pc=some (.lst (f.cps.map V.ref))
 hl:H f.pl=some (.lst (S.aG.map fun r=>V.int r.d))
 hf:H f.pf=some (.lst (S.credits.map fun r=>V.int r.d))
 hm: ∃ms,H f.pm=some (.lst ms)/\gy H S.made ms
 rb:gz H A.dJ fE S.aG f.iD
 rc:gz H A.dY fe S.credits f.cps
 nd:f.fp.Nodup
section
variable {A:dU}{H H':Hp}{pw:Addr}{S:Bk}{f:eM}
def dM.lists (h:dM A H pw S f): ∀p∈f.fp,∃xs,H p=some (.lst xs):=fun p hp=>by
 obtain⟨ms,m1,_⟩:=h.hm;simp only[eM.fp,List.mem_cons,List.not_mem_nil,or_false] at hp;rcases hp with rfl|rfl|rfl|rfl|rfl
 ·exact⟨_,h.hb⟩
 ·exact⟨_,h.hc⟩
 ·exact⟨_,h.hl⟩
 ·exact⟨_,h.hf⟩
 ·exact⟨_,m1⟩
def dM.off (h:dM A H pw S f){p:Addr}(n: ∀xs,H p≠some (.lst xs)):p∉f.fp:=fun z=>by
 obtain⟨xs,e⟩:=h.lists p z;exact n xs e
def dM.new (h:dM A H pw S f){p:Addr}(n:H p=none):p∉f.fp:=h.off fun xs e=>by rw[n] at e; cases e
def dM.ins (h:dM A H pw S f){p C:Addr}{fs:List (Str×V)}(n:eA H p C fs):p∉f.fp:=h.off fun xs e=>by
 obtain⟨dx,z⟩:=n;rw[z] at e;cases e
def dM.tk (h:dM A H pw S f)(k:Frame f.fp H H'):cw H H':=fun b xs e=>k b _ (h.off fun ys z=>by rw[e] at z; cases z) e
def dM.objs (h:dM A H pw S f)(k:Frame f.fp H H'):eA H' pw A.work (lS f)/\gz H' A.dJ fE S.aG f.iD/\gz H' A.dY fe S.credits f.cps:=by
 have go: ∀{p C:Addr} {dx:Addr} {gs:List (Str×V)},H p=some (.ins C dx gs)->H' p=some (.ins C dx gs):=fun e=>k _ _ (h.off fun ys z=>by rw[e] at z; cases z) e;exact⟨let⟨dx,e⟩:=h.obj; ⟨dx,go e⟩,h.rb.keep fun _ _ _ e=>go e,h.rc.keep fun _ _ _ e=>go e⟩
def dM.same (h:dM A H pw S f)(s:ay H H'):dM A H' pw S f:=by
 obtain⟨o1,o2,o3⟩:=h.objs (s.frame (fp:=f.fp));obtain⟨ms,m1,m2⟩:=h.hm;exact⟨o1,s _ _ h.hb,s _ _ h.hc,s _ _ h.hl,s _ _ h.hf,⟨ms,s _ _ m1,m2.mono s.tk⟩,o2,o3,h.nd⟩
def eM.ne (h:f.fp.Nodup):f.pb≠f.pc/\f.pb≠f.pl/\f.pb≠f.pf/\f.pb≠f.pm/\f.pc≠f.pl/\f.pc≠f.pf/\f.pc≠f.pm/\f.pl≠f.pf/\f.pl≠f.pm/\f.pf≠f.pm:=by
 simp only[eM.fp,List.nodup_cons,List.mem_cons,List.not_mem_nil,or_false,not_or] at h;obtain⟨⟨h1,h2,h3,h4⟩,⟨h5,h6,h7⟩,⟨h8,h9⟩,LV,_⟩:=h;exact⟨h1,h2,h3,h4,h5,h6,h7,h8,h9,LV⟩
def ze {rows:List Rw}{i:Nat}{x:Int}:(rows.set i ((rows.getD i default).less x)).map (fun r=>V.int r.d)=(rows.map fun r=>V.int r.d).set i (.int ((rows.getD i default).d - x)):=by
 rw[List.map_set]; rfl
def dM.put (h:dM A H pw S f){c b:Nat}{x:Int}{ms:List V}{p:Addr}(hc:c < S.credits.length)(hb:b < S.aG.length)(m1:H f.pm=some (.lst ms))(m2:gy H S.made ms)(np:H p=none):
  dM A (upd (upd (upd (upd H f.pf (.lst ((S.credits.map fun r=>V.int r.d).set c (.int ((S.cr c).d - x))))) f.pl (.lst ((S.aG.map fun r=>V.int r.d).set b (.int ((S.bl b).d - x))))) p (.tup [.int c,.int b,.int x])) f.pm (.lst (ms ++ [.ref p]))) pw (S.put c b x) f/\
  Frame f.fp H (upd (upd (upd (upd H f.pf (.lst ((S.credits.map fun r=>V.int r.d).set c (.int ((S.cr c).d - x))))) f.pl (.lst ((S.aG.map fun r=>V.int r.d).set b (.int ((S.bl b).d - x))))) p (.tup [.int c,.int b,.int x])) f.pm (.lst (ms ++ [.ref p]))):=by
 obtain⟨e1,e2,e3,e4,e5,e6,e7,e8,e9,Ot⟩:=eM.ne h.nd;have pf: ∀q∈f.fp,q≠p:=fun q hq z=>h.new np (z▸hq);have i1:f.pb∈f.fp:=by simp[eM.fp]
 have i2:f.pc∈f.fp:=by simp[eM.fp]
 have i3:f.pl∈f.fp:=by simp[eM.fp]
 have i4:f.pf∈f.fp:=by simp[eM.fp]
 have i5:f.pm∈f.fp:=by simp[eM.fp]
 have t3: ∀(G:Hp) (q:Addr),q≠f.pf->q≠f.pl->q≠p->q≠f.pm-> ∀(a b c d:HO),upd (upd (upd (upd G f.pf a) f.pl b) p c) f.pm d q=G q:=fun G q h1 h2 h3 h4 a b c d=>by
  rw[aB h4,aB h3,aB h2,aB h1]
 have F:Frame f.fp H (upd (upd (upd (upd H f.pf (.lst ((S.credits.map fun r=>V.int r.d).set c (.int ((S.cr c).d - x))))) f.pl (.lst ((S.aG.map fun r=>V.int r.d).set b (.int ((S.bl b).d - x))))) p (.tup [.int c,.int b,.int x])) f.pm (.lst (ms ++ [.ref p]))):=fun q o hq e=>by
  rw[t3 H q (fun z=>hq (z▸i4)) (fun z=>hq (z▸i3)) (aI e np) (fun z=>hq (z▸i5))];exact e
 refine⟨?_,F⟩;obtain⟨o1,o2,o3⟩:=h.objs F;have tk:=h.tk F;refine⟨o1,by rw[t3 H _ e3 e2 (pf _ i1) e4]; exact h.hb,by rw[t3 H _ e6 e5 (pf _ i2) e7]; exact h.hc,?_,?_,⟨_,af,?_⟩,?_,?_,h.nd⟩
 ·rw[aB e9,aB (pf _ i3),af];show _ =some (HO.lst ((S.aG.set b ((S.aG.getD b default).less x)).map fun r=>V.int r.d));rw[ze]; rfl
 ·rw[aB Ot,aB (pf _ i4),aB e8.symm,af];show _ =some (HO.lst ((S.credits.set c ((S.credits.getD c default).less x)).map fun r=>V.int r.d));rw[ze]; rfl
 ·refine cG (m2.mono tk) ⟨p,rfl,?_⟩;rw[aB (pf _ i5).symm,af]
 ·refine o2.rows eW fun i=>?_;show fE i ((S.put c b x).bl i)=fE i (S.bl i);rw[sZ hb];split
  ·rename_i z; subst z; rfl
  ·rfl
 ·refine o3.rows eW fun i=>?_;show fe i ((S.put c b x).cr i)=fe i (S.cr i);rw[tf hc];split
  ·rename_i z; subst z; rfl
  ·rfl
end
end L2
namespace eJ
open PySem L2 PyProof.Rows LW
def M9:Stmt->List Stmt
 | .ClassDef _ _ _ b _ _ _ _ _ _ _=>b
 |_=>[]
def mem (i j:Nat):Stmt:=(M9 (top i)).getD j (.Pass ⟨0,0,0,0⟩)
structure jA (K:Frag)(mg:Str->Option Value)(A:dU):Prop where
 fR:mg "Refusal"=some (.ref A.refusal)
 ED:gS K A.refusal A.refusal
 Qu:keepIn K (.ref A.refusal)=true
 gA: ∃f fd,gu K "__init__" "Refusal.__init__" (mem 3 0) f fd/\FX K A.refusal f
 CD:mg "NoCredit"=some (.ref A.kh)
 uq:gS K A.kh A.refusal
 CF:keepIn K (.ref A.kh)=true
 CG: ∃f fd,gu K "__init__" "NoCredit.__init__" (mem 4 0) f fd/\findIn K (.ref A.kh) "__init__"=some (some (.ref f))/\typeIn K (.ref f)=some (.type "function")
 HR:mg "NoBill"=some (.ref A.qw)
 zf:gS K A.qw A.refusal
 HS:keepIn K (.ref A.qw)=true
 HU: ∃f fd,gu K "__init__" "NoBill.__init__" (mem 5 0) f fd/\findIn K (.ref A.qw) "__init__"=some (some (.ref f))/\typeIn K (.ref f)=some (.type "function")
 Aq:mg "NotTheirs"=some (.ref A.jQ)
 rG:gS K A.jQ A.refusal
 Ar:keepIn K (.ref A.jQ)=true
 As: ∃f fd,gu K "__init__" "NotTheirs.__init__" (mem 6 0) f fd/\findIn K (.ref A.jQ) "__init__"=some (some (.ref f))/\typeIn K (.ref f)=some (.type "function")
 CI:mg "NoAmount"=some (.ref A.iG)
 kY:gS K A.iG A.refusal
 CJ:keepIn K (.ref A.iG)=true
 CK: ∃f fd,gu K "__init__" "NoAmount.__init__" (mem 7 0) f fd/\findIn K (.ref A.iG) "__init__"=some (some (.ref f))/\typeIn K (.ref f)=some (.type "function")
 CL:mg "TooEarly"=some (.ref A.tooEarly)
 ur:gS K A.tooEarly A.refusal
 CM:keepIn K (.ref A.tooEarly)=true
 CO: ∃f fd,gu K "__init__" "TooEarly.__init__" (mem 8 0) f fd/\findIn K (.ref A.tooEarly) "__init__"=some (some (.ref f))/\typeIn K (.ref f)=some (.type "function")
 wq:mg "TooMuch"=some (.ref A.tooMuch)
 qx:gS K A.tooMuch A.refusal
 EE:keepIn K (.ref A.tooMuch)=true
 EF: ∃f fd,gu K "__init__" "TooMuch.__init__" (mem 9 0) f fd/\findIn K (.ref A.tooMuch) "__init__"=some (some (.ref f))/\typeIn K (.ref f)=some (.type "function")
 Au:mg "NoSetting"=some (.ref A.jR)
 rH:gS K A.jR A.refusal
 Av:keepIn K (.ref A.jR)=true
 Aw: ∃f fd,gu K "__init__" "NoSetting.__init__" (mem 10 0) f fd/\findIn K (.ref A.jR) "__init__"=some (some (.ref f))/\typeIn K (.ref f)=some (.type "function")
 zh:mg "Needed"=some (.ref A.iH)
 zi:gS K A.iH A.refusal
 HV:keepIn K (.ref A.iH)=true
 HW: ∃f fd,gu K "__init__" "Needed.__init__" (mem 11 0) f fd/\findIn K (.ref A.iH) "__init__"=some (some (.ref f))/\typeIn K (.ref f)=some (.type "function")
 Na:mg "Bill"=some (.ref A.dJ)
 dZ:xF K A.dJ
 eT:cf K A.dJ "number"
 kZ:cf K A.dJ "who"
 nV:cf K A.dJ "day"
 nW:cf K A.dJ "due"
 nX:cf K A.dJ "amount"
 Nb: ∃f fd,gu K "__init__" "Bill.__init__" (mem 13 0) f fd/\Mk K A.dJ f
 HX:mg "Credit"=some (.ref A.dY)
 di:xF K A.dY
 eN:cf K A.dY "number"
 lA:cf K A.dY "who"
 jb:cf K A.dY "day"
 lV:cf K A.dY "amount"
 kj:cf K A.dY "only"
 HY: ∃f fd,gu K "__init__" "Credit.__init__" (mem 14 0) f fd/\Mk K A.dY f
 Nc:mg "Work"=some (.ref A.work)
 bG:xF K A.work
 dW:cf K A.work "bills"
 cL:cf K A.work "all_credits"
 fF:cf K A.work "lefts"
 fG:cf K A.work "frees"
 jJ:cf K A.work "made"
 Nd: ∃f fd,gu K "__init__" "Work.__init__" (mem 25 0) f fd/\Mk K A.work f
 rJ: ∃f fd,gu K "tell_bill" "Work.tell_bill" (mem 25 1) f fd/\Meth K A.work "tell_bill" f
 nY: ∃f fd,gu K "tell_payment" "Work.tell_payment" (mem 25 2) f fd/\Meth K A.work "tell_payment" f
 rK: ∃f fd,gu K "tell_note" "Work.tell_note" (mem 25 3) f fd/\Meth K A.work "tell_note" f
 pq: ∃f fd,gu K "tell_credit" "Work.tell_credit" (mem 25 4) f fd/\Meth K A.work "tell_credit" f
 px: ∃f fd,gu K "set_by_hand" "Work.set_by_hand" (mem 25 5) f fd/\Meth K A.work "set_by_hand" f
 yb: ∃f fd,gu K "sweep" "Work.sweep" (mem 25 6) f fd/\Meth K A.work "sweep" f
 rL: ∃f fd,gu K "one_round" "Work.one_round" (mem 25 7) f fd/\Meth K A.work "one_round" f
 CP: ∃f fd,gu K "put" "Work.put" (mem 25 8) f fd/\Meth K A.work "put" f
 rM: ∃f fd,gu K "credit_at" "Work.credit_at" (mem 25 9) f fd/\Meth K A.work "credit_at" f
 uQ: ∃f fd,gu K "bill_at" "Work.bill_at" (mem 25 10) f fd/\Meth K A.work "bill_at" f
 Nf:mg "Book"=some (.ref A.book)
 eI:xF K A.book
 gH:cf K A.book "kept"
 fS:cf K A.book "work"
 Ng: ∃f fd,gu K "__init__" "Book.__init__" (mem 29 0) f fd/\Mk K A.book f
 EG: ∃f fd,gu K "do" "Book.do" (mem 29 1) f fd/\Meth K A.book "do" f
 Ax: ∃f fd,gu K "undo" "Book.undo" (mem 29 2) f fd/\Meth K A.book "undo" f
 tG: ∃f fd,gu K "in_force" "Book.in_force" (mem 29 3) f fd/\Meth K A.book "in_force" f
end eJ
namespace L2
open PySem PySem.Spec PySem.W PyProof.Rows LW
structure gU (CX:Fx)(P:Program)(w:World)(K:Frag)(mg:Str->Option Value)(base:Heap)(C:Addr)(m:Str)(k:Nat)(ps:List Str)(sp:Sp):Prop where
 ex: ∃(f:Addr) (fd:FuncData),xF K C/\Meth K C m f/\mf P w K mg base CX k f fd ps sp/\Binds K fd ps []
structure wt (P:Program)(w:World)(K:Frag)(mg:Str->Option Value)(base:Heap)(x:Str)(k:Nat)(ps:List Str)(sp:Sp):Prop where
 ex: ∃(f:Addr) (fd:FuncData),mf P w K mg base (nj P w mg) k f fd ps sp/\mg x=some (.ref f)/\keepIn K (.ref f)=true/\Binds K fd ps []
structure tH (P:Program)(w:World)(K:Frag)(mg:Str->Option Value)(base:Heap)(x:Str)(C:Addr)(k:Nat)(ps:List Str)(sp:Sp):Prop where
 ex: ∃(f:Addr) (fd:FuncData),Mk K C f/\mf P w K mg base sU k f fd ps sp/\Binds K fd ps []/\mg x=some (.ref C)
section
variable {X:Cx}{CX:Fx}{C:Addr}{x m:Str}{k:Nat}{ps:List Str}{sp:Sp}{o e:Expr}{es:List Expr}{ta:TE}{t:TA}{p pos apos:Pos}{E:XK}
def nZ {pl:Sem Bool}(M:gU CX X.prog X.w X.K X.mg X.base C m k ps sp)(hr:eY k X.A)(hx:Passes CX X E)(he:PE X o ta)(ha:PA X (e :: es) t)
  (sE:starEach (e :: es) X.env=(false,eval e X.env) :: starEach es X.env:=by rfl) (gQ:(backTo pos (starEach es X.env)).any (·.1)=false:=by rfl)
  (ht:eval (.Call (.Attribute o m apos) (e :: es) [] pos) X.env=(do
   let ov ← eval o X.env
   standAt apos.atName
   let(f,first) ← holding [ov] (getMethod ov m pl)
   callWith pos f first (backTo pos (starEach (e :: es) X.env)) (backToKw pos (keywordEach [] X.env))):=by rfl):
  PE X (.Call (.Attribute o m apos) (e :: es) [] pos) (Oa C m sp [] E ta t):=by
 obtain⟨f,fd,hc,hm,F,hb⟩:=M.ex;exact Mr he hc hm F hr hb .nil hx ha sE gQ ht
def tI (M:wt X.prog X.w X.K X.mg X.base x k ps sp)(hr:eY k X.A)(hg:Gl X x)(hx:Passes (nj X.prog X.w X.mg) X E)(ha:PA X (e :: es) t)(qX:(x == ("__debug__":Str))=false:=by decide)
  (he:starEach (e :: es) X.env=(false,eval e X.env) :: starEach es X.env:=by rfl) (gQ:(backTo pos (starEach es X.env)).any (·.1)=false:=by rfl):PE X (.Call (.Name x p) (e :: es) [] pos) (vA sp [] E t):=by
 obtain⟨f,fd,F,hm,hk,hb⟩:=M.ex;exact Fz F hr hg hm hk hb .nil hx ha qX he gQ
def Uk (M:tH X.prog X.w X.K X.mg X.base x C k ps sp)(hr:eY (k + 1) X.A)(hg:Gl X x)(ha:PA X (e :: es) t)(qX:(x == ("__debug__":Str))=false:=by decide)
  (he:starEach (e :: es) X.env=(false,eval e X.env) :: starEach es X.env:=by rfl) (gQ:(backTo pos (starEach es X.env)).any (·.1)=false:=by rfl):PE X (.Call (.Name x p) (e :: es) [] pos) (Fy C sp [] E0 t):=by
 obtain⟨f,fd,hk,F,hb,hm⟩:=M.ex;exact Ms hk F hr hg hm hb .nil nK ha qX he gQ
def Ge (M:tH X.prog X.w X.K X.mg X.base x C k ps sp)(hr:eY (k + 1) X.A)(hg:Gl X x)(qX:(x == ("__debug__":Str))=false:=by decide):PE X (.Call (.Name x p) [] [] pos) (Fy C sp [] E0 BY):=by
 obtain⟨f,fd,hk,F,hb,hm⟩:=M.ex;exact JG hk F hr hg hm hb .nil nK qX
end
section
variable {P:Program}{w:World}{K:Frag}{mg:Str->Option Value}{base:Heap}{C:Addr}{x m qual:Str}{st:Stmt}{N ps:List Str}{k:Nat}{sp:Sp}
def Nh (D: ∃f fd,gu K m qual st f fd/\Meth K C m f)(hc:xF K C)(S:aV N ps (aA st))
  (fW: ∀(f:Addr) (cV:Value) (A:Around) (outer:List Env) (s:Shared) (H:Hp) (vs:List V) (Q:VK) (E:XK),eY k (A.deeper (envOfC qual (aA st) s.heap.objs.size f cV))->sp vs H Q E->
   ∃t,pC (lq sU P w K mg base N qual (aA st) f cV A outer s H E).D4 (dH st) t/\t {nx:=fun _ H'=>Q .en H',rt:=Q} (start N vs) H)
  (hb: ∀(kV doc pm:Value) (an:Option Addr) (cV ct:Value) (us:List Value),us.length=ps.length->bindArgs (fnOf m qual (gG st) (dH st) (aA st) .none kV doc pm an cV ct) ⟨us,[]⟩=pure (ps.zip us):=by intro _ _ _ _ _ _ us hl; rcases us with _|⟨_,_|⟨_,_|⟨_,_|⟨_,_|⟨_,_|⟨_,_|⟨_,_⟩⟩⟩⟩⟩⟩⟩ <;> first|(cases hl; done)|rfl)
  (len: ∀vs H Q E,sp vs H Q E->vs.length=ps.length:=by intro _ _ _ _ h; first|(cases h; subst_vars; rfl)|(repeat (first|(obtain⟨rfl,_⟩:=h; rfl; done)|obtain⟨_,h⟩:=h))):gU sU P w K mg base C m (k + 1) ps sp:=by
 obtain⟨f,fd,F,hm⟩:=D;exact⟨f,fd,hc,hm,F.ok S len (fW f),F.binds hb⟩
def rN (D: ∃f fd,gu K m qual st f fd/\Meth K C m f)(hc:xF K C)(S:aV N ps (aA st))
  (fW: ∀(f:Addr) (cV:Value) (A:Around) (outer:List Env) (s:Shared) (H:Hp) (vs:List V) (Q:VK) (E:XK),eY k (A.deeper (envOfC qual (aA st) s.heap.objs.size f cV))->RT (lq (nj P w mg) P w K mg base N qual (aA st) f cV A outer s H E) E->sp vs H Q E->
   ∃t,pC (lq (nj P w mg) P w K mg base N qual (aA st) f cV A outer s H E) (dH st) t/\t {nx:=fun _ H'=>Q .en H',rt:=Q} (start N vs) H)
  (hb: ∀(kV doc pm:Value) (an:Option Addr) (cV ct:Value) (us:List Value),us.length=ps.length->bindArgs (fnOf m qual (gG st) (dH st) (aA st) .none kV doc pm an cV ct) ⟨us,[]⟩=pure (ps.zip us):=by intro _ _ _ _ _ _ us hl; rcases us with _|⟨_,_|⟨_,_|⟨_,_|⟨_,_|⟨_,_|⟨_,_|⟨_,_⟩⟩⟩⟩⟩⟩⟩ <;> first|(cases hl; done)|rfl)
  (len: ∀vs H Q E,sp vs H Q E->vs.length=ps.length:=by intro _ _ _ _ h; first|(cases h; subst_vars; rfl)|(repeat (first|(obtain⟨rfl,_⟩:=h; rfl; done)|obtain⟨_,h⟩:=h))):gU (nj P w mg) P w K mg base C m (k + 1) ps sp:=by
 obtain⟨f,fd,F,hm⟩:=D;exact⟨f,fd,hc,hm,F.okX S len (fW f),F.binds hb⟩
def Qv (D:Df K mg x st)(S:aV N ps (aA st))
  (fW: ∀(f:Addr) (cV:Value) (A:Around) (outer:List Env) (s:Shared) (H:Hp) (vs:List V) (Q:VK) (E:XK),eY k (A.deeper (envOfC x (aA st) s.heap.objs.size f cV))->RT (lq (nj P w mg) P w K mg base N x (aA st) f cV A outer s H E) E->sp vs H Q E->
   ∃t,pC (lq (nj P w mg) P w K mg base N x (aA st) f cV A outer s H E) (dH st) t/\t {nx:=fun _ H'=>Q .en H',rt:=Q} (start N vs) H)
  (hb: ∀(kV doc pm:Value) (an:Option Addr) (cV ct:Value) (us:List Value),us.length=ps.length->bindArgs (fnOf x x (gG st) (dH st) (aA st) .none kV doc pm an cV ct) ⟨us,[]⟩=pure (ps.zip us):=by intro _ _ _ _ _ _ us hl; rcases us with _|⟨_,_|⟨_,_|⟨_,_|⟨_,_|⟨_,_|⟨_,_|⟨_,_⟩⟩⟩⟩⟩⟩⟩ <;> first|(cases hl; done)|rfl)
  (len: ∀vs H Q E,sp vs H Q E->vs.length=ps.length:=by intro _ _ _ _ h; first|(cases h; subst_vars; rfl)|(repeat (first|(obtain⟨rfl,_⟩:=h; rfl; done)|obtain⟨_,h⟩:=h))):wt P w K mg base x (k + 1) ps sp:=by
 obtain⟨f,fd,F,hm⟩:=D.ex;exact⟨f,fd,F.okX S len (fW f),hm,F.kp,F.binds hb⟩
def Ni (D: ∃f fd,gu K "__init__" qual st f fd/\Mk K C f)(hm:mg x=some (.ref C))(S:aV N ps (aA st))
  (fW: ∀(f:Addr) (cV:Value) (A:Around) (outer:List Env) (s:Shared) (H:Hp) (vs:List V) (Q:VK) (E:XK),eY k (A.deeper (envOfC qual (aA st) s.heap.objs.size f cV))->sp vs H Q E->
   ∃t,pC (lq sU P w K mg base N qual (aA st) f cV A outer s H E).D4 (dH st) t/\t {nx:=fun _ H'=>Q .en H',rt:=Q} (start N vs) H)
  (hb: ∀(kV doc pm:Value) (an:Option Addr) (cV ct:Value) (us:List Value),us.length=ps.length->bindArgs (fnOf "__init__" qual (gG st) (dH st) (aA st) .none kV doc pm an cV ct) ⟨us,[]⟩=pure (ps.zip us):=by intro _ _ _ _ _ _ us hl; rcases us with _|⟨_,_|⟨_,_|⟨_,_|⟨_,_|⟨_,_|⟨_,_|⟨_,_⟩⟩⟩⟩⟩⟩⟩ <;> first|(cases hl; done)|rfl)
  (len: ∀vs H Q E,sp vs H Q E->vs.length=ps.length:=by intro _ _ _ _ h; first|(cases h; subst_vars; rfl)|(repeat (first|(obtain⟨rfl,_⟩:=h; rfl; done)|obtain⟨_,h⟩:=h))):tH P w K mg base x C (k + 1) ps sp:=by
 obtain⟨f,fd,F,hk⟩:=D;exact⟨f,fd,hk,F.ok S len (fW f),F.binds hb,hm⟩
end
end L2
namespace eJ
open PySem L2 PyProof.Rows LW
seal L2.pC L2.PS L2.PE L2.PT L2.PW L2.PA L2.PC L2.PG L2.Js L2.PI L2.MB L2.LR L2.PO L2.oP L2.N9 L2.hV L2.JJ L2.Mu
section
variable {P:Program}{w:World}{K:Frag}{mg:Str->Option Value}{base:Heap}
def HZ {H:Hp}{e dx:Addr}{a b c:HO}(h:dx≠e):upd (upd (upd H e a) dx b) e c=upd (upd H dx b) e c:=by
 funext q
 by_cases h1:q=e
 ·rw[h1,af,af]
 ·rw[aB h1,aB h1];by_cases h2:q=dx
  ·rw[h2,af,af]
  ·rw[aB h2,aB h2,aB h1]
inductive Ou (K:Frag)(vs:List V)(H:Hp)(Q:VK)(E':XK):Prop
 |mk (e C R t0:Addr)(txt:Str)(h1:vs=[.ref e,.str txt])(h2:H e=some (xo e C none (v0 t0)))(h3:gS K C R)(h4: ∀dx t',H dx=none->Q .en (upd (upd H dx (.xd [("text",.str txt)])) e (xo e C (some dx) (v0 t')))):Ou K vs H Q E'
def EH:aV ["self","text"] ["self","text"] (aA (mem 3 0)):={}
def gE (T:Txt K mg){f:Addr}{fd:FuncData}(F:gu K "__init__" "Refusal.__init__" (mem 3 0) f fd):TZ P w K mg base 1 f fd ["self","text"] (Ou K):=by
 refine mD (k:=0) F EH (fun vs H Q E h=>?_) (fun cV A outer s H vs Q E hr h=>?_)
 ·obtain⟨e,C,R,t0,txt,rfl,_⟩:=h;rfl
 ·obtain⟨e,C,R,t0,txt,rfl,he,ek,k⟩:=h;refine⟨_,(ah (bM (Kj rfl T.CA (aa (pv 0) (aa (pv 1) ao)))) (av (MW (pv 0) (pv 1) rfl))),?_⟩;refine⟨_,rfl,_,rfl,e,C,R,t0,none,v0 t0,_,rfl,he,ek,rfl,fun t'=>?_⟩;refine⟨_,rfl,_,rfl,e,C,R,v0 t',rfl,af,ek,fun dx KH=>?_⟩;have ne:dx≠e:=fun z=>by rw[z,af] at KH; cases KH
  rw[aB ne] at KH;have q:=k dx t' KH;rw[← HZ (a:=xo e C none (v0 t')) ne] at q;exact q
def CQ:aV ["self"] ["self"] (aA (mem 4 0)):={}
def CS (T:Txt K mg){A:dU}(G:jA K mg A):Kk P w K mg base 2 "NoCredit" A.kh A.refusal "no credit":=by
 obtain⟨f,fd,F,hi,ht⟩:=G.CG;obtain⟨f0,Qw,F0,ik⟩:=G.gA;refine⟨G.CD,G.uq,G.CF,f,fd,hi,ht,?_,F.binds (fun _ _ _ _ _ _ us hl=>match us,hl with|[_],_=>rfl)⟩;refine mD (k:=1) F CQ (fun vs H Q E h=>?_) (fun cV A' outer s H vs Q E hr h=>?_)
 ·obtain⟨e,C,R,t0,rfl,_⟩:=h;rfl
 ·obtain⟨e,C,R,t0,rfl,he,ek,k⟩:=h;refine⟨_,(av (bM (ji ik (gE T F0) hr (F0.binds (fun _ _ _ _ _ _ us hl=>match us,hl with|[_,_],_=>rfl)) rfl G.fR (aa (pv 0) (aa aK ao))))),?_⟩;exact⟨_,rfl,e,C,R,t0,_,rfl,he,ek,fun dx t' n=>k dx t' n⟩
def Ia:aV ["self"] ["self"] (aA (mem 5 0)):={}
def Ib (T:Txt K mg){A:dU}(G:jA K mg A):Kk P w K mg base 2 "NoBill" A.qw A.refusal "no bill":=by
 obtain⟨f,fd,F,hi,ht⟩:=G.HU;obtain⟨f0,Qw,F0,ik⟩:=G.gA;refine⟨G.HR,G.zf,G.HS,f,fd,hi,ht,?_,F.binds (fun _ _ _ _ _ _ us hl=>match us,hl with|[_],_=>rfl)⟩;refine mD (k:=1) F Ia (fun vs H Q E h=>?_) (fun cV A' outer s H vs Q E hr h=>?_)
 ·obtain⟨e,C,R,t0,rfl,_⟩:=h;rfl
 ·obtain⟨e,C,R,t0,rfl,he,ek,k⟩:=h;refine⟨_,(av (bM (ji ik (gE T F0) hr (F0.binds (fun _ _ _ _ _ _ us hl=>match us,hl with|[_,_],_=>rfl)) rfl G.fR (aa (pv 0) (aa aK ao))))),?_⟩;exact⟨_,rfl,e,C,R,t0,_,rfl,he,ek,fun dx t' n=>k dx t' n⟩
def Ay:aV ["self"] ["self"] (aA (mem 6 0)):={}
def Az (T:Txt K mg){A:dU}(G:jA K mg A):Kk P w K mg base 2 "NotTheirs" A.jQ A.refusal "not theirs":=by
 obtain⟨f,fd,F,hi,ht⟩:=G.As;obtain⟨f0,Qw,F0,ik⟩:=G.gA;refine⟨G.Aq,G.rG,G.Ar,f,fd,hi,ht,?_,F.binds (fun _ _ _ _ _ _ us hl=>match us,hl with|[_],_=>rfl)⟩;refine mD (k:=1) F Ay (fun vs H Q E h=>?_) (fun cV A' outer s H vs Q E hr h=>?_)
 ·obtain⟨e,C,R,t0,rfl,_⟩:=h;rfl
 ·obtain⟨e,C,R,t0,rfl,he,ek,k⟩:=h;refine⟨_,(av (bM (ji ik (gE T F0) hr (F0.binds (fun _ _ _ _ _ _ us hl=>match us,hl with|[_,_],_=>rfl)) rfl G.fR (aa (pv 0) (aa aK ao))))),?_⟩;exact⟨_,rfl,e,C,R,t0,_,rfl,he,ek,fun dx t' n=>k dx t' n⟩
def CU:aV ["self"] ["self"] (aA (mem 7 0)):={}
def CV (T:Txt K mg){A:dU}(G:jA K mg A):Kk P w K mg base 2 "NoAmount" A.iG A.refusal "no amount":=by
 obtain⟨f,fd,F,hi,ht⟩:=G.CK;obtain⟨f0,Qw,F0,ik⟩:=G.gA;refine⟨G.CI,G.kY,G.CJ,f,fd,hi,ht,?_,F.binds (fun _ _ _ _ _ _ us hl=>match us,hl with|[_],_=>rfl)⟩;refine mD (k:=1) F CU (fun vs H Q E h=>?_) (fun cV A' outer s H vs Q E hr h=>?_)
 ·obtain⟨e,C,R,t0,rfl,_⟩:=h;rfl
 ·obtain⟨e,C,R,t0,rfl,he,ek,k⟩:=h;refine⟨_,(av (bM (ji ik (gE T F0) hr (F0.binds (fun _ _ _ _ _ _ us hl=>match us,hl with|[_,_],_=>rfl)) rfl G.fR (aa (pv 0) (aa aK ao))))),?_⟩;exact⟨_,rfl,e,C,R,t0,_,rfl,he,ek,fun dx t' n=>k dx t' n⟩
def CW:aV ["self"] ["self"] (aA (mem 8 0)):={}
def CY (T:Txt K mg){A:dU}(G:jA K mg A):Kk P w K mg base 2 "TooEarly" A.tooEarly A.refusal "too early":=by
 obtain⟨f,fd,F,hi,ht⟩:=G.CO;obtain⟨f0,Qw,F0,ik⟩:=G.gA;refine⟨G.CL,G.ur,G.CM,f,fd,hi,ht,?_,F.binds (fun _ _ _ _ _ _ us hl=>match us,hl with|[_],_=>rfl)⟩;refine mD (k:=1) F CW (fun vs H Q E h=>?_) (fun cV A' outer s H vs Q E hr h=>?_)
 ·obtain⟨e,C,R,t0,rfl,_⟩:=h;rfl
 ·obtain⟨e,C,R,t0,rfl,he,ek,k⟩:=h;refine⟨_,(av (bM (ji ik (gE T F0) hr (F0.binds (fun _ _ _ _ _ _ us hl=>match us,hl with|[_,_],_=>rfl)) rfl G.fR (aa (pv 0) (aa aK ao))))),?_⟩;exact⟨_,rfl,e,C,R,t0,_,rfl,he,ek,fun dx t' n=>k dx t' n⟩
def EI:aV ["self"] ["self"] (aA (mem 9 0)):={}
def EJ (T:Txt K mg){A:dU}(G:jA K mg A):Kk P w K mg base 2 "TooMuch" A.tooMuch A.refusal "too much":=by
 obtain⟨f,fd,F,hi,ht⟩:=G.EF;obtain⟨f0,Qw,F0,ik⟩:=G.gA;refine⟨G.wq,G.qx,G.EE,f,fd,hi,ht,?_,F.binds (fun _ _ _ _ _ _ us hl=>match us,hl with|[_],_=>rfl)⟩;refine mD (k:=1) F EI (fun vs H Q E h=>?_) (fun cV A' outer s H vs Q E hr h=>?_)
 ·obtain⟨e,C,R,t0,rfl,_⟩:=h;rfl
 ·obtain⟨e,C,R,t0,rfl,he,ek,k⟩:=h;refine⟨_,(av (bM (ji ik (gE T F0) hr (F0.binds (fun _ _ _ _ _ _ us hl=>match us,hl with|[_,_],_=>rfl)) rfl G.fR (aa (pv 0) (aa aK ao))))),?_⟩;exact⟨_,rfl,e,C,R,t0,_,rfl,he,ek,fun dx t' n=>k dx t' n⟩
def AB:aV ["self"] ["self"] (aA (mem 10 0)):={}
def AD (T:Txt K mg){A:dU}(G:jA K mg A):Kk P w K mg base 2 "NoSetting" A.jR A.refusal "no setting":=by
 obtain⟨f,fd,F,hi,ht⟩:=G.Aw;obtain⟨f0,Qw,F0,ik⟩:=G.gA;refine⟨G.Au,G.rH,G.Av,f,fd,hi,ht,?_,F.binds (fun _ _ _ _ _ _ us hl=>match us,hl with|[_],_=>rfl)⟩;refine mD (k:=1) F AB (fun vs H Q E h=>?_) (fun cV A' outer s H vs Q E hr h=>?_)
 ·obtain⟨e,C,R,t0,rfl,_⟩:=h;rfl
 ·obtain⟨e,C,R,t0,rfl,he,ek,k⟩:=h;refine⟨_,(av (bM (ji ik (gE T F0) hr (F0.binds (fun _ _ _ _ _ _ us hl=>match us,hl with|[_,_],_=>rfl)) rfl G.fR (aa (pv 0) (aa aK ao))))),?_⟩;exact⟨_,rfl,e,C,R,t0,_,rfl,he,ek,fun dx t' n=>k dx t' n⟩
def Ic:aV ["self"] ["self"] (aA (mem 11 0)):={}
def Ie (T:Txt K mg){A:dU}(G:jA K mg A):Kk P w K mg base 2 "Needed" A.iH A.refusal "needed":=by
 obtain⟨f,fd,F,hi,ht⟩:=G.HW;obtain⟨f0,Qw,F0,ik⟩:=G.gA;refine⟨G.zh,G.zi,G.HV,f,fd,hi,ht,?_,F.binds (fun _ _ _ _ _ _ us hl=>match us,hl with|[_],_=>rfl)⟩;refine mD (k:=1) F Ic (fun vs H Q E h=>?_) (fun cV A' outer s H vs Q E hr h=>?_)
 ·obtain⟨e,C,R,t0,rfl,_⟩:=h;rfl
 ·obtain⟨e,C,R,t0,rfl,he,ek,k⟩:=h;refine⟨_,(av (bM (ji ik (gE T F0) hr (F0.binds (fun _ _ _ _ _ _ us hl=>match us,hl with|[_,_],_=>rfl)) rfl G.fR (aa (pv 0) (aa aK ao))))),?_⟩;exact⟨_,rfl,e,C,R,t0,_,rfl,he,ek,fun dx t' n=>k dx t' n⟩
def pG (rc rb:Rw)(b:Nat):Bool:=if rc.c= -1 then decide (rc.aJ=rb.aJ) else decide (rc.c=(b:Int))
def EX (E:XK)(C:Addr)(txt:Str)(H:Hp):Prop:= ∀(dx:Addr) (H':Hp),ay H H'->H dx=none->H' dx=some (.xd [("text",.str txt)])->E (.ref C) (some dx) H'
def EX.at {E:XK}{C dx:Addr}{txt:Str}{H:Hp}(h:EX E C txt H)(n:H dx=none):E (.ref C) (some dx) (upd H dx (.xd [("text",.str txt)])):=h dx _ (ay.new n) n af
inductive rO (A:dU)(vs:List V)(H:Hp)(Q:VK)(E:XK):Prop
 |mk (a:Int)(h1:vs=[.int a])(h2:(1<=a->Q .en H))(h3:(a < 1->EX E A.iG "no amount" H)):rO A vs H Q E
def uR:aV ["amount"] ["amount"] (aA (top 26)):={}
def km (T:Txt K mg){A:dU}(G:jA K mg A):wt P w K mg base "check_amount" 4 ["amount"] (rO A):=by
 refine Qv (k:=3) T.wg uR (fun f cV A' outer s H vs Q E hr mQ h=>?_)
 ·obtain⟨a,rfl,k1,k2⟩:=h;refine⟨_,(av (bP (aY jW (pv 0) ai (a8 _)) (av (kb mQ (CV T G) hr.h rfl rfl)) bh)),?_⟩;refine⟨_,rfl,_,_,rfl,rfl,_,rfl,cE (fun z=>?_) (fun z=>?_)⟩
  ·exact fun dx n=>(k2 (aS z)).at n
  ·exact k1 (by have: ¬ a < 1:=fun q=>z (aH q); lia)
inductive AE (A:dU)(vs:List V)(H:Hp)(Q:VK)(E':XK):Prop
 |mk (p q:Addr)(c b:Nat)(rc rb:Rw)(h1:vs=[.ref p,.ref q])(h2:eA H p A.dY (fe c rc))(h3:eA H q A.dJ (fE b rb))(h4:Q (.bl (pG rc rb b)) H):AE A vs H Q E'
def Nj:aV ["credit","bill"] ["credit","bill"] (aA (top 15)):={}
def KI (T:Txt K mg){A:dU}(G:jA K mg A):eO P w K mg base "fits" 1 ["credit","bill"] (AE A):=by
 refine T.Qm.fb (k:=0) Nj (fun f cV A' outer s H vs Q E hr h=>?_)
 ·obtain⟨p,q,c,b,rc,rb,rfl,⟨dp,hp⟩,⟨dq,hq⟩,k⟩:=h;refine⟨_,(ah (bP (zK (Jr (kg (pv 0))))
(av (a6 (fI cU (kg (pv 0)) (kg (pv 1)) (a8 _))))
bh)
(av (a6 (fI cU (kg (pv 0)) (kg (pv 1)) (a8 _))))),?_⟩
  have fo:=M8 c rc;refine⟨_,rfl,p,_,dp,_,_,rfl,hp,G.di,G.kj,fo,?_⟩;by_cases z:rc.c= -1
  ·have e:uo rc.c= .en:=a0 z;refine⟨true,by rw[e]; rfl,fH ?_⟩;refine⟨_,rfl,p,_,dp,_,_,rfl,hp,G.di,G.lA,KD c rc,_,rfl,q,_,dq,_,_,rfl,hq,G.dZ,G.kZ,EC b rb,rfl,?_⟩;have e2:pG rc rb b=decide (V.str rc.aJ=V.str rb.aJ):=by
    unfold pG;rw[a0 z];exact m8.mpr ⟨fun h=>by rw[h],fun h=>by injection h⟩
   rw[e2] at k;exact k
  ·have e:uo rc.c= .int rc.c:=aQ z;refine⟨false,by rw[e]; rfl,bV ?_⟩;rw[e] at fo;refine⟨_,rfl,p,_,dp,_,_,rfl,hp,G.di,G.kj,fo,_,rfl,q,_,dq,_,_,rfl,hq,G.dZ,G.eT,lR b rb,rfl,?_⟩;have e2:pG rc rb b=decide (V.int rc.c=V.int (b:Int)):=by
    unfold pG;rw[aQ z];exact m8.mpr ⟨fun h=>by rw[h],fun h=>by injection h⟩
   rw[e2] at k;exact k
inductive EK (A:dU)(vs:List V)(H:Hp)(Q:VK)(E':XK):Prop
 |mk (p q:Addr)(c b:Nat)(rc rb:Rw)(h1:vs=[.ref p,.ref q])(h2:eA H p A.dY (fe c rc))(h3:eA H q A.dJ (fE b rb))(h4:Q (.int (if rb.a > rc.a then rb.a else rc.a)) H):EK A vs H Q E'
def wu:aV ["credit","bill"] ["credit","bill"] (aA (top 16)):={}
def yc (T:Txt K mg){A:dU}(G:jA K mg A):eO P w K mg base "counts_from" 1 ["credit","bill"] (EK A):=by
 refine T.xQ.fb (k:=0) wu (fun f cV A' outer s H vs Q E hr h=>?_)
 ·obtain⟨p,q,c,b,rc,rb,rfl,⟨dp,hp⟩,⟨dq,hq⟩,k⟩:=h;refine⟨_,(av (a6 (fk (sQ rfl) (by rfl) T.Kw boot_max (aa (kg (pv 0)) (aa (kg (pv 1)) ao))))),?_⟩;exact⟨_,rfl,p,_,dp,_,_,rfl,hp,G.di,G.jb,KG c rc,_,rfl,q,_,dq,_,_,rfl,hq,G.dZ,G.nV,Qt b rb,_,_,rfl,k⟩
def getD_at {α:Type}{xs:List α}{d:α}{i:Nat}(h:i < xs.length):xs.getD i d=xs[i]:=by rw[aj,ag h]; rfl
def oa {g:Int->V}{xs:List Int}{i:Nat}(h:i < xs.length):qY (xs.map g) (i:Int)=some (g (xs.getD i 0)):=by
 rw[getD_at h];exact cI (by rw[aE,ag h]; rfl)
def u6 {n j:Nat}(h:j < n):Mv n (j:Int)=some j:=by
 unfold Mv;rw[if_pos (by lia),if_pos (by lia)]; simp
def f7 {H H':Hp}(s:ay H H'): ∀b xs,H b=some (.tup xs)->H' b=some (.tup xs):=fun b xs e=>s _ _ e
def kP {α:Type}{xs:List α}{m:Nat}(h:m < xs.length):xs.take (m + 1)=xs.take m ++ [xs[m]]:=by
 rw[By,ag h]; rfl
def Ul (cs:List Int)(lo hi:Option Int): ∃ds:List Int,qj (cs.map V.int) lo hi=ds.map V.int/\ds.length<=cs.length:=by
 unfold qj;refine⟨_,by rw[← List.map_drop,← List.map_take],?_⟩;rw[bz,mY];lia
def AF (x m:Int)(h:0 < m): ∃n:Nat,x % m=(n:Int)/\(n:Int) < m:=by
 have h1:=iP x (show m≠0 by lia);have h2:=kJ x h;exact⟨(x % m).toNat,by lia,by lia⟩
def k6 {α:Type}{g:α->V}{xs:List α}{m:Int}{x:Int}(hm:m=(xs.length:Int))(h:0 < m): ∃y∈xs,qY (xs.map g) (x % m)=some (g y):=by
 obtain⟨n,e,hn⟩:=AF x m h;have hl:n < xs.length:=by lia
 exact⟨xs[n],bN _,by rw[e]; exact cI (by rw[aE,ag hl]; rfl)⟩
inductive EL (vs:List V)(H:Hp)(Q:VK)(E':XK):Prop
 |mk (n p m:Int)(h1:vs=[.int n,.int p,.int m])(h2:0 < p)(h3:0 < m)(h4: ∀r,0<=r->r < m->Q (.int r) H):EL vs H Q E'
def AG:aV ["_law_number","_law_prime","_law_many"] ["_law_number","_law_prime","_law_many"] (aA (top 45)):={}
def CZ (T:Txt K mg):eO P w K mg base "_law_draw" 1 ["_law_number","_law_prime","_law_many"] EL:=by
 refine T.Cw.fb (k:=0) AG (fun f cV A outer s H vs Q E hr h=>?_)
 ·obtain⟨n,p,m,rfl,hp,hm,k⟩:=h;refine⟨_,(av (a6 (aO bZ (aO bZ (aO me (pv 0) ai) (pv 1)) (pv 2)))),?_⟩;refine⟨_,rfl,_,_,rfl,rfl,.inr ⟨by decide,by decide⟩,_,rfl,_,_,rfl,rfl,hp,_,rfl,_,_,rfl,rfl,hm,?_⟩;exact k _ (iP _ (by lia)) (kJ _ hm)
inductive wx (K:Frag)(vs:List V)(H:Hp)(Q:VK)(E':XK):Prop
 |mk (a:Addr)(cs:List Int)(h1:vs=[.ref a])(h2:bD K H a (cs.map V.int))(h3: ∀(pn:Addr) (names:List Str) (H':Hp),ay H H'->H' pn=some (.lst (names.map V.str))->names≠[]->names.length<=6->Q (.ref pn) H'):wx K vs H Q E'
def og:aV ["_law_cells","_law_spot","_law_made"] ["_law_cells"] (aA (top 49)):={}
def pH (T:Txt K mg):eO P w K mg base "_law_people" 1 ["_law_cells"] (wx K):=by
 refine T.xU.fb (k:=0) og (fun f cV A outer s H vs Q E hr h=>?_)
 ·obtain⟨a,cs,rfl,hS,k⟩:=h;have nd:=og.nd;refine⟨_,(ah (sv 1 nd (aO bZ (aO iw (fk (sY rfl) (by rfl) T.Kx boot_sum (aa (jf RZ (pv 0) mi (jG ai)) ao)) ai) ai))
(ah (sv 2 nd (bK (aa (bK (aa aK (aa aK (aa aK ao)))) (aa (bK (aa aK (aa aK (aa aK ao)))) ao))))
(ah (bM (qv (pv 2) (bK (aa (aO z6 aK ai) (aa (aO vx (aO vx (aO z6 aK (pv 1)) aK) (aO z6 aK (aO eQ ai (pv 1)))) (aa aK ao))))))
(av (a6 (xl (aO gr (pv 2) (bK (aa (bK (aa aK (aa aK (aa aK (aa aK (aa aK (aa aK ao))))))) ao))) (aO bZ (aO iw (fk (sY rfl) (by rfl) T.Kx boot_sum (aa (jf RZ (pv 0) mi (jG ai)) ao)) ai) ai))))))),?_⟩
  refine⟨_,rfl,_,rfl,a,_,rfl,hS,fun p1 n1=>?_⟩;obtain⟨ds,ed,_⟩:=Ul cs none (some 1);rw[ed];have s1:ay H (upd H p1 (.lst (ds.map V.int))):=ay.new n1;refine⟨p1,ds,rfl,bD.of af,_,_,rfl,rfl,⟨by decide,by decide⟩,_,_,rfl,rfl,(by show(0:Int) < 60; decide),?_⟩;obtain⟨sp,Wo,xG⟩:=AF (ds.sum / 28) 60 (by decide);show _;generalize upd H p1 (.lst (ds.map V.int))=H1 at s1 ⊢;refine⟨(by show 3<=sizeLine; decide),fun p2 n2=>⟨(by show 3<=sizeLine; decide),fun p3 n3=>⟨(by show 2<=sizeLine; decide),fun p4 n4=>?_⟩⟩⟩;have t2:=ay.new (o:= .lst [V.str "ann",.str "",.str "bo"]) n2;have t3:=ay.new (o:= .lst [V.str "ann",.str "ann lee",.str "Ann"]) n3;have t4:=ay.new (o:= .lst [V.ref p2,.ref p3]) n4;have s4:=((s1.trans t2).trans t3).trans t4;have g2:=(t3.trans t4) _ _ (af (H:=H1) (a:=p2) (o:= .lst [V.str "ann",.str "",.str "bo"]));have g3:=t4 _ _ (af (H:=upd H1 p2 (.lst [V.str "ann",.str "",.str "bo"])) (a:=p3) (o:= .lst [V.str "ann",.str "ann lee",.str "Ann"]));have g4:=af (H:=upd (upd H1 p2 (.lst [V.str "ann",.str "",.str "bo"])) p3 (.lst [V.str "ann",.str "ann lee",.str "Ann"])) (a:=p4) (o:= .lst [V.ref p2,.ref p3]);have m4:H p4=none:=((s1.trans t2).trans t3).free n4;generalize upd (upd (upd H1 p2 (.lst [V.str "ann",.str "",.str "bo"])) p3 (.lst [V.str "ann",.str "ann lee",.str "Ann"])) p4 (.lst [V.ref p2,.ref p3])=H4 at s4 g2 g3 g4 ⊢;clear t2 t3 t4;refine⟨_,rfl,.inl ⟨rfl,_,bD.of g4⟩,?_⟩;refine⟨_,_,rfl,rfl,rfl,(by decide),(by decide),fun z1 hz1=>?_⟩;refine⟨_,rfl,_,_,rfl,rfl,rfl,(by rw[Wo]; lia),(by rw[Wo]; lia),fun z2 hz2=>?_⟩;refine⟨_,_,rfl,rfl,cq (ja (by show z2.length + 1<=_; lia)),?_⟩;refine⟨_,rfl,_,_,rfl,rfl,_,_,rfl,rfl,rfl,(by rw[Wo]; lia),(by rw[Wo]; lia),fun z3 hz3=>?_⟩;refine⟨_,_,rfl,rfl,cq (ja (by
   have:(z2 ++ ("y":Str)).length=z2.length + 1:=by
    show(z2.cps ++ _).size=_;rw[Array.size_append]; rfl
   rw[this]; lia)),?_⟩
  refine⟨(by show 3<=sizeLine; decide),fun p5 n5=>?_⟩;generalize (z2 ++ ("y":Str)) ++ z3=z4;have t5:=ay.new (o:= .lst [V.str z1,.str z4,.str " ~"]) n5;refine⟨p4,_,_,rfl,rfl,t5 _ _ g4,(by show 2 < sizeLine; decide),?_⟩;have s5:ay H (upd (upd H4 p5 (.lst [V.str z1,.str z4,.str " ~"])) p4 (.lst ([V.ref p2,.ref p3] ++ [.ref p5]))):=(s4.trans t5).cW m4;have YC:p2≠p4:=fun e=>by rw[e,g4] at g2; cases g2
  have YD:p3≠p4:=fun e=>by rw[e,g4] at g3; cases g3
  have YE:p5≠p4:=(aI g4 n5).symm;have j2:upd (upd H4 p5 (.lst [V.str z1,.str z4,.str " ~"])) p4 (.lst ([V.ref p2,.ref p3] ++ [.ref p5])) p2=some (.lst [V.str "ann",.str "",.str "bo"]):=by rw[aB YC]; exact t5 _ _ g2
  have j3:upd (upd H4 p5 (.lst [V.str z1,.str z4,.str " ~"])) p4 (.lst ([V.ref p2,.ref p3] ++ [.ref p5])) p3=some (.lst [V.str "ann",.str "ann lee",.str "Ann"]):=by rw[aB YD]; exact t5 _ _ g3
  have j5:upd (upd H4 p5 (.lst [V.str z1,.str z4,.str " ~"])) p4 (.lst ([V.ref p2,.ref p3] ++ [.ref p5])) p5=some (.lst [V.str z1,.str z4,.str " ~"]):=by rw[aB YE]; exact af
  have j4:upd (upd H4 p5 (.lst [V.str z1,.str z4,.str " ~"])) p4 (.lst ([V.ref p2,.ref p3] ++ [.ref p5])) p4=some (.lst ([V.ref p2,.ref p3] ++ [.ref p5])):=af;generalize upd (upd H4 p5 (.lst [V.str z1,.str z4,.str " ~"])) p4 (.lst ([V.ref p2,.ref p3] ++ [.ref p5]))=H5 at s5 j2 j3 j4 j5 ⊢;clear t5;refine⟨_,rfl,?_⟩;refine⟨(by show 6<=sizeLine; decide),fun p6 n6=>⟨(by show 1<=sizeLine; decide),fun p7 n7=>?_⟩⟩;have t6:=ay.new (o:= .lst [V.str "ann",.str "",.str "bo",.str "Cy ~",.str "ann ",.str "dee"]) n6;have t7:=ay.new (o:= .lst [V.ref p6]) n7;have t67:=t6.trans t7;have j6:=t7 _ _ (af (H:=H5) (a:=p6) (o:= .lst [V.str "ann",.str "",.str "bo",.str "Cy ~",.str "ann ",.str "dee"]));refine⟨p4,p7,_,_,rfl,rfl,t67 _ _ j4,af,(by show 4<=sizeLine; decide),fun p8 n8=>?_⟩;have t8:=ay.new (o:= .lst (([V.ref p2,.ref p3] ++ [.ref p5]) ++ [.ref p6])) n8;have t78:=t67.trans t8;have s8:=s5.trans t78;refine⟨_,rfl,_,rfl,a,_,rfl,s8.seq hS,fun p9 n9=>?_⟩;rw[ed];have t9:=ay.new (o:= .lst (ds.map V.int)) n9;refine⟨p9,ds,rfl,bD.of af,_,_,rfl,rfl,⟨by decide,by decide⟩,_,_,rfl,rfl,(by show(0:Int) < 4; decide),?_⟩;obtain⟨r,er,YF⟩:=AF (ds.sum / 7) 4 (by decide);have YG:r < 4:=by lia
  have fin: ∀(pn:Addr) (names:List Str),H5 pn=some (.lst (names.map V.str))∨upd (upd H5 p6 (.lst [V.str "ann",.str "",.str "bo",.str "Cy ~",.str "ann ",.str "dee"])) p7 (.lst [V.ref p6]) pn=some (.lst (names.map V.str))->names≠[]->names.length<=6->Q (.ref pn) _:=fun pn names h h1 h2=>
   k pn names _ (s8.trans t9) (by
    rcases h with h|h
    ·exact(t78.trans t9) _ _ h
    ·exact(t8.trans t9) _ _ h) h1 h2
  have Wq:=t9 _ _ (af (H:=upd (upd H5 p6 (.lst [V.str "ann",.str "",.str "bo",.str "Cy ~",.str "ann ",.str "dee"])) p7 (.lst [V.ref p6])) (a:=p8) (o:= .lst (([V.ref p2,.ref p3] ++ [.ref p5]) ++ [.ref p6])))
  match r,YG,er with
  |0,_,er=>exact⟨p8,_,_,.ref p2,rfl,rfl,bD.of Wq,by show qY _ (ds.sum / 7 % 4)=_; rw[er]; rfl,fin p2 [_,_,_] (.inl j2) (by simp) (by simp)⟩
  |1,_,er=>exact⟨p8,_,_,.ref p3,rfl,rfl,bD.of Wq,by show qY _ (ds.sum / 7 % 4)=_; rw[er]; rfl,fin p3 [_,_,_] (.inl j3) (by simp) (by simp)⟩
  |2,_,er=>exact⟨p8,_,_,.ref p5,rfl,rfl,bD.of Wq,by show qY _ (ds.sum / 7 % 4)=_; rw[er]; rfl,fin p5 [_,_,_] (.inl j5) (by simp) (by simp)⟩
  |3,_,er=>exact⟨p8,_,_,.ref p6,rfl,rfl,bD.of Wq,by show qY _ (ds.sum / 7 % 4)=_; rw[er]; rfl,fin p6 [_,_,_,_,_,_] (.inr j6) (by simp) (by simp)⟩
  |r + 4,h,_=>lia
def at4 (a b c d x:Int): ∃y,qY [V.int a,V.int b,V.int c,V.int d] (x % 4)=some (V.int y):=by
 obtain⟨y,_,h⟩:=k6 (g:=V.int) (xs:=[a,b,c,d]) (m:=4) (x:=x) rfl (by decide);exact⟨y,h⟩
def at3 (a b c x:Int): ∃y,(y=a∨y=b∨y=c)/\qY [V.int a,V.int b,V.int c] (x % 3)=some (V.int y):=by
 obtain⟨y,hy,h⟩:=k6 (g:=V.int) (xs:=[a,b,c]) (m:=3) (x:=x) rfl (by decide);exact⟨y,by simpa using hy,h⟩
def C0 {x:Int}(h:x<=1000000000):x<=tF:=FR (l9 h (by decide +kernel))
def YH (a b x:Int): ∃y,(y=a∨y=b)/\qY [V.int a,V.int b] (x % 2)=some (V.int y):=by
 obtain⟨y,hy,h⟩:=k6 (g:=V.int) (xs:=[a,b]) (m:=2) (x:=x) rfl (by decide);exact⟨y,by simpa using hy,h⟩
inductive wy (K:Frag)(vs:List V)(H:Hp)(Q:VK)(E':XK):Prop
 |mk (a:Addr)(cs:List Int)(i:Nat)(h1:vs=[.ref a,.int i])(h2:bD K H a (cs.map V.int))(h3:i < cs.length)(h4: ∀(p:Addr) (aJ:Str) (day dP:Int) (H':Hp),ay H H'->H' p=some (.tup [.str aJ,.int day,.int dP])->day<=tF->Q (.ref p) H'):wy K vs H Q E'
def oh:aV ["_law_cells","_law_k","_law_cell","_law_rest","_law_names","_law_who","_law_day","_law_amount"] ["_law_cells","_law_k"] (aA (top 50)):={}
def yd (T:Txt K mg):eO P w K mg base "_law_penned" 2 ["_law_cells","_law_k"] (wy K):=by
 have lB:eO P w K mg base "_law_people" 1 ["_law_cells"] (wx K):=pH T;have oj:eO P w K mg base "_law_draw" 1 ["_law_number","_law_prime","_law_many"] EL:=CZ T;refine T.xV.fb (k:=1) oh (fun f cV A outer s H vs Q E hr h=>?_)
 ·obtain⟨a,cs,i,rfl,hS,hi,k⟩:=h;have nd:=oh.nd;refine⟨_,(ah (sv 2 nd (xl (pv 0) (pv 1)))
(ah (sv 3 nd (aO iw (pv 2) ai))
(ah (sv 4 nd (fc lB hr (aa (pv 0) ao)))
(ah (sv 5 nd (xl (pv 4) (aO bZ (aO cS (pv 3) (pv 1)) (lz T.dk (pv 4)))))
(ah (sv 6 nd (aO eQ (fc oj hr (aa (aO cS (pv 2) (aO me ai (pv 1))) (aa ai (aa ai ao)))) ai))
(ah (sv 7 nd (aO cS ai (fc oj hr (aa (aO cS (pv 2) (aO me ai (pv 1))) (aa ai (aa ai ao))))))
(iz (bP (aY cU (aO bZ (pv 2) ai) ai (a8 _))
(av (sv 7 nd (aO cS ai (aO me (fc oj hr (aa (aO cS (pv 2) (aO me ai (pv 1))) (aa ai (aa ai ao)))) ai))))
bh)
(iz (bP (aY cU (aO bZ (pv 2) ai) ai (a8 _))
(av (sv 7 nd (aO cS ai (aO bZ (pv 2) (aO eQ (aO MI (aO iY ai ai) (aO iY ai ai)) ai)))))
bh)
(iz (bP (aY cU (aO bZ (pv 2) ai) ai (a8 _))
(av (sv 7 nd (xl (bK (aa ai (aa (pE lp ai) (aa (aO iY ai ai) (aa (aO eQ ai (aO bZ (pv 2) (aO iY ai ai))) ao))))) (aO bZ (pv 3) ai))))
bh)
(iz (bP (aY cU (aO bZ (pv 2) ai) ai (a8 _))
(av (sv 6 nd (xl (bK (aa (aO iY ai ai) (aa (pE lp (aO iY ai ai)) (aa (aO eQ (aO bZ (pv 2) ai) ai) ao)))) (aO bZ (pv 3) ai))))
bh)
(iz (bP (aY cU (aO bZ (pv 2) ai) ai (a8 _))
(av (sv 6 nd (aO me (aO bZ (pv 2) (aO iY ai ai)) (xl (bK (aa ai (aa (pE lp ai) ao))) (aO bZ (pv 1) ai)))))
bh)
(av (a6 (cg (aa (pv 5) (aa (pv 6) (aa (pv 7) ao))))))))))))))))),?_⟩
  refine⟨_,rfl,_,rfl,a,_,_,.int (cs.getD i 0),rfl,rfl,hS,oa hi,?_⟩;generalize cs.getD i 0=cell;refine⟨_,rfl,_,_,rfl,rfl,⟨by decide,by decide⟩,?_⟩;refine⟨_,rfl,a,cs,rfl,hS,fun pn names H1 s1 EM hn0 hn6=>?_⟩;have Qx:0 < names.length:=List.length_pos_iff.mpr hn0;obtain⟨aJ,_,Um⟩:=k6 (g:=V.str) (xs:=names) (m:=((names.map V.str).length:Int)) (x:=cell / 16 + (i:Int)) (by rw[ae]) (by rw[ae]; lia);refine⟨_,rfl,_,rfl,_,rfl,_,_,rfl,rfl,_,rfl,pn,_,rfl,.inl (bD.of EM),_,_,rfl,rfl,(by rw[ae]; show(0:Int) < _; lia),pn,_,_,.str aJ,rfl,rfl,bD.of EM,Um,?_⟩;refine⟨_,rfl,_,rfl,_,_,rfl,rfl,.inl ⟨by decide,by decide⟩,_,_,rfl,rfl,_,_,_,rfl,by decide,by decide,fun r1 _ L1=>⟨_,_,rfl,rfl,?_⟩⟩;refine⟨_,rfl,_,rfl,_,_,rfl,rfl,.inl ⟨by decide,by decide⟩,_,_,rfl,rfl,_,_,_,rfl,by decide,by decide,fun r2 _ _=>⟨_,_,rfl,rfl,?_⟩⟩;refine⟨fun σ' H'=> ∃day dP:Int,σ'=[some (.ref a),some (.int i),some (.int cell),some (.int (cell / 16)),some (.ref pn),some (.str aJ),some (.int day),some (.int dP)]/\ay H H'/\day<=tF,?_,?_⟩
  ·refine⟨_,rfl,_,_,rfl,rfl,(by show(0:Int) < 7; decide),rfl,_,rfl,cE (fun c=>?_) (fun c=>⟨_,_,rfl,s1,C0 (by lia)⟩)⟩;refine⟨_,rfl,_,rfl,_,_,rfl,rfl,.inl ⟨by decide,by decide⟩,_,_,rfl,rfl,_,_,_,rfl,by decide,by decide,fun r3 _ _=>⟨_,_,rfl,rfl,.inr ⟨by decide,by decide⟩,_,_,rfl,rfl,?_⟩⟩;exact⟨_,_,rfl,s1,C0 (by lia)⟩
  rintro σ' H2 ⟨day,dP,rfl,s2,pz⟩;clear EM Um s1;refine⟨fun σ' H'=> ∃day dP:Int,σ'=[some (.ref a),some (.int i),some (.int cell),some (.int (cell / 16)),some (.ref pn),some (.str aJ),some (.int day),some (.int dP)]/\ay H H'/\day<=tF,?_,?_⟩
  ·refine⟨_,rfl,_,_,rfl,rfl,(by show(0:Int) < 41; decide),rfl,_,rfl,cE (fun c=>?_) (fun c=>⟨_,_,rfl,s2,pz⟩)⟩;refine⟨_,rfl,_,_,rfl,rfl,⟨by decide,by decide,by decide⟩,_,_,rfl,rfl,⟨by decide,by decide,by decide⟩,_,_,rfl,rfl,⟨by decide +kernel,by decide +kernel⟩,_,_,rfl,rfl,_,_,rfl,rfl,(by show(0:Int) < _; decide +kernel),_,_,rfl,rfl,?_⟩;exact⟨_,_,rfl,s2,pz⟩
  rintro σ' H3 ⟨day,dP,rfl,s3,pz⟩;refine⟨fun σ' H'=> ∃day dP:Int,σ'=[some (.ref a),some (.int i),some (.int cell),some (.int (cell / 16)),some (.ref pn),some (.str aJ),some (.int day),some (.int dP)]/\ay H H'/\day<=tF,?_,?_⟩
  ·refine⟨_,rfl,_,_,rfl,rfl,(by show(0:Int) < 41; decide),rfl,_,rfl,cE (fun c=>?_) (fun c=>⟨_,_,rfl,s3,pz⟩)⟩;refine⟨_,rfl,_,_,rfl,rfl,⟨by decide,by decide,by decide⟩,_,rfl,_,_,rfl,rfl,⟨by decide,by decide,by decide⟩,_,_,rfl,rfl,(by show(0:Int) < _; decide +kernel),_,_,rfl,rfl,(by show 4<=sizeLine; decide),fun p4 n4=>?_⟩;obtain⟨y,hy⟩:=at4 0 (-1) (10 ^ (12:Int).toNat) (0 - cell % 10 ^ (60:Int).toNat) (cell / 16);refine⟨_,rfl,_,_,rfl,rfl,(by show(0:Int) < 4; decide),p4,_,_,.int y,rfl,rfl,bD.of af,hy,?_⟩;exact⟨_,_,rfl,s3.trans (ay.new n4),pz⟩
  rintro σ' H4 ⟨day,dP,rfl,s4,pz⟩;refine⟨fun σ' H'=> ∃day dP:Int,σ'=[some (.ref a),some (.int i),some (.int cell),some (.int (cell / 16)),some (.ref pn),some (.str aJ),some (.int day),some (.int dP)]/\ay H H'/\day<=tF,?_,?_⟩
  ·refine⟨_,rfl,_,_,rfl,rfl,(by show(0:Int) < 43; decide),rfl,_,rfl,cE (fun c=>?_) (fun c=>⟨_,_,rfl,s4,pz⟩)⟩;refine⟨_,_,rfl,rfl,⟨by decide,by decide,by decide⟩,_,_,rfl,rfl,⟨by decide,by decide,by decide⟩,_,rfl,_,rfl,_,_,rfl,rfl,(by show(0:Int) < 2001; decide),_,_,rfl,rfl,(by show 3<=sizeLine; decide),fun p4 n4=>?_⟩;obtain⟨y,hy3,hy⟩:=at3 (10 ^ (9:Int).toNat) (-(10 ^ (9:Int).toNat)) (cell % 2001 - 1000) (cell / 16);refine⟨_,rfl,_,_,rfl,rfl,(by show(0:Int) < 3; decide),p4,_,_,.int y,rfl,rfl,bD.of af,hy,?_⟩;refine⟨_,_,rfl,s4.trans (ay.new n4),?_⟩;rcases hy3 with rfl|rfl|rfl
   ·exact C0 (by decide +kernel)
   ·exact C0 (by decide +kernel)
   ·exact C0 (by lia)
  rintro σ' H5 ⟨day,dP,rfl,s5,pz⟩;refine⟨fun σ' H'=> ∃day dP:Int,σ'=[some (.ref a),some (.int i),some (.int cell),some (.int (cell / 16)),some (.ref pn),some (.str aJ),some (.int day),some (.int dP)]/\ay H H'/\day<=tF,?_,?_⟩
  ·refine⟨_,rfl,_,_,rfl,rfl,(by show(0:Int) < 43; decide),rfl,_,rfl,cE (fun c=>?_) (fun c=>⟨_,_,rfl,s5,pz⟩)⟩;refine⟨_,rfl,_,_,rfl,rfl,⟨by decide,by decide,by decide⟩,_,_,rfl,rfl,(by show(0:Int) < _; decide +kernel),_,rfl,(by show 2<=sizeLine; decide),fun p4 n4=>?_⟩;obtain⟨y,YI,hy⟩:=YH 1 (-1) (i:Int);refine⟨_,rfl,_,_,rfl,rfl,(by show(0:Int) < 2; decide),p4,_,_,.int y,rfl,rfl,bD.of af,hy,_,_,rfl,rfl,.inr (by rcases YI with rfl|rfl <;> exact⟨by decide,by decide⟩),?_⟩;refine⟨_,_,rfl,s5.trans (ay.new n4),?_⟩;have m1:0<=cell % 10 ^ (60:Int).toNat:=iP _ (by decide +kernel);have m2:cell % 10 ^ (60:Int).toNat < 10 ^ 60:=kJ _ (by decide +kernel);have m3:(0:Int)<=10 ^ 60:=by decide +kernel
   refine FR ?_;generalize (10:Int) ^ 60=b60 at m2 m3 ⊢;rcases YI with rfl|rfl <;> lia
  rintro σ' H6 ⟨day,dP,rfl,s6,pz⟩;refine⟨_,rfl,_,rfl,_,rfl,(by show 3<=sizeLine; decide),fun p n=>?_⟩;exact k p aJ day dP _ (s6.trans (ay.new n)) af pz
def f9 {H:Hp}{a:Addr}{o o':HO}:upd (upd H a o) a o'=upd H a o':=by
 funext b
 by_cases h:b=a
 ·rw[h,af,af]
 ·rw[aB h,aB h,aB h]
def pl {f:Str}{v:V}{fs:List (Str×V)}{n:Nat}(h:fs.length<=n):(eF f v fs).length<=n + 1:=aR (nG f v fs) (Nat.add_le_add_right h 1)
def C1:([]:List (Str×V)).length<=0:=aD _
def lt1000 {fs:List (Str×V)}{n:Nat}(h:fs.length<=n)(k:n < 1000):fs.length < 1000:=qK h k
def KJ (n:Nat)(r:Rw):eF "amount" (.int r.c) (eF "due" (.int r.b) (eF "day" (.int r.a) (eF "who" (.str r.aJ) (eF "number" (.int n) []))))=fE n r:=by rfl
def KL (n:Nat)(r:Rw):eF "only" (uo r.c) (eF "amount" (.int r.b) (eF "day" (.int r.a) (eF "who" (.str r.aJ) (eF "number" (.int n) []))))=fe n r:=by rfl
inductive AH (A:dU)(vs:List V)(H:Hp)(Q:VK)(E':XK):Prop
 |mk (x dx:Addr)(n:Nat)(r:Rw)(h1:vs=[.ref x,.int n,.str r.aJ,.int r.a,.int r.b,.int r.c])(h2:H x=some (.ins A.dJ dx []))(h3:Q .en (upd H x (.ins A.dJ dx (fE n r)))):AH A vs H Q E'
def Nk:aV ["self","number","who","day","due","amount"] ["self","number","who","day","due","amount"] (aA (mem 13 0)):={}
def Qy {A:dU}(G:jA K mg A):tH P w K mg base "Bill" A.dJ 1 ["self","number","who","day","due","amount"] (AH A):=by
 refine Ni (k:=0) G.Nb G.Na Nk (fun f cV A' outer s H vs Q E hr h=>?_)
 ·obtain⟨x,dx,n,r,rfl,hx,k⟩:=h;refine⟨_,(ah (mE (pv 0) (pv 1))
(ah (mE (pv 0) (pv 2))
(ah (mE (pv 0) (pv 3))
(ah (mE (pv 0) (pv 4))
(av (mE (pv 0) (pv 5))))))),?_⟩
  refine⟨_,rfl,_,rfl,x,_,dx,_,rfl,hx,G.dZ,G.eT,lt1000 C1 (by decide),?_⟩;refine⟨_,rfl,_,rfl,x,_,dx,_,rfl,af,G.dZ,G.kZ,lt1000 (pl C1) (by decide),?_⟩;refine⟨_,rfl,_,rfl,x,_,dx,_,rfl,af,G.dZ,G.nV,lt1000 (pl (pl C1)) (by decide),?_⟩;refine⟨_,rfl,_,rfl,x,_,dx,_,rfl,af,G.dZ,G.nW,lt1000 (pl (pl (pl C1))) (by decide),?_⟩;refine⟨_,rfl,_,rfl,x,_,dx,_,rfl,af,G.dZ,G.nX,lt1000 (pl (pl (pl (pl C1)))) (by decide),?_⟩;rw[f9,f9,f9,f9,KJ];exact k
inductive AI (A:dU)(vs:List V)(H:Hp)(Q:VK)(E':XK):Prop
 |mk (x dx:Addr)(n:Nat)(r:Rw)(h1:vs=[.ref x,.int n,.str r.aJ,.int r.a,.int r.b,uo r.c])(h2:H x=some (.ins A.dY dx []))(h3:Q .en (upd H x (.ins A.dY dx (fe n r)))):AI A vs H Q E'
def Ig:aV ["self","number","who","day","amount","only"] ["self","number","who","day","amount","only"] (aA (mem 14 0)):={}
def KN {A:dU}(G:jA K mg A):tH P w K mg base "Credit" A.dY 1 ["self","number","who","day","amount","only"] (AI A):=by
 refine Ni (k:=0) G.HY G.HX Ig (fun f cV A' outer s H vs Q E hr h=>?_)
 ·obtain⟨x,dx,n,r,rfl,hx,k⟩:=h;refine⟨_,(ah (mE (pv 0) (pv 1))
(ah (mE (pv 0) (pv 2))
(ah (mE (pv 0) (pv 3))
(ah (mE (pv 0) (pv 4))
(av (mE (pv 0) (pv 5))))))),?_⟩
  refine⟨_,rfl,_,rfl,x,_,dx,_,rfl,hx,G.di,G.eN,lt1000 C1 (by decide),?_⟩;refine⟨_,rfl,_,rfl,x,_,dx,_,rfl,af,G.di,G.lA,lt1000 (pl C1) (by decide),?_⟩;refine⟨_,rfl,_,rfl,x,_,dx,_,rfl,af,G.di,G.jb,lt1000 (pl (pl C1)) (by decide),?_⟩;refine⟨_,rfl,_,rfl,x,_,dx,_,rfl,af,G.di,G.lV,lt1000 (pl (pl (pl C1))) (by decide),?_⟩;refine⟨_,rfl,_,rfl,x,_,dx,_,rfl,af,G.di,G.kj,lt1000 (pl (pl (pl (pl C1)))) (by decide),?_⟩;rw[f9,f9,f9,f9,KL];exact k
inductive AJ (A:dU)(vs:List V)(H:Hp)(Q:VK)(E':XK):Prop
 |mk (pw:Addr)(S:Bk)(f:eM)(c b:Nat)(x:Int)(h1:vs=[.ref pw,.int c,.int b,.int x])(h2:dM A H pw S f)(h3:c < S.credits.length)(h4:b < S.aG.length)(h5:S.made.length < sizeLine)(h6: ∀H',Frame f.fp H H'->dM A H' pw (S.put c b x) f->Q .en H'):AJ A vs H Q E'
def C2:aV ["self","credit_number","bill_number","amount"] ["self","credit_number","bill_number","amount"] (aA (mem 25 8)):={}
def Nl {rows:List Rw}{i:Nat}(h:i < rows.length):qY (rows.map fun r=>V.int r.d) (i:Int)=some (.int (rows.getD i default).d):=cI (by
 rw[aE,aj,ag h]; rfl)
def Ov {A:dU}(G:jA K mg A):gU sU P w K mg base A.work "put" 1 ["self","credit_number","bill_number","amount"] (AJ A):=by
 refine Nh (k:=0) G.CP G.bG C2 (fun f cV A' outer s H vs Q E hr h=>?_)
 ·obtain⟨pw,S,g,c,b,x,rfl,hW,hc,hb,hz,k⟩:=h;obtain⟨dw,hw⟩:=hW.obj;obtain⟨ms,m1,m2⟩:=hW.hm;obtain⟨e1,e2,e3,e4,e5,e6,e7,e8,e9,Ot⟩:=eM.ne hW.nd;have nw: ∀q∈g.fp,pw≠q:=fun q hq z=>hW.ins hW.obj (z▸hq);have w3:=nw g.pl (by simp[eM.fp]);have w4:=nw g.pf (by simp[eM.fp]);refine⟨_,(ah (jU (aO eQ (xl (kg (pv 0)) (pv 1)) (pv 3)) (sO (kg (pv 0)) (pv 1) set_list))
(ah (jU (aO eQ (xl (kg (pv 0)) (pv 2)) (pv 3)) (sO (kg (pv 0)) (pv 2) set_list))
(av (bM (qv (kg (pv 0)) (cg (aa (pv 1) (aa (pv 2) (aa (pv 3) ao))))))))),?_⟩
  refine⟨_,rfl,pw,_,dw,_,_,rfl,hw,G.bG,G.fG,lU g,_,rfl,g.pf,_,_,_,rfl,rfl,bD.of hW.hf,Nl hc,_,rfl,_,_,rfl,rfl,?_⟩;refine⟨_,rfl,pw,_,dw,_,_,rfl,hw,G.bG,G.fG,lU g,_,rfl,g.pf,_,_,c,rfl,rfl,hW.hf,u6 (by rw[ae]; exact hc),?_⟩;have Uo:upd H g.pf (.lst ((S.credits.map fun r=>V.int r.d).set c (.int ((S.cr c).d - x)))) pw=some (.ins A.work dw (lS g)):=by rw[aB w4]; exact hw
  have Qz:upd H g.pf (.lst ((S.credits.map fun r=>V.int r.d).set c (.int ((S.cr c).d - x)))) g.pl=some (.lst (S.aG.map fun r=>V.int r.d)):=by rw[aB e8]; exact hW.hl
  refine⟨_,rfl,pw,_,dw,_,_,rfl,Uo,G.bG,G.fF,lT g,_,rfl,g.pl,_,_,_,rfl,rfl,bD.of Qz,Nl hb,_,rfl,_,_,rfl,rfl,?_⟩;refine⟨_,rfl,pw,_,dw,_,_,rfl,Uo,G.bG,G.fF,lT g,_,rfl,g.pl,_,_,b,rfl,rfl,Qz,u6 (by rw[ae]; exact hb),?_⟩;have Ow:upd (upd H g.pf (.lst ((S.credits.map fun r=>V.int r.d).set c (.int ((S.cr c).d - x))))) g.pl (.lst ((S.aG.map fun r=>V.int r.d).set b (.int ((S.bl b).d - x)))) pw=some (.ins A.work dw (lS g)):=by rw[aB w3]; exact Uo
  have YJ:upd (upd H g.pf (.lst ((S.credits.map fun r=>V.int r.d).set c (.int ((S.cr c).d - x))))) g.pl (.lst ((S.aG.map fun r=>V.int r.d).set b (.int ((S.bl b).d - x)))) g.pm=some (.lst ms):=by rw[aB e9.symm,aB Ot.symm]; exact m1
  refine⟨_,rfl,pw,_,dw,_,_,rfl,Ow,G.bG,G.jJ,Ap g,.inl ⟨rfl,_,bD.of YJ⟩,_,rfl,_,rfl,_,rfl,(by show 3<=sizeLine; decide),fun p8 n8=>?_⟩;have n8':H p8=none:=by
   by_cases z1:p8=g.pl
   ·rw[z1,af] at n8; cases n8
   ·rw[aB z1] at n8;by_cases z2:p8=g.pf
    ·rw[z2,af] at n8; cases n8
    ·rw[aB z2] at n8; exact n8
  refine⟨g.pm,ms,_,rfl,rfl,ay.new n8 _ _ YJ,by rw[← aM m2]; exact hz,?_⟩;obtain⟨W,F⟩:=hW.put (x:=x) hc hb m1 m2 n8';exact k _ F W
end
end eJ
namespace L2
open PySem PySem.Spec PySem.W PyProof.Rows
section
variable {A:dU}{H H':Hp}{pw x:Addr}{S:Bk}{f:eM}{r:Rw}
def eM.kO (f:eM)(p:Addr):eM:={f with iD:=f.iD ++ [p]}
def eM.il (f:eM)(p:Addr):eM:={f with cps:=f.cps ++ [p]}
def dM.kO (h:dM A H pw S f)(hx:eA H x A.dJ (fE S.aG.length r)):
  dM A (upd (upd H f.pb (.lst (f.iD.map V.ref ++ [.ref x]))) f.pl (.lst ((S.aG.map fun r=>V.int r.d) ++ [.int r.d]))) pw (S.kO r) (f.kO x)/\Frame f.fp H (upd (upd H f.pb (.lst (f.iD.map V.ref ++ [.ref x]))) f.pl (.lst ((S.aG.map fun r=>V.int r.d) ++ [.int r.d]))):=by
 obtain⟨e1,e2,e3,e4,e5,e6,e7,e8,e9,Ot⟩:=eM.ne h.nd;have F:Frame f.fp H (upd (upd H f.pb (.lst (f.iD.map V.ref ++ [.ref x]))) f.pl (.lst ((S.aG.map fun r=>V.int r.d) ++ [.int r.d]))):=(Frame.upd (by simp[eM.fp])).tr (Frame.upd (by simp[eM.fp]));refine⟨?_,F⟩;obtain⟨o1,o2,o3⟩:=h.objs F;have tk:=h.tk F;obtain⟨ms,m1,m2⟩:=h.hm;have t: ∀q,q≠f.pb->q≠f.pl->upd (upd H f.pb (.lst (f.iD.map V.ref ++ [.ref x]))) f.pl (.lst ((S.aG.map fun r=>V.int r.d) ++ [.int r.d])) q=H q:=fun q z1 z2=>by rw[aB z2,aB z1]
 refine⟨o1,?_,?_,?_,?_,⟨ms,?_,m2.mono tk⟩,o2.add (hx.frame F (h.ins hx)),o3,h.nd⟩
 ·show upd (upd H f.pb _) f.pl _ f.pb=some (.lst ((f.iD ++ [x]).map V.ref));rw[aB e2,af,aL]; rfl
 ·exact(t f.pc e1.symm e5).trans h.hc
 ·show upd (upd H f.pb _) f.pl _ f.pl=some (.lst ((S.aG ++ [r]).map fun r=>V.int r.d));rw[af,aL]; rfl
 ·exact(t f.pf e3.symm e8.symm).trans h.hf
 ·exact(t f.pm e4.symm e9.symm).trans m1
def dM.il (h:dM A H pw S f)(hx:eA H x A.dY (fe S.credits.length r)):
  dM A (upd (upd H f.pc (.lst (f.cps.map V.ref ++ [.ref x]))) f.pf (.lst ((S.credits.map fun r=>V.int r.d) ++ [.int r.d]))) pw (S.il r) (f.il x)/\Frame f.fp H (upd (upd H f.pc (.lst (f.cps.map V.ref ++ [.ref x]))) f.pf (.lst ((S.credits.map fun r=>V.int r.d) ++ [.int r.d]))):=by
 obtain⟨e1,e2,e3,e4,e5,e6,e7,e8,e9,Ot⟩:=eM.ne h.nd;have F:Frame f.fp H (upd (upd H f.pc (.lst (f.cps.map V.ref ++ [.ref x]))) f.pf (.lst ((S.credits.map fun r=>V.int r.d) ++ [.int r.d]))):=(Frame.upd (by simp[eM.fp])).tr (Frame.upd (by simp[eM.fp]));refine⟨?_,F⟩;obtain⟨o1,o2,o3⟩:=h.objs F;have tk:=h.tk F;obtain⟨ms,m1,m2⟩:=h.hm;have t: ∀q,q≠f.pc->q≠f.pf->upd (upd H f.pc (.lst (f.cps.map V.ref ++ [.ref x]))) f.pf (.lst ((S.credits.map fun r=>V.int r.d) ++ [.int r.d])) q=H q:=fun q z1 z2=>by rw[aB z2,aB z1]
 refine⟨o1,?_,?_,?_,?_,⟨ms,?_,m2.mono tk⟩,o2,o3.add (hx.frame F (h.ins hx)),h.nd⟩
 ·exact(t f.pb e1 e3).trans h.hb
 ·show upd (upd H f.pc _) f.pf _ f.pc=some (.lst ((f.cps ++ [x]).map V.ref));rw[aB e6,af,aL]; rfl
 ·exact(t f.pl e5.symm e8).trans h.hl
 ·show upd (upd H f.pc _) f.pf _ f.pf=some (.lst ((S.credits ++ [r]).map fun r=>V.int r.d));rw[af,aL]; rfl
 ·exact(t f.pm e7.symm Ot.symm).trans m1
end
end L2
namespace eJ
open PySem L2 PyProof.Rows LW
seal L2.pC L2.PS L2.PE L2.PT L2.PW L2.PA L2.PC L2.PG L2.Js L2.PI L2.MB L2.LR L2.PO L2.oP L2.N9 L2.hV L2.JJ L2.Mu
section
variable {P:Program}{w:World}{K:Frag}{mg:Str->Option Value}{base:Heap}
def Nm (A:dU)(K:Frag)(E:XK)(t:Str)(H:Hp):Prop:= ∀C,gS K C A.refusal->(t="too much"->C=A.tooMuch)->EX E C t H
inductive KO (A:dU)(K:Frag)(vs:List V)(H:Hp)(Q:VK)(E:XK):Prop
 |mk (pw:Addr)(S:Bk)(f:eM)(n:Int)(h1:vs=[.ref pw,.int n])(h2:dM A H pw S f)(h3:(qM n S.credits.length-> ∀p,eA H p A.dY (fe n.toNat (S.cr n.toNat))->Q (.ref p) H))(h4:(¬ qM n S.credits.length->Nm A K E "no credit" H)):KO A K vs H Q E
inductive Gf (A:dU)(K:Frag)(vs:List V)(H:Hp)(Q:VK)(E:XK):Prop
 |mk (pw:Addr)(S:Bk)(f:eM)(n:Int)(h1:vs=[.ref pw,.int n])(h2:dM A H pw S f)(h3:(qM n S.aG.length-> ∀p,eA H p A.dJ (fE n.toNat (S.bl n.toNat))->Q (.ref p) H))(h4:(¬ qM n S.aG.length->Nm A K E "no bill" H)):Gf A K vs H Q E
def rP:aV ["self","number"] ["self","number"] (aA (mem 25 9)):={}
def C3 (T:Txt K mg){A:dU}(G:jA K mg A):gU (nj P w mg) P w K mg base A.work "credit_at" 4 ["self","number"] (KO A K):=by
 refine rN (k:=3) G.rM G.bG rP (fun f cV A' outer s H vs Q E hr mQ h=>?_)
 ·obtain⟨pw,S,g,n,rfl,hW,k1,k2⟩:=h;obtain⟨dw,hw⟩:=hW.obj;have hlen:(g.cps.map V.ref).length=S.credits.length:=by rw[ae]; exact hW.rc.1
  refine⟨_,(ah (bP (PW.pt (pw_or (aY jW (pv 1) ai (a8 _)) (pw_or1 (aY Jx (pv 1) (lz T.dk (kg (pv 0))) (a8 _)))))
(av (kb mQ (CS T G) (hr.h.mono (by decide)) rfl rfl))
bh)
(av (a6 (xl (kg (pv 0)) (pv 1))))),?_⟩
  have no: ¬ qM n S.credits.length-> ∀dx,H dx=none->E (.ref A.kh) (some dx) (upd H dx (.xd [("text",.str "no credit")])):=fun z dx hd=>(k2 z A.kh G.uq (fun q=>absurd q (by decide +kernel))).at hd;refine⟨_,rfl,_,_,rfl,rfl,_,rfl,cE (fun z=>fH (no fun q=>?_)) (fun z=>?_)⟩
  ·have z':n < 0:=aS z;have:=q.1;lia
  have z1: ¬ n < 0:=fun q=>z (aH q);refine⟨_,rfl,_,rfl,pw,_,dw,_,_,rfl,hw,G.bG,G.cL,g8 g,g.pc,_,rfl,.inl (bD.of hW.hc),_,_,rfl,rfl,_,rfl,cE (fun z=>no fun q=>?_) (fun z=>?_)⟩
  ·have z':((g.cps.map V.ref).length:Int)<=n:=aS z;have:=q.2;lia
  have z2: ¬ ((g.cps.map V.ref).length:Int)<=n:=fun q=>z (aH q);have js:qM n S.credits.length:=⟨by lia,by lia⟩;obtain⟨c,rfl⟩:=cD js.1;have hc:c < S.credits.length:=by have:=js.2; lia
  obtain⟨p,YK,uJ⟩:=hW.rc.get hc;refine⟨_,rfl,pw,_,dw,_,_,rfl,hw,G.bG,G.cL,g8 g,_,rfl,g.pc,_,_,.ref p,rfl,rfl,bD.of hW.hc,cI (by rw[aE,YK]; rfl),?_⟩;exact k1 js p uJ
def uS:aV ["self","number"] ["self","number"] (aA (mem 25 10)):={}
def zj (T:Txt K mg){A:dU}(G:jA K mg A):gU (nj P w mg) P w K mg base A.work "bill_at" 4 ["self","number"] (Gf A K):=by
 refine rN (k:=3) G.uQ G.bG uS (fun f cV A' outer s H vs Q E hr mQ h=>?_)
 ·obtain⟨pw,S,g,n,rfl,hW,k1,k2⟩:=h;obtain⟨dw,hw⟩:=hW.obj;have hlen:(g.iD.map V.ref).length=S.aG.length:=by rw[ae]; exact hW.rb.1
  refine⟨_,(ah (bP (PW.pt (pw_or (aY jW (pv 1) ai (a8 _)) (pw_or1 (aY Jx (pv 1) (lz T.dk (kg (pv 0))) (a8 _)))))
(av (kb mQ (Ib T G) (hr.h.mono (by decide)) rfl rfl))
bh)
(av (a6 (xl (kg (pv 0)) (pv 1))))),?_⟩
  have no: ¬ qM n S.aG.length-> ∀dx,H dx=none->E (.ref A.qw) (some dx) (upd H dx (.xd [("text",.str "no bill")])):=fun z dx hd=>(k2 z A.qw G.zf (fun q=>absurd q (by decide +kernel))).at hd;refine⟨_,rfl,_,_,rfl,rfl,_,rfl,cE (fun z=>fH (no fun q=>?_)) (fun z=>?_)⟩
  ·have z':n < 0:=aS z;have:=q.1;lia
  have z1: ¬ n < 0:=fun q=>z (aH q);refine⟨_,rfl,_,rfl,pw,_,dw,_,_,rfl,hw,G.bG,G.dW,jk g,g.pb,_,rfl,.inl (bD.of hW.hb),_,_,rfl,rfl,_,rfl,cE (fun z=>no fun q=>?_) (fun z=>?_)⟩
  ·have z':((g.iD.map V.ref).length:Int)<=n:=aS z;have:=q.2;lia
  have z2: ¬ ((g.iD.map V.ref).length:Int)<=n:=fun q=>z (aH q);have js:qM n S.aG.length:=⟨by lia,by lia⟩;obtain⟨c,rfl⟩:=cD js.1;have hc:c < S.aG.length:=by have:=js.2; lia
  obtain⟨p,YK,uJ⟩:=hW.rb.get hc;refine⟨_,rfl,pw,_,dw,_,_,rfl,hw,G.bG,G.dW,jk g,_,rfl,g.pb,_,_,.ref p,rfl,rfl,bD.of hW.hb,cI (by rw[aE,YK]; rfl),?_⟩;exact k1 js p uJ
def Up (A:dU)(Q:VK)(H:Hp)(pw:Addr)(f:eM)(S':Bk)(v:V):Prop:= ∀f' H',f'.fp=f.fp->Frame f.fp H H'->dM A H' pw S' f'->Q v H'
inductive u9 (A:dU)(K:Frag)(vs:List V)(H:Hp)(Q:VK)(E:XK):Prop
 |mk (pw:Addr)(S:Bk)(f:eM)(aJ:Str)(day dP only:Int)(h1:vs=[.ref pw,.str aJ,.int day,.int dP,uo only])(h2:dM A H pw S f)(h3:S.credits.length<=900)(h4:(1<=dP->Up A Q H pw f (S.il ⟨aJ,day,dP,only,dP⟩) (.int S.credits.length)))(h5:(dP < 1->Nm A K E "no amount" H)):u9 A K vs H Q E
def jB:aV ["self","who","day","amount","only","number"] ["self","who","day","amount","only"] (aA (mem 25 4)):={}
def jS {H:Hp}{x dx C:Addr}{fs:List (Str×V)}(nx:H x=none)(nd:H dx=none)(ne:dx≠x):ay H (upd (upd H dx (.own x)) x (.ins C dx fs)):=(ay.new nd).trans (ay.new (by rw[aB ne.symm]; exact nx))
def pI (T:Txt K mg){A:dU}(G:jA K mg A):gU (nj P w mg) P w K mg base A.work "tell_credit" 5 ["self","who","day","amount","only"] (u9 A K):=by
 have gF:wt P w K mg base "check_amount" 4 ["amount"] (rO A):=km T G;have KP:tH P w K mg base "Credit" A.dY 1 ["self","number","who","day","amount","only"] (AI A):=KN G;refine rN (k:=4) G.pq G.bG jB (fun f cV A' outer s H vs Q E hr mQ h=>?_)
 ·obtain⟨pw,S,g,aJ,day,dP,only,rfl,hW,hl,k1,k2⟩:=h;have nd:=jB.nd;obtain⟨dw,hw⟩:=hW.obj;have hlen:(g.cps.map V.ref).length=S.credits.length:=by rw[ae]; exact hW.rc.1
  refine⟨_,(ah (bM (tI gF (hr.mono (by decide)) rfl mQ.pass (aa (pv 3) ao)))
(ah (sv 5 nd (lz T.dk (kg (pv 0))))
(ah (bM (qv (kg (pv 0)) (Uk KP (hr.mono (by decide)) rfl (aa (pv 5) (aa (pv 1) (aa (pv 2) (aa (pv 3) (aa (pv 4) ao))))))))
(ah (bM (qv (kg (pv 0)) (pv 3)))
(av (a6 (pv 5))))))),?_⟩
  refine⟨_,rfl,dP,rfl,fun h1=>?_,fun h2=>k2 h2 A.iG G.kY (fun q=>absurd q (by decide +kernel))⟩;refine⟨_,rfl,pw,_,dw,_,_,rfl,hw,G.bG,G.cL,g8 g,g.pc,_,rfl,.inl (bD.of hW.hc),?_⟩;refine⟨_,rfl,pw,_,dw,_,_,rfl,hw,G.bG,G.cL,g8 g,.inl ⟨rfl,_,bD.of hW.hc⟩,_,rfl,_,rfl,_,rfl,_,rfl,_,rfl,fun x dx nx KH ne=>?_⟩;refine⟨x,dx,(g.cps.map V.ref).length,⟨aJ,day,dP,only,dP⟩,rfl,af,rfl,?_⟩;rw[f9,hlen];have s1:=jS (C:=A.dY) (fs:=fe S.credits.length ⟨aJ,day,dP,only,dP⟩) nx KH ne;have hx:eA (upd (upd H dx (.own x)) x (.ins A.dY dx (fe S.credits.length ⟨aJ,day,dP,only,dP⟩))) x A.dY (fe S.credits.length ⟨aJ,day,dP,only,dP⟩):=⟨dx,af⟩;generalize upd (upd H dx (.own x)) x (.ins A.dY dx (fe S.credits.length ⟨aJ,day,dP,only,dP⟩))=H3 at s1 hx;have AK:=hW.same s1;obtain⟨W4,F4⟩:=AK.il hx;refine⟨g.pc,_,_,rfl,rfl,AK.hc,a9 (by lia),?_⟩;have ew:pw≠g.pc:=fun z=>AK.ins AK.obj (z▸(by simp[eM.fp]));obtain⟨e1,e2,e3,e4,e5,e6,e7,e8,e9,Ot⟩:=eM.ne AK.nd;refine⟨_,rfl,pw,_,dw,_,_,rfl,(by rw[aB ew]; exact s1 _ _ hw),G.bG,G.fG,lU g,.inl ⟨rfl,_,bD.of (by rw[aB e6.symm]; exact AK.hf)⟩,_,rfl,g.pf,_,_,rfl,rfl,(by rw[aB e6.symm]; exact AK.hf),a9 (by rw[ae]; lia),?_⟩;refine⟨_,rfl,?_⟩;exact k1 h1 (g.il x) _ rfl (F4.mF s1) W4
inductive AL (A:dU)(K:Frag)(vs:List V)(H:Hp)(Q:VK)(E:XK):Prop
 |mk (pw:Addr)(S:Bk)(f:eM)(aJ:Str)(day BB dP:Int)(h1:vs=[.ref pw,.str aJ,.int day,.int BB,.int dP])(h2:dM A H pw S f)(h3:S.aG.length<=900)(h4:(S.bar (.dJ aJ day BB dP)=""->Up A Q H pw f (S.enter (.dJ aJ day BB dP)) (.int S.aG.length)))(h5:(S.bar (.dJ aJ day BB dP)≠""->Nm A K E (S.bar (.dJ aJ day BB dP)) H)):AL A K vs H Q E
def k7:aV ["self","who","day","due","amount","number"] ["self","who","day","due","amount"] (aA (mem 25 1)):={}
def C4 (T:Txt K mg){A:dU}(G:jA K mg A):gU (nj P w mg) P w K mg base A.work "tell_bill" 5 ["self","who","day","due","amount"] (AL A K):=by
 have gF:wt P w K mg base "check_amount" 4 ["amount"] (rO A):=km T G;have QA:tH P w K mg base "Bill" A.dJ 1 ["self","number","who","day","due","amount"] (AH A):=Qy G;refine rN (k:=4) G.rJ G.bG k7 (fun f cV A' outer s H vs Q E hr mQ h=>?_)
 ·obtain⟨pw,S,g,aJ,day,BB,dP,rfl,hW,hl,k1,k2⟩:=h;have nd:=k7.nd;obtain⟨dw,hw⟩:=hW.obj;have pA:S.bar (.dJ aJ day BB dP)=(if dP < 1 then("no amount":Str) else if BB < day then("too early":Str) else("":Str)):=rfl;rw[pA] at k1 k2;have hlen:(g.iD.map V.ref).length=S.aG.length:=by rw[ae]; exact hW.rb.1
  refine⟨_,(ah (bM (tI gF (hr.mono (by decide)) rfl mQ.pass (aa (pv 4) ao)))
(ah (bP (aY jW (pv 3) (pv 2) (a8 _))
(av (kb mQ (CY T G) (hr.h.mono (by decide)) rfl rfl))
bh)
(ah (sv 5 nd (lz T.dk (kg (pv 0))))
(ah (bM (qv (kg (pv 0)) (Uk QA (hr.mono (by decide)) rfl (aa (pv 5) (aa (pv 1) (aa (pv 2) (aa (pv 3) (aa (pv 4) ao))))))))
(ah (bM (qv (kg (pv 0)) (pv 4)))
(av (a6 (pv 5)))))))),?_⟩
  refine⟨_,rfl,dP,rfl,fun h1=>?_,fun h2=>?_⟩
  ·have n1': ¬ dP < 1:=by lia
   rw[aQ n1'] at k1 k2;refine⟨_,rfl,_,rfl,_,_,rfl,rfl,_,rfl,cE (fun z=>?_) (fun z=>?_)⟩
   ·have z':BB < day:=aS z;rw[a0 z'] at k2;exact fun dx n=>(k2 (by decide +kernel) A.tooEarly G.ur (fun q=>absurd q (by decide +kernel))).at n
   have z': ¬ BB < day:=fun q=>z (aH q);rw[aQ z'] at k1;refine⟨_,rfl,pw,_,dw,_,_,rfl,hw,G.bG,G.dW,jk g,g.pb,_,rfl,.inl (bD.of hW.hb),?_⟩;refine⟨_,rfl,pw,_,dw,_,_,rfl,hw,G.bG,G.dW,jk g,.inl ⟨rfl,_,bD.of hW.hb⟩,_,rfl,_,rfl,_,rfl,_,rfl,_,rfl,fun x dx nx KH ne=>?_⟩;refine⟨x,dx,(g.iD.map V.ref).length,⟨aJ,day,BB,dP,dP⟩,rfl,af,rfl,?_⟩;rw[f9,hlen];have s1:=jS (C:=A.dJ) (fs:=fE S.aG.length ⟨aJ,day,BB,dP,dP⟩) nx KH ne;have hx:eA (upd (upd H dx (.own x)) x (.ins A.dJ dx (fE S.aG.length ⟨aJ,day,BB,dP,dP⟩))) x A.dJ (fE S.aG.length ⟨aJ,day,BB,dP,dP⟩):=⟨dx,af⟩;generalize upd (upd H dx (.own x)) x (.ins A.dJ dx (fE S.aG.length ⟨aJ,day,BB,dP,dP⟩))=H3 at s1 hx;have AK:=hW.same s1;obtain⟨W4,F4⟩:=AK.kO hx;refine⟨g.pb,_,_,rfl,rfl,AK.hb,a9 (by lia),?_⟩;have ew:pw≠g.pb:=fun z=>AK.ins AK.obj (z▸(by simp[eM.fp]));obtain⟨e1,e2,e3,e4,e5,e6,e7,e8,e9,Ot⟩:=eM.ne AK.nd;refine⟨_,rfl,pw,_,dw,_,_,rfl,(by rw[aB ew]; exact s1 _ _ hw),G.bG,G.fF,lT g,.inl ⟨rfl,_,bD.of (by rw[aB e2.symm]; exact AK.hl)⟩,_,rfl,g.pl,_,_,rfl,rfl,(by rw[aB e2.symm]; exact AK.hl),a9 (by rw[ae]; lia),?_⟩;refine⟨_,rfl,?_⟩;exact k1 rfl (g.kO x) _ rfl (F4.mF s1) W4
  ·rw[a0 h2] at k2;exact k2 (by decide +kernel) A.iG G.kY (fun q=>absurd q (by decide +kernel))
def om (g:eM):(lS g).lookup ("tell_credit":Str)=none:=by rfl
def wz (g:eM):(lS g).lookup ("bill_at":Str)=none:=by rfl
def AM (g:eM):(lS g).lookup ("credit_at":Str)=none:=by rfl
def KQ (g:eM):(lS g).lookup ("put":Str)=none:=by rfl
inductive AN (A:dU)(K:Frag)(vs:List V)(H:Hp)(Q:VK)(E:XK):Prop
 |mk (pw:Addr)(S:Bk)(f:eM)(aJ:Str)(day dP:Int)(h1:vs=[.ref pw,.str aJ,.int day,.int dP])(h2:dM A H pw S f)(h3:S.credits.length<=900)(h4:(S.bar (.o7 aJ day dP)=""->Up A Q H pw f (S.enter (.o7 aJ day dP)) (.int S.credits.length)))(h5:(S.bar (.o7 aJ day dP)≠""->Nm A K E (S.bar (.o7 aJ day dP)) H)):AN A K vs H Q E
def oo:aV ["self","who","day","amount"] ["self","who","day","amount"] (aA (mem 25 2)):={}
def wA (T:Txt K mg){A:dU}(G:jA K mg A):gU (nj P w mg) P w K mg base A.work "tell_payment" 6 ["self","who","day","amount"] (AN A K):=by
 have lC:gU (nj P w mg) P w K mg base A.work "tell_credit" 5 ["self","who","day","amount","only"] (u9 A K):=pI T G;refine rN (k:=5) G.nY G.bG oo (fun f cV A' outer s H vs Q E hr mQ h=>?_)
 ·obtain⟨pw,S,g,aJ,day,dP,rfl,hW,hl,k1,k2⟩:=h;obtain⟨dw,hw⟩:=hW.obj;have pA:S.bar (.o7 aJ day dP)=(if dP < 1 then("no amount":Str) else("":Str)):=rfl;rw[pA] at k1 k2;refine⟨_,(av (a6 (nZ lC (hr.mono (by decide)) mQ.pass (pv 0) (aa (pv 1) (aa (pv 2) (aa (pv 3) (aa D3 ao))))))),?_⟩;refine⟨_,rfl,pw,dw,_,rfl,hw,om g,_,rfl,_,rfl,_,rfl,pw,S,g,aJ,day,dP,-1,rfl,hW,hl,fun h1=>?_,fun h2=>?_⟩
  ·rw[aQ (by lia)] at k1;exact k1 rfl
  ·rw[a0 h2] at k2;exact k2 (by decide +kernel)
inductive AO (A:dU)(K:Frag)(vs:List V)(H:Hp)(Q:VK)(E:XK):Prop
 |mk (pw:Addr)(S:Bk)(f:eM)(b day dP:Int)(h1:vs=[.ref pw,.int b,.int day,.int dP])(h2:dM A H pw S f)(h3:S.credits.length<=900)(h4:(S.bar (.note b day dP)=""->Up A Q H pw f (S.enter (.note b day dP)) (.int S.credits.length)))(h5:(S.bar (.note b day dP)≠""->Nm A K E (S.bar (.note b day dP)) H)):AO A K vs H Q E
def k8:aV ["self","bill_number","day","amount","bill"] ["self","bill_number","day","amount"] (aA (mem 25 3)):={}
def C5 (T:Txt K mg){A:dU}(G:jA K mg A):gU (nj P w mg) P w K mg base A.work "tell_note" 6 ["self","bill_number","day","amount"] (AO A K):=by
 have lC:gU (nj P w mg) P w K mg base A.work "tell_credit" 5 ["self","who","day","amount","only"] (u9 A K):=pI T G;have tJ:gU (nj P w mg) P w K mg base A.work "bill_at" 4 ["self","number"] (Gf A K):=zj T G;refine rN (k:=5) G.rK G.bG k8 (fun f cV A' outer s H vs Q E hr mQ h=>?_)
 ·obtain⟨pw,S,g,b,day,dP,rfl,hW,hl,k1,k2⟩:=h;have nd:=k8.nd;obtain⟨dw,hw⟩:=hW.obj;rw[vW] at k1 k2;refine⟨_,(ah (sv 4 nd (nZ tJ (hr.mono (by decide)) mQ.pass (pv 0) (aa (pv 1) ao)))
(av (a6 (nZ lC (hr.mono (by decide)) mQ.pass (pv 0) (aa (kg (pv 4)) (aa (pv 2) (aa (pv 3) (aa (pv 1) ao)))))))),?_⟩
  refine⟨_,rfl,pw,dw,_,rfl,hw,wz g,_,rfl,pw,S,g,b,rfl,hW,fun js p hp=>?_,fun hn=>?_⟩
  ·obtain⟨dp,Uq⟩:=hp;have zb: ¬ ¬ qM b S.aG.length:=fun z=>z js;rw[aQ zb] at k1 k2;have ho:uo b=V.int b:=aQ (fun z=>by have:=js.1; lia);refine⟨_,rfl,pw,dw,_,rfl,hw,om g,_,rfl,p,_,dp,_,_,rfl,Uq,G.dZ,G.kZ,EC _ _,_,rfl,_,rfl,_,rfl,pw,S,g,(S.bl b.toNat).aJ,day,dP,b,(by rw[ho]; rfl),hW,hl,fun h1=>?_,fun h2=>?_⟩
   ·rw[aQ (by lia)] at k1;exact k1 rfl
   ·rw[a0 h2] at k2;exact k2 (by decide +kernel)
  ·rw[a0 hn] at k2;exact k2 (by decide +kernel)
def zk {S:Bk}{n c b:Nat}(wf:WF S n)(hc:c < S.credits.length)(hb:b < S.aG.length):pG (S.cr c) (S.bl b) b=S.eG c b:=by
 unfold pG Bk.eG;by_cases z:(S.cr c).c= -1
 ·rw[a0 z,aH z,Bool.true_or,Bool.and_true]
 ·rw[aQ z,br z,Bool.false_or];rcases wf.o c hc with q|⟨b',e1,e2,e3⟩
  ·exact absurd q z
  ·by_cases y:(S.cr c).c=(b:Int)
   ·have:b'=b:=by lia
    subst this;rw[aH y,aH e3]; rfl
   ·rw[br y,l6]
inductive KR (A:dU)(K:Frag)(vs:List V)(H:Hp)(Q:VK)(E:XK):Prop
 |mk (pw:Addr)(S:Bk)(f:eM)(n:Nat)(ci bi dP:Int)(h1:vs=[.ref pw,.int ci,.int bi,.int dP])(h2:dM A H pw S f)(h3:WF S n)(h4:S.made.length < sizeLine)(h5:(S.bar (.set ci bi dP)=""->Up A Q H pw f (S.enter (.set ci bi dP)) (.int dP)))(h6:(S.bar (.set ci bi dP)≠""->Nm A K E (S.bar (.set ci bi dP)) H)):KR A K vs H Q E
def jC:aV ["self","credit_number","bill_number","amount","credit","bill"] ["self","credit_number","bill_number","amount"] (aA (mem 25 5)):={}
def ye (T:Txt K mg){A:dU}(G:jA K mg A):gU (nj P w mg) P w K mg base A.work "set_by_hand" 5 ["self","credit_number","bill_number","amount"] (KR A K):=by
 have C6:gU (nj P w mg) P w K mg base A.work "credit_at" 4 ["self","number"] (KO A K):=C3 T G;have tJ:gU (nj P w mg) P w K mg base A.work "bill_at" 4 ["self","number"] (Gf A K):=zj T G;have KS:gU sU P w K mg base A.work "put" 1 ["self","credit_number","bill_number","amount"] (AJ A):=Ov G;have EN:eO P w K mg base "fits" 1 ["credit","bill"] (AE A):=KI T G;have gF:wt P w K mg base "check_amount" 4 ["amount"] (rO A):=km T G;refine rN (k:=4) G.px G.bG jC (fun f cV A' outer s H vs Q E hr mQ h=>?_)
 ·obtain⟨pw,S,g,n,ci,bi,dP,rfl,hW,wf,hz,k1,k2⟩:=h;have nd:=jC.nd;obtain⟨dw,hw⟩:=hW.obj;rw[Aa] at k1 k2;refine⟨_,(ah (sv 4 nd (nZ C6 (hr.mono (by decide)) mQ.pass (pv 0) (aa (pv 1) ao)))
(ah (sv 5 nd (nZ tJ (hr.mono (by decide)) mQ.pass (pv 0) (aa (pv 2) ao)))
(ah (bP (jT (gf (fc EN hr (aa (pv 4) (aa (pv 5) ao)))))
(av (kb mQ (Az T G) (hr.h.mono (by decide)) rfl rfl))
bh)
(ah (bM (tI gF (hr.mono (by decide)) rfl mQ.pass (aa (pv 3) ao)))
(ah (bP (PW.pt (pw_or (aY je (pv 3) (xl (kg (pv 0)) (pv 1)) (a8 _)) (pw_or1 (aY je (pv 3) (xl (kg (pv 0)) (pv 2)) (a8 _)))))
(av (kb mQ (EJ T G) (hr.h.mono (by decide)) rfl rfl))
bh)
(ah (bM (nZ KS (hr.mono (by decide)) nK (pv 0) (aa (pv 1) (aa (pv 2) (aa (pv 3) ao)))))
(av (a6 (pv 3))))))))),?_⟩
  refine⟨_,rfl,pw,dw,_,rfl,hw,AM g,_,rfl,pw,S,g,ci,rfl,hW,fun ic p hp=>?_,fun hn=>?_⟩
  case refine_2=>
   rw[a0 hn] at k2;exact k2 (by decide +kernel)
  have zc: ¬ ¬ qM ci S.credits.length:=fun z=>z ic;rw[aQ zc] at k1 k2;refine⟨_,rfl,pw,dw,_,rfl,hw,wz g,_,rfl,pw,S,g,bi,rfl,hW,fun ib q hq=>?_,fun hn=>?_⟩
  case refine_2=>
   rw[a0 hn] at k2;exact k2 (by decide +kernel)
  have zb: ¬ ¬ qM bi S.aG.length:=fun z=>z ib;rw[aQ zb] at k1 k2;obtain⟨c,rfl⟩:=cD ic.1;obtain⟨b,rfl⟩:=cD ib.1;have hc:c < S.credits.length:=by have:=ic.2; lia
  have hb:b < S.aG.length:=by have:=ib.2; lia
  rw[dB] at hp hq k1 k2;rw[dB] at k1 k2;have hfg:=zk wf hc hb;refine⟨_,rfl,_,rfl,p,q,c,b,_,_,rfl,hp,hq,_,rfl,?_⟩;rw[hfg];refine cE (fun z=>?_) (fun z=>?_)
  ·have z':S.eG c b=false:=by simpa using z
   rw[a0 z'] at k2;exact fun dx nn=>(k2 (by decide +kernel) A.jQ G.rG (fun q=>absurd q (by decide +kernel))).at nn
  have zg: ¬ S.eG c b=false:=by simpa using z
  rw[aQ zg] at k1 k2;refine⟨_,rfl,dP,rfl,fun h1=>?_,fun h2=>?_⟩
  case refine_2=>
   rw[a0 h2] at k2;exact k2 (by decide +kernel) A.iG G.kY (fun q=>absurd q (by decide +kernel))
  rw[aQ (by lia: ¬ dP < 1)] at k1 k2;have Ur:gq (S.cr c).d (S.bl b).d < dP-> ∀dx,H dx=none->E (.ref A.tooMuch) (some dx) (upd H dx (.xd [("text",.str "too much")])):=fun z dx nn=>by
   rw[a0 z] at k2;exact(k2 (by decide +kernel) A.tooMuch G.qx (fun _=>rfl)).at nn
  refine⟨_,rfl,_,rfl,pw,_,dw,_,_,rfl,hw,G.bG,G.fG,lU g,_,rfl,g.pf,_,_,_,rfl,rfl,bD.of hW.hf,Nl hc,_,_,rfl,rfl,_,rfl,cE (fun z=>fH (Ur ?_)) (fun z=>?_)⟩
  ·have z':(S.cr c).d < dP:=aS z;unfold gq;split <;> lia
  have z1: ¬ (S.cr c).d < dP:=fun q=>z (aH q);refine⟨_,rfl,_,rfl,pw,_,dw,_,_,rfl,hw,G.bG,G.fF,lT g,_,rfl,g.pl,_,_,_,rfl,rfl,bD.of hW.hl,Nl hb,_,_,rfl,rfl,_,rfl,cE (fun z=>Ur ?_) (fun z=>?_)⟩
  ·have z':(S.bl b).d < dP:=aS z;unfold gq;split <;> lia
  have z2: ¬ (S.bl b).d < dP:=fun q=>z (aH q);have zm: ¬ gq (S.cr c).d (S.bl b).d < dP:=by
   unfold gq;split <;> lia
  rw[aQ zm] at k1;refine⟨_,rfl,pw,dw,_,rfl,hw,KQ g,_,rfl,_,rfl,_,rfl,pw,S,g,c,b,dP,rfl,hW,hc,hb,hz,fun H2 F2 W2=>?_⟩;exact⟨_,rfl,k1 rfl g H2 rfl F2 W2⟩
def Gg:Sp:=fun vs H Q _=>vs=[]/\ ∀(sd:Addr) (f:fA) (H':Hp),ay H H'->dh H' sd Bk.new f->H sd=none->(∀b∈f.fp,H b=none)->Q (.ref sd) H'
def yf:aV [] [] (aA (top 55)):={}
def rQ (T:Txt K mg):eO P w K mg base "_law_begun" 1 [] Gg:=by
 refine T.Al.fb (k:=0) yf (fun f cV A outer s H vs Q E hr h=>?_)
 ·obtain⟨rfl,k⟩:=h;refine⟨_,(av (a6 (ME (vG aK (bK ao) (vG aK (bK ao) (vG aK (bK ao) MD))) (by rfl) rfl (by simp) (by decide)))),?_⟩;intro sd M7;refine⟨bu _,fun pb nb=>⟨bu _,fun pc nc=>⟨bu _,fun pm nm=>?_⟩⟩⟩;have t0:=ay.new (o:= .dK []) M7;have t1:=ay.new (o:= .lst []) nb;have t2:=ay.new (o:= .lst []) nc;have t3:=ay.new (o:= .lst []) nm;have g0:=((t1.trans t2).trans t3) _ _ (af (H:=H) (a:=sd) (o:= .dK []));have gb:=(t2.trans t3) _ _ (af (H:=upd H sd (.dK [])) (a:=pb) (o:= .lst []));have gc:=t3 _ _ (af (H:=upd (upd H sd (.dK [])) pb (.lst [])) (a:=pc) (o:= .lst []));have gm:=af (H:=upd (upd (upd H sd (.dK [])) pb (.lst [])) pc (.lst [])) (a:=pm) (o:= .lst []);have nb0:=t0.free nb;have nc0:=(t0.trans t1).free nc;have Ox:=((t0.trans t1).trans t2).free nm;have e1:sd≠pb:=aI af nb;have e2:sd≠pc:=aI (t1 _ _ af) nc;have e3:sd≠pm:=aI ((t1.trans t2) _ _ af) nm;have e4:pb≠pc:=aI af nc;have e5:pb≠pm:=aI (t2 _ _ af) nm;have e6:pc≠pm:=aI af nm;have s3:=((t0.trans t1).trans t2).trans t3;generalize upd (upd (upd (upd H sd (.dK [])) pb (.lst [])) pc (.lst [])) pm (.lst [])=H3 at g0 gb gc gm s3 ⊢;refine⟨g0,[(Sum.inr "bills",.ref pb),(Sum.inr "credits",.ref pc),(Sum.inr "made",.ref pm)],rfl,(by show 3<=15; lia),?_⟩;refine k sd ⟨pb,pc,pm,[],[]⟩ _ (s3.cW M7) ⟨?_,by rw[aB e1.symm]; exact gb,by rw[aB e2.symm]; exact gc,⟨[],by rw[aB e3.symm]; exact gm,.nil⟩,.nil,.nil,?_,?_⟩ M7 ?_
  ·rw[af,P4]; rfl
  ·simp[fA.fp,e4,e5,e6]
  ·simp[fA.fp,e1,e2,e3]
  ·intro b hb;simp only[fA.fp,List.append_nil,List.mem_cons,List.not_mem_nil,or_false] at hb;rcases hb with rfl|rfl|rfl
   ·exact nb0
   ·exact nc0
   ·exact Ox
inductive AQ (vs:List V)(H:Hp)(Q:VK)(E':XK):Prop
 |mk (sd:Addr)(S:Bk)(f:fA)(c b:Nat)(h1:vs=[.ref sd,.int c,.int b])(h2:dh H sd S f)(h3:c < S.credits.length)(h4:b < S.aG.length)(h5: ∀H',ay H H'->Q (.bl (S.eG c b)) H'):AQ vs H Q E'
def rR:aV ["_law_state","_law_credit","_law_bill","_law_one"] ["_law_state","_law_credit","_law_bill"] (aA (top 56)):={}
def uu (T:Txt K mg):eO P w K mg base "_law_goes" 1 ["_law_state","_law_credit","_law_bill"] AQ:=by
 refine T.Cy.fb (k:=0) rR (fun f cV A outer s H vs Q E hr h=>?_)
 ·obtain⟨sd,S,g,c,b,rfl,hB,hc,hb,k⟩:=h;have hu:=jy hr;have nd:=rR.nd;obtain⟨p,_,ap,hp⟩:=hB.lc hc;obtain⟨q,_,aq,hq⟩:=hB.lb hb;refine⟨_,(ah (sv 3 nd (xl (cF hu (pv 0) aK (fun _ _=>rfl)) (pv 1)))
(av (a6 (qg (fI cU (xl (pv 3) ai) (xl (xl (cF hu (pv 0) aK (fun _ _=>rfl)) (pv 2)) ai) (a8 _)) (nE (fI lK (xl (pv 3) ai) (bK (aa (pE lp ai) (aa (pv 2) ao))) (by rfl))))))),?_⟩
  refine⟨_,rfl,sd,_,rfl,hB.gC,_,rfl,g.pc,_,_,.ref p,rfl,rfl,bD.of hB.hc,ap,?_⟩;refine⟨_,rfl,p,_,_,.str (S.cr c).aJ,rfl,rfl,bD.of hp,rfl,_,rfl,sd,_,rfl,hB.gB,_,rfl,g.pb,_,_,.ref q,rfl,rfl,bD.of hB.hb,aq,q,_,_,.str (S.bl b).aJ,rfl,rfl,bD.of hq,rfl,rfl,_,rfl,cE (fun d=>?_) (fun d=>?_)⟩
  ·have d':(S.cr c).aJ=(S.bl b).aJ:=by have:=aS d; injection this
   refine⟨_,rfl,p,_,_,.int (S.cr c).c,rfl,rfl,bD.of hp,rfl,_,rfl,_,rfl,(by show 2<=sizeLine; decide),fun p9 n9=>?_⟩;refine⟨p9,_,rfl,.inl (bD.of af),rfl,rfl,?_⟩;have e:S.eG c b=xI (V.int (S.cr c).c) [V.int (-1),V.int (b:Int)]:=by
    unfold Bk.eG;rw[aH d',Bool.true_and];rw[oY];simp[xI,Mx];lia
   have q9:=k _ (ay.new (o:= .lst [V.int (-1),V.int (b:Int)]) n9);rw[e] at q9;exact q9
  ·have d': ¬ (S.cr c).aJ=(S.bl b).aJ:=fun z=>d (aH (by rw[z]));have e:S.eG c b=false:=by
    unfold Bk.eG;rw[br d',qP]
   have q9:=k H (ay.refl _);rw[e] at q9;exact q9
def jK {A:Hp->Prop}{H H':Hp}(e:H=H')(h:A H'):A H:=e▸h
inductive C7 (vs:List V)(H:Hp)(Q:VK)(E':XK):Prop
 |mk (sd:Addr)(S:Bk)(f:fA)(c b:Nat)(x:Int)(h1:vs=[.ref sd,.int c,.int b,.int x])(h2:dh H sd S f)(h3:c < S.credits.length)(h4:b < S.aG.length)(h5:S.made.length < sizeLine)(h6: ∀H',Frame f.fp H H'->dh H' sd (S.put c b x) f->Q .en H'):C7 vs H Q E'
def uv:aV ["_law_state","_law_credit","_law_bill","_law_amount"] ["_law_state","_law_credit","_law_bill","_law_amount"] (aA (top 57)):={}
def wC (T:Txt K mg):eO P w K mg base "_law_put" 1 ["_law_state","_law_credit","_law_bill","_law_amount"] C7:=by
 refine T.EB.fb (k:=0) uv (fun f cV A outer s H vs Q E hr h=>?_)
 ·obtain⟨sd,S,g,c,b,x,rfl,hB,hc,hb,hz,k⟩:=h;have hu:=jy hr;have nd:=uv.nd;obtain⟨p,pi,ap,hp⟩:=hB.lc hc;refine⟨_,(ah (jU (aO eQ (xl (xl (cF hu (pv 0) aK (fun _ _=>rfl)) (pv 1)) ai) (pv 3)) (sO (xl (cF hu (pv 0) aK (fun _ _=>rfl)) (pv 1)) ai set_list))
(ah (jU (aO eQ (xl (xl (cF hu (pv 0) aK (fun _ _=>rfl)) (pv 2)) ai) (pv 3)) (sO (xl (cF hu (pv 0) aK (fun _ _=>rfl)) (pv 2)) ai set_list))
(av (bM (qv (cF hu (pv 0) aK (fun _ _=>rfl)) (cg (aa (pv 1) (aa (pv 2) (aa (pv 3) ao))))))))),?_⟩
  refine⟨_,rfl,sd,_,rfl,hB.gC,_,rfl,g.pc,_,_,.ref p,rfl,rfl,bD.of hB.hc,ap,p,_,_,.int (S.cr c).d,rfl,rfl,bD.of hp,rfl,_,rfl,_,_,rfl,rfl,?_⟩;refine⟨_,rfl,sd,_,rfl,hB.gC,_,rfl,g.pc,_,_,.ref p,rfl,rfl,bD.of hB.hc,ap,p,_,4,4,rfl,rfl,hp,rfl,?_⟩;have B1:=hB.setC (r:=(S.cr c).less x) pi ⟨_,hp⟩;have F1:Frame g.fp H (upd H p (.lst ((S.cr c).less x).vs)):=Frame.upd (by have:=List.mem_of_getElem? pi; simp[fA.fp,this]);refine jK (H':=upd H p (.lst ((S.cr c).less x).vs)) rfl ?_;generalize upd H p (.lst ((S.cr c).less x).vs)=H1 at B1 F1 ⊢;obtain⟨q,qi,aq,hq⟩:=B1.lb (b:=b) hb
  change H1 q=some (.lst (S.bl b).vs) at hq
  refine⟨_,rfl,sd,_,rfl,B1.gB,_,rfl,g.pb,_,_,.ref q,rfl,rfl,bD.of B1.hb,aq,q,_,_,.int (S.bl b).d,rfl,rfl,bD.of hq,rfl,_,rfl,_,_,rfl,rfl,?_⟩;refine⟨_,rfl,sd,_,rfl,B1.gB,_,rfl,g.pb,_,_,.ref q,rfl,rfl,bD.of B1.hb,aq,q,_,4,4,rfl,rfl,hq,rfl,?_⟩;have B2:=B1.setB (r:=(S.bl b).less x) qi ⟨_,hq⟩;have F2:Frame g.fp H1 (upd H1 q (.lst ((S.bl b).less x).vs)):=Frame.upd (by have:=List.mem_of_getElem? qi; simp[fA.fp,this]);refine jK (H':=upd H1 q (.lst ((S.bl b).less x).vs)) rfl ?_;generalize upd H1 q (.lst ((S.bl b).less x).vs)=H2 at B2 F2 ⊢;obtain⟨ms,m1,m2⟩:=B2.hm;refine⟨_,rfl,sd,_,rfl,B2.gM,.inl ⟨rfl,_,bD.of m1⟩,_,rfl,_,rfl,_,rfl,(by show 3<=sizeLine; decide),fun p8 n8=>?_⟩;have t8:=ay.new (o:= .tup [V.int c,.int b,.int x]) n8;refine⟨g.pm,ms,_,rfl,rfl,t8 _ _ m1,?_,?_⟩
  ·rw[← aM m2];exact hz
  ·refine k _ ((F1.tr F2).tr ((t8.frame).tr (Frame.upd (by simp[fA.fp])))) ?_;exact(B2.same t8).X8 (t:=(c,b,x)) (t8 _ _ m1) (m2.mono t8.tk) af
def Gh (x:Int×Nat):List Int:=[x.1,(x.2:Int)]
def C8 (rows:List Rw)(aJ:Str)(key:Rw->Int)(i:Nat):List (Int×Nat):=
 ((List.range i).filter fun k=>decide ((rows.getD k default).aJ=aJ) && decide (0 < (rows.getD k default).d)).map fun k=>(key (rows.getD k default),k)
def Nn {rows:List Rw}{aJ:Str}{key:Rw->Int}{i:Nat}(h:(rows.getD i default).aJ=aJ)(h2:0 < (rows.getD i default).d):C8 rows aJ key (i + 1)=C8 rows aJ key i ++ [(key (rows.getD i default),i)]:=by
 unfold C8;rw[kK,ip,aL]
 congr 1
 rw[cB (by rw[aH h,aH h2]; rfl)];rfl
def QB {rows:List Rw}{aJ:Str}{key:Rw->Int}{i:Nat}(h: ¬ ((rows.getD i default).aJ=aJ/\0 < (rows.getD i default).d)):C8 rows aJ key (i + 1)=C8 rows aJ key i:=by
 unfold C8;rw[List.range_succ,List.filter_append,List.map_append,List.filter_cons_of_neg (by simpa using h)];simp
def QC {rows:List Rw}{aJ:Str}{key:Rw->Int}{i:Nat}: ∀x∈C8 rows aJ key i,x.2 < i:=by
 intro x hx;obtain⟨k,hk,rfl⟩:=bF.mp hx;exact dz.mp (d8.mp hk).1
def QD {rows:List Rw}{aJ:Str}{key:Rw->Int}{i:Nat}:((C8 rows aJ key i).map (·.2)).Nodup:=by
 unfold C8;rw[eE];have e:((fun x:Int×Nat=>x.2) ∘ fun k=>(key (rows.getD k default),k))=id:=rfl;rw[e,BJ];exact mZ.filter _
def AR {rows:List Rw}{aJ:Str}{key:Rw->Int}{i:Nat}:(C8 rows aJ key i).length<=i:=by
 unfold C8;rw[ae];exact aR (aZ _ _) (by rw[bT]; exact aD _)
def va {x y:Str}(d:decide (V.str x=V.str y)=true):x=y:=by
 have:=aS d;injection this
def rT {x y:Str}(d: ¬ decide (V.str x=V.str y)=true): ¬ x=y:=fun z=>d (aH (by rw[z]))
def lW: ∀{l:List (Int×Nat)} {x y:Int×Nat},(l.map (·.2)).Nodup->x∈l->y∈l->x.2=y.2->x=y
 |[],_,_,_,h,_,_=>by cases h
 |z :: l,x,y,nd,hx,hy,e=>by
  rw[de,eV] at nd;rcases aw.mp hx with y1|y1
  ·rcases aw.mp hy with AS|AS
   ·rw[y1,AS]
   ·exact absurd (bF.mpr ⟨y,AS,by rw[← e,y1]⟩) nd.1
  ·rcases aw.mp hy with AS|AS
   ·exact absurd (bF.mpr ⟨x,y1,by rw[e,AS]⟩) nd.1
   ·exact lW nd.2 y1 AS e
inductive wD (vs:List V)(H:Hp)(Q:VK)(E':XK):Prop
 |mk (p:Addr)(ps:List Addr)(rows:List Rw)(aJ:Str)(Ih:Int)(key:Rw->Int)(h1:vs=[.ref p,.str aJ,.int Ih])(h2:H p=some (.lst (ps.map V.ref)))(h3:eR H rows ps)(h4:rows.length < 64)(h5:(∀r:Rw,qY r.vs Ih=some (.int (key r))))(h6: ∀D H',ay H H'->H D=none->H' D=some (.lst ((inTurn rows aJ key).map fun(k:Nat)=>V.int (k:Int)))->Q (.ref D) H'):wD vs H Q E'
def mR:aV ["_law_rows","_law_who","_law_spot","_law_keys","_law_k"] ["_law_rows","_law_who","_law_spot"] (aA (top 58)):={}
def wF (T:Txt K mg):eO P w K mg base "_law_in_turn" 1 ["_law_rows","_law_who","_law_spot"] wD:=by
 refine T.wm.fb (k:=0) mR (fun f cV A outer s H vs Q E hr h=>?_)
 ·obtain⟨p,ps,rows,aJ,Ih,key,rfl,hp,hR,hl,hk,k⟩:=h;have nd:=mR.nd;have hlen:=hR.length;refine⟨_,(ah (sv 3 nd (bK ao))
(ah (dX bC rfl (hJ rfl T.kX (aa (lz T.dk (pv 0)) ao)) (gn 4 nd)
(av (bP (PW.pt (pw_and (aY cU (xl (xl (pv 0) (pv 4)) ai) (pv 1) (a8 _)) (pw_and1 (aY je (xl (xl (pv 0) (pv 4)) ai) ai (a8 _)))))
(av (bM (qv (pv 3) (cg (aa (xl (xl (pv 0) (pv 4)) (pv 2)) (aa (pv 4) ao))))))
bh)))
(av (a6 (gR (tn:=["_law_key"]) (cn:=[]) (cj:=[]) rfl zW (rD (fk rn (by rfl) T.rE boot_sorted (aa (pv 3) ao))) (fun _ _ _ _=>(eo (i:=0) (show(["_law_key"]:List Str).Nodup by decide +kernel) rfl (Or.inl rfl))) (fun _ _ _ _=>mm) (fun _ _ _ _=>(ix (jH (K:=K) rfl) (pv 0) ai (fun _ _=>rfl)))))))),?_⟩
  refine⟨bu _,fun pk nk=>?_⟩;have s1:ay H (upd H pk (.lst [])):=ay.new nk;refine⟨_,rfl,p,_,rfl,.inl (bD.of (s1 _ _ hp)),((ps.map V.ref).length:Int),rfl,by lia,by rw[ae]; lia,?_⟩;rw[dB];refine jM (lo:=0) (n:=(ps.map V.ref).length) (fun i σ H2=> ∃(xs:List V) (x4:Option V),σ=[some (.ref p),some (.str aJ),some (.int Ih),some (.ref pk),x4]/\ay H H2/\H2 pk=some (.lst xs)/\gv H2 ((C8 rows aJ key i).map Gh) xs)
   ⟨[],none,rfl,s1,af,.nil⟩ ?_ ?_
  ·rintro i σ H2 hi ⟨xs,x4,rfl,s2,hx,hT⟩;rw[iQ];have uM:i < rows.length:=by rw[ae] at hi; lia
   obtain⟨r,ri,L1⟩:=hR.at uM;have ar:qY (ps.map V.ref) (i:Int)=some (.ref r):=cI (by rw[aE,ri]; rfl);have uJ:=s2 _ _ hp;have zl:=s2 _ _ L1;have Je:xs.length<=i:=by
    have:=aM hT;rw[ae] at this;have:=AR (rows:=rows) (aJ:=aJ) (key:=key) (i:=i);lia
   have no: ¬ ((rows.getD i default).aJ=aJ/\0 < (rows.getD i default).d)-> ∃(xs:List V) (x4:Option V),[some (V.ref p),some (.str aJ),some (.int Ih),some (.ref pk),some (.int (i:Int))]=[some (.ref p),some (.str aJ),some (.int Ih),some (.ref pk),x4]/\ay H H2/\H2 pk=some (.lst xs)/\gv H2 ((C8 rows aJ key (i + 1)).map Gh) xs:=fun n=>
    ⟨xs,_,rfl,s2,hx,by rw[QB n]; exact hT⟩
   generalize Ij:rows.getD i default=row at zl no;refine⟨_,rfl,_,rfl,p,_,_,.ref r,rfl,rfl,bD.of uJ,ar,r,_,_,.str row.aJ,rfl,rfl,bD.of zl,rfl,_,rfl,rfl,_,rfl,cE (fun d1=>?_) (fun d1=>bV (no fun z=>rT d1 z.1))⟩;refine⟨_,rfl,_,rfl,p,_,_,.ref r,rfl,rfl,bD.of uJ,ar,r,_,_,.int row.d,rfl,rfl,bD.of zl,rfl,_,_,rfl,rfl,_,rfl,cE (fun d2=>?_) (fun d2=>no fun z=>d2 (aH z.2))⟩;have Us:=va d1;have YL:0 < row.d:=aS d2;refine⟨_,rfl,.inl ⟨rfl,_,bD.of hx⟩,_,rfl,_,rfl,p,_,_,.ref r,rfl,rfl,bD.of uJ,ar,_,rfl,r,_,_,.int (key row),rfl,rfl,bD.of zl,hk row,_,rfl,(by show 2<=sizeLine; decide),fun p8 n8=>?_⟩;have t8:=ay.new (o:= .tup [V.int (key row),.int (i:Int)]) n8;refine⟨pk,xs,_,rfl,rfl,t8 _ _ hx,a9 (by lia),xs ++ [.ref p8],_,rfl,(s2.trans t8).cW nk,af,?_⟩;rw[Nn (by rw[Ij]; exact Us) (by rw[Ij]; exact YL),aL,Ij];exact gv.snoc (hT.mono (t8.tk.trans (eZ (t8 _ _ hx)))) (dI (t8 _ _ hx) _ _ af)
  ·rintro σ H2 ⟨xs,x4,rfl,s2,hx,hT⟩;have Je:=aM hT;have Wr:=AR (rows:=rows) (aJ:=aJ) (key:=key) (i:=(ps.map V.ref).length);have DO:=QC (rows:=rows) (aJ:=aJ) (key:=key) (i:=(ps.map V.ref).length);have kQ:(ps.map V.ref).length=rows.length:=by rw[ae]; lia
   have hle: ∀x∈C8 rows aJ key (ps.map V.ref).length,x.2 < 1000:=fun x hx=>by have:=DO x hx; lia
   have js:inTurn rows aJ key=(ez (C8 rows aJ key (ps.map V.ref).length)).map (·.2):=by rw[kQ]; rfl
   have hnd:=QD (rows:=rows) (aJ:=aJ) (key:=key) (i:=(ps.map V.ref).length);generalize C8 rows aJ key (ps.map V.ref).length=ks at hT Je Wr hle js hnd;rw[ae] at Je;refine⟨_,rfl,pk,xs,_,uP,rfl,bD.of hx,(by lia),hT,(fun t ht=>?_),(fun t ht u hu=>?_),fun D ys us nD L0 perm le=>?_⟩
   ·obtain⟨x,_,rfl⟩:=bF.mp ht;simp[Gh]
   ·obtain⟨x,y1,rfl⟩:=bF.mp ht;obtain⟨y,AS,rfl⟩:=bF.mp hu;refine rF (hle x y1) (hle y AS) (fun e=>⟨rfl,?_⟩) rfl;exact lW hnd y1 AS e
   ·have S4:=uk hle hnd (fun x _=>rfl) perm le;subst S4;have tD:=ay.new (o:= .lst ys) nD;refine⟨D,rfl,⟨_,bD.of af⟩,?_⟩;have DP:=L0.mono tD.tk;generalize Np:upd H2 D (.lst ys)=H3 at tD DP;have Ut:H3 D=some (.lst ys):=by rw[← Np]; exact af
    have s3:=s2.trans tD;clear Np L0 perm le hT;have Uu:=aM DP;refine eu (K:=K) (a:=D) (xs:=ys) (fun D' i σ H6=>H3 D'=none/\ ∃v,σ=[v]/\ay H3 H6/\H6 D'=some (.lst (((ez ks).take i).map fun x=>V.int (x.2:Int)))) (fun D' uT=>⟨uT,none,rfl,ay.new uT,af⟩) (fun D' i σ H6 _ ⟨_,_,_,t3,_⟩=>bD.of (t3 _ _ Ut)) ?_ ?_
    ·rintro D' i x σ H6 KU ⟨uT,v,rfl,t3,gK⟩;have hi:i < (ez ks).length:=by
      have:=(ak.mp KU).1;rw[ae] at Uu;lia
     have g0:((ez ks).map Gh)[i]? =some (Gh (ez ks)[i]):=by rw[aE,ag hi]; rfl
     obtain⟨v',hv,pp,e1,Jd⟩:=bL DP g0;rw[KU] at hv;obtain rfl:x=v':=aF hv;subst e1;have ni:=kP hi;have Ik:=t3 _ _ Jd;generalize (ez ks)[i]=z at Ik ni;have Jf:((ez ks).take i).length<=100:=by
      rw[bz];have:=(dg ks).length_eq;lia
     refine⟨_,rfl,pp,_,_,.int (z.2:Int),rfl,rfl,cy.of Ik,rfl,_,gK,a9 (by rw[ae]; lia),uT,_,rfl,t3.cW uT,?_⟩;rw[af,ni,aL];rfl
    ·rintro D' σ H6 uT ⟨_,v,rfl,t3,gK⟩;refine k D' H6 (s3.trans t3) (s3.free uT) ?_;rw[gK,js,eE,Uu.symm,ae,bb];rfl
def k9 {α β:Type}{F:α->β->Prop}: ∀{l₁:List α} {l₂:List β} (n:Nat),Paired F l₁ l₂->Paired F (l₁.drop n) (l₂.drop n)
 |_,_,0,h=>by rwa [List.drop_zero,List.drop_zero]
 |_,_,_ + 1,.nil=> .nil
 |_,_,n + 1,.cons _ t=>by rw[List.drop_succ_cons,List.drop_succ_cons]; exact k9 n t
def tK (xs:List V)(n:Nat)(h:n<=xs.length):qj xs (some (n:Int)) none=xs.drop n:=by
 unfold qj;rw[HT.JI,HT.zN,Nat.min_eq_left h,List.take_of_length_le];rw[mY];exact aD _
structure AU (H0:Hp)(sd:Addr)(S:Bk)(f:fA)(H2:Hp)(S2:Bk)(m:Nat):Prop where
 fr:Frame f.fp H0 H2
 bk:dh H2 sd S2 f
 bl:S2.aG.length=S.aG.length
 cl:S2.credits.length=S.credits.length
 ml:S2.made.length<=S.made.length + m
def AU.put {H0:Hp}{sd:Addr}{S:Bk}{f:fA}{H2 H':Hp}{S2:Bk}{m c b:Nat}{x:Int}(I:AU H0 sd S f H2 S2 m)(fr:Frame f.fp H2 H')(bk:dh H' sd (S2.put c b x) f):AU H0 sd S f H' (S2.put c b x) (m + 1):=by
 refine⟨I.fr.tr fr,bk,?_,?_,?_⟩
 ·show(S2.aG.set _ _).length=_;rw[eW]; exact I.bl
 ·show(S2.credits.set _ _).length=_;rw[eW]; exact I.cl
 ·show(S2.made ++ [_]).length<=_;rw[ax];have:=I.ml;simp;lia
def AU.up {H0:Hp}{sd:Addr}{S:Bk}{f:fA}{H2:Hp}{S2:Bk}{m n:Nat}(I:AU H0 sd S f H2 S2 m)(h:m<=n):AU H0 sd S f H2 S2 n:=⟨I.fr,I.bk,I.bl,I.cl,aR I.ml (by lia)⟩
def AU.from {H0 H1:Hp}{sd:Addr}{S:Bk}{f:fA}{H2:Hp}{S2:Bk}{m:Nat}(I:AU H0 sd S f H2 S2 m)(s:ay H2 H1):AU H1 sd S f H1 S2 m:=⟨Frame.refl,I.bk.same s,I.bl,I.cl,I.ml⟩
def AU.back {H0 H1:Hp}{sd:Addr}{S:Bk}{f:fA}{H2 H3:Hp}{S2 S3:Bk}{m n:Nat}(I:AU H0 sd S f H2 S2 m)(s:ay H2 H1)(J:AU H1 sd S f H3 S3 n):AU H0 sd S f H3 S3 n:=⟨(I.fr.cA s).tr J.fr,J.bk,J.bl,J.cl,J.ml⟩
def _root_.L2.dh.vb {H:Hp}{sd D:Addr}{S:Bk}{f:fA}(h:dh H sd S f)(n:H D=none):D∉f.fp:=fun z=>by
 obtain⟨ms,m1,_⟩:=h.hm;have rows: ∀(rs:List Rw) (ps:List Addr),eR H rs ps->D∈ps->False:=fun rs ps hr hp=>by
  obtain⟨i,hi⟩:=zI hp;have iX:i < rs.length:=by
   rw[hr.length];exact(ak.mp hi).1
  obtain⟨q,e1,e2⟩:=hr.at iX;rw[e1] at hi;cases hi;rw[n] at e2;cases e2
 unfold fA.fp at z;rcases aw.mp z with rfl|z
 ·have:=h.hb; rw[n] at this; cases this
 rcases aw.mp z with rfl|z
 ·have:=h.hc; rw[n] at this; cases this
 rcases aw.mp z with rfl|z
 ·rw[n] at m1; cases m1
 rcases bg.mp z with z|z
 ·exact rows _ _ h.rb z
 ·exact rows _ _ h.rc z
def j9 (rows:List Rw)(aJ:Str)(key:Rw->Int):(inTurn rows aJ key).length<=rows.length:=by
 have e:inTurn rows aJ key=(ez (C8 rows aJ key rows.length)).map (·.2):=rfl;rw[e,ae,(dg _).length_eq];exact AR
def lX {α β:Type}(g:β->α->β)(l:List α)(s:β){i:Nat}{x:α}(h:l[i]? =some x):(l.take (i + 1)).foldl g s=g ((l.take i).foldl g s) x:=by
 rw[GN,h,lH];rfl
def _root_.L2.Frame.free {fp:List Addr}{H H':Hp}{p:Addr}(a:Frame fp H H')(h:p∉fp)(n:H' p=none):H p=none:=by
 cases e:H p with
 |none=>rfl
 |some o=>have:=a p o h e; rw[n] at this; cases this
inductive AV (vs:List V)(H:Hp)(Q:VK)(E':XK):Prop
 |mk (sd:Addr)(S:Bk)(f:fA)(aJ:Str)(h1:vs=[.ref sd,.str aJ])(h2:dh H sd S f)(h3:S.credits.length < 64)(h4:S.aG.length < 64)(h5:S.made.length + 10000 < sizeLine)(h6: ∀D ms H',Frame f.fp H H'->dh H' sd (S.jz aJ) f->H D=none->H' D=some (.lst ms)->gy H' ((S.jz aJ).made.drop S.made.length) ms->Q (.ref D) H'):AV vs H Q E'
def pJ:aV ["_law_state","_law_who","_law_many","_law_exact","_law_credit","_law_bill","_law_free","_law_left"] ["_law_state","_law_who"] (aA (top 59)):={}
def AW (T:Txt K mg):eO P w K mg base "_law_swept" 2 ["_law_state","_law_who"] AV:=by
 have oq:eO P w K mg base "_law_in_turn" 1 ["_law_rows","_law_who","_law_spot"] wD:=wF T;have ou:eO P w K mg base "_law_goes" 1 ["_law_state","_law_credit","_law_bill"] AQ:=uu T;have qy:eO P w K mg base "_law_put" 1 ["_law_state","_law_credit","_law_bill","_law_amount"] C7:=wC T;refine T.Am.fb (k:=1) pJ (fun f cV A outer s H vs Q E hr h=>?_)
 ·obtain⟨sd,S,g,aJ,rfl,hB,rC,Nq,BC,k⟩:=h;have hu:=jy hr;have nd:=pJ.nd;obtain⟨ms,m1,m2⟩:=hB.hm;have YM:S.made.length=ms.length:=aM m2;refine⟨_,(ah (sv 2 nd (lz T.dk (cF hu (pv 0) aK (fun _ _=>rfl))))
(ah (dX bC rfl (rD (bK (aa mP (aa mP ao)))) (gn 3 nd)
(av (dX bC rfl (rD (fc oq hr (aa (cF hu (pv 0) aK (fun _ _=>rfl)) (aa (pv 1) (aa ai ao))))) (gn 4 nd)
(av (dX bC rfl (rD (fc oq hr (aa (cF hu (pv 0) aK (fun _ _=>rfl)) (aa (pv 1) (aa ai ao))))) (gn 5 nd)
(ah (sv 6 nd (xl (xl (cF hu (pv 0) aK (fun _ _=>rfl)) (pv 4)) ai))
(ah (sv 7 nd (xl (xl (cF hu (pv 0) aK (fun _ _=>rfl)) (pv 5)) ai))
(av (bP (PW.pt (pw_and (aY je (pv 6) ai (a8 _)) (pw_and1 (gf (fc ou hr (aa (pv 0) (aa (pv 4) (aa (pv 5) ao))))))))
(av (bP (PW.pt (pw_or (aY cU (pv 6) (pv 7) (a8 _)) (pw_or1 (jT (gf (pv 3))))))
(av (bM (fc qy hr (aa (pv 0) (aa (pv 4) (aa (pv 5) (aa (fk (sR rfl) (by rfl) T.Kv boot_min (aa (pv 6) (aa (pv 7) ao))) ao)))))))
bh))
bh)))))))))
(av (a6 (jf RZ (cF hu (pv 0) aK (fun _ _=>rfl)) (jG (pv 2)) mi))))),?_⟩
  refine⟨_,rfl,sd,_,rfl,hB.gM,g.pm,_,rfl,.inl (bD.of m1),?_⟩;refine⟨(by show 2<=sizeLine; decide),fun pl nl=>⟨pl,rfl,⟨_,bD.of af⟩,?_⟩⟩;have s1:ay H (upd H pl (.lst ([true,false].map V.bl))):=ay.new nl;have nlf:=hB.vb nl;have gQ:upd H pl (.lst ([true,false].map V.bl)) pl=some (.lst ([true,false].map V.bl)):=af;have Oy:=hB.same s1;refine jK (H':=upd H pl (.lst ([true,false].map V.bl))) rfl ?_;generalize upd H pl (.lst ([true,false].map V.bl))=H1 at s1 gQ Oy;refine eP (K:=K) (a:=pl) (xs:=[true,false].map V.bl) (fun i σ H2=> ∃x3 x4 x5 x6 x7:Option V,σ=[some (.ref sd),some (.str aJ),some (.int (ms.length:Int)),x3,x4,x5,x6,x7]/\AU H1 sd S g H2 (([true,false].take i).foldl (bQ aJ) S) (i * 4096))
   ⟨none,none,none,none,none,rfl,Frame.refl,Oy,rfl,rfl,Nat.le_add_right _ _⟩ (fun i σ H2 _ ⟨_,_,_,_,_,_,I⟩=>bD.of (I.fr _ _ nlf gQ)) ?_ ?_
  ·rintro i x σ H2 hx ⟨x3,x4,x5,x6,x7,rfl,I⟩;rw[aE] at hx;obtain⟨ex,hex,rfl⟩:=bq.mp hx;have hi:i < 2:=(ak.mp hex).1;rw[lX (bQ aJ) [true,false] S hex];generalize ([true,false].take i).foldl (bQ aJ) S=S1 at I ⊢;have c1:=I.cl;have b1:=I.bl;refine⟨_,rfl,sd,_,rfl,I.bk.gC,_,rfl,g.pc,g.cps,S1.credits,aJ,1,(·.a),rfl,I.bk.hc,I.bk.rc,by lia,(fun _=>rfl),fun D1 H3 t3 n3 Il=>?_⟩;have D1f:=I.bk.vb n3;have I3:=I.from t3;refine⟨D1,rfl,⟨_,bD.of Il⟩,?_⟩;have hcs:(inTurn S1.credits aJ (·.a)).length<=63:=by have:=j9 S1.credits aJ (·.a); lia
   have hcm: ∀c∈inTurn S1.credits aJ (·.a),c < S.credits.length:=fun c hc=>by have:=(dA.mp hc).1; lia
   have hrd:bQ aJ S1 ex=(inTurn S1.credits aJ (·.a)).foldl (cu aJ ex) S1:=rfl;rw[hrd];generalize inTurn S1.credits aJ (·.a)=cs at Il hcs hcm;refine eP (K:=K) (a:=D1) (xs:=cs.map fun(k:Nat)=>V.int (k:Int)) (fun j σ H4=> ∃x4 x5 x6 x7:Option V,σ=[some (.ref sd),some (.str aJ),some (.int (ms.length:Int)),some (.bl ex),x4,x5,x6,x7]/\AU H3 sd S g H4 ((cs.take j).foldl (cu aJ ex) S1) (i * 4096 + j * 64))
    ⟨_,_,_,_,rfl,I3.up (by lia)⟩ (fun j σ H4 _ ⟨_,_,_,_,_,J⟩=>bD.of (J.fr _ _ D1f Il)) ?_ ?_
   ·rintro j x σ H4 hx ⟨x4,x5,x6,x7,rfl,J⟩;rw[aE] at hx;obtain⟨c,hc,rfl⟩:=bq.mp hx;have adT:=hcm c (fB hc);have hj:j < cs.length:=(ak.mp hc).1;rw[lX (cu aJ ex) cs S1 hc];generalize (cs.take j).foldl (cu aJ ex) S1=S2 at J ⊢;have b2:=J.bl;refine⟨_,rfl,sd,_,rfl,J.bk.gB,_,rfl,g.pb,g.iD,S2.aG,aJ,2,(·.b),rfl,J.bk.hb,J.bk.rb,by lia,(fun _=>rfl),fun D2 H5 t5 n5 Io=>?_⟩;have D2f:=J.bk.vb n5;have J5:=J.from t5;refine⟨D2,rfl,⟨_,bD.of Io⟩,?_⟩;have hbs:(inTurn S2.aG aJ (·.b)).length<=63:=by have:=j9 S2.aG aJ (·.b); lia
    have MJ: ∀b∈inTurn S2.aG aJ (·.b),b < S.aG.length:=fun b hb=>by have:=(dA.mp hb).1; lia
    have sD:cu aJ ex S2 c=(inTurn S2.aG aJ (·.b)).foldl (bY ex c) S2:=rfl;rw[sD];generalize inTurn S2.aG aJ (·.b)=bs at Io hbs MJ;refine eP (K:=K) (a:=D2) (xs:=bs.map fun(k:Nat)=>V.int (k:Int)) (fun l σ H6=> ∃x5 x6 x7:Option V,σ=[some (.ref sd),some (.str aJ),some (.int (ms.length:Int)),some (.bl ex),some (.int (c:Int)),x5,x6,x7]/\AU H5 sd S g H6 ((bs.take l).foldl (bY ex c) S2) (i * 4096 + j * 64 + l))
     ⟨_,_,_,rfl,J5.up (by lia)⟩ (fun l σ H6 _ ⟨_,_,_,_,L⟩=>bD.of (L.fr _ _ D2f Io)) ?_ ?_
    ·rintro l x σ H6 hx ⟨x5,x6,x7,rfl,L⟩;rw[aE] at hx;obtain⟨b,hb,rfl⟩:=bq.mp hx;have adW:=MJ b (fB hb);have hl:l < bs.length:=(ak.mp hb).1;rw[lX (bY ex c) bs S2 hb];generalize (bs.take l).foldl (bY ex c) S2=S3 at L ⊢;have b3:=L.bl;have c3:=L.cl;have m3:=L.ml;obtain⟨p,_,ap,hp⟩:=L.bk.lc (b:=c) (by lia);obtain⟨q,_,aq,hq⟩:=L.bk.lb (b:=b) (by lia);have no: ¬ (0 < (S3.cr c).d/\S3.eG c b=true/\((S3.cr c).d=(S3.bl b).d∨ex=false))-> ∀H7,ay H6 H7-> ∃x5 x6 x7:Option V,[some (V.ref sd),some (.str aJ),some (.int (ms.length:Int)),some (.bl ex),some (.int (c:Int)),some (.int (b:Int)),some (.int (S3.cr c).d),some (.int (S3.bl b).d)]=[some (.ref sd),some (.str aJ),some (.int (ms.length:Int)),some (.bl ex),some (.int (c:Int)),x5,x6,x7]/\AU H5 sd S g H7 (bY ex c S3 b) (i * 4096 + j * 64 + (l + 1)):=fun n H7 t7=>by
      refine⟨_,_,_,rfl,?_⟩;unfold bY;rw[aQ n];exact(L.back t7 (L.from t7)).up (by lia)
     refine⟨_,rfl,sd,_,rfl,L.bk.gC,_,rfl,g.pc,_,_,.ref p,rfl,rfl,bD.of L.bk.hc,ap,p,_,_,.int (S3.cr c).d,rfl,rfl,bD.of hp,rfl,?_⟩;refine⟨_,rfl,sd,_,rfl,L.bk.gB,_,rfl,g.pb,_,_,.ref q,rfl,rfl,bD.of L.bk.hb,aq,q,_,_,.int (S3.bl b).d,rfl,rfl,bD.of hq,rfl,?_⟩;refine⟨_,rfl,_,_,rfl,rfl,_,rfl,cE (fun d1=>?_) (fun d1=>bV (no (fun z=>d1 (aH z.1)) _ (ay.refl _)))⟩;have Us:0 < (S3.cr c).d:=aS d1;refine⟨_,rfl,_,rfl,_,rfl,sd,S3,g,c,b,rfl,L.bk,by lia,by lia,fun H7 t7=>⟨_,rfl,cE (fun d2=>?_) (fun d2=>no (fun z=>d2 z.2.1) _ t7)⟩⟩;have L7:=L.bk.same t7;have Uv:((S3.cr c).d=(S3.bl b).d∨ex=false)-> ∀H',Frame g.fp H7 H'->dh H' sd (S3.put c b (gq (S3.cr c).d (S3.bl b).d)) g-> ∃x5 x6 x7:Option V,[some (V.ref sd),some (.str aJ),some (.int (ms.length:Int)),some (.bl ex),some (.int (c:Int)),some (.int (b:Int)),some (.int (S3.cr c).d),some (.int (S3.bl b).d)]=[some (.ref sd),some (.str aJ),some (.int (ms.length:Int)),some (.bl ex),some (.int (c:Int)),x5,x6,x7]/\AU H5 sd S g H' (bY ex c S3 b) (i * 4096 + j * 64 + (l + 1)):=fun z H' RS YN=>by
      refine⟨_,_,_,rfl,?_⟩;unfold bY;rw[a0 ⟨Us,d2,z⟩];exact(L.put (t7.frame.tr RS) YN).up (by lia)
     have Gi:((S3.cr c).d=(S3.bl b).d∨ex=false)->C7 [.ref sd,.int (c:Int),.int (b:Int),.int (if(S3.bl b).d < (S3.cr c).d then(S3.bl b).d else(S3.cr c).d)] H7 (fun _ H'=> ∃x5 x6 x7:Option V,[some (V.ref sd),some (.str aJ),some (.int (ms.length:Int)),some (.bl ex),some (.int (c:Int)),some (.int (b:Int)),some (.int (S3.cr c).d),some (.int (S3.bl b).d)]=[some (.ref sd),some (.str aJ),some (.int (ms.length:Int)),some (.bl ex),some (.int (c:Int)),x5,x6,x7]/\AU H5 sd S g H' (bY ex c S3 b) (i * 4096 + j * 64 + (l + 1))) (fun _ _ _=>False):=fun z=>
      ⟨sd,S3,g,c,b,_,rfl,L7,by lia,by lia,by lia,fun H' RS YN=>Uv z H' RS YN⟩
     refine⟨_,rfl,_,rfl,rfl,_,rfl,cE (fun d3=>fH ?_) (fun d3=>?_)⟩
     ·have d3':(S3.cr c).d=(S3.bl b).d:=by have:=aS d3; injection this
      exact⟨_,rfl,_,rfl,_,rfl,_,rfl,_,rfl,_,_,rfl,Gi (.inl d3')⟩
     ·refine⟨_,rfl,_,rfl,cE (fun d4=>?_) (fun d4=>no (fun z=>?_) _ t7)⟩
      ·have d4':ex=false:=by simpa using d4
       exact⟨_,rfl,_,rfl,_,rfl,_,rfl,_,rfl,_,_,rfl,Gi (.inr d4')⟩
      ·rcases z.2.2 with z|z
       ·exact d3 (aH (by rw[z]))
       ·exact d4 (by rw[z]; rfl)
    ·rintro σ H6 ⟨x5,x6,x7,rfl,L⟩;rw[ae,bb] at L;exact⟨_,_,_,_,rfl,(J.back t5 L).up (by lia)⟩
   ·rintro σ H4 ⟨x4,x5,x6,x7,rfl,J⟩;rw[ae,bb] at J;exact⟨_,_,_,_,_,rfl,(I.back t3 J).up (by lia)⟩
  ·rintro σ H2 ⟨x3,x4,x5,x6,x7,rfl,I⟩;have XR:([true,false].take ([true,false].map V.bl).length).foldl (bQ aJ) S=S.jz aJ:=rfl;rw[XR] at I;obtain⟨Oz,k1,k2⟩:=I.bk.hm;refine⟨_,rfl,sd,_,rfl,I.bk.gM,_,rfl,_,rfl,g.pm,Oz,rfl,bD.of k1,fun p np=>?_⟩;have tp:=ay.new (o:= .lst (qj Oz (some (ms.length:Int)) none)) np;have hle:ms.length<=Oz.length:=by
    have e0:=aM k2;obtain⟨_,l,e1,_⟩:=rq S aJ;rw[e1,ax] at e0;lia
   refine k p (Oz.drop ms.length) _ ((s1.frame.tr I.fr).cA tp) (I.bk.same tp) ?_ ?_ ?_
   ·exact s1.free (Frame.free I.fr (I.bk.vb np) np)
   ·rw[af,tK _ _ hle]
   ·rw[YM];exact k9 _ (k2.mono tp.tk)
inductive vc (A:dU)(vs:List V)(H:Hp)(Q:VK)(E':XK):Prop
 |mk (x dx:Addr)(h1:vs=[.ref x])(h2:H x=some (.ins A.work dx []))(h3: ∀f H',Frame [x] H H'->dM A H' x Bk.new f->(∀b∈f.fp,H b=none)->Q .en H'):vc A vs H Q E'
def KW (f:eM):eF "made" (.ref f.pm) (eF "frees" (.ref f.pf) (eF "lefts" (.ref f.pl) (eF "all_credits" (.ref f.pc) (eF "bills" (.ref f.pb) []))))=lS f:=by rfl
def C9 {H Hk:Hp}{x dx p C:Addr}{fs:List (Str×V)}{f:Str}(F:Frame [x] H Hk)(hx:Hk x=some (.ins C dx fs))(n:Hk p=none):p≠x/\H p=none/\Frame [x] H (upd (upd Hk p (.lst [])) x (.ins C dx (eF f (.ref p) fs)))/\
  upd (upd Hk p (.lst [])) x (.ins C dx (eF f (.ref p) fs)) x=some (.ins C dx (eF f (.ref p) fs))/\upd (upd Hk p (.lst [])) x (.ins C dx (eF f (.ref p) fs)) p=some (.lst [])/\
  (∀q o,q≠x->Hk q=some o->upd (upd Hk p (.lst [])) x (.ins C dx (eF f (.ref p) fs)) q=some o/\q≠p):=by
 have ne:p≠x:=(aI hx n).symm;refine⟨ne,F.free (by simpa using ne) n,(F.tr (ay.new n).frame).tr (Frame.upd (by simp)),af,by rw[aB ne,af],fun q o hq e=>⟨?_,aI e n⟩⟩;rw[aB hq];exact ay.new n _ _ e
def Nr:aV ["self"] ["self"] (aA (mem 25 0)):={}
def KY {A:dU}(G:jA K mg A):tH P w K mg base "Work" A.work 1 ["self"] (vc A):=by
 refine Ni (k:=0) G.Nd G.Nc Nr (fun f cV A' outer s H vs Q E hr h=>?_)
 ·obtain⟨x,dx,rfl,hx,k⟩:=h;refine⟨_,(ah (mE (pv 0) (bK ao))
(ah (mE (pv 0) (bK ao))
(ah (mE (pv 0) (bK ao))
(ah (mE (pv 0) (bK ao))
(av (mE (pv 0) (bK ao))))))),?_⟩
  have F0:Frame [x] H H:=Frame.refl;refine⟨bu _,fun p1 n1=>⟨_,rfl,x,_,dx,_,rfl,ay.new n1 _ _ hx,G.bG,G.dW,lt1000 C1 (by decide),?_⟩⟩;obtain⟨ne1,f1,F1,x1,g1,t1⟩:=C9 (f:="bills") F0 hx n1;generalize hH1:upd (upd H p1 (.lst [])) x (.ins A.work dx (eF "bills" (.ref p1) _))=H1 at F1 x1 g1;clear hH1 t1;refine⟨bu _,fun p2 n2=>⟨_,rfl,x,_,dx,_,rfl,ay.new n2 _ _ x1,G.bG,G.cL,lt1000 (pl C1) (by decide),?_⟩⟩;obtain⟨ne2,f2,F2,x2,g2,t2⟩:=C9 (f:="all_credits") F1 x1 n2;obtain⟨g1,Uw⟩:=t2 p1 _ ne1 g1;generalize V5:upd (upd H1 p2 (.lst [])) x (.ins A.work dx (eF "all_credits" (.ref p2) _))=H2 at F2 x2 g1 g2;clear V5 t2;refine⟨bu _,fun p3 n3=>⟨_,rfl,x,_,dx,_,rfl,ay.new n3 _ _ x2,G.bG,G.fF,lt1000 (pl (pl C1)) (by decide),?_⟩⟩;obtain⟨ne3,f3,F3,x3,g3,t3⟩:=C9 (f:="lefts") F2 x2 n3;obtain⟨g1,Ux⟩:=t3 p1 _ ne1 g1;obtain⟨g2,Uy⟩:=t3 p2 _ ne2 g2;generalize Np:upd (upd H2 p3 (.lst [])) x (.ins A.work dx (eF "lefts" (.ref p3) _))=H3 at F3 x3 g1 g2 g3;clear Np t3;refine⟨bu _,fun p4 n4=>⟨_,rfl,x,_,dx,_,rfl,ay.new n4 _ _ x3,G.bG,G.fG,lt1000 (pl (pl (pl C1))) (by decide),?_⟩⟩;obtain⟨ne4,f4,F4,x4,g4,t4⟩:=C9 (f:="frees") F3 x3 n4;obtain⟨g1,Uz⟩:=t4 p1 _ ne1 g1;obtain⟨g2,UA⟩:=t4 p2 _ ne2 g2;obtain⟨g3,UB⟩:=t4 p3 _ ne3 g3;generalize hH4:upd (upd H3 p4 (.lst [])) x (.ins A.work dx (eF "frees" (.ref p4) _))=H4 at F4 x4 g1 g2 g3 g4;clear hH4 t4;refine⟨bu _,fun p5 n5=>⟨_,rfl,x,_,dx,_,rfl,ay.new n5 _ _ x4,G.bG,G.jJ,lt1000 (pl (pl (pl (pl C1)))) (by decide),?_⟩⟩;obtain⟨ne5,f5,F5,x5,g5,t5⟩:=C9 (f:="made") F4 x4 n5;obtain⟨g1,UC⟩:=t5 p1 _ ne1 g1;obtain⟨g2,UD⟩:=t5 p2 _ ne2 g2;obtain⟨g3,UE⟩:=t5 p3 _ ne3 g3;obtain⟨g4,UG⟩:=t5 p4 _ ne4 g4;refine k ⟨p1,p2,p3,p4,p5,[],[]⟩ _ F5 ⟨⟨dx,?_⟩,g1,g2,g3,g4,⟨[],g5,.nil⟩,⟨rfl,fun i p e=>by simp at e⟩,⟨rfl,fun i p e=>by simp at e⟩,?_⟩ ?_
  ·rw[x5];exact dr (fun z=>some (HO.ins A.work dx z)) (KW ⟨p1,p2,p3,p4,p5,[],[]⟩)
  ·simp[eM.fp,Uw,Ux,Uz,UC,Uy,UA,UD,UB,UE,UG]
  ·intro b hb;simp only[eM.fp,List.mem_cons,List.not_mem_nil,or_false] at hb;rcases hb with rfl|rfl|rfl|rfl|rfl
   ·exact f1
   ·exact f2
   ·exact f3
   ·exact f4
   ·exact f5
def iI (A:dU)(H:Hp)(S:Bk)(bs:List Nat)(qs:List Addr):Prop:=Paired (fun(b:Nat) q=>eA H q A.dJ (fE b (S.bl b))) bs qs
def gI (A:dU)(H:Hp)(S:Bk)(cs:List Nat)(qs:List Addr):Prop:=Paired (fun(c:Nat) q=>eA H q A.dY (fe c (S.cr c))) cs qs
def iI.same {A:dU}{H H':Hp}{S:Bk}{bs:List Nat}{qs:List Addr}(h:iI A H S bs qs)(s:ay H H'):iI A H' S bs qs:=Paired.iu h fun _ _ z=>z.same s
def gI.same {A:dU}{H H':Hp}{S:Bk}{bs:List Nat}{qs:List Addr}(h:gI A H S bs qs)(s:ay H H'):gI A H' S bs qs:=Paired.iu h fun _ _ z=>z.same s
inductive KZ (A:dU)(vs:List V)(H:Hp)(Q:VK)(E':XK):Prop
 |mk (p pt:Addr)(S:Bk)(c:Nat)(bs:List Nat)(qs:List Addr)(h1:vs=[.ref p,.ref pt])(h2:eA H p A.dY (fe c (S.cr c)))(h3:H pt=some (.lst (qs.map V.ref)))(h4:iI A H S bs qs)(h5:bs.length<=100)(h6: ∀D H',ay H H'->H D=none->H' D=some (.lst ((bs.map fun b=>pG (S.cr c) (S.bl b) b).map V.bl))->Q (.ref D) H'):KZ A vs H Q E'
def wG:aV ["credit","bills"] ["credit","bills"] (aA (top 27)):={}
def yg (T:Txt K mg){A:dU}(G:jA K mg A):eO P w K mg base "row_of_fits" 2 ["credit","bills"] (KZ A):=by
 have EN:eO P w K mg base "fits" 1 ["credit","bill"] (AE A):=KI T G;refine T.xS.fb (k:=1) wG (fun f cV A' outer s H vs Q E hr h=>?_)
 ·obtain⟨p,pt,S,c,bs,qs,rfl,hp,xr,hB,hl,k⟩:=h;have hlen:=aM hB;refine⟨_,(av (a6 (gR (tn:=["bill"]) (cn:=["credit"]) (cj:=[0]) rfl (iy (zX:=[(".0",.local),("bill",.local),("fits",.globalImplicit),("credit",.cell)])) (rD (pv 1)) (fun _ _ _ _=>(eo (i:=0) (show(["bill","credit"]:List Str).Nodup by decide +kernel) rfl (Or.inl rfl))) (fun _ _ _ _=>mm) (fun _ _ _ _=>(fc EN hr (aa (pv 1) (aa (pv 0) ao))))))),?_⟩;refine⟨_,rfl,pt,rfl,⟨_,bD.of xr⟩,?_⟩;refine eu (K:=K) (a:=pt) (xs:=qs.map V.ref) (fun D i σ H6=>H D=none/\ ∃v,σ=[v,some (.ref p)]/\ay H H6/\H6 D=some (.lst (((bs.take i).map fun b=>pG (S.cr c) (S.bl b) b).map V.bl))) (fun D hD=>⟨hD,none,rfl,ay.new hD,af⟩) (fun D i σ H6 _ ⟨_,_,_,t3,_⟩=>bD.of (t3 _ _ xr)) ?_ ?_
  ·rintro D i x σ H6 hx ⟨hD,v,rfl,t3,gK⟩;rw[aE] at hx;obtain⟨q,hq,rfl⟩:=bq.mp hx;have hi:i < bs.length:=by have:=(ak.mp hq).1; lia
   obtain⟨q',tX,lY⟩:=bL hB (ag hi);rw[hq] at tX;obtain rfl:q=q':=aF tX;have ni:=kP hi;generalize bs[i]=b at lY ni;refine⟨_,rfl,_,rfl,p,q,c,b,_,_,rfl,hp.same t3,lY.same t3,_,gK,a9 (by rw[ae,ae,bz]; lia),hD,_,rfl,t3.cW hD,?_⟩;rw[af,ni,aL,aL];rfl
  ·rintro D σ H6 hD ⟨_,v,rfl,t3,gK⟩;refine k D H6 t3 hD ?_;rw[gK,ae,← hlen,bb]
def bc.vs:bc->List V
 | .dJ w d u a=>[.str "bill",.str w,.int d,.int u,.int a]
 | .o7 w d a=>[.str "pay",.str w,.int d,.int a]
 | .note b d a=>[.str "note",.int b,.int d,.int a]
 | .set c b a=>[.str "set",.int c,.int b,.int a]
 | .fu w=>[.str "sweep",.str w]
 | .fC n=>[.str "undo",.int n]
 | .ask o w d=>[.str (if o then "owed" else "free"),.str w,.int d]
 | .gZ _ _ _=>[]
def jL {x y:Str}(h:x≠y):V.bl (decide (V.str x=V.str y))=V.bl false:=dr V.bl (br fun z=>h (by injection z))
def BD (x:Str):V.bl (decide (V.str x=V.str x))=V.bl true:=dr V.bl (aH rfl)
def UH {x y:Str}(h:x≠y):V.bl (!decide (V.str x=V.str y))=V.bl true:=by rw[show decide (V.str x=V.str y)=false from br fun z=>h (by injection z)]; rfl
def btN (x:Str):V.bl (!decide (V.str x=V.str x))=V.bl false:=by rw[show decide (V.str x=V.str x)=true from aH rfl]; rfl
def wH {x:Int}{n:Nat}{ta tc:TE}{σ:L2.St}{H:Hp}{Q:Bool->Hp->Prop}(ha: ∀R:VK,R (.int x) H->ta σ H R)(hc: ∀R:VK,R (.int (n:Int)) H->tc σ H R)(q:Q (decide (qM x n)) H):
  Jy (Jz (LQ fun i j=> .bl (decide (i<=j))) (LQ fun i j=> .bl (decide (i < j))) (tC (.int 0)) ta tc) σ H Q:=by
 refine ha _ ⟨_,_,rfl,rfl,_,rfl,cE (fun d=>hc _ ⟨_,_,rfl,rfl,_,rfl,?_⟩) (fun d=>⟨_,rfl,?_⟩)⟩
 ·have d':(0:Int)<=x:=aS d;have e:decide (qM x n)=decide (x < (n:Int)):=m8.mpr ⟨fun z=>z.2,fun z=>⟨d',z⟩⟩;rw[e] at q;exact q
 ·have d': ¬ (0:Int)<=x:=fun z=>d (aH z);have e:decide (qM x n)=false:=br fun z=>d' z.1;rw[e] at q;exact q
inductive wI (vs:List V)(H:Hp)(Q:VK)(E':XK):Prop
 |mk (sd pd:Addr)(S:Bk)(f:fA)(d:bc)(h1:vs=[.ref sd,.ref pd])(h2:dh H sd S f)(h3:H pd=some (.tup (bc.vs d)))(h4:d.tells=true)(h5: ∀H',ay H H'->Q (.str (S.bar d)) H'):wI vs H Q E'
def ow:aV ["_law_state","_law_deed","_law_word","_law_spot"] ["_law_state","_law_deed"] (aA (top 60)):={}
def yh (T:Txt K mg):eO P w K mg base "_law_barred" 2 ["_law_state","_law_deed"] wI:=by
 have ou:eO P w K mg base "_law_goes" 1 ["_law_state","_law_credit","_law_bill"] AQ:=uu T;refine T.xY.fb (k:=1) ow (fun f cV A outer s H vs Q E hr h=>?_)
 ·obtain⟨sd,pd,S,g,d,rfl,hB,hd,ht,k⟩:=h;have hu:=jy hr;have nd:=ow.nd;refine⟨_,(ah (sv 2 nd (xt (pv 1) ai))
(ah (sv 3 nd (fZ lJ (by rfl) T.zd boot_int (aa (fI cU (pv 2) aK (a8 _)) ao)))
(ah (bP (PW.pt (pw_and (aY cU (pv 3) ai (a8 _)) (pw_and1 (jT (BX tV jW ai (xt (pv 1) ai) (lz T.dk (cF hu (pv 0) aK (fun _ _=>rfl))))))))
(av (a6 aK))
bh)
(ah (bP (PW.pt (pw_and (aY lK (pv 2) (bK (aa aK (aa aK ao))) (by rfl)) (pw_and1 (jT (BX tV jW ai (xt (pv 1) (aO cS ai (pv 3))) (lz T.dk (cF hu (pv 0) aK (fun _ _=>rfl))))))))
(av (a6 aK))
bh)
(ah (bP (PW.pt (pw_and (aY cU (pv 2) aK (a8 _)) (pw_and1 (jT (gf (fc ou hr (aa (pv 0) (aa (xt (pv 1) ai) (aa (xt (pv 1) ai) ao)))))))))
(av (a6 aK))
bh)
(ah (bP (PW.pt (pw_and (aY qU (pv 2) aK (a8 _)) (pw_and1 (aY jW (xt (pv 1) (pE lp ai)) ai (a8 _)))))
(av (a6 aK))
bh)
(ah (bP (PW.pt (pw_and (aY cU (pv 2) aK (a8 _)) (pw_and1 (aY jW (xt (pv 1) ai) (xt (pv 1) ai) (a8 _)))))
(av (a6 aK))
bh)
(ah (bP (aY cU (pv 2) aK (a8 _))
(av (bP (aY je (xt (pv 1) ai) (fk (sR rfl) (by rfl) T.Kv boot_min (aa (xl (xl (cF hu (pv 0) aK (fun _ _=>rfl)) (xt (pv 1) ai)) ai) (aa (xl (xl (cF hu (pv 0) aK (fun _ _=>rfl)) (xt (pv 1) ai)) ai) ao))) (a8 _))
(av (a6 aK))
bh))
bh)
(av (a6 aK)))))))))),?_⟩
  have kk: ∀(t:Str) (H':Hp),S.bar d=t->ay H H'->Q (.str t) H':=fun t H' e z=>e▸k H' z;clear k;cases d with
  |fC n=>cases ht
  |ask o w d=>cases ht
  |gZ w d l=>cases ht
  |dJ wh dy du am=>
   refine⟨_,rfl,pd,_,_,.str "bill",rfl,rfl,cy.of hd,rfl,_,rfl,rfl,.inr ⟨false,(by rw[jL (show("bill":Str)≠"set" by decide +kernel)]),?_⟩⟩;refine⟨_,rfl,rfl,false,dr V.bl (by decide +kernel),bV (bV ?_)⟩;refine⟨_,rfl,(by show 2<=sizeLine; decide),fun p9 n9=>⟨p9,_,rfl,.inl (bD.of af),rfl,rfl,false,dr V.bl (by decide +kernel),bV (bV ?_)⟩⟩;have s9:=ay.new (o:= .lst [V.str "set",.str "note"]) n9;have zo:=s9 _ _ hd;refine jK (H':=upd H p9 (.lst [V.str "set",.str "note"])) rfl ?_;generalize upd H p9 (.lst [V.str "set",.str "note"])=H9 at s9 zo;refine⟨_,rfl,rfl,false,jL (show("bill":Str)≠"set" by decide +kernel),bV (bV ?_)⟩;refine⟨_,rfl,rfl,true,UH (show("bill":Str)≠"sweep" by decide +kernel),fH ⟨_,rfl,_,rfl,pd,_,_,.int am,rfl,rfl,cy.of zo,rfl,_,_,rfl,rfl,_,rfl,cE (fun z=>?_) (fun z=>?_)⟩⟩
   ·have z':am < 1:=aS z;exact kk _ _ (a0 z') s9
   have z1: ¬ am < 1:=fun q=>z (aH q);refine⟨_,rfl,rfl,true,BD _,fH ⟨_,rfl,pd,_,_,.int du,rfl,rfl,cy.of zo,rfl,_,rfl,pd,_,_,.int dy,rfl,rfl,cy.of zo,rfl,_,_,rfl,rfl,_,rfl,cE (fun z=>?_) (fun z=>?_)⟩⟩
   ·have z':du < dy:=aS z;exact kk _ _ ((aQ z1).trans (a0 z')) s9
   have z2: ¬ du < dy:=fun q=>z (aH q);refine⟨_,rfl,rfl,false,jL (show("bill":Str)≠"set" by decide +kernel),bV ?_⟩;exact kk _ _ ((aQ z1).trans (aQ z2)) s9
  |o7 wh dy am=>
   refine⟨_,rfl,pd,_,_,.str "pay",rfl,rfl,cy.of hd,rfl,_,rfl,rfl,.inr ⟨false,(by rw[jL (show("pay":Str)≠"set" by decide +kernel)]),?_⟩⟩;refine⟨_,rfl,rfl,false,dr V.bl (by decide +kernel),bV (bV ?_)⟩;refine⟨_,rfl,(by show 2<=sizeLine; decide),fun p9 n9=>⟨p9,_,rfl,.inl (bD.of af),rfl,rfl,false,dr V.bl (by decide +kernel),bV (bV ?_)⟩⟩;have s9:=ay.new (o:= .lst [V.str "set",.str "note"]) n9;have zo:=s9 _ _ hd;refine jK (H':=upd H p9 (.lst [V.str "set",.str "note"])) rfl ?_;generalize upd H p9 (.lst [V.str "set",.str "note"])=H9 at s9 zo;refine⟨_,rfl,rfl,false,jL (show("pay":Str)≠"set" by decide +kernel),bV (bV ?_)⟩;refine⟨_,rfl,rfl,true,UH (show("pay":Str)≠"sweep" by decide +kernel),fH ⟨_,rfl,_,rfl,pd,_,_,.int am,rfl,rfl,cy.of zo,rfl,_,_,rfl,rfl,_,rfl,cE (fun z=>?_) (fun z=>?_)⟩⟩
   ·have z':am < 1:=aS z;exact kk _ _ (a0 z') s9
   have z1: ¬ am < 1:=fun q=>z (aH q);refine⟨_,rfl,rfl,false,jL (show("pay":Str)≠"bill" by decide +kernel),bV (bV ?_)⟩;refine⟨_,rfl,rfl,false,jL (show("pay":Str)≠"set" by decide +kernel),bV ?_⟩;exact kk _ _ (aQ z1) s9
  |fu wh=>
   refine⟨_,rfl,pd,_,_,.str "sweep",rfl,rfl,cy.of hd,rfl,_,rfl,rfl,.inr ⟨false,(by rw[jL (show("sweep":Str)≠"set" by decide +kernel)]),?_⟩⟩;refine⟨_,rfl,rfl,false,dr V.bl (by decide +kernel),bV (bV ?_)⟩;refine⟨_,rfl,(by show 2<=sizeLine; decide),fun p9 n9=>⟨p9,_,rfl,.inl (bD.of af),rfl,rfl,false,dr V.bl (by decide +kernel),bV (bV ?_)⟩⟩;have s9:=ay.new (o:= .lst [V.str "set",.str "note"]) n9;refine jK (H':=upd H p9 (.lst [V.str "set",.str "note"])) rfl ?_;generalize upd H p9 (.lst [V.str "set",.str "note"])=H9 at s9;refine⟨_,rfl,rfl,false,jL (show("sweep":Str)≠"set" by decide +kernel),bV (bV ?_)⟩;refine⟨_,rfl,rfl,false,btN _,bV (bV ?_)⟩;refine⟨_,rfl,rfl,false,jL (show("sweep":Str)≠"bill" by decide +kernel),bV (bV ?_)⟩;refine⟨_,rfl,rfl,false,jL (show("sweep":Str)≠"set" by decide +kernel),bV ?_⟩;exact kk _ _ rfl s9
  |note bi dy am=>
   refine⟨_,rfl,pd,_,_,.str "note",rfl,rfl,cy.of hd,rfl,_,rfl,rfl,.inr ⟨false,(by rw[jL (show("note":Str)≠"set" by decide +kernel)]),?_⟩⟩;refine⟨_,rfl,rfl,false,dr V.bl (by decide +kernel),bV (bV ?_)⟩;refine⟨_,rfl,(by show 2<=sizeLine; decide),fun p9 n9=>⟨p9,_,rfl,.inl (bD.of af),rfl,rfl,true,dr V.bl (by decide +kernel),fH ?_⟩⟩;have s9:=ay.new (o:= .lst [V.str "set",.str "note"]) n9;have zo:=s9 _ _ hd;have B9:=hB.same s9;generalize upd H p9 (.lst [V.str "set",.str "note"])=H9 at s9 zo B9;have hlen:g.iD.length=S.aG.length:=B9.rb.length.symm;refine wH (x:=bi) (n:=S.aG.length) (fun R q=>⟨_,rfl,_,rfl,_,_,rfl,rfl,pd,_,_,.int bi,rfl,rfl,cy.of zo,rfl,q⟩) (fun R q=>⟨_,rfl,sd,_,rfl,B9.gB,g.pb,_,rfl,.inl (bD.of B9.hb),by rw[ae,hlen]; exact q⟩) (cE (fun z=>?_) (fun z=>?_))
   ·have z': ¬ qM bi S.aG.length:=by simpa using z
    exact kk _ _ (a0 z') s9
   have z0: ¬ ¬ qM bi S.aG.length:=by simpa using z
   refine⟨_,rfl,rfl,false,jL (show("note":Str)≠"set" by decide +kernel),bV (bV ?_)⟩;refine⟨_,rfl,rfl,true,UH (show("note":Str)≠"sweep" by decide +kernel),fH ⟨_,rfl,_,rfl,pd,_,_,.int am,rfl,rfl,cy.of zo,rfl,_,_,rfl,rfl,_,rfl,cE (fun z=>?_) (fun z=>?_)⟩⟩
   ·have z':am < 1:=aS z;exact kk _ _ ((aQ z0).trans (a0 z')) s9
   have z1: ¬ am < 1:=fun q=>z (aH q);refine⟨_,rfl,rfl,false,jL (show("note":Str)≠"bill" by decide +kernel),bV (bV ?_)⟩;refine⟨_,rfl,rfl,false,jL (show("note":Str)≠"set" by decide +kernel),bV ?_⟩;exact kk _ _ ((aQ z0).trans (aQ z1)) s9
  |set ci bi am=>
   have hlc:g.cps.length=S.credits.length:=hB.rc.length.symm;refine⟨_,rfl,pd,_,_,.str "set",rfl,rfl,cy.of hd,rfl,_,rfl,rfl,.inr ⟨true,(by rw[BD]),?_⟩⟩;refine⟨_,rfl,rfl,true,dr V.bl (by decide +kernel),fH ?_⟩;refine wH (x:=ci) (n:=S.credits.length) (fun R q=>⟨_,rfl,pd,_,_,.int ci,rfl,rfl,cy.of hd,rfl,q⟩) (fun R q=>⟨_,rfl,sd,_,rfl,hB.gC,g.pc,_,rfl,.inl (bD.of hB.hc),by rw[ae,hlc]; exact q⟩) (cE (fun z=>?_) (fun z=>?_))
   ·have z': ¬ qM ci S.credits.length:=by simpa using z
    exact kk _ _ (a0 z') (ay.refl _)
   have zc: ¬ ¬ qM ci S.credits.length:=by simpa using z
   refine⟨_,rfl,(by show 2<=sizeLine; decide),fun p9 n9=>⟨p9,_,rfl,.inl (bD.of af),rfl,rfl,true,dr V.bl (by decide +kernel),fH ?_⟩⟩;have s9:=ay.new (o:= .lst [V.str "set",.str "note"]) n9;have zo:=s9 _ _ hd;have B9:=hB.same s9;generalize upd H p9 (.lst [V.str "set",.str "note"])=H9 at s9 zo B9;have hlen:g.iD.length=S.aG.length:=B9.rb.length.symm;refine wH (x:=bi) (n:=S.aG.length) (fun R q=>⟨_,rfl,_,rfl,_,_,rfl,rfl,pd,_,_,.int bi,rfl,rfl,cy.of zo,rfl,q⟩) (fun R q=>⟨_,rfl,sd,_,rfl,B9.gB,g.pb,_,rfl,.inl (bD.of B9.hb),by rw[ae,hlen]; exact q⟩) (cE (fun z=>?_) (fun z=>?_))
   ·have z': ¬ qM bi S.aG.length:=by simpa using z
    exact kk _ _ ((aQ zc).trans (a0 z')) s9
   have zb: ¬ ¬ qM bi S.aG.length:=by simpa using z
   have ic:=GQ.mp zc;have ib:=GQ.mp zb;obtain⟨c,rfl⟩:=cD ic.1;obtain⟨b,rfl⟩:=cD ib.1;have hc:c < S.credits.length:=by have:=ic.2; lia
   have hb:b < S.aG.length:=by have:=ib.2; lia
   refine⟨_,rfl,rfl,true,BD _,fH ⟨_,rfl,_,rfl,pd,_,_,.int (c:Int),rfl,rfl,cy.of zo,rfl,_,rfl,pd,_,_,.int (b:Int),rfl,rfl,cy.of zo,rfl,sd,S,g,c,b,rfl,B9,hc,hb,fun YO DQ=>⟨_,rfl,cE (fun z=>?_) (fun z=>?_)⟩⟩⟩
   ·have z':S.eG c b=false:=by simpa using z
    exact kk _ _ ((if_neg zc).trans ((if_neg zb).trans (if_pos (by simpa using z')))) (s9.trans DQ)
   have zg: ¬ S.eG (c:Int).toNat (b:Int).toNat=false:=by simpa using z
   have Nt:=DQ _ _ zo;have R0:=B9.same DQ;have Dc:=s9.trans DQ;refine⟨_,rfl,rfl,true,UH (show("set":Str)≠"sweep" by decide +kernel),fH ⟨_,rfl,_,rfl,pd,_,_,.int am,rfl,rfl,cy.of Nt,rfl,_,_,rfl,rfl,_,rfl,cE (fun z=>?_) (fun z=>?_)⟩⟩
   ·have z':am < 1:=aS z;exact kk _ _ ((aQ zc).trans ((aQ zb).trans ((aQ zg).trans (a0 z')))) Dc
   have z1: ¬ am < 1:=fun q=>z (aH q);refine⟨_,rfl,rfl,false,jL (show("set":Str)≠"bill" by decide +kernel),bV (bV ?_)⟩;obtain⟨p,_,ap,hp⟩:=R0.lc hc;obtain⟨q,_,aq,hq⟩:=R0.lb hb;refine⟨_,rfl,rfl,true,BD _,fH ?_⟩;refine⟨_,rfl,pd,_,_,.int am,rfl,rfl,cy.of Nt,rfl,_,rfl,sd,_,rfl,R0.gC,_,rfl,pd,_,_,.int (c:Int),rfl,rfl,cy.of Nt,rfl,g.pc,_,_,.ref p,rfl,rfl,bD.of R0.hc,ap,p,_,_,.int (S.cr c).d,rfl,rfl,bD.of hp,rfl,?_⟩;refine⟨_,rfl,sd,_,rfl,R0.gB,_,rfl,pd,_,_,.int (b:Int),rfl,rfl,cy.of Nt,rfl,g.pb,_,_,.ref q,rfl,rfl,bD.of R0.hb,aq,q,_,_,.int (S.bl b).d,rfl,rfl,bD.of hq,rfl,_,_,rfl,_,_,rfl,rfl,_,rfl,cE (fun z=>?_) (fun z=>?_)⟩
   ·have z':gq (S.cr (c:Int).toNat).d (S.bl (b:Int).toNat).d < am:=aS z;exact kk _ _ ((aQ zc).trans ((aQ zb).trans ((aQ zg).trans ((aQ z1).trans (a0 z'))))) Dc
   ·have z': ¬ gq (S.cr (c:Int).toNat).d (S.bl (b:Int).toNat).d < am:=fun q=>z (aH q);exact kk _ _ ((aQ zc).trans ((aQ zb).trans ((aQ zg).trans ((aQ z1).trans (aQ z'))))) Dc
def QE (H:Hp)(f f':fA):Prop:= ∀x∈f'.fp,x∈f.fp∨H x=none
def YQ (Q:VK)(H:Hp)(sd:Addr)(S:Bk)(f:fA)(d:bc):Prop:=
 ∀v f' H',Frame f.fp H H'->dh H' sd (S.enter d) f'->QE H f f'->Rp H' (S.Ke d).dt v->Q v H'
inductive vd (vs:List V)(H:Hp)(Q:VK)(E':XK):Prop
 |mk (sd pd:Addr)(S:Bk)(f:fA)(d:bc)(h1:vs=[.ref sd,.ref pd])(h2:dh H sd S f)(h3:H pd=some (.tup (bc.vs d)))(h4:d.tells=true)(h5:S.credits.length < 64)(h6:S.aG.length < 64)(h7:S.made.length + 10000 < sizeLine)(h8:(S.bar d≠""-> ∀H',ay H H'->Q (.str (S.bar d)) H'))(h9:(S.bar d=""->YQ Q H sd S f d)):vd vs H Q E'
def pK:aV ["_law_state","_law_deed","_law_text","_law_who"] ["_law_state","_law_deed"] (aA (top 61)):={}
def rV (T:Txt K mg):eO P w K mg base "_law_enter" 3 ["_law_state","_law_deed"] vd:=by
 have yi:eO P w K mg base "_law_barred" 2 ["_law_state","_law_deed"] wI:=yh T;have qy:eO P w K mg base "_law_put" 1 ["_law_state","_law_credit","_law_bill","_law_amount"] C7:=wC T;have AX:eO P w K mg base "_law_swept" 2 ["_law_state","_law_who"] AV:=AW T;refine T.An.fb (k:=2) pK (fun f cV A outer s H vs Q E hr h=>?_)
 ·obtain⟨sd,pd,S,g,d,rfl,hB,hd,ht,rC,Nq,BC,kn,ky⟩:=h;have hu:=jy hr;have nd:=pK.nd;refine⟨_,(ah (sv 2 nd (fc yi hr (aa (pv 0) (aa (pv 1) ao))))
(ah (bP (aY qU (pv 2) aK (a8 _))
(av (a6 (pv 2)))
bh)
(ah (bP (aY cU (xt (pv 1) ai) aK (a8 _))
(ah (bM (qv (cF hu (pv 0) aK (fun _ _=>rfl)) (bK (aa (xt (pv 1) ai) (aa (xt (pv 1) ai) (aa (xt (pv 1) ai) (aa (xt (pv 1) ai) (aa (xt (pv 1) ai) ao))))))))
(av (a6 (aO eQ (lz T.dk (cF hu (pv 0) aK (fun _ _=>rfl))) ai))))
bh)
(ah (bP (aY cU (xt (pv 1) ai) aK (a8 _))
(ah (bM (qv (cF hu (pv 0) aK (fun _ _=>rfl)) (bK (aa (xt (pv 1) ai) (aa (xt (pv 1) ai) (aa (xt (pv 1) ai) (aa (pE lp ai) (aa (xt (pv 1) ai) ao))))))))
(av (a6 (aO eQ (lz T.dk (cF hu (pv 0) aK (fun _ _=>rfl))) ai))))
bh)
(ah (bP (aY cU (xt (pv 1) ai) aK (a8 _))
(ah (sv 3 nd (xl (xl (cF hu (pv 0) aK (fun _ _=>rfl)) (xt (pv 1) ai)) ai))
(ah (bM (qv (cF hu (pv 0) aK (fun _ _=>rfl)) (bK (aa (pv 3) (aa (xt (pv 1) ai) (aa (xt (pv 1) ai) (aa (xt (pv 1) ai) (aa (xt (pv 1) ai) ao))))))))
(av (a6 (aO eQ (lz T.dk (cF hu (pv 0) aK (fun _ _=>rfl))) ai)))))
bh)
(ah (bP (aY cU (xt (pv 1) ai) aK (a8 _))
(ah (bM (fc qy hr (aa (pv 0) (aa (xt (pv 1) ai) (aa (xt (pv 1) ai) (aa (xt (pv 1) ai) ao))))))
(av (a6 (xt (pv 1) ai))))
bh)
(av (a6 (fc AX hr (aa (pv 0) (aa (xt (pv 1) ai) ao))))))))))),?_⟩
  refine⟨_,rfl,_,rfl,sd,pd,S,g,d,rfl,hB,hd,ht,fun H1 s1=>?_⟩;by_cases pA:S.bar d=""
  case neg=>exact⟨_,rfl,rfl,true,UH pA,fH ⟨_,rfl,kn pA H1 s1⟩⟩
  refine⟨_,rfl,rfl,false,(by rw[pA]; exact btN _),bV ?_⟩;have B1:=hB.same s1;have mv:=s1 _ _ hd;have UI: ∀v f' H',Frame g.fp H1 H'->dh H' sd (S.enter d) f'->QE H1 g f'->Rp H' (S.Ke d).dt v->Q v H':=fun v f' H' fr b fi r=>ky pA v f' H' (fr.mF s1) b (fun x hx=>(fi x hx).elim .inl fun z=> .inr (s1.free z)) r;clear ky kn;have lb:=B1.rb.length;have lc:=B1.rc.length;cases d with
  |fC n=>cases ht
  |ask o w d=>cases ht
  |gZ w d l=>cases ht
  |dJ wh dy du am=>
   refine⟨_,rfl,pd,_,_,.str "bill",rfl,rfl,cy.of mv,rfl,rfl,true,BD _,fH ?_⟩;refine⟨_,rfl,sd,_,rfl,B1.gB,.inl ⟨rfl,_,bD.of B1.hb⟩,_,rfl,pd,_,_,.str wh,rfl,rfl,cy.of mv,rfl,_,rfl,pd,_,_,.int dy,rfl,rfl,cy.of mv,rfl,_,rfl,pd,_,_,.int du,rfl,rfl,cy.of mv,rfl,_,rfl,pd,_,_,.int am,rfl,rfl,cy.of mv,rfl,_,rfl,pd,_,_,.int am,rfl,rfl,cy.of mv,rfl,(by show 5<=sizeLine; decide),fun pr nr=>?_⟩;have t1:=ay.new (o:= .lst (Rw.vs ⟨wh,dy,du,am,am⟩)) nr;refine⟨g.pb,_,_,rfl,rfl,t1 _ _ B1.hb,a9 (by rw[ae]; lia),?_⟩;have B2:=B1.kO (r:=⟨wh,dy,du,am,am⟩) nr;have F2:Frame g.fp H1 (upd (upd H1 pr (.lst (Rw.vs ⟨wh,dy,du,am,am⟩))) g.pb (.lst (g.iD.map V.ref ++ [.ref pr]))):=t1.frame.tr (Frame.upd (by simp[fA.fp]));refine jK (H':=upd (upd H1 pr (.lst (Rw.vs ⟨wh,dy,du,am,am⟩))) g.pb (.lst (g.iD.map V.ref ++ [.ref pr]))) rfl ?_;generalize upd (upd H1 pr (.lst (Rw.vs ⟨wh,dy,du,am,am⟩))) g.pb (.lst (g.iD.map V.ref ++ [.ref pr]))=H2 at B2 F2;refine⟨_,rfl,sd,_,rfl,B2.gB,_,_,rfl,.inl (bD.of B2.hb),_,_,rfl,rfl,?_⟩;refine UI _ (g.kO pr) H2 F2 B2 (fun x hx=>?_) (dE.mpr ?_)
   ·rcases aw.mp ((g.KA pr).mem_iff.mp hx) with rfl|hx
    ·exact .inr nr
    ·exact .inl hx
   ·show V.int _ =V.int (S.aG.length:Int)
    congr 1
    rw[ae];show((g.iD ++ [pr]).length:Int) - 1=_;rw[ax,lb];simp
  |o7 wh dy am=>
   refine⟨_,rfl,pd,_,_,.str "pay",rfl,rfl,cy.of mv,rfl,rfl,false,jL (show("pay":Str)≠"bill" by decide +kernel),bV ?_⟩;refine⟨_,rfl,pd,_,_,.str "pay",rfl,rfl,cy.of mv,rfl,rfl,true,BD _,fH ?_⟩;refine⟨_,rfl,sd,_,rfl,B1.gC,.inl ⟨rfl,_,bD.of B1.hc⟩,_,rfl,pd,_,_,.str wh,rfl,rfl,cy.of mv,rfl,_,rfl,pd,_,_,.int dy,rfl,rfl,cy.of mv,rfl,_,rfl,pd,_,_,.int am,rfl,rfl,cy.of mv,rfl,_,rfl,_,rfl,pd,_,_,.int am,rfl,rfl,cy.of mv,rfl,(by show 5<=sizeLine; decide),fun pr nr=>?_⟩;have t1:=ay.new (o:= .lst (Rw.vs ⟨wh,dy,am,-1,am⟩)) nr;refine⟨g.pc,_,_,rfl,rfl,t1 _ _ B1.hc,a9 (by rw[ae]; lia),?_⟩;have B2:=B1.il (r:=⟨wh,dy,am,-1,am⟩) nr;have F2:Frame g.fp H1 (upd (upd H1 pr (.lst (Rw.vs ⟨wh,dy,am,-1,am⟩))) g.pc (.lst (g.cps.map V.ref ++ [.ref pr]))):=t1.frame.tr (Frame.upd (by simp[fA.fp]));refine jK (H':=upd (upd H1 pr (.lst (Rw.vs ⟨wh,dy,am,-1,am⟩))) g.pc (.lst (g.cps.map V.ref ++ [.ref pr]))) rfl ?_;generalize upd (upd H1 pr (.lst (Rw.vs ⟨wh,dy,am,-1,am⟩))) g.pc (.lst (g.cps.map V.ref ++ [.ref pr]))=H2 at B2 F2;refine⟨_,rfl,sd,_,rfl,B2.gC,_,_,rfl,.inl (bD.of B2.hc),_,_,rfl,rfl,?_⟩;refine UI _ (g.il pr) H2 F2 B2 (fun x hx=>?_) (dE.mpr ?_)
   ·rcases aw.mp ((g.Gd pr).mem_iff.mp hx) with rfl|hx
    ·exact .inr nr
    ·exact .inl hx
   ·show V.int _ =V.int (S.credits.length:Int)
    congr 1
    rw[ae];show((g.cps ++ [pr]).length:Int) - 1=_;rw[ax,lc];simp
  |note bi dy am=>
   obtain⟨ib,ia⟩:=tj pA;obtain⟨b,rfl⟩:=cD ib.1;have hb:b < S.aG.length:=by have:=ib.2; lia
   obtain⟨q,_,aq,hq⟩:=B1.lb hb;refine⟨_,rfl,pd,_,_,.str "note",rfl,rfl,cy.of mv,rfl,rfl,false,jL (show("note":Str)≠"bill" by decide +kernel),bV ?_⟩;refine⟨_,rfl,pd,_,_,.str "note",rfl,rfl,cy.of mv,rfl,rfl,false,jL (show("note":Str)≠"pay" by decide +kernel),bV ?_⟩;refine⟨_,rfl,pd,_,_,.str "note",rfl,rfl,cy.of mv,rfl,rfl,true,BD _,fH ?_⟩;refine⟨_,rfl,sd,_,rfl,B1.gB,_,rfl,pd,_,_,.int (b:Int),rfl,rfl,cy.of mv,rfl,g.pb,_,_,.ref q,rfl,rfl,bD.of B1.hb,aq,q,_,_,.str (S.bl b).aJ,rfl,rfl,bD.of hq,rfl,?_⟩;refine⟨_,rfl,sd,_,rfl,B1.gC,.inl ⟨rfl,_,bD.of B1.hc⟩,_,rfl,_,rfl,pd,_,_,.int dy,rfl,rfl,cy.of mv,rfl,_,rfl,pd,_,_,.int am,rfl,rfl,cy.of mv,rfl,_,rfl,pd,_,_,.int (b:Int),rfl,rfl,cy.of mv,rfl,_,rfl,pd,_,_,.int am,rfl,rfl,cy.of mv,rfl,(by show 5<=sizeLine; decide),fun pr nr=>?_⟩;have t1:=ay.new (o:= .lst (Rw.vs ⟨(S.bl b).aJ,dy,am,b,am⟩)) nr;refine⟨g.pc,_,_,rfl,rfl,t1 _ _ B1.hc,a9 (by rw[ae]; lia),?_⟩;have B2:=B1.il (r:=⟨(S.bl b).aJ,dy,am,b,am⟩) nr;have F2:Frame g.fp H1 (upd (upd H1 pr (.lst (Rw.vs ⟨(S.bl b).aJ,dy,am,b,am⟩))) g.pc (.lst (g.cps.map V.ref ++ [.ref pr]))):=t1.frame.tr (Frame.upd (by simp[fA.fp]));refine jK (H':=upd (upd H1 pr (.lst (Rw.vs ⟨(S.bl b).aJ,dy,am,b,am⟩))) g.pc (.lst (g.cps.map V.ref ++ [.ref pr]))) rfl ?_;generalize upd (upd H1 pr (.lst (Rw.vs ⟨(S.bl b).aJ,dy,am,b,am⟩))) g.pc (.lst (g.cps.map V.ref ++ [.ref pr]))=H2 at B2 F2;refine⟨_,rfl,sd,_,rfl,B2.gC,_,_,rfl,.inl (bD.of B2.hc),_,_,rfl,rfl,?_⟩;refine UI _ (g.il pr) H2 F2 B2 (fun x hx=>?_) (dE.mpr ?_)
   ·rcases aw.mp ((g.Gd pr).mem_iff.mp hx) with rfl|hx
    ·exact .inr nr
    ·exact .inl hx
   ·show V.int _ =V.int (S.credits.length:Int)
    congr 1
    rw[ae];show((g.cps ++ [pr]).length:Int) - 1=_;rw[ax,lc];simp
  |set ci bi am=>
   obtain⟨ic,ib,_,_,_,_⟩:=nP pA;obtain⟨c,rfl⟩:=cD ic.1;obtain⟨b,rfl⟩:=cD ib.1;have hc:c < S.credits.length:=by have:=ic.2; lia
   have hb:b < S.aG.length:=by have:=ib.2; lia
   refine⟨_,rfl,pd,_,_,.str "set",rfl,rfl,cy.of mv,rfl,rfl,false,jL (show("set":Str)≠"bill" by decide +kernel),bV ?_⟩;refine⟨_,rfl,pd,_,_,.str "set",rfl,rfl,cy.of mv,rfl,rfl,false,jL (show("set":Str)≠"pay" by decide +kernel),bV ?_⟩;refine⟨_,rfl,pd,_,_,.str "set",rfl,rfl,cy.of mv,rfl,rfl,false,jL (show("set":Str)≠"note" by decide +kernel),bV ?_⟩;refine⟨_,rfl,pd,_,_,.str "set",rfl,rfl,cy.of mv,rfl,rfl,true,BD _,fH ?_⟩;refine⟨_,rfl,_,rfl,pd,_,_,.int (c:Int),rfl,rfl,cy.of mv,rfl,_,rfl,pd,_,_,.int (b:Int),rfl,rfl,cy.of mv,rfl,_,rfl,pd,_,_,.int am,rfl,rfl,cy.of mv,rfl,sd,S,g,c,b,am,rfl,B1,hc,hb,by lia,fun H2 F2 B2=>?_⟩;have hd2:=B1.tk F2 _ _ mv;refine⟨_,rfl,pd,_,_,.int am,rfl,rfl,cy.of hd2,rfl,?_⟩;exact UI _ g H2 F2 B2 (fun x hx=> .inl hx) (dE.mpr rfl)
  |fu wh=>
   refine⟨_,rfl,pd,_,_,.str "sweep",rfl,rfl,cy.of mv,rfl,rfl,false,jL (show("sweep":Str)≠"bill" by decide +kernel),bV ?_⟩;refine⟨_,rfl,pd,_,_,.str "sweep",rfl,rfl,cy.of mv,rfl,rfl,false,jL (show("sweep":Str)≠"pay" by decide +kernel),bV ?_⟩;refine⟨_,rfl,pd,_,_,.str "sweep",rfl,rfl,cy.of mv,rfl,rfl,false,jL (show("sweep":Str)≠"note" by decide +kernel),bV ?_⟩;refine⟨_,rfl,pd,_,_,.str "sweep",rfl,rfl,cy.of mv,rfl,rfl,false,jL (show("sweep":Str)≠"set" by decide +kernel),bV ?_⟩;refine⟨_,rfl,_,rfl,pd,_,_,.str wh,rfl,rfl,cy.of mv,rfl,sd,S,g,wh,rfl,B1,rC,Nq,BC,fun D ms H2 F2 B2 nD hD hT=>?_⟩;exact UI _ g H2 F2 B2 (fun x hx=> .inl hx) (jZ.mpr ⟨D,ms,rfl,hD,hT.Oq⟩)
def bc.word:bc->Str
 | .dJ _ _ _ _=>"bill"
 | .o7 _ _ _=>"pay"
 | .note _ _ _=>"note"
 | .set _ _ _=>"set"
 | .fu _=>"sweep"
 | .fC _=>"undo"
 | .ask o _ _=>if o then "owed" else "free"
 | .gZ _ _ _=>"ages"
def rW {d:bc}(h:d.tells=true∨ ∃m,d= .fC m): ∃r,bc.vs d= .str (bc.word d) :: r:=by
 cases d with
 |gZ w d l=>rcases h with h|⟨m,h⟩ <;> cases h
 |_=>exact⟨_,rfl⟩
def Gj {d:bc}(h:d.tells=true):xI (.str (bc.word d)) [.str "set",.str "sweep"]=d.isSet:=by
 cases d with
 |dJ _ _ _ _=>show xI (.str "bill") _ =false; decide +kernel
 |o7 _ _ _=>show xI (.str "pay") _ =false; decide +kernel
 |note _ _ _=>show xI (.str "note") _ =false; decide +kernel
 |set _ _ _=>show xI (.str "set") _ =true; decide +kernel
 |fu _=>show xI (.str "sweep") _ =true; decide +kernel
 |fC _=>cases h
 |ask _ _ _=>cases h
 |gZ _ _ _=>cases h
def fT (H:Hp)(ss:List (Int×bc))(vs:List V):Prop:=Paired (fun(st:Int×bc) v=> ∃p pd,v= .ref p/\H p=some (.tup [.int st.1,.ref pd])/\H pd=some (.tup (bc.vs st.2))/\st.2.tells=true) ss vs
def fT.mono {H H':Hp}{ss:List (Int×bc)}{vs:List V}(h:fT H ss vs)(k:cw H H'):fT H' ss vs:=
 Paired.iu h fun _ _ ⟨p,pd,e,q1,q2,t⟩=>⟨p,pd,e,k _ _ q1,k _ _ q2,t⟩
inductive wJ (vs:List V)(H:Hp)(Q:VK)(E':XK):Prop
 |mk (ps:Addr)(ss:List (Int×bc))(us:List V)(h1:vs=[.ref ps])(h2:H ps=some (.lst us))(h3:fT H ss us)(h4:ss.length<=59)(h5:(cH ss Bk.new=none-> ∀H',ay H H'->Q .en H'))(h6:(∀S,cH ss Bk.new=some S-> ∀sd f H',ay H H'->dh H' sd S f->(∀b∈f.fp,H b=none)->Q (.ref sd) H')):wJ vs H Q E'
def ox:aV ["_law_steps","_law_state","_law_number","_law_deed"] ["_law_steps"] (aA (top 62)):={}
def yj (T:Txt K mg):eO P w K mg base "_law_worked" 4 ["_law_steps"] wJ:=by
 have mG:eO P w K mg base "_law_begun" 1 [] Gg:=rQ T;have mH:eO P w K mg base "_law_enter" 3 ["_law_state","_law_deed"] vd:=rV T;refine T.xZ.fb (k:=3) ox (fun f cV A outer s H vs Q E hr h=>?_)
 ·obtain⟨ps,ss,us,rfl,kQ,Nu,hl,kn,ky⟩:=h;have nd:=ox.nd;have hlen:=aM Nu;refine⟨_,(ah (sv 1 nd (JV mG (hr.mono (by decide)) rfl))
(ah (dX bC rfl (rD (pv 0)) (gT (bR (gn 2 nd) (bR (gn 3 nd) fP)))
(av (bP (gf (uO T.c8 T.Ga boot_str (fc mH hr (aa (pv 1) (aa (pv 3) ao)))))
(av (a6 D3))
bh)))
(av (a6 (pv 1))))),?_⟩
  refine⟨rfl,fun sd f0 H1 s1 B1 M7 nf=>?_⟩;refine⟨_,rfl,ps,rfl,⟨_,bD.of (s1 _ _ kQ)⟩,?_⟩;refine eP (K:=K) (a:=ps) (xs:=us) (fun i σ H2=> ∃(S:Bk) (f:fA) (x2 x3:Option V),σ=[some (.ref ps),some (.ref sd),x2,x3]/\ay H H2/\dh H2 sd S f/\(∀b∈f.fp,H b=none)/\WF S i/\cH ss Bk.new=cH (ss.drop i) S)
   ⟨Bk.new,f0,none,none,rfl,s1,B1,nf,WF.new,rfl⟩ (fun i σ H2 _ ⟨_,_,_,_,_,s2,_⟩=>bD.of (s2 _ _ kQ)) ?_ ?_
  ·rintro i x σ H2 hx ⟨S,f2,x2,x3,rfl,s2,B2,Ws,wf,hw⟩;have hi:i < ss.length:=by have:=(ak.mp hx).1; lia
   obtain⟨v,hv,p,pd,rfl,hp,Gk,ht⟩:=bL Nu (ag hi);rw[hx] at hv;obtain rfl:x= .ref p:=aF hv;have hdr:=OZ hi;rw[hdr] at hw;generalize ss[i]=st at hp Gk ht hw;obtain⟨n,d⟩:=st;have uJ:=s2 _ _ hp;have QF:=s2 _ _ Gk;refine⟨p,_,rfl,cy.of uJ,rfl,_,_,rfl,_,_,rfl,rfl,?_⟩;refine⟨_,rfl,_,rfl,sd,pd,S,f2,d,rfl,B2,QF,ht,by have:=wf.lc; lia,by have:=wf.lb; lia,by have:=wf.lm; rw[eX]; lia,fun hb H3 s3=>?_,fun hb v f3 H3 F3 B3 fi r=>?_⟩
   ·refine⟨_,_,_,true,rfl,.str _,yX (.str (S.bar d)),_,rfl,fH ?_⟩;refine kn ?_ _ (s2.trans s3);rw[hw];show(if S.bar d="" then _ else none)=none;rw[aQ hb]
   ·have hS:V7 (S.Ke d).dt=false:=by cases d <;> first|rfl|cases ht
    refine⟨_,_,_,false,rfl,r.ty,(yX _).trans (dr some hS),_,rfl,bV ?_⟩;refine⟨S.enter d,f3,_,_,rfl,F3.same s2 Ws,B3,fun b zV=>?_,wf.enter (by lia) hb,?_⟩
    ·rcases fi b zV with z|z
     ·exact Ws b z
     ·exact s2.free z
    ·rw[hw];show(if S.bar d="" then _ else none)=_;rw[a0 hb]
  ·rintro σ H2 ⟨S,f2,x2,x3,rfl,s2,B2,Ws,wf,hw⟩;rw[← hlen,List.drop_length] at hw;exact⟨_,rfl,ky S hw sd f2 H2 s2 B2 Ws⟩
inductive Gm (vs:List V)(H:Hp)(Q:VK)(E':XK):Prop
 |mk (pd:Addr)(wd:Str)(r:List V)(h1:vs=[.ref pd])(h2:H pd=some (.tup (.str wd :: r)))(h3: ∀H',ay H H'->Q (.bl (xI (.str wd) [.str "bill",.str "pay",.str "note",.str "set",.str "sweep"])) H'):Gm vs H Q E'
def yk:aV ["_law_deed"] ["_law_deed"] (aA (top 63)):={}
def AY (T:Txt K mg):eO P w K mg base "_law_tells" 1 ["_law_deed"] Gm:=by
 refine T.Ao.fb (k:=0) yk (fun f cV A outer s H vs Q E hr h=>?_)
 ·obtain⟨pd,wd,r,rfl,hd,k⟩:=h;refine⟨_,(av (a6 (fI lK (xt (pv 0) ai) (bK (aa aK (aa aK (aa aK (aa aK (aa aK ao)))))) (by rfl)))),?_⟩;refine⟨_,rfl,pd,_,_,.str wd,rfl,rfl,cy.of hd,cI (j:=0) rfl,(by show 5<=sizeLine; decide),fun p9 n9=>⟨p9,_,rfl,.inl (bD.of af),rfl,rfl,?_⟩⟩;exact k _ (ay.new n9)
def OA (Q:VK)(H:Hp)(ps:Addr)(f:fA)(r:uZ×eL):Prop:=
 ∀(t:Addr) (v:V) (qz ve:Addr) (f':fA) (zp:List V) (H':Hp),H' t=some (.tup [v,.ref qz,.ref ve])->Rp H' r.1.dt v->H' qz=some (.lst zp)->fT H' r.2.steps zp->dh H' ve r.2.bk f'->Frame f.fp H H'->QE H f f'->qz∉f'.fp->(∀a o,a∉f.fp->H a=some o->qz=a->qz=ps)->Q (.ref t) H'
inductive K0 (vs:List V)(H:Hp)(Q:VK)(E':XK):Prop
 |mk (ps sd pd:Addr)(n:Nat)(T:eL)(us:List V)(f:fA)(d:bc)(h1:vs=[.ref ps,.ref sd,.int n,.ref pd])(h2:H ps=some (.lst us))(h3:fT H T.steps us)(h4:dh H sd T.bk f)(h5:ps∉f.fp)(h6:H pd=some (.tup (bc.vs d)))(h7:(d.tells=true∨ ∃m,d= .fC m))(h8:Good T n)(h9:n<=59)(LV:OA Q H ps f (cz T n d)):K0 vs H Q E'
def wK {T:eL}{n:Int}{d:bc}(h:d.tells=true):cz T n d=if T.bk.bar d="" then(T.bk.Ke d,(⟨T.steps ++ [(n,d)],T.bk.enter d⟩:eL)) else(.txt (T.bk.bar d),T):=by
 cases d <;> first|rfl|cases h
def rX:aV ["_law_steps","_law_state","_law_number","_law_deed","_law_rest","_law_step","_law_later","_law_answer"] ["_law_steps","_law_state","_law_number","_law_deed"] (aA (top 64)):={}
def fO {α:Type}(p:α->Bool){l:List α}{i:Nat}{x:α}(h:l[i]? =some x):(l.take (i + 1)).filter p=(l.take i).filter p ++ (if p x=true then[x] else[]):=by
 rw[GN,h,ip]
 congr 1
 show[x].filter p=_;by_cases c:p x=true
 ·rw[a0 c,cB c]; rfl
 ·rw[aQ c,gP c]; rfl
def uw (T:Txt K mg):eO P w K mg base "_law_done" 5 ["_law_steps","_law_state","_law_number","_law_deed"] K0:=by
 have yl:eO P w K mg base "_law_worked" 4 ["_law_steps"] wJ:=yj T;have mH:eO P w K mg base "_law_enter" 3 ["_law_state","_law_deed"] vd:=rV T;refine T.Cz.fb (k:=4) rX (fun f cV A outer s H vs Q E hr h=>?_)
 ·obtain⟨ps,sd,pd,n,T0,us,g,d,rfl,kQ,Nu,hB,DR,hd,hk,good,hn,k⟩:=h;have nd:=rX.nd;have hlen:=aM Nu;have hT:=good.len;obtain⟨rr,hvs⟩:=rW hk;have Wt:H pd=some (.tup (.str (bc.word d) :: rr)):=hvs▸hd;refine⟨_,(ah (bP (aY cU (xt (pv 3) ai) aK (a8 _))
(ah (sv 4 nd (bK ao))
(ah (dX bC rfl (rD (pv 0)) (gn 5 nd)
(av (bP (PW.pt (pw_or (aY qU (xt (pv 5) ai) (xt (pv 3) ai) (a8 _)) (pw_or1 (aY zR (xt (xt (pv 5) ai) ai) (bK (aa aK (aa aK ao))) (by rfl)))))
(av (bM (qv (pv 4) (pv 5))))
bh)))
(ah (bP (aY cU (lz T.dk (pv 4)) (lz T.dk (pv 0)) (a8 _))
(av (a6 (cg (aa aK (aa (pv 0) (aa (pv 1) ao))))))
bh)
(ah (sv 6 nd (fc yl hr (aa (pv 4) ao)))
(ah (bP (zK (Jr (pv 6)))
(av (a6 (cg (aa aK (aa (pv 0) (aa (pv 1) ao))))))
bh)
(av (a6 (cg (aa aK (aa (pv 4) (aa (pv 6) ao)))))))))))
bh)
(ah (sv 7 nd (fc mH hr (aa (pv 1) (aa (pv 3) ao))))
(ah (bP (gf (uO T.c8 T.Ga boot_str (pv 7)))
(av (a6 (cg (aa (pv 7) (aa (pv 0) (aa (pv 1) ao))))))
bh)
(av (a6 (cg (aa (pv 7) (aa (aO gr (pv 0) (bK (aa (cg (aa (pv 2) (aa (pv 3) ao))) ao))) (aa (pv 1) ao))))))))),?_⟩
  refine⟨_,rfl,pd,_,_,.str (bc.word d),rfl,rfl,cy.of Wt,cI (j:=0) rfl,rfl,?_⟩;clear Wt hvs rr;by_cases ht:d.tells=true
  ·
   have hw:bc.word d≠"undo":=by
    cases d with
    |fC m=>cases ht
    |ask _ _ _=>cases ht
    |gZ _ _ _=>cases ht
    |dJ _ _ _ _=>show("bill":Str)≠"undo"; decide +kernel
    |o7 _ _ _=>show("pay":Str)≠"undo"; decide +kernel
    |note _ _ _=>show("note":Str)≠"undo"; decide +kernel
    |set _ _ _=>show("set":Str)≠"undo"; decide +kernel
    |fu _=>show("sweep":Str)≠"undo"; decide +kernel
   refine⟨false,jL hw,bV ?_⟩;have wf:=good.wf (by lia);rw[wK ht] at k;refine⟨_,rfl,_,rfl,sd,pd,T0.bk,g,d,rfl,hB,hd,ht,by have:=wf.lc; lia,by have:=wf.lb; lia,by have:=wf.lm; rw[eX]; lia,fun hb H3 s3=>?_,fun hb v f3 H3 F3 B3 fi r=>?_⟩
   ·rw[aQ hb] at k;refine⟨_,rfl,_,_,_,true,rfl,.str _,yX (.str (T0.bk.bar d)),_,rfl,fH ?_⟩;refine⟨_,rfl,_,rfl,_,rfl,(by show 3<=sizeLine; decide),fun t nt=>?_⟩;have s4:=s3.trans (ay.new (o:= .tup [V.str (T0.bk.bar d),.ref ps,.ref sd]) nt);exact k t _ ps sd g us _ af (gg.mpr rfl) (s4 _ _ kQ) (Nu.mono s4.tk) (hB.same s4) s4.frame (fun x hx=> .inl hx) DR (fun _ _ _ _ _=>rfl)
   ·rw[a0 hb] at k;have hS:V7 (T0.bk.Ke d).dt=false:=by cases d <;> first|rfl|cases ht
    refine⟨_,rfl,_,_,_,false,rfl,r.ty,(yX _).trans (dr some hS),_,rfl,bV ?_⟩;have tk3:=hB.tk F3;have Iq:=F3 _ _ DR kQ;have YR:=Nu.mono tk3;have OB:=tk3 _ _ hd;refine⟨_,rfl,_,rfl,_,rfl,_,rfl,(by show 2<=sizeLine; decide),fun p1 n1=>⟨(by show 1<=sizeLine; decide),fun p2 n2=>?_⟩⟩;have t1:=ay.new (o:= .tup [V.int (n:Int),.ref pd]) n1;have t2:=ay.new (o:= .lst [V.ref p1]) n2;have g1:upd (upd H3 p1 (.tup [V.int (n:Int),.ref pd])) p2 (.lst [V.ref p1]) p1=some (.tup [V.int (n:Int),.ref pd]):=t2 _ _ af;have g2:upd (upd H3 p1 (.tup [V.int (n:Int),.ref pd])) p2 (.lst [V.ref p1]) p2=some (.lst [V.ref p1]):=af;have ux:=t1.trans t2;refine⟨ps,p2,_,_,rfl,rfl,ux _ _ Iq,g2,?_,fun p4 n4=>?_⟩
    ·refine cq (a9 ?_);show us.length + 1<=1000;lia
    generalize upd (upd H3 p1 (.tup [V.int (n:Int),.ref pd])) p2 (.lst [V.ref p1])=H4 at ux g1 g2 n4;have t4:=ay.new (o:= .lst (us ++ [V.ref p1])) n4;refine⟨_,rfl,(by show 3<=sizeLine; decide),fun t nt=>?_⟩;have t5:=ay.new (o:= .tup [v,V.ref p4,.ref sd]) nt;have UJ:=(ux.trans t4).trans t5;have B5:=B3.same UJ;refine k t v p4 sd f3 (us ++ [.ref p1]) _ af (Rp.mono UJ _ r) (t5 _ _ af) ?_ B5 (F3.cA UJ) fi (B3.off ?_) (fun a o ha e q=>absurd q.symm (aI (ux _ _ (F3 _ _ ha e)) n4))
    ·exact cG (YR.mono UJ.tk) ⟨p1,pd,rfl,(t4.trans t5) _ _ g1,UJ _ _ OB,ht⟩
    ·exact ux.free n4
  ·
   obtain⟨m,rfl⟩: ∃m,d= .fC m:=hk.resolve_left ht;refine⟨true,BD _,fH ?_⟩;refine⟨bu _,fun pr nr=>?_⟩;have s1:ay H (upd H pr (.lst [])):=ay.new nr;refine⟨_,rfl,ps,rfl,⟨_,bD.of (s1 _ _ kQ)⟩,?_⟩;refine eP (K:=K) (a:=ps) (xs:=us) (fun i σ H2=> ∃(rs:List V) (x5:Option V),σ=[some (.ref ps),some (.ref sd),some (.int (n:Int)),some (.ref pd),some (.ref pr),x5,none,none]/\ay H H2/\H2 pr=some (.lst rs)/\fT H2 ((T0.steps.take i).filter (cX m)) rs)
    ⟨[],none,rfl,s1,af,.nil⟩ (fun i σ H2 _ ⟨_,_,_,s2,_⟩=>bD.of (s2 _ _ kQ)) ?_ ?_
   ·rintro i x σ H2 hx ⟨rs,x5,rfl,s2,Gn,L3⟩;have hi:i < T0.steps.length:=by have:=(ak.mp hx).1; lia
    have qN:=ag hi;obtain⟨v,hv,p,pe,rfl,hp,hpe,Wu⟩:=bL Nu qN;rw[hx] at hv;obtain rfl:x= .ref p:=aF hv;have mS:=fO (cX m) qN;generalize T0.steps[i]=st at hp hpe Wu mS;obtain⟨n0,e⟩:=st;have uJ:=s2 _ _ hp;have QG:=s2 _ _ hpe;have hd2:=s2 _ _ hd;have Ci:rs.length<=100:=by
     have:=aM L3;have:=aZ (cX m) (T0.steps.take i);rw[bz] at this;lia
    have yes:cX m (n0,e)=true-> ∀H3,ay H2 H3->(XB (V.ref pr) [V.ref p] H3 fun l xs y=> ∃(rs:List V) (x5:Option V),[some (V.ref ps),some (.ref sd),some (.int (n:Int)),some (.ref pd),some (.ref pr),some (.ref p),none,none]=[some (.ref ps),some (.ref sd),some (.int (n:Int)),some (.ref pd),some (.ref pr),x5,none,none]/\ay H (upd H3 l (.lst (xs ++ [y])))/\upd H3 l (.lst (xs ++ [y])) pr=some (.lst rs)/\fT (upd H3 l (.lst (xs ++ [y]))) ((T0.steps.take (i + 1)).filter (cX m)) rs):=fun z H3 s3=>by
     refine⟨pr,rs,_,rfl,rfl,s3 _ _ Gn,a9 (by lia),rs ++ [.ref p],_,rfl,(s2.trans s3).cW nr,af,?_⟩;rw[mS,a0 z];have tk:=s3.tk.trans (eZ (o:= .lst (rs ++ [.ref p])) (s3 _ _ Gn));exact cG (L3.mono tk) ⟨p,pe,rfl,tk _ _ uJ,tk _ _ QG,Wu⟩
    refine⟨_,rfl,p,_,_,.int n0,rfl,rfl,cy.of uJ,rfl,_,rfl,pd,_,_,.int m,rfl,rfl,cy.of hd2,rfl,rfl,_,rfl,cE (fun z=>fH ?_) (fun z=>?_)⟩
    ·have z':n0≠m:=fun q=>by rw[q] at z; simp at z
     refine⟨_,rfl,.inl ⟨rfl,_,bD.of Gn⟩,_,rfl,yes ?_ H2 (ay.refl _)⟩;show(!(decide (n0=m) && e.isSet))=true;rw[br z']; rfl
    ·have z':n0=m:=by
      by_cases q:n0=m
      ·exact q
      ·exact absurd (by rw[br (fun w=>q (by injection w))]; rfl) z
     obtain⟨re,hev⟩:=rW (d:=e) (.inl Wu);rw[hev] at QG;refine⟨_,rfl,p,_,_,.ref pe,rfl,rfl,cy.of uJ,rfl,pe,_,_,.str (bc.word e),rfl,rfl,cy.of QG,cI (j:=0) rfl,(by show 2<=sizeLine; decide),fun p9 n9=>⟨p9,_,rfl,.inl (bD.of af),rfl,rfl,!e.isSet,dr V.bl (by rw[a0 rfl,Gj Wu]),cE (fun q=>?_) (fun q=>?_)⟩⟩
     ·have t9:=ay.new (o:= .lst [V.str "set",.str "sweep"]) n9;refine⟨_,rfl,.inl ⟨rfl,_,bD.of (t9 _ _ Gn)⟩,_,rfl,yes ?_ _ t9⟩;show(!(decide (n0=m) && e.isSet))=true;rw[aH z',Bool.true_and]; exact q
     ·have t9:=ay.new (o:= .lst [V.str "set",.str "sweep"]) n9;refine⟨rs,_,rfl,s2.trans t9,t9 _ _ Gn,?_⟩;have no: ¬ cX m (n0,e)=true:=by
       show ¬ (!(decide (n0=m) && e.isSet))=true;rw[aH z',Bool.true_and]; exact q
      rw[mS,aQ no,bS];exact L3.mono t9.tk
   ·rintro σ H2 ⟨rs,x5,rfl,s2,Gn,L3⟩;rw[← hlen,bb] at L3;have Ci:=aM L3;have Nv:=aZ (cX m) T0.steps;have pL:cz T0 n (.fC m)=if(T0.steps.filter (cX m)).length=T0.steps.length then(.txt "no setting",T0) else
      match cH (T0.steps.filter (cX m)) Bk.new with
      |none=>(.txt "needed",T0)
      |some S=>(.txt "undone",⟨T0.steps.filter (cX m),S⟩):=rfl
    have Gp:=hB.same s2;refine⟨_,rfl,pr,_,rfl,.inl (bD.of Gn),_,rfl,ps,_,rfl,.inl (bD.of (s2 _ _ kQ)),rfl,_,rfl,cE (fun z=>?_) (fun z=>?_)⟩
    ·have z':(T0.steps.filter (cX m)).length=T0.steps.length:=by
      have:=aS z;injection this with this;lia
     rw[pL,a0 z'] at k;refine⟨_,rfl,_,rfl,(by show 3<=sizeLine; decide),fun t nt=>?_⟩;have s4:=s2.trans (ay.new (o:= .tup [V.str "no setting",.ref ps,.ref sd]) nt);exact k t _ ps sd g us _ af (gg.mpr rfl) (s4 _ _ kQ) (Nu.mono s4.tk) (hB.same s4) s4.frame (fun x hx=> .inl hx) DR (fun _ _ _ _ _=>rfl)
    have z': ¬ (T0.steps.filter (cX m)).length=T0.steps.length:=fun q=>z (aH (by congr 1; lia));rw[pL,aQ z'] at k;refine⟨_,rfl,pr,T0.steps.filter (cX m),rs,rfl,Gn,L3,by lia,fun hw H3 s3=>?_,fun S hw sd3 f3 H3 s3 B3 nf=>?_⟩
    ·rw[hw] at k;refine⟨_,rfl,true,rfl,fH ⟨_,rfl,_,rfl,(by show 3<=sizeLine; decide),fun t nt=>?_⟩⟩;have s4:=(s2.trans s3).trans (ay.new (o:= .tup [V.str "needed",.ref ps,.ref sd]) nt);exact k t _ ps sd g us _ af (gg.mpr rfl) (s4 _ _ kQ) (Nu.mono s4.tk) (hB.same s4) s4.frame (fun x hx=> .inl hx) DR (fun _ _ _ _ _=>rfl)
    ·rw[hw] at k;refine⟨_,rfl,false,rfl,bV ⟨_,rfl,_,rfl,(by show 3<=sizeLine; decide),fun t nt=>?_⟩⟩;have t4:=ay.new (o:= .tup [V.str "undone",.ref pr,.ref sd3]) nt;have s4:=(s2.trans s3).trans t4;refine k t _ pr sd3 f3 rs _ af (gg.mpr rfl) ((s3.trans t4) _ _ Gn) (L3.mono (s3.trans t4).tk) (B3.same t4) s4.frame (fun x hx=> .inr (s2.free (nf x hx))) (fun q=>?_) (fun a o ha e q=>absurd q.symm (aI e nr));have:=nf pr q;rw[Gn] at this;cases this
end
end eJ
namespace L2
open PySem PySem.Spec PyProof.Rows
def AZ {X:Cx}{scope:Scope}{x y:Str}{c d:Addr}{j k:Nat}(He:closureFor scope X.env=pure [(x,c),(y,d)]:=by rfl)(mO: ∀z∈scope.names,z.2≠ .cell:=by decide +kernel)(nH:scope.kind= .function:=by rfl)(vL: ∀x∈scope.names,x.2= .local->scope.names.lookup x.1=some .local:=by decide +kernel)
  (hx:X.env.cells.lookup x=some c:=by rfl) (hy:X.env.cells.lookup y=some d:=by rfl) (zX:List (Str×NameKind)) (Oe:(relabel scope X.env).names=zX:=by rfl) (Ci: ∀z∈zX,(z.2= .cell∨z.2= .free)->z.1=x∨z.1=y:=by decide +kernel)
  (hN:X.N[j]? =some x:=by rfl) (hN2:X.N[k]? =some y:=by rfl) (hk:X.env.kindOf x=some .cell∨X.env.kindOf x=some .free:=by exact Or.inl rfl) (LS:X.env.kindOf y=some .cell∨X.env.kindOf y=some .free:=by exact Or.inl rfl)
  (Oc:(relabel scope X.env).names.lookup x=some .cell∨(relabel scope X.env).names.lookup x=some .free:=by exact Or.inl rfl) (YS:(relabel scope X.env).names.lookup y=some .cell∨(relabel scope X.env).names.lookup y=some .free:=by exact Or.inl rfl):sV X scope [(x,c),(y,d)] [x,y] [j,k]:=by
 refine⟨He,mO,nH,vL,fun z c' h=>?_,fun z h=>?_,.cons ⟨hN,hk,Oc⟩ (.cons ⟨hN2,LS,YS⟩ .nil)⟩
 ·rcases aw.mp (ck h) with e|e
  ·cases e; exact hx
  ·rcases aw.mp e with e|e
   ·cases e; exact hy
   ·cases e
 ·have e:z=x∨z=y:=by
   rcases h with h|h
   ·rw[Oe] at h;exact Ci _ (ck h) (.inl rfl)
   ·rw[Oe] at h;exact Ci _ (ck h) (.inr rfl)
  by_cases q:z=x
  ·exact⟨c,by rw[q]; simp[List.lookup]⟩
  ·have q2:z=y:=e.resolve_left q;have q3:(z == x)=false:=by simpa using q
   exact⟨d,by rw[List.lookup,q3,q2]; simp[List.lookup]⟩
end L2
namespace eJ
open PySem L2 PyProof.Rows LW
seal L2.pC L2.PS L2.PE L2.PT L2.PW L2.PA L2.PC L2.PG L2.Js L2.PI L2.MB L2.LR L2.PO L2.oP L2.N9 L2.hV L2.JJ L2.Mu
section
variable {P:Program}{w:World}{K:Frag}{mg:Str->Option Value}{base:Heap}
inductive qA (A:dU)(vs:List V)(H:Hp)(Q:VK)(E':XK):Prop
 |mk (pw p:Addr)(S:Bk)(f:eM)(t:Nat×Nat×Int)(day:Int)(h1:vs=[.ref pw,.ref p,.int day])(h2:dM A H pw S f)(h3:H p=some (.tup [.int t.1,.int t.2.1,.int t.2.2]))(h4:t.1 < S.credits.length)(h5:t.2.1 < S.aG.length)(h6:Q (.bl (decide (S.gh t<=day))) H):qA A vs H Q E'
def A0:aV ["work","setting","day"] ["work","setting","day"] (aA (top 41)):={}
def Dd (T:Txt K mg){A:dU}(G:jA K mg A):eO P w K mg base "counts_at" 2 ["work","setting","day"] (qA A):=by
 have ym:eO P w K mg base "counts_from" 1 ["credit","bill"] (EK A):=yc T G;refine T.Cu.fb (k:=1) A0 (fun f cV A' outer s H vs Q E hr h=>?_)
 ·obtain⟨pw,p,S,g,t,day,rfl,hW,hp,hc,hb,k⟩:=h;obtain⟨dw,hw⟩:=hW.obj;obtain⟨pc,c1,c2⟩:=hW.rc.get hc;obtain⟨pb,b1,b2⟩:=hW.rb.get hb;refine⟨_,(av (a6 (fI tV (fc ym hr (aa (xl (kg (pv 0)) (xt (pv 1) ai)) (aa (xl (kg (pv 0)) (xt (pv 1) ai)) ao))) (pv 2) (a8 _)))),?_⟩;refine⟨_,rfl,pw,_,dw,_,_,rfl,hw,G.bG,G.cL,g8 g,_,rfl,p,_,_,.int t.1,rfl,rfl,cy.of hp,rfl,g.pc,_,_,.ref pc,rfl,rfl,bD.of hW.hc,cI (by rw[aE,c1]; rfl),?_⟩;refine⟨_,rfl,pw,_,dw,_,_,rfl,hw,G.bG,G.dW,jk g,_,rfl,p,_,_,.int t.2.1,rfl,rfl,cy.of hp,rfl,g.pb,_,_,.ref pb,rfl,rfl,bD.of hW.hb,cI (by rw[aE,b1]; rfl),?_⟩;exact⟨pc,pb,t.1,t.2.1,S.cr t.1,S.bl t.2.1,rfl,c2,b2,_,rfl,_,_,rfl,rfl,k⟩
inductive qB (A:dU)(vs:List V)(H:Hp)(Q:VK)(E':XK):Prop
 |mk (pw:Addr)(S:Bk)(f:eM)(n:Nat)(day:Int)(h1:vs=[.ref pw,.int day])(h2:dM A H pw S f)(h3:WF S n)(h4:S.made.length<=1000000)(h5: ∀D ms H',ay H H'->H D=none->H' D=some (.lst ms)->gy H' (S.made.filter fun t=>decide (S.gh t<=day)) ms->Q (.ref D) H'):qB A vs H Q E'
def wL:aV ["work","day"] ["work","day"] (aA (top 40)):={}
def yn (T:Txt K mg){A:dU}(G:jA K mg A):eO P w K mg base "counting_at" 3 ["work","day"] (qB A):=by
 have De:eO P w K mg base "counts_at" 2 ["work","setting","day"] (qA A):=Dd T G;refine T.xT.fb (k:=2) wL (fun f cV A' outer s H vs Q E hr h=>?_)
 ·obtain⟨pw,S,g,n,day,rfl,hW,wf,hz,k⟩:=h;obtain⟨dw,hw⟩:=hW.obj;obtain⟨ms,m1,m2⟩:=hW.hm;have hlen:=aM m2;refine⟨_,(av (a6 (gR (tn:=["setting"]) (cn:=["work","day"]) (cj:=[0,1]) rfl (AZ (zX:=[(".0",.local),("setting",.local),("counts_at",.globalImplicit),("day",.cell),("work",.cell)])) (rD (kg (pv 0))) (fun _ _ _ _=>(eo (i:=0) (show(["setting","work","day"]:List Str).Nodup by decide +kernel) rfl (Or.inl rfl))) (fun _ _ _ _=>(nL (gf (fc De hr (aa (pv 1) (aa (pv 0) (aa (pv 2) ao))))))) (fun _ _ _ _=>(pv 0))))),?_⟩;refine⟨_,rfl,pw,_,dw,_,_,rfl,hw,G.bG,G.jJ,Ap g,g.pm,rfl,⟨_,bD.of m1⟩,?_⟩;refine eu (K:=K) (a:=g.pm) (xs:=ms) (fun D i σ H6=>H D=none/\ ∃v rs,σ=[v,some (.ref pw),some (.int day)]/\ay H H6/\H6 D=some (.lst rs)/\gy H6 ((S.made.take i).filter fun t=>decide (S.gh t<=day)) rs) (fun D hD=>⟨hD,none,[],rfl,ay.new hD,af,.nil⟩) (fun D i σ H6 _ ⟨_,_,_,_,t3,_⟩=>bD.of (t3 _ _ m1)) ?_ ?_
  ·rintro D i x σ H6 hx ⟨hD,v,rs,rfl,t3,gK,hT⟩;have hi:i < S.made.length:=by have:=(ak.mp hx).1; lia
   have qN:=ag hi;obtain⟨v',hv,p,rfl,hp⟩:=bL m2 qN;rw[hx] at hv;obtain rfl:x= .ref p:=aF hv;have hm:=wf.m _ (bN hi);have mS:=fO (fun t=>decide (S.gh t<=day)) qN;generalize S.made[i]=t at hp hm mS;have L3:rs.length<=1000000:=by
    have:=aM hT;have:=aZ (fun t=>decide (S.gh t<=day)) (S.made.take i);rw[bz] at this;lia
   refine⟨_,rfl,_,rfl,_,rfl,pw,p,S,g,t,day,rfl,hW.same t3,t3 _ _ hp,hm.1,hm.2,_,rfl,cE (fun z=>?_) (fun z=>?_)⟩
   ·rw[a0 z] at mS;refine⟨_,rfl,_,gK,ja L3,hD,_,rs ++ [.ref p],rfl,t3.cW hD,af,?_⟩;rw[mS];have tk:=eZ (o:= .lst (rs ++ [.ref p])) gK;exact cG (hT.mono tk) ⟨p,rfl,tk _ _ (t3 _ _ hp)⟩
   ·rw[aQ z,bS] at mS;refine⟨hD,_,rs,rfl,t3,gK,?_⟩;rw[mS];exact hT
  ·rintro D σ H6 hD ⟨_,v,rs,rfl,t3,gK,hT⟩;rw[← hlen,bb] at hT;exact k D rs H6 t3 hD gK hT
def iT (H:Hp)(l:List (Nat×Int))(vs:List V):Prop:=Paired (fun(t:Nat×Int) v=> ∃p,v= .ref p/\H p=some (.tup [.int t.1,.int t.2])) l vs
def iT.mono {H H':Hp}{l:List (Nat×Int)}{vs:List V}(h:iT H l vs)(k:cw H H'):iT H' l vs:=Paired.iu h fun _ _ ⟨p,e,q⟩=>⟨p,e,k _ _ q⟩
def iT.Oq {H:Hp}: ∀{l:List (Nat×Int)} {vs:List V},iT H l vs->gX H (l.map fun t=> .tup [.int t.1,.int t.2]) vs
 |_,_,.nil=>cJ.mpr rfl
 |_,_,.cons ⟨p,e,q⟩ t=>by
  subst e;exact bw.mpr ⟨_,_,rfl,dC q (bw.mpr ⟨_,_,rfl,dE.mpr rfl,bw.mpr ⟨_,_,rfl,dE.mpr rfl,cJ.mpr rfl⟩⟩),iT.Oq t⟩
section
variable (S:Bk)(aU:Bool)(aJ:Str)(day:Int)
def pD (k:Nat):Bool:=decide (((S.rows aU).getD k default).aJ=aJ) && (decide (((S.rows aU).getD k default).a<=day) && decide (0 < S.rest aU k day))
def kD (i:Nat):List (Int×Nat):=((List.range i).filter (pD S aU aJ day)).map fun k=>(keyOf aU ((S.rows aU).getD k default),k)
def gD (x:Int×Nat):List Int:=[x.1,(x.2:Int),S.rest aU x.2 day]
end
section
variable {S:Bk}{aU:Bool}{aJ:Str}{day:Int}{i:Nat}
def Gq:kD S aU aJ day (i + 1)=kD S aU aJ day i ++ (if pD S aU aJ day i=true then[(keyOf aU ((S.rows aU).getD i default),i)] else[]):=by
 unfold kD;rw[kK,ip,aL]
 congr 1
 by_cases c:pD S aU aJ day i=true
 ·rw[a0 c,cB c]; rfl
 ·rw[aQ c,gP c]; rfl
def UK: ∀x∈kD S aU aJ day i,x.2 < i:=by
 intro x hx;obtain⟨k,hk,rfl⟩:=bF.mp hx;exact dz.mp (d8.mp hk).1
def UL:((kD S aU aJ day i).map (·.2)).Nodup:=by
 unfold kD;rw[eE];have e:((fun x:Int×Nat=>x.2) ∘ fun k=>(keyOf aU ((S.rows aU).getD k default),k))=id:=rfl;rw[e,BJ];exact mZ.filter _
def EO:(kD S aU aJ day i).length<=i:=by
 unfold kD;rw[ae];exact aR (aZ _ _) (by rw[bT]; exact aD _)
def Dg:S.hZ aU aJ day=(ez (kD S aU aJ day (S.rows aU).length)).map fun x=>(x.2,S.rest aU x.2 day):=by
 have e:kD S aU aJ day (S.rows aU).length=(gw (S.rows aU) aJ (keyOf aU)).filter fun x=>decide (((S.rows aU).getD x.2 default).a<=day) && decide (0 < S.rest aU x.2 day):=by
  unfold kD gw;rw[Mc,qL]
  congr 1
  apply sJ;intro k _;show pD S aU aJ day k=_;unfold pD;rw[Bool.and_comm];rfl
 rw[e,my];unfold Bk.hZ inOrder;rw[← uf (fun x:Int×Nat=>x.2) (fun k=>decide (((S.rows aU).getD k default).a<=day) && decide (0 < S.rest aU k day)),eE];rfl
end
inductive Gr (vs:List V)(H:Hp)(Q:VK)(E':XK):Prop
 |mk (sd:Addr)(S:Bk)(f:fA)(n:Nat)(aU:Bool)(aJ:Str)(day:Int)(h1:vs=[.ref sd,.str aJ,.int day,.int (if aU=true then 1 else 0)])(h2:dh H sd S f)(h3:WF S n)(h4:n<=60)(h5: ∀D ms H',ay H H'->H D=none->H' D=some (.lst ms)->iT H' (S.hZ aU aJ day) ms->Q (.ref D) H'):Gr vs H Q E'
def QH (aU:Bool)(r:Rw):qY r.vs (2 + (if aU=true then(1:Int) else 0))=some (.int (uh aU r)):=by cases aU <;> rfl
def QI (aU:Bool)(r:Rw):qY r.vs (1 + (if aU=true then(1:Int) else 0))=some (.int (keyOf aU r)):=by cases aU <;> rfl
def Gs (aU:Bool)(t:Nat×Nat×Int):qY [V.int t.1,.int t.2.1,.int t.2.2] (if aU=true then(1:Int) else 0)=some (.int (spotOf aU t:Int)):=by cases aU <;> rfl
def oy:aV ["_law_state","_law_who","_law_day","_law_spot","_law_rows","_law_keys","_law_k","_law_amount","_law_setting","_law_late"] ["_law_state","_law_who","_law_day","_law_spot"] (aA (top 65)):={}
def yo (T:Txt K mg):eO P w K mg base "_law_at_day" 1 ["_law_state","_law_who","_law_day","_law_spot"] Gr:=by
 refine T.ya.fb (k:=0) oy (fun f cV A outer s H vs Q E hr h=>?_)
 ·obtain⟨sd,S,g,n,aU,aJ,day,rfl,hB,wf,hn,k⟩:=h;have hu:=jy hr;have nd:=oy.nd;refine⟨_,(iz (sv 4 nd (cF hu (pv 0) (xl (bK (aa aK (aa aK ao))) (pv 3)) (fun _ _=>rfl)))
(ah (sv 5 nd (bK ao))
(ah (dX bC rfl (hJ rfl T.kX (aa (lz T.dk (pv 4)) ao)) (gn 6 nd)
(ah (sv 7 nd (xl (xl (pv 4) (pv 6)) (aO cS ai (pv 3))))
(ah (dX bC rfl (rD (cF hu (pv 0) aK (fun _ _=>rfl))) (gn 8 nd)
(ah (sv 9 nd (fk (sQ rfl) (by rfl) T.Kw boot_max (aa (xl (xl (cF hu (pv 0) aK (fun _ _=>rfl)) (xt (pv 8) ai)) ai) (aa (xl (xl (cF hu (pv 0) aK (fun _ _=>rfl)) (xt (pv 8) ai)) ai) ao))))
(av (bP (PW.pt (pw_and (aY cU (xt (pv 8) (pv 3)) (pv 6) (a8 _)) (pw_and1 (aY tV (pv 9) (pv 2) (a8 _)))))
(av (sv 7 nd (aO eQ (pv 7) (xt (pv 8) ai))))
bh))))
(av (bP (PW.pt (pw_and (aY cU (xl (xl (pv 4) (pv 6)) ai) (pv 1) (a8 _)) (pw_and (aY tV (xl (xl (pv 4) (pv 6)) ai) (pv 2) (a8 _)) (pw_and1 (aY je (pv 7) ai (a8 _))))))
(av (bM (qv (pv 5) (cg (aa (xl (xl (pv 4) (pv 6)) (aO cS ai (pv 3))) (aa (pv 6) (aa (pv 7) ao)))))))
bh)))))
(av (a6 (gR (tn:=["_law_key"]) (cn:=[]) (cj:=[]) rfl zW (rD (fk rn (by rfl) T.rE boot_sorted (aa (pv 5) ao))) (fun _ _ _ _=>(eo (i:=0) (show(["_law_key"]:List Str).Nodup by decide +kernel) rfl (Or.inl rfl))) (fun _ _ _ _=>mm) (fun _ _ _ _=>(cg (aa (ix (jH (K:=K) rfl) (pv 0) ai (fun _ _=>rfl)) (aa (ix (jH (K:=K) rfl) (pv 0) ai (fun _ _=>rfl)) ao)))))))))),?_⟩
  refine⟨fun σ' H'=> ∃(pR:Addr) (Ir:List Addr),σ'=[some (.ref sd),some (.str aJ),some (.int day),some (.int (if aU=true then 1 else 0)),some (.ref pR),none,none,none,none,none]/\ay H H'/\H' pR=some (.lst (Ir.map V.ref))/\eR H' (S.rows aU) Ir,?_,?_⟩
  ·refine⟨_,rfl,(by show 2<=sizeLine; decide),fun p9 n9=>⟨_,rfl,?_⟩⟩;have t9:=ay.new (o:= .lst [V.str "credits",.str "bills"]) n9;have B9:=hB.same t9;cases aU with
   |true=>exact⟨p9,_,_,.str "bills",rfl,rfl,bD.of af,rfl,sd,_,rfl,B9.gB,g.pb,g.iD,rfl,t9,B9.hb,B9.rb⟩
   |false=>exact⟨p9,_,_,.str "credits",rfl,rfl,bD.of af,rfl,sd,_,rfl,B9.gC,g.pc,g.cps,rfl,t9,B9.hc,B9.rc⟩
  rintro σ H1 ⟨pR,Ir,rfl,s1,hpR,hrR⟩;refine⟨bu _,fun pk nk=>?_⟩;have UM:=s1.free nk;have s1k:ay H (upd H1 pk (.lst [])):=(s1.trans (ay.new nk));have hlR:=hrR.length;have Ci:(S.rows aU).length<=60:=by
   cases aU with
   |true=>exact aR wf.lb hn
   |false=>exact aR wf.lc hn
  refine⟨_,rfl,pR,_,rfl,.inl (bD.of (ay.new nk _ _ hpR)),((Ir.map V.ref).length:Int),rfl,by lia,by rw[ae]; lia,?_⟩;rw[dB];refine jM (lo:=0) (n:=(Ir.map V.ref).length) (fun i σ H2=> ∃(xs:List V) (x6 x7 x8 x9:Option V),σ=[some (.ref sd),some (.str aJ),some (.int day),some (.int (if aU=true then 1 else 0)),some (.ref pR),some (.ref pk),x6,x7,x8,x9]/\ay H1 H2/\H2 pk=some (.lst xs)/\gv H2 ((kD S aU aJ day i).map (gD S aU day)) xs)
   ⟨[],none,none,none,none,rfl,ay.new nk,af,.nil⟩ ?_ ?_
  ·rintro i σ H2 hi ⟨xs,x6,x7,x8,x9,rfl,s2,hx,hT⟩;rw[iQ];have uM:i < (S.rows aU).length:=by rw[ae] at hi; lia
   obtain⟨r,ri,L1⟩:=hrR.at uM;have ar:qY (Ir.map V.ref) (i:Int)=some (.ref r):=cI (by rw[aE,ri]; rfl);have uJ:=s2 _ _ hpR;have zl:=s2 _ _ L1;have B2:=hB.same (s1.trans s2);obtain⟨ms,m1,m2⟩:=B2.hm;have Je:xs.length<=i:=by
    have:=aM hT;rw[ae] at this;have:=EO (S:=S) (aU:=aU) (aJ:=aJ) (day:=day) (i:=i);lia
   refine⟨_,rfl,_,rfl,pR,_,_,.ref r,rfl,rfl,bD.of uJ,ar,_,rfl,_,_,rfl,rfl,r,_,_,_,rfl,rfl,bD.of zl,QH aU _,?_⟩;refine⟨_,rfl,sd,_,rfl,B2.gM,g.pm,rfl,⟨_,bD.of m1⟩,?_⟩;refine eP (K:=K) (a:=g.pm) (xs:=ms) (fun j σ H3=> ∃(x8 x9:Option V),σ=[some (.ref sd),some (.str aJ),some (.int day),some (.int (if aU=true then 1 else 0)),some (.ref pR),some (.ref pk),some (.int (i:Int)),some (.int (uh aU ((S.rows aU).getD i default) - (((S.made.take j).filter (S.cnt aU i day)).map (·.2.2)).sum)),x8,x9]/\H3=H2)
    ⟨x8,x9,by simp[List.take_zero],rfl⟩ (fun j σ H3 _ ⟨_,_,_,e⟩=>by rw[e]; exact bD.of m1) ?_ ?_
   ·rintro j x σ H3 hx3 ⟨x8,x9,rfl,rfl⟩;have hj:j < S.made.length:=by have:=(ak.mp hx3).1; have:=aM m2; lia
    have UN:=ag hj;obtain⟨v,hv,p8,rfl,Nw⟩:=bL m2 UN;rw[hx3] at hv;obtain rfl:x= .ref p8:=aF hv;have A1:=wf.m _ (bN hj);have mS:=fO (S.cnt aU i day) UN;generalize S.made[j]=t at Nw A1 mS;obtain⟨qc,_,ac,hqc⟩:=B2.lc A1.1;obtain⟨qb,_,ab,hqb⟩:=B2.lb A1.2;refine⟨_,rfl,sd,_,rfl,B2.gC,_,rfl,p8,_,_,.int t.1,rfl,rfl,cy.of Nw,rfl,g.pc,_,_,.ref qc,rfl,rfl,bD.of B2.hc,ac,qc,_,_,.int (S.cr t.1).a,rfl,rfl,bD.of hqc,rfl,?_⟩;refine⟨_,rfl,sd,_,rfl,B2.gB,_,rfl,p8,_,_,.int t.2.1,rfl,rfl,cy.of Nw,rfl,g.pb,_,_,.ref qb,rfl,rfl,bD.of B2.hb,ab,qb,_,_,.int (S.bl t.2.1).a,rfl,rfl,bD.of hqb,rfl,_,_,rfl,?_⟩;have no:S.cnt aU i day t=false-> ∃(y8 y9:Option V),[some (V.ref sd),some (.str aJ),some (.int day),some (.int (if aU=true then 1 else 0)),some (.ref pR),some (.ref pk),some (.int (i:Int)),some (.int (uh aU ((S.rows aU).getD i default) - (((S.made.take j).filter (S.cnt aU i day)).map (·.2.2)).sum)),some (.ref p8),some (.int (if(S.cr t.1).a < (S.bl t.2.1).a then(S.bl t.2.1).a else(S.cr t.1).a))]=[some (.ref sd),some (.str aJ),some (.int day),some (.int (if aU=true then 1 else 0)),some (.ref pR),some (.ref pk),some (.int (i:Int)),some (.int (uh aU ((S.rows aU).getD i default) - (((S.made.take (j + 1)).filter (S.cnt aU i day)).map (·.2.2)).sum)),y8,y9]/\H3=H3:=fun z=>by
     refine⟨some (.ref p8),some (.int (if(S.cr t.1).a < (S.bl t.2.1).a then(S.bl t.2.1).a else(S.cr t.1).a)),?_,rfl⟩;rw[aQ (by rw[z]; exact aX),bS] at mS;rw[mS]
    refine⟨_,rfl,_,rfl,p8,_,_,_,rfl,rfl,cy.of Nw,Gs aU t,_,rfl,rfl,_,rfl,cE (fun z1=>?_) (fun z1=>bV (no ?_))⟩
    ·refine⟨_,rfl,_,rfl,_,_,rfl,rfl,_,rfl,cE (fun z2=>?_) (fun z2=>no ?_)⟩
     ·refine⟨_,rfl,_,rfl,p8,_,_,.int t.2.2,rfl,rfl,cy.of Nw,rfl,_,_,rfl,rfl,some (.ref p8),some (.int (if(S.cr t.1).a < (S.bl t.2.1).a then(S.bl t.2.1).a else(S.cr t.1).a)),?_,rfl⟩;have e1:spotOf aU t=i:=by
       have:=aS z1;injection this with this;lia
      have e2:S.gh t<=day:=aS z2;have yes:S.cnt aU i day t=true:=by
       unfold Bk.cnt;rw[aH e1,aH e2]; rfl
      rw[a0 yes] at mS;rw[mS,aL,List.sum_append];show[_,_,_,_,_,_,_,some (V.int (_ - _ - t.2.2)),_,_]=_;simp only[List.map_cons,List.map_nil,List.sum_cons,List.sum_nil,Int.add_zero,Int.sub_sub]
     ·unfold Bk.cnt;have e2: ¬ S.gh t<=day:=fun q=>z2 (aH q);rw[br e2,l6]
    ·unfold Bk.cnt;have e1: ¬ spotOf aU t=i:=fun q=>z1 (aH (by rw[q]));rw[br e1,qP]
   ·rintro σ H3 ⟨x8,x9,rfl,rfl⟩;have BC:ms.length=S.made.length:=(aM m2).symm;have F9:uh aU ((S.rows aU).getD i default) - (((S.made.take ms.length).filter (S.cnt aU i day)).map (·.2.2)).sum=S.rest aU i day:=by
     rw[BC,bb]; rfl
    rw[F9];have no:pD S aU aJ day i=false-> ∃(ys:List V) (y6 y7 y8 y9:Option V),[some (V.ref sd),some (.str aJ),some (.int day),some (.int (if aU=true then 1 else 0)),some (.ref pR),some (.ref pk),some (.int (i:Int)),some (.int (S.rest aU i day)),x8,x9]=[some (.ref sd),some (.str aJ),some (.int day),some (.int (if aU=true then 1 else 0)),some (.ref pR),some (.ref pk),y6,y7,y8,y9]/\ay H1 H3/\H3 pk=some (.lst ys)/\gv H3 ((kD S aU aJ day (i + 1)).map (gD S aU day)) ys:=fun z=>
     ⟨xs,_,_,_,_,rfl,s2,hx,by rw[Gq,aQ (by rw[z]; exact aX),bS]; exact hT⟩
    generalize Ij:(S.rows aU).getD i default=row at zl;have QJ:pD S aU aJ day i=(decide (row.aJ=aJ) && (decide (row.a<=day) && decide (0 < S.rest aU i day))):=by unfold pD; rw[Ij]
    refine⟨_,rfl,_,rfl,pR,_,_,.ref r,rfl,rfl,bD.of uJ,ar,r,_,_,.str row.aJ,rfl,rfl,bD.of zl,rfl,_,rfl,rfl,_,rfl,cE (fun d1=>?_) (fun d1=>bV (no (by rw[QJ,br (rT d1)]; rfl)))⟩;refine⟨_,rfl,_,rfl,pR,_,_,.ref r,rfl,rfl,bD.of uJ,ar,r,_,_,.int row.a,rfl,rfl,bD.of zl,rfl,_,rfl,_,_,rfl,rfl,_,rfl,cE (fun d2=>?_) (fun d2=>bV (no (by rw[QJ,br (fun q=>d2 (aH q)),qP,l6])))⟩;refine⟨_,rfl,_,_,rfl,rfl,_,rfl,cE (fun d3=>?_) (fun d3=>no (by rw[QJ,br (fun q=>d3 (aH q)),l6,l6]))⟩;have yes:pD S aU aJ day i=true:=by
     rw[QJ,aH (va d1),aH (aS d2),aH (aS d3)]; rfl
    refine⟨_,rfl,.inl ⟨rfl,_,bD.of hx⟩,_,rfl,_,rfl,pR,_,_,.ref r,rfl,rfl,bD.of uJ,ar,_,rfl,_,_,rfl,rfl,r,_,_,_,rfl,rfl,bD.of zl,QI aU row,_,rfl,_,rfl,(by show 3<=sizeLine; decide),fun p8 n8=>?_⟩;have t8:=ay.new (o:= .tup [V.int (keyOf aU row),.int (i:Int),.int (S.rest aU i day)]) n8;refine⟨pk,xs,_,rfl,rfl,t8 _ _ hx,a9 (by lia),xs ++ [.ref p8],_,_,_,_,rfl,(s2.trans t8).cW nk,af,?_⟩;rw[Gq,a0 yes,aL,Ij];exact gv.snoc (hT.mono (t8.tk.trans (eZ (t8 _ _ hx)))) (dI (t8 _ _ hx) _ _ af)
  ·rintro σ H2 ⟨xs,x6,x7,x8,x9,rfl,s2,hx,hT⟩;have Je:=aM hT;have Wr:=EO (S:=S) (aU:=aU) (aJ:=aJ) (day:=day) (i:=(Ir.map V.ref).length);have DO:=UK (S:=S) (aU:=aU) (aJ:=aJ) (day:=day) (i:=(Ir.map V.ref).length);have kQ:(Ir.map V.ref).length=(S.rows aU).length:=by rw[ae]; lia
   have hle: ∀x∈kD S aU aJ day (Ir.map V.ref).length,x.2 < 1000:=fun x hx=>by have:=DO x hx; lia
   have js:S.hZ aU aJ day=(ez (kD S aU aJ day (Ir.map V.ref).length)).map fun x=>(x.2,S.rest aU x.2 day):=by rw[kQ]; exact Dg
   have hnd:=UL (S:=S) (aU:=aU) (aJ:=aJ) (day:=day) (i:=(Ir.map V.ref).length);generalize kD S aU aJ day (Ir.map V.ref).length=ks at hT Je Wr hle js hnd;rw[ae] at Je;refine⟨_,rfl,pk,xs,_,uP,rfl,bD.of hx,(by lia),hT,(fun t ht=>?_),(fun t ht u hu=>?_),fun D ys us nD L0 perm le=>?_⟩
   ·obtain⟨x,_,rfl⟩:=bF.mp ht;simp[gD]
   ·obtain⟨x,y1,rfl⟩:=bF.mp ht;obtain⟨y,AS,rfl⟩:=bF.mp hu;refine rF (u:=[S.rest aU x.2 day]) (v:=[S.rest aU y.2 day]) (hle x y1) (hle y AS) (fun e=>⟨by rw[e],lW hnd y1 AS e⟩) ?_;rw[HT.mh,a0 rfl]; rfl
   ·have S4:=uk hle hnd (fun x _=>rfl) perm le;subst S4;have tD:=ay.new (o:= .lst ys) nD;refine⟨D,rfl,⟨_,bD.of af⟩,?_⟩;have DP:=L0.mono tD.tk;generalize Np:upd H2 D (.lst ys)=H3 at tD DP;have Ut:H3 D=some (.lst ys):=by rw[← Np]; exact af
    have s3:=(s1.trans s2).trans tD;clear Np L0 perm le hT;have Uu:=aM DP;refine eu (K:=K) (a:=D) (xs:=ys) (fun D' i σ H6=>H3 D'=none/\ ∃v rs,σ=[v]/\ay H3 H6/\H6 D'=some (.lst rs)/\iT H6 (((ez ks).take i).map fun x=>(x.2,S.rest aU x.2 day)) rs) (fun D' uT=>⟨uT,none,[],rfl,ay.new uT,af,.nil⟩) (fun D' i σ H6 _ ⟨_,_,_,_,t3,_⟩=>bD.of (t3 _ _ Ut)) ?_ ?_
    ·rintro D' i x σ H6 KU ⟨uT,v,rs,rfl,t3,gK,hP⟩;have hi:i < (ez ks).length:=by
      have:=(ak.mp KU).1;rw[ae] at Uu;lia
     have g0:((ez ks).map (gD S aU day))[i]? =some (gD S aU day (ez ks)[i]):=by rw[aE,ag hi]; rfl
     obtain⟨v',hv,pp,e1,Jd⟩:=bL DP g0;rw[KU] at hv;obtain rfl:x=v':=aF hv;subst e1;have ni:=kP hi;have Ik:=t3 _ _ Jd;generalize (ez ks)[i]=z at Ik ni;have Jf:rs.length<=100:=by
      have:=aM hP;rw[ae,bz] at this;have:=(dg ks).length_eq;lia
     refine⟨_,rfl,pp,_,_,.int (z.2:Int),rfl,rfl,cy.of Ik,rfl,_,rfl,pp,_,_,.int (S.rest aU z.2 day),rfl,rfl,cy.of Ik,rfl,(by show 2<=sizeLine; decide),fun r6 m6=>?_⟩;have t6:=ay.new (o:= .tup [V.int (z.2:Int),.int (S.rest aU z.2 day)]) m6;refine⟨rs,t6 _ _ gK,a9 (by lia),uT,_,rs ++ [.ref r6],rfl,(t3.trans t6).cW uT,af,?_⟩;rw[ni,aL];have tk:=t6.tk.trans (eZ (o:= .lst (rs ++ [.ref r6])) (t6 _ _ gK));exact cG (hP.mono tk) ⟨r6,rfl,eZ (o:= .lst (rs ++ [.ref r6])) (t6 _ _ gK) _ _ af⟩
    ·rintro D' σ H6 uT ⟨_,v,rs,rfl,t3,gK,hP⟩;refine k D' rs H6 (s3.trans t3) (s3.free uT) gK ?_;rw[js];rw[← Uu,ae,bb] at hP;exact hP
def Iu {S:Bk}{aU:Bool}{aJ:Str}{day:Int}{t:Nat×Int}(h:t∈S.hZ aU aJ day):t.1 < (S.rows aU).length:=by
 unfold Bk.hZ at h;obtain⟨k,hk,rfl⟩:=bF.mp h;exact(kW.mp (d8.mp hk).1).1
def Iv {S:Bk}{aU:Bool}{aJ:Str}{day:Int}:(S.hZ aU aJ day).length<=(S.rows aU).length:=by
 rw[Dg,ae,(dg _).length_eq];exact EO
def ER (gh:Int)(dj:List Int):L2.placeOf gh dj < dj.length + 2:=by
 unfold L2.placeOf;split
 ·lia
 ·have:=aZ (fun l=>decide (l < gh)) dj;lia
def Iw (l:List Int)(i:Nat)(x:Int):(ui l i x).length=l.length:=by unfold ui; rw[List.length_set]
def Nx (n:Nat)(b:Int):(List.replicate n [V.int b]).flatten=(List.replicate n b).map V.int:=by
 induction n with
 |zero=>rfl
 |succ n ih=>rw[dv,iV,ih,dv]; rfl
def ju (H:Hp)(ok:Addr->Prop):uZ->V->Prop
 | .int i,v=>v= .int i
 | .txt s,v=>v= .str s
 | .sets l,v=> ∃D ms,v= .ref D/\ok D/\H D=some (.lst ms)/\gy H l ms
 | .pairs l,v=> ∃D ms,v= .ref D/\ok D/\H D=some (.lst ms)/\iT H l ms
 | .ints l,v=> ∃D,v= .ref D/\ok D/\H D=some (.lst (l.map V.int))
def ju.keep {H H':Hp}{ok ok':Addr->Prop}{a:uZ}{v:V}(h:ju H ok a v)(kl: ∀D xs,ok D->H D=some (.lst xs)->ok' D/\H' D=some (.lst xs))(kt:cw H H'):ju H' ok' a v:=by
 cases a with
 |int i=>exact h
 |txt s=>exact h
 |sets l=>
  obtain⟨D,ms,e,o,z,t⟩:=h;obtain⟨o',z'⟩:=kl _ _ o z;exact⟨D,ms,e,o',z',t.mono kt⟩
 |pairs l=>
  obtain⟨D,ms,e,o,z,t⟩:=h;obtain⟨o',z'⟩:=kl _ _ o z;exact⟨D,ms,e,o',z',iT.mono t kt⟩
 |«ints» l=>
  obtain⟨D,e,o,z⟩:=h;obtain⟨o',z'⟩:=kl _ _ o z;exact⟨D,e,o',z'⟩
def Dh {H:Hp}: ∀l:List Int,gX H (l.map Dt.int) (l.map V.int)
 |[]=>cJ.mpr rfl
 |x :: l=>bw.mpr ⟨_,_,rfl,dE.mpr rfl,Dh l⟩
def fz {X:Cx}{K:Frag}{e:Expr}{f:Str}{pos:Pos}{ta:TE}(h:X.K=K)(he:PE X e ta)(hb:attributeBase e f X.env (eval e X.env)=eval e X.env):PE X (.Attribute e f pos) (Pj K ta f):=by subst h; exact JD he hb
def Di (A:dU)(aU:Bool):Addr:=if aU=true then A.dJ else A.dY
def A2 (aU:Bool)(k:Nat)(r:Rw):List (Str×V):=if aU=true then fE k r else fe k r
def zq (aU:Bool)(k:Nat)(r:Rw):(A2 aU k r).lookup ("number":Str)=some (V.int k):=by cases aU <;> rfl
def QK (aU:Bool)(k:Nat)(r:Rw):(A2 aU k r).lookup ("day":Str)=some (V.int r.a):=by cases aU <;> rfl
def Iy (aU:Bool)(k:Nat)(r:Rw):(A2 aU k r).lookup ("amount":Str)=some (V.int (uh aU r)):=by cases aU <;> rfl
def A3 {A:dU}(G:jA K mg A)(aU:Bool):xF K (Di A aU):=by cases aU; exact G.di; exact G.dZ
def zr {A:dU}(G:jA K mg A)(aU:Bool):cf K (Di A aU) "number":=by cases aU; exact G.eN; exact G.eT
def QL {A:dU}(G:jA K mg A)(aU:Bool):cf K (Di A aU) "day":=by cases aU; exact G.jb; exact G.nV
def Iz {A:dU}(G:jA K mg A)(aU:Bool):cf K (Di A aU) "amount":=by cases aU; exact G.lV; exact G.nX
def Ny (A:dU)(H:Hp)(S:Bk)(aU:Bool)(ks:List Nat)(qs:List Addr):Prop:=Paired (fun(k:Nat) q=>eA H q (Di A aU) (A2 aU k ((S.rows aU).getD k default))) ks qs
def pR (S:Bk)(aU:Bool)(day:Int)(k:Nat):Bool:=decide (((S.rows aU).getD k default).a<=day) && decide (0 < S.rest aU k day)
inductive rY (A:dU)(vs:List V)(H:Hp)(Q:VK)(E':XK):Prop
 |mk (pw pt:Addr)(S:Bk)(f:eM)(n:Nat)(aU:Bool)(day:Int)(ks:List Nat)(qs:List Addr)(h1:vs=[.ref pw,.ref pt,.int (if aU=true then 1 else 0),.int day])(h2:dM A H pw S f)(h3:WF S n)(h4:S.made.length<=1000000)(h5:H pt=some (.lst (qs.map V.ref)))(h6:Ny A H S aU ks qs)(h7:ks.length<=100)(h8: ∀D ms H',ay H H'->H D=none->H' D=some (.lst ms)->iT H' ((ks.filter (pR S aU day)).map fun k=>(k,S.rest aU k day)) ms->Q (.ref D) H'):rY A vs H Q E'
def mT:aV ["work","told","place","day","counting","remaining","item","rest"] ["work","told","place","day"] (aA (top 39)):={}
def oz (T:Txt K mg){A:dU}(G:jA K mg A):eO P w K mg base "remaining_at" 4 ["work","told","place","day"] (rY A):=by
 have yp:eO P w K mg base "counting_at" 3 ["work","day"] (qB A):=yn T G;refine T.wj.fb (k:=3) mT (fun f cV A' outer s H vs Q E hr h=>?_)
 ·obtain⟨pw,pt,S,g,n,aU,day,ks,qs,rfl,hW,wf,hz,xr,hI,DO,k⟩:=h;have nd:=mT.nd;have hlen:=aM hI;refine⟨_,(ah (sv 4 nd (fc yp hr (aa (pv 0) (aa (pv 3) ao))))
(ah (sv 5 nd (bK ao))
(ah (dX bC rfl (rD (pv 1)) (gn 6 nd)
(ah (sv 7 nd (aO eQ (kg (pv 6)) (fk (sY rfl) (by rfl) T.Kx boot_sum (aa (gR (tn:=["setting"]) (cn:=["place","item"]) (cj:=[2,6]) rfl (AZ (zX:=[(".0",.local),("setting",.local),("item",.cell),("place",.cell)])) (rD (pv 4)) (fun _ _ _ _=>(eo (i:=0) (show(["setting","place","item"]:List Str).Nodup by decide +kernel) rfl (Or.inl rfl))) (fun _ _ _ _=>(nL (aY cU (ix (jH (K:=K) rfl) (pv 0) (pv 1) (fun _ _=>rfl)) (fz (K:=K) rfl (pv 2) rfl) (a8 _)))) (fun _ _ _ _=>(ix (jH (K:=K) rfl) (pv 0) ai (fun _ _=>rfl)))) ao))))
(av (bP (PW.pt (pw_and (aY tV (kg (pv 6)) (pv 3) (a8 _)) (pw_and1 (aY je (pv 7) ai (a8 _)))))
(av (bM (qv (pv 5) (cg (aa (kg (pv 6)) (aa (pv 7) ao))))))
bh))))
(av (a6 (pv 5)))))),?_⟩
  refine⟨_,rfl,_,rfl,pw,S,g,n,day,rfl,hW,wf,hz,fun pc cs H1 s1 nc hc hT=>?_⟩;refine⟨bu _,fun pr nr=>?_⟩;have nr0:=s1.free nr;have sr:=ay.new (o:= .lst []) nr;refine⟨_,rfl,pt,rfl,⟨_,bD.of ((s1.trans sr) _ _ xr)⟩,?_⟩;refine eP (K:=K) (a:=pt) (xs:=qs.map V.ref) (fun i σ H2=> ∃(rs:List V) (x6 x7:Option V),σ=[some (.ref pw),some (.ref pt),some (.int (if aU=true then 1 else 0)),some (.int day),some (.ref pc),some (.ref pr),x6,x7]/\ay H1 H2/\H2 pr=some (.lst rs)/\iT H2 (((ks.take i).filter (pR S aU day)).map fun k=>(k,S.rest aU k day)) rs)
   ⟨[],none,none,rfl,sr,af,.nil⟩ (fun i σ H2 _ ⟨_,_,_,_,s2,_⟩=>bD.of ((s1.trans s2) _ _ xr)) ?_ ?_
  ·rintro i x σ H2 hx ⟨rs,x6,x7,rfl,s2,zl,hP⟩;rw[aE] at hx;obtain⟨q,hq,rfl⟩:=bq.mp hx;have hi:i < ks.length:=by have:=(ak.mp hq).1; lia
   have qN:=ag hi;obtain⟨q',tX,lY⟩:=bL hI qN;rw[hq] at tX;obtain rfl:q=q':=aF tX;have mS:=fO (pR S aU day) qN;generalize ks[i]=kk at lY mS;have s02:=s1.trans s2;obtain⟨dq,BE⟩:=lY.same s02;have ML:=s2 _ _ hc;have BA:=hT.mono s2.tk;have rC:=aM BA;have Nv:=aZ (fun t=>decide (S.gh t<=day)) S.made;have Ci:rs.length<=100:=by
    have e1:=aM hP;have e2:=aZ (pR S aU day) (ks.take i);rw[ae] at e1;rw[bz] at e2;lia
   refine⟨_,rfl,q,_,dq,_,_,rfl,BE,A3 G aU,Iz G aU,Iy aU _ _,_,rfl,pc,rfl,⟨_,bD.of ML⟩,?_⟩;refine eu (K:=K) (a:=pc) (xs:=cs) (fun D j σ H6=>H2 D=none/\ ∃v,σ=[v,some (.int (if aU=true then 1 else 0)),some (.ref q)]/\ay H2 H6/\H6 D=some (.lst (((((S.made.filter fun t=>decide (S.gh t<=day)).take j).filter fun t=>decide (spotOf aU t=kk)).map (·.2.2)).map V.int))) (fun D hD=>⟨hD,none,rfl,ay.new hD,af⟩) (fun D j σ H6 _ ⟨_,_,_,t3,_⟩=>bD.of (t3 _ _ ML)) ?_ ?_
   ·rintro D j x σ H6 KU ⟨hD,v,rfl,t3,gK⟩;have hj:j < (S.made.filter fun t=>decide (S.gh t<=day)).length:=by have:=(ak.mp KU).1; lia
    have UN:=ag hj;obtain⟨v',hv,p,rfl,hp⟩:=bL BA UN;rw[KU] at hv;obtain rfl:x= .ref p:=aF hv;have K1:=fO (fun t=>decide (spotOf aU t=kk)) UN;generalize (S.made.filter fun t=>decide (S.gh t<=day))[j]=t at hp K1;have hsz:((((S.made.filter fun t=>decide (S.gh t<=day)).take j).filter fun t=>decide (spotOf aU t=kk)).map (·.2.2)).length<=1000000:=by
     rw[ae];have e1:=aZ (fun t=>decide (spotOf aU t=kk)) ((S.made.filter fun t=>decide (S.gh t<=day)).take j);rw[bz] at e1;lia
    have OC:=t3 _ _ hp;refine⟨_,rfl,_,rfl,p,_,_,_,rfl,rfl,cy.of OC,Gs aU t,_,rfl,q,_,dq,_,_,rfl,t3 _ _ BE,A3 G aU,zr G aU,zq aU _ _,rfl,_,rfl,cE (fun z=>?_) (fun z=>?_)⟩
    ·have z':spotOf aU t=kk:=by
      have:=aS z;injection this with this;lia
     rw[a0 (aH z')] at K1;refine⟨_,rfl,p,_,_,.int t.2.2,rfl,rfl,cy.of OC,rfl,_,gK,ja (by rw[ae]; exact hsz),hD,_,rfl,t3.cW hD,?_⟩;rw[af,K1,aL,aL];rfl
    ·have z': ¬ spotOf aU t=kk:=fun e=>z (aH (by rw[e]));rw[aQ (by rw[br z']; exact aX),bS] at K1;refine⟨hD,_,rfl,t3,?_⟩;rw[K1];exact gK
   ·rintro D σ H6 hD ⟨_,v,rfl,t3,gK⟩;rw[← rC,bb,qL] at gK;refine⟨D,_,rfl,bD.of gK,_,_,rfl,rfl,?_⟩;have F9:uh aU ((S.rows aU).getD kk default) - ((S.made.filter fun t=>decide (spotOf aU t=kk) && decide (S.gh t<=day)).map (·.2.2)).sum=S.rest aU kk day:=rfl;have OD:=t3 _ _ zl;have R3:=hP.mono t3.tk;have s6:=s2.trans t3;have no:pR S aU day kk=false-> ∃(rs:List V) (x6 x7:Option V),[some (V.ref pw),some (.ref pt),some (.int (if aU=true then 1 else 0)),some (.int day),some (.ref pc),some (.ref pr),some (.ref q),some (.int (S.rest aU kk day))]=[some (.ref pw),some (.ref pt),some (.int (if aU=true then 1 else 0)),some (.int day),some (.ref pc),some (.ref pr),x6,x7]/\ay H1 H6/\H6 pr=some (.lst rs)/\iT H6 (((ks.take (i + 1)).filter (pR S aU day)).map fun k=>(k,S.rest aU k day)) rs:=fun z=>by
     rw[aQ (by rw[z]; exact aX),bS] at mS;exact⟨rs,some (.ref q),some (.int (S.rest aU kk day)),rfl,s6,OD,by rw[mS]; exact R3⟩
    refine⟨_,rfl,q,_,dq,_,_,rfl,t3 _ _ BE,A3 G aU,QL G aU,QK aU _ _,_,rfl,_,_,rfl,rfl,_,rfl,cE (fun z1=>?_) (fun z1=>bV (no ?_))⟩
    ·refine⟨_,rfl,_,_,rfl,rfl,_,rfl,cE (fun z2=>?_) (fun z2=>no ?_)⟩
     ·have yes:pR S aU day kk=true:=by
       unfold pR;rw[aH (aS z1),aH (show 0 < S.rest aU kk day from aS z2)]; rfl
      rw[a0 yes] at mS;refine⟨_,rfl,.inl ⟨rfl,_,bD.of OD⟩,_,rfl,q,_,dq,_,_,rfl,t3 _ _ BE,A3 G aU,zr G aU,zq aU _ _,_,rfl,(by show 2<=sizeLine; decide),fun p8 n8=>?_⟩;have t8:=ay.new (o:= .tup [V.int (kk:Int),.int (S.rest aU kk day)]) n8;refine⟨pr,rs,_,rfl,rfl,t8 _ _ OD,a9 (by lia),rs ++ [.ref p8],some (.ref q),some (.int (S.rest aU kk day)),rfl,(s6.trans t8).cW nr,af,?_⟩;rw[mS,aL];have tk:=t8.tk.trans (eZ (o:= .lst (rs ++ [.ref p8])) (t8 _ _ OD));have fin:iT (upd (upd H6 p8 (.tup [V.int (kk:Int),.int (S.rest aU kk day)])) pr (.lst (rs ++ [.ref p8]))) ((((ks.take i).filter (pR S aU day)).map fun k=>(k,S.rest aU k day)) ++ [(kk,S.rest aU kk day)]) (rs ++ [.ref p8]):=cG (R3.mono tk) ⟨p8,rfl,eZ (o:= .lst (rs ++ [.ref p8])) (t8 _ _ OD) _ _ af⟩;exact fin
     ·unfold pR;rw[br (show ¬ 0 < S.rest aU kk day from fun e=>z2 (aH e)),l6]
    ·unfold pR;rw[br (fun e=>z1 (aH e)),qP]
  ·rintro σ H2 ⟨rs,x6,x7,rfl,s2,zl,hP⟩;rw[ae,← hlen,bb] at hP;exact⟨_,rfl,k pr rs H2 (s1.trans s2) nr0 zl hP⟩
structure pM (K:Frag)(mg:Str->Option Value)(x:Str)(st:Stmt)(tb:Addr):Prop where
 ex: ∃(f c:Addr) (oc:Value) (od:Option Addr) (kV doc pm:Value) (an:Option Addr) (ct:Value) (G5:Array (Option Value)),K.lookup f=some ⟨oc,od,.func (fnOf x x (gG st) (dH st) (aA st) .none kV doc pm an (.ref c) ct),G5⟩/\codeIn K (.ref c) x=true/\
  keepIn K (.ref f)=true/\mg x=some (.ref f)/\codeHdIn K c tb=true
def pM.fb {x:Str}{st:Stmt}{tb:Addr}{N ps:List Str}{k:Nat}{sp:Sp}(D:pM K mg x st tb)(KB:K.In base)(S:aV N ps (aA st))
  (fW: ∀(f c:Addr) (A:Around) (outer:List Env) (s:Shared) (H:Hp) (vs:List V) (Q:VK) (E:XK),PySem.W.CodeHd base c tb->eY k (A.deeper (envOfC x (aA st) s.heap.objs.size f (.ref c)))->sp vs H Q E->
   ∃t,pC (lq sU P w K mg base N x (aA st) f (.ref c) A outer s H E).D4 (dH st) t/\t {nx:=fun _ H'=>Q .en H',rt:=Q} (L2.start N vs) H)
  (hb: ∀(kV doc pm:Value) (an:Option Addr) (cV ct:Value) (us:List Value),us.length=ps.length->bindArgs (fnOf x x (gG st) (dH st) (aA st) .none kV doc pm an cV ct) ⟨us,[]⟩=pure (ps.zip us):=by intro _ _ _ _ _ _ us hl; rcases us with _|⟨_,_|⟨_,_|⟨_,_⟩⟩⟩ <;> first|(cases hl; done)|rfl)
  (len: ∀vs H Q E,sp vs H Q E->vs.length=ps.length:=by intro _ _ _ _ h; first|(cases h; subst_vars; rfl)|(repeat (first|(obtain⟨rfl,_⟩:=h; rfl; done)|obtain⟨_,h⟩:=h))):eO P w K mg base x (k + 1) ps sp:=by
 obtain⟨f,c,oc,od,kV,doc,pm,an,ct,G5,lk,sD,hk,hm,hh⟩:=D.ex;have F:gu K x x st f _:=ql lk sD hk;refine⟨f,_,JH lk sD S len fun A outer s H vs Q E hr xG=>?_,hm,hk,F.binds hb⟩;obtain⟨t,h,q⟩:=fW f c A outer s H vs Q E (PySem.W.codeHd_of_K KB hh) hr xG;exact⟨t,h.D4,q⟩
def rZ {th:List (Int×Nat)}{i:Nat}(h:i < th.length):(th.map Gh).getD i []=Gh (th.getD i (0,0)):=getD_map Gh th i (0,0) [] h
def wM {th:List (Int×Nat)}{p:List Nat}(h1: ∀x∈th,x.2 < 1000)(nd:(th.map (·.2)).Nodup)(hp:p.Perm (List.range th.length))(le:p.Pairwise (fun i j=>uP ((th.map Gh).getD i [])<=uP ((th.map Gh).getD j []))):p.map (fun i=>th.getD i (0,0))=ez th:=by
 have hr:(List.range th.length).map (fun i=>th.getD i (0,0))=th:=y0 th (0,0);refine nU uN _ _ ((hp.map _).trans ((List.Perm.of_eq hr).trans (dg th).symm)) ?_ (CC h1 nd);rw[sI];refine le.imp_of_mem fun{a b} ha hb z=>?_;have la:a < th.length:=dz.mp (hp.mem_iff.mp ha);have lb:b < th.length:=dz.mp (hp.mem_iff.mp hb);rw[rZ la,rZ lb] at z;exact z
def oA {α β:Type}{F:α->β->Prop}{l₁:List α}{l₂:List β}(h:Paired F l₁ l₂)(d:α)(e:β): ∀p:List Nat,(∀i∈p,i < l₁.length)->Paired F (p.map fun i=>l₁.getD i d) (p.map fun i=>l₂.getD i e)
 |[],_=> .nil
 |i :: p,hi=>by
  have hl:=hi i ba;obtain⟨b,e1,e2⟩:=bL h (ag hl);refine .cons ?_ (oA h d e p fun j hj=>hi j (aW _ hj));show F (l₁.getD i d) (l₂.getD i e);rw[aj,aj,ag hl,e1];exact e2
def bp {H H':Hp}{tb:Addr}{pos:Pos}{qual:Str}(t:Tb H tb pos qual)(s:ay H H'):Tb H' tb pos qual:=by
 obtain⟨ps,h1,h2,h3⟩:=t;refine⟨ps,s _ _ h1,h2,?_⟩;rcases h3 with h3|⟨c',h3,h4⟩
 ·exact .inl h3
 ·exact .inr ⟨c',h3,s _ _ h4⟩
def wN {H:Hp}{tb q C:Addr}{pos:Pos}{qual:Str}{fs:List (Str×V)}(t:Tb H tb pos qual)(h:eA H q C fs):q∉[tb]:=fun z=>by
 obtain⟨ps,h1,_⟩:=t;obtain⟨dx,e⟩:=h;rw[au.mp z,h1] at e;cases e
def QM:Pos:=⟨69,30,69,66⟩
def ff (rows:List Rw)(aJ:Str)(i:Nat):List Nat:=(List.range i).filter fun k=>decide ((rows.getD k default).aJ=aJ)
inductive vf (A:dU)(tb:Addr)(vs:List V)(H:Hp)(Q:VK)(E':XK):Prop
 |mk (pb:Addr)(iD:List Addr)(S:Bk)(aJ:Str)(h1:vs=[.ref pb,.str aJ])(h2:H pb=some (.lst (iD.map V.ref)))(h3:gz H A.dJ fE S.aG iD)(h4:S.aG.length < 64)(h5:Tb H tb QM ((("bills_in_order":Str) ++ ".<locals>.") ++ "<lambda>"))(h6: ∀D qs H',Frame [tb] H H'->Tb H' tb QM ((("bills_in_order":Str) ++ ".<locals>.") ++ "<lambda>")->H D=none->H' D=some (.lst (qs.map V.ref))->iI A H' S (inOrder S.aG aJ (·.b)) qs->Q (.ref D) H'):vf A tb vs H Q E'
def lg:aV ["bills","who","theirs"] ["bills","who"] (aA (top 17)):={}
def lZ (T:Txt K mg){A:dU}{tb:Addr}(G:jA K mg A)(DL:pM K mg "bills_in_order" (top 17) tb)(KB:K.In base)(BM:BMain mg base):eO P w K mg base "bills_in_order" 2 ["bills","who"] (vf A tb):=by
 refine DL.fb (k:=1) KB lg (fun f c A' outer s H vs Q E CH hr h=>?_)
 ·obtain⟨pb,iD,S,aJ,rfl,UO,hO,hl,YT,k⟩:=h;have nd:=lg.nd;refine⟨_,(ah (jX (i:=2) nd rfl (Or.inl rfl) (tn:=["bill"]) (cn:=["who"]) (cj:=[1]) rfl (iy (zX:=[(".0",.local),("bill",.local),("who",.cell)])) (rD (pv 0)) (fun _ _ _ _=>(eo (i:=0) (show(["bill","who"]:List Str).Nodup by decide +kernel) rfl (Or.inl rfl))) (fun _ _ _ _=>(nL (aY cU (fz (K:=K) rfl (pv 0) rfl) (pv 1) (a8 _)))) (fun _ _ _ _=>(pv 0)))
(av (a6 (we (N:=["bill"]) (y:="bill") rfl T.rE BM rfl CH (hr.mono (by decide)) {} (fun _ _ _ _ _=>(cg (aa (fz (K:=K) rfl (pv 0) rfl) (aa (fz (K:=K) rfl (pv 0) rfl) ao)))) (pv 2))))),?_⟩
  refine⟨_,rfl,pb,rfl,⟨_,bD.of UO⟩,?_⟩;refine eu (K:=K) (a:=pb) (xs:=iD.map V.ref) (fun D i σ H6=>H D=none/\ ∃(v:Option V) (qs:List Addr),σ=[v,some (.str aJ)]/\ay H H6/\H6 D=some (.lst (qs.map V.ref))/\iI A H6 S (ff S.aG aJ i) qs) (fun D hD=>⟨hD,none,[],rfl,ay.new hD,af,.nil⟩) (fun D i σ H6 _ ⟨_,_,_,_,t3,_⟩=>bD.of (t3 _ _ UO)) ?_ ?_
  ·rintro D i x σ H6 hx ⟨hD,v,qs,rfl,t3,gK,hB⟩;rw[aE] at hx;obtain⟨q,hq,rfl⟩:=bq.mp hx;have hi:i < S.aG.length:=by have:=(ak.mp hq).1; have:=hO.1; lia
   obtain⟨dq,BE⟩:=(hO.2 i q hq).same t3;have hql:qs.length<=100:=by
    have e1:=aM hB;have e2:(ff S.aG aJ i).length<=i:=aR (aZ _ _) (by rw[bT]; exact aD _);lia
   have r9:ff S.aG aJ (i + 1)=ff S.aG aJ i ++ (if decide ((S.aG.getD i default).aJ=aJ)=true then[i] else[]):=by
    unfold ff;rw[kK,ip]
    congr 1
    by_cases z:decide ((S.aG.getD i default).aJ=aJ)=true
    ·rw[a0 z,cB (p:=fun k=>decide ((S.aG.getD k default).aJ=aJ)) z]; rfl
    ·rw[aQ z,gP (p:=fun k=>decide ((S.aG.getD k default).aJ=aJ)) z]; rfl
   refine⟨_,rfl,q,_,dq,_,_,rfl,BE,G.dZ,G.kZ,EC _ _,_,rfl,rfl,_,rfl,cE (fun z=>?_) (fun z=>?_)⟩
   ·rw[a0 (aH (va z))] at r9;refine⟨_,rfl,_,gK,a9 (by rw[ae]; lia),hD,_,qs ++ [q],rfl,t3.cW hD,by rw[af,aL]; rfl,?_⟩;rw[r9];have kp: ∀{y C:Addr} {gs:List (Str×V)},eA H6 y C gs->eA (upd H6 D (.lst (qs.map V.ref ++ [V.ref q]))) y C gs:=fun{y C gs} ⟨dy,ey⟩=>⟨dy,by rw[aB (mN ey gK (by intro w; cases w))]; exact ey⟩;exact cG (Paired.iu hB fun _ _ w=>kp w) (kp ⟨dq,BE⟩)
   ·rw[aQ (by rw[br (rT z)]; exact aX),bS] at r9;refine⟨hD,_,qs,rfl,t3,gK,?_⟩;rw[r9];exact hB
  ·rintro D σ H6 hD ⟨_,v,qs,rfl,t3,gK,hB⟩;have Nq:(iD.map V.ref).length=S.aG.length:=by rw[ae]; exact hO.1
   rw[Nq] at hB;have IA:=bp YT t3;have hth:gw S.aG aJ (·.b)=(ff S.aG aJ S.aG.length).map fun k=>((S.bl k).b,k):=rfl;have DO: ∀x∈ff S.aG aJ S.aG.length,x < S.aG.length:=fun x hx=>dz.mp (d8.mp hx).1;have M0:(ff S.aG aJ S.aG.length).Nodup:=mZ.filter _;have YU:(ff S.aG aJ S.aG.length).length<=S.aG.length:=aR (aZ _ _) (by rw[bT]; exact aD _);have js:inOrder S.aG aJ (·.b)=(ez ((ff S.aG aJ S.aG.length).map fun k=>((S.bl k).b,k))).map (·.2):=rfl;generalize ff S.aG aJ S.aG.length=ks at hB DO M0 YU js;have YV:=aM hB;have K2:((ks.map fun k=>((S.bl k).b,k)):List (Int×Nat)).length=ks.length:=ae _;have sf: ∀x∈(ks.map fun k=>((S.bl k).b,k)),x.2 < 1000:=fun x hx=>by
    obtain⟨k0,RQ,rfl⟩:=bF.mp hx;have:=DO k0 RQ;show k0 < 1000;lia
   have hnd:((ks.map fun k=>((S.bl k).b,k)).map (·.2)).Nodup:=by
    rw[eE];have e:((fun x:Int×Nat=>x.2) ∘ fun k=>((S.bl k).b,k))=id:=rfl;rw[e,BJ];exact M0
   have ES: ∀i,i < ks.length->(ks.map fun k=>((S.bl k).b,k)).getD i (0,0)=((S.bl (ks.getD i 0)).b,ks.getD i 0):=fun i hi=>getD_map (fun k=>((S.bl k).b,k)) ks i 0 (0,0) hi;generalize YW:(ks.map fun k=>((S.bl k).b,k))=th at K2 sf hnd ES js;refine⟨_,rfl,D,qs.map V.ref,th.map Gh,uP,rfl,bD.of gK,by rw[ae]; lia,by rw[ae,ae]; lia,IA,(fun t ht=>?_),(fun t ht u hu=>?_),fun i hi H2 fr R hR=>?_,fun D2 p H2 hp le fr BA Jg Io=>?_⟩
   ·obtain⟨x,_,rfl⟩:=bF.mp ht;simp[Gh]
   ·obtain⟨x,y1,rfl⟩:=bF.mp ht;obtain⟨y,AS,rfl⟩:=bF.mp hu;exact rF (sf x y1) (sf y AS) (fun e=>⟨rfl,lW hnd y1 AS e⟩) rfl
   ·rw[ae] at hi;have uM:i < ks.length:=by lia
    obtain⟨q,e1,e2⟩:=bL hB (ag uM);have YX:(qs.map V.ref).getD i .en= .ref q:=by rw[aj,aE,e1]; rfl
    have YY:ks.getD i 0=ks[i]:=by rw[aj,ag uM]; rfl
    obtain⟨dq,BE⟩:=e2.frame fr (wN IA e2);rw[rZ (by lia),ES i uM,YY] at hR;rw[YX];exact⟨_,rfl,q,_,dq,_,_,rfl,BE,G.dZ,G.nW,KC _ _,_,rfl,q,_,dq,_,_,rfl,BE,G.dZ,G.eT,lR _ _,(by show 2<=sizeLine; decide),fun p np=>hR p np⟩
   ·rw[ae] at hp;have gQ: ∀i∈p,i < ks.length:=fun i hi=>by have:=dz.mp (hp.mem_iff.mp hi); lia
    have QN:=wM sf hnd (by rw[K2,YV]; exact hp) le;have Gp:iI A H2 S ks qs:=Paired.iu hB fun _ _ w=>w.frame fr (wN IA w);refine k D2 (p.map fun i=>qs.getD i tb) H2 ((t3.frame).tr fr) BA (t3.free Jg) ?_ ?_
    ·rw[Io,eE]
     congr 2
     apply gO;intro i hi;exact getD_map V.ref qs i tb .en (by have:=gQ i hi; lia)
    ·rw[js,← QN,eE];have e:p.map ((fun x:Int×Nat=>x.2) ∘ fun i=>th.getD i (0,0))=p.map fun i=>ks.getD i 0:=gO fun i hi=>by
      show(th.getD i (0,0)).2=_;rw[ES i (gQ i hi)]
     rw[e];exact oA Gp 0 tb p gQ
def QO:Pos:=⟨72,30,72,72⟩
inductive vg (A:dU)(tb:Addr)(vs:List V)(H:Hp)(Q:VK)(E':XK):Prop
 |mk (pb:Addr)(iD:List Addr)(S:Bk)(aJ:Str)(h1:vs=[.ref pb,.str aJ])(h2:H pb=some (.lst (iD.map V.ref)))(h3:gz H A.dY fe S.credits iD)(h4:S.credits.length < 64)(h5:Tb H tb QO ((("credits_in_order":Str) ++ ".<locals>.") ++ "<lambda>"))(h6: ∀D qs H',Frame [tb] H H'->Tb H' tb QO ((("credits_in_order":Str) ++ ".<locals>.") ++ "<lambda>")->H D=none->H' D=some (.lst (qs.map V.ref))->gI A H' S (inOrder S.credits aJ (·.a)) qs->Q (.ref D) H'):vg A tb vs H Q E'
def jD:aV ["all_credits","who","theirs"] ["all_credits","who"] (aA (top 18)):={}
def ko (T:Txt K mg){A:dU}{tb:Addr}(G:jA K mg A)(DL:pM K mg "credits_in_order" (top 18) tb)(KB:K.In base)(BM:BMain mg base):eO P w K mg base "credits_in_order" 2 ["all_credits","who"] (vg A tb):=by
 refine DL.fb (k:=1) KB jD (fun f c A' outer s H vs Q E CH hr h=>?_)
 ·obtain⟨pb,iD,S,aJ,rfl,UO,hO,hl,YT,k⟩:=h;have nd:=jD.nd;refine⟨_,(ah (jX (i:=2) nd rfl (Or.inl rfl) (tn:=["credit"]) (cn:=["who"]) (cj:=[1]) rfl (iy (zX:=[(".0",.local),("credit",.local),("who",.cell)])) (rD (pv 0)) (fun _ _ _ _=>(eo (i:=0) (show(["credit","who"]:List Str).Nodup by decide +kernel) rfl (Or.inl rfl))) (fun _ _ _ _=>(nL (aY cU (fz (K:=K) rfl (pv 0) rfl) (pv 1) (a8 _)))) (fun _ _ _ _=>(pv 0)))
(av (a6 (we (N:=["credit"]) (y:="credit") rfl T.rE BM rfl CH (hr.mono (by decide)) {} (fun _ _ _ _ _=>(cg (aa (fz (K:=K) rfl (pv 0) rfl) (aa (fz (K:=K) rfl (pv 0) rfl) ao)))) (pv 2))))),?_⟩
  refine⟨_,rfl,pb,rfl,⟨_,bD.of UO⟩,?_⟩;refine eu (K:=K) (a:=pb) (xs:=iD.map V.ref) (fun D i σ H6=>H D=none/\ ∃(v:Option V) (qs:List Addr),σ=[v,some (.str aJ)]/\ay H H6/\H6 D=some (.lst (qs.map V.ref))/\gI A H6 S (ff S.credits aJ i) qs) (fun D hD=>⟨hD,none,[],rfl,ay.new hD,af,.nil⟩) (fun D i σ H6 _ ⟨_,_,_,_,t3,_⟩=>bD.of (t3 _ _ UO)) ?_ ?_
  ·rintro D i x σ H6 hx ⟨hD,v,qs,rfl,t3,gK,hB⟩;rw[aE] at hx;obtain⟨q,hq,rfl⟩:=bq.mp hx;have hi:i < S.credits.length:=by have:=(ak.mp hq).1; have:=hO.1; lia
   obtain⟨dq,BE⟩:=(hO.2 i q hq).same t3;have hql:qs.length<=100:=by
    have e1:=aM hB;have e2:(ff S.credits aJ i).length<=i:=aR (aZ _ _) (by rw[bT]; exact aD _);lia
   have r9:ff S.credits aJ (i + 1)=ff S.credits aJ i ++ (if decide ((S.credits.getD i default).aJ=aJ)=true then[i] else[]):=by
    unfold ff;rw[kK,ip]
    congr 1
    by_cases z:decide ((S.credits.getD i default).aJ=aJ)=true
    ·rw[a0 z,cB (p:=fun k=>decide ((S.credits.getD k default).aJ=aJ)) z]; rfl
    ·rw[aQ z,gP (p:=fun k=>decide ((S.credits.getD k default).aJ=aJ)) z]; rfl
   refine⟨_,rfl,q,_,dq,_,_,rfl,BE,G.di,G.lA,KD _ _,_,rfl,rfl,_,rfl,cE (fun z=>?_) (fun z=>?_)⟩
   ·rw[a0 (aH (va z))] at r9;refine⟨_,rfl,_,gK,a9 (by rw[ae]; lia),hD,_,qs ++ [q],rfl,t3.cW hD,by rw[af,aL]; rfl,?_⟩;rw[r9];have kp: ∀{y C:Addr} {gs:List (Str×V)},eA H6 y C gs->eA (upd H6 D (.lst (qs.map V.ref ++ [V.ref q]))) y C gs:=fun{y C gs} ⟨dy,ey⟩=>⟨dy,by rw[aB (mN ey gK (by intro w; cases w))]; exact ey⟩;exact cG (Paired.iu hB fun _ _ w=>kp w) (kp ⟨dq,BE⟩)
   ·rw[aQ (by rw[br (rT z)]; exact aX),bS] at r9;refine⟨hD,_,qs,rfl,t3,gK,?_⟩;rw[r9];exact hB
  ·rintro D σ H6 hD ⟨_,v,qs,rfl,t3,gK,hB⟩;have Nq:(iD.map V.ref).length=S.credits.length:=by rw[ae]; exact hO.1
   rw[Nq] at hB;have IA:=bp YT t3;have hth:gw S.credits aJ (·.a)=(ff S.credits aJ S.credits.length).map fun k=>((S.cr k).a,k):=rfl;have DO: ∀x∈ff S.credits aJ S.credits.length,x < S.credits.length:=fun x hx=>dz.mp (d8.mp hx).1;have M0:(ff S.credits aJ S.credits.length).Nodup:=mZ.filter _;have YU:(ff S.credits aJ S.credits.length).length<=S.credits.length:=aR (aZ _ _) (by rw[bT]; exact aD _);have js:inOrder S.credits aJ (·.a)=(ez ((ff S.credits aJ S.credits.length).map fun k=>((S.cr k).a,k))).map (·.2):=rfl;generalize ff S.credits aJ S.credits.length=ks at hB DO M0 YU js;have YV:=aM hB;have K2:((ks.map fun k=>((S.cr k).a,k)):List (Int×Nat)).length=ks.length:=ae _;have sf: ∀x∈(ks.map fun k=>((S.cr k).a,k)),x.2 < 1000:=fun x hx=>by
    obtain⟨k0,RQ,rfl⟩:=bF.mp hx;have:=DO k0 RQ;show k0 < 1000;lia
   have hnd:((ks.map fun k=>((S.cr k).a,k)).map (·.2)).Nodup:=by
    rw[eE];have e:((fun x:Int×Nat=>x.2) ∘ fun k=>((S.cr k).a,k))=id:=rfl;rw[e,BJ];exact M0
   have ES: ∀i,i < ks.length->(ks.map fun k=>((S.cr k).a,k)).getD i (0,0)=((S.cr (ks.getD i 0)).a,ks.getD i 0):=fun i hi=>getD_map (fun k=>((S.cr k).a,k)) ks i 0 (0,0) hi;generalize YW:(ks.map fun k=>((S.cr k).a,k))=th at K2 sf hnd ES js;refine⟨_,rfl,D,qs.map V.ref,th.map Gh,uP,rfl,bD.of gK,by rw[ae]; lia,by rw[ae,ae]; lia,IA,(fun t ht=>?_),(fun t ht u hu=>?_),fun i hi H2 fr R hR=>?_,fun D2 p H2 hp le fr BA Jg Io=>?_⟩
   ·obtain⟨x,_,rfl⟩:=bF.mp ht;simp[Gh]
   ·obtain⟨x,y1,rfl⟩:=bF.mp ht;obtain⟨y,AS,rfl⟩:=bF.mp hu;exact rF (sf x y1) (sf y AS) (fun e=>⟨rfl,lW hnd y1 AS e⟩) rfl
   ·rw[ae] at hi;have uM:i < ks.length:=by lia
    obtain⟨q,e1,e2⟩:=bL hB (ag uM);have YX:(qs.map V.ref).getD i .en= .ref q:=by rw[aj,aE,e1]; rfl
    have YY:ks.getD i 0=ks[i]:=by rw[aj,ag uM]; rfl
    obtain⟨dq,BE⟩:=e2.frame fr (wN IA e2);rw[rZ (by lia),ES i uM,YY] at hR;rw[YX];exact⟨_,rfl,q,_,dq,_,_,rfl,BE,G.di,G.jb,KG _ _,_,rfl,q,_,dq,_,_,rfl,BE,G.di,G.eN,oR _ _,(by show 2<=sizeLine; decide),fun p np=>hR p np⟩
   ·rw[ae] at hp;have gQ: ∀i∈p,i < ks.length:=fun i hi=>by have:=dz.mp (hp.mem_iff.mp hi); lia
    have QN:=wM sf hnd (by rw[K2,YV]; exact hp) le;have Gp:gI A H2 S ks qs:=Paired.iu hB fun _ _ w=>w.frame fr (wN IA w);refine k D2 (p.map fun i=>qs.getD i tb) H2 ((t3.frame).tr fr) BA (t3.free Jg) ?_ ?_
    ·rw[Io,eE]
     congr 2
     apply gO;intro i hi;exact getD_map V.ref qs i tb .en (by have:=gQ i hi; lia)
    ·rw[js,← QN,eE];have e:p.map ((fun x:Int×Nat=>x.2) ∘ fun i=>th.getD i (0,0))=p.map fun i=>ks.getD i 0:=gO fun i hi=>by
      show(th.getD i (0,0)).2=_;rw[ES i (gQ i hi)]
     rw[e];exact oA Gp 0 tb p gQ
def wO {A:dU}{H H':Hp}{pw tb:Addr}{S:Bk}{f:eM}(h:dM A H pw S f)(ht: ∃ps,H tb=some (.nA ps))(fr:Frame [tb] H H'):dM A H' pw S f:=by
 obtain⟨ps,ht⟩:=ht;have kl: ∀{a:Addr} {xs:List V},H a=some (.lst xs)->H' a=some (.lst xs):=fun{a xs} e=>fr _ _ (fun z=>by rw[au.mp z,ht] at e; cases e) e;have ki: ∀{a C dx:Addr} {gs:List (Str×V)},H a=some (.ins C dx gs)->H' a=some (.ins C dx gs):=fun{a C dx gs} e=>fr _ _ (fun z=>by rw[au.mp z,ht] at e; cases e) e;have kt:cw H H':=fun a xs e=>fr _ _ (fun z=>by rw[au.mp z,ht] at e; cases e) e;obtain⟨dw,hw⟩:=h.obj;obtain⟨ms,m1,m2⟩:=h.hm;exact⟨⟨dw,ki hw⟩,kl h.hb,kl h.hc,kl h.hl,kl h.hf,⟨ms,kl m1,m2.mono kt⟩,h.rb.keep fun _ _ _ e=>ki e,h.rc.keep fun _ _ _ e=>ki e,h.nd⟩
def kG (H:Hp)(tb:Addr):Prop:=Tb H tb QM ((("bills_in_order":Str) ++ ".<locals>.") ++ "<lambda>")
def lh (H:Hp)(tb:Addr):Prop:=Tb H tb QO ((("credits_in_order":Str) ++ ".<locals>.") ++ "<lambda>")
inductive A4 (A:dU)(tb:Addr)(vs:List V)(H:Hp)(Q:VK)(E':XK):Prop
 |mk (pw:Addr)(S:Bk)(f:eM)(n:Nat)(aJ:Str)(day:Int)(h1:vs=[.ref pw,.str aJ,.int day])(h2:dM A H pw S f)(h3:WF S n)(h4:n<=60)(h5:kG H tb)(h6: ∀D ms H',Frame [tb] H H'->kG H' tb->H D=none->H' D=some (.lst ms)->iT H' (S.hZ true aJ day) ms->Q (.ref D) H'):A4 A tb vs H Q E'
inductive ET (A:dU)(tb:Addr)(vs:List V)(H:Hp)(Q:VK)(E':XK):Prop
 |mk (pw:Addr)(S:Bk)(f:eM)(n:Nat)(aJ:Str)(day:Int)(h1:vs=[.ref pw,.str aJ,.int day])(h2:dM A H pw S f)(h3:WF S n)(h4:n<=60)(h5:lh H tb)(h6: ∀D ms H',Frame [tb] H H'->lh H' tb->H D=none->H' D=some (.lst ms)->iT H' (S.hZ false aJ day) ms->Q (.ref D) H'):ET A tb vs H Q E'
def EU:aV ["work","who","day"] ["work","who","day"] (aA (top 37)):={}
def zt (T:Txt K mg){A:dU}{tb:Addr}(G:jA K mg A)(DL:pM K mg "bills_in_order" (top 17) tb)(KB:K.In base)(BM:BMain mg base):eO P w K mg base "owed_at" 5 ["work","who","day"] (A4 A tb):=by
 have i7:eO P w K mg base "bills_in_order" 2 ["bills","who"] (vf A tb):=lZ T G DL KB BM;have kq:eO P w K mg base "remaining_at" 4 ["work","told","place","day"] (rY A):=oz T G;refine T.HM.fb (k:=4) EU (fun f cV A' outer s H vs Q E hr h=>?_)
 ·obtain⟨pw,S,g,n,aJ,day,rfl,hW,wf,hn,hT,k⟩:=h;obtain⟨dw,hw⟩:=hW.obj;refine⟨_,(av (a6 (fc kq hr (aa (pv 0) (aa (fc i7 hr (aa (kg (pv 0)) (aa (pv 1) ao))) (aa ai (aa (pv 2) ao))))))),?_⟩;refine⟨_,rfl,_,rfl,pw,_,dw,_,_,rfl,hw,G.bG,G.dW,jk g,_,rfl,g.pb,g.iD,S,aJ,rfl,hW.hb,hW.rb,(by have:=wf.lb; lia),hT,fun D qs H1 fr Jh nD hD hB=>?_⟩;have DS:=wO hW (let⟨ps,e,_⟩:=hT; ⟨ps,e⟩) fr;have Nz:(inOrder S.aG aJ (·.b)).length<=100:=by
   have e:(inOrder S.aG aJ (·.b)).length=((List.range S.aG.length).filter fun k=>decide ((S.aG.getD k default).aJ=aJ)).length:=by
    unfold inOrder gw;rw[ae,(dg _).length_eq,ae]
   have:=aZ (fun k=>decide ((S.aG.getD k default).aJ=aJ)) (List.range S.aG.length);rw[bT] at this;have:=wf.lb;lia
  refine⟨_,rfl,pw,D,S,g,n,true,day,inOrder S.aG aJ (·.b),qs,rfl,DS,wf,(by have:=wf.lm; lia),hD,hB,Nz,fun D2 ms H2 s2 Jg Io hP=>?_⟩;exact k D2 ms H2 (fr.cA s2) (bp Jh s2) (fr.free (fun z=>by
   obtain⟨ps,e,_⟩:=Jh;rw[au.mp z,e] at Jg;cases Jg) Jg) Io hP
def EV:aV ["work","who","day"] ["work","who","day"] (aA (top 38)):={}
def IB (T:Txt K mg){A:dU}{tb:Addr}(G:jA K mg A)(DL:pM K mg "credits_in_order" (top 18) tb)(KB:K.In base)(BM:BMain mg base):eO P w K mg base "free_at" 5 ["work","who","day"] (ET A tb):=by
 have g9:eO P w K mg base "credits_in_order" 2 ["all_credits","who"] (vg A tb):=ko T G DL KB BM;have kq:eO P w K mg base "remaining_at" 4 ["work","told","place","day"] (rY A):=oz T G;refine T.HN.fb (k:=4) EV (fun f cV A' outer s H vs Q E hr h=>?_)
 ·obtain⟨pw,S,g,n,aJ,day,rfl,hW,wf,hn,hT,k⟩:=h;obtain⟨dw,hw⟩:=hW.obj;refine⟨_,(av (a6 (fc kq hr (aa (pv 0) (aa (fc g9 hr (aa (kg (pv 0)) (aa (pv 1) ao))) (aa ai (aa (pv 2) ao))))))),?_⟩;refine⟨_,rfl,_,rfl,pw,_,dw,_,_,rfl,hw,G.bG,G.cL,g8 g,_,rfl,g.pc,g.cps,S,aJ,rfl,hW.hc,hW.rc,(by have:=wf.lc; lia),hT,fun D qs H1 fr Jh nD hD hB=>?_⟩;have DS:=wO hW (let⟨ps,e,_⟩:=hT; ⟨ps,e⟩) fr;have Nz:(inOrder S.credits aJ (·.a)).length<=100:=by
   have e:(inOrder S.credits aJ (·.a)).length=((List.range S.credits.length).filter fun k=>decide ((S.credits.getD k default).aJ=aJ)).length:=by
    unfold inOrder gw;rw[ae,(dg _).length_eq,ae]
   have:=aZ (fun k=>decide ((S.credits.getD k default).aJ=aJ)) (List.range S.credits.length);rw[bT] at this;have:=wf.lc;lia
  refine⟨_,rfl,pw,D,S,g,n,false,day,inOrder S.credits aJ (·.a),qs,rfl,DS,wf,(by have:=wf.lm; lia),hD,hB,Nz,fun D2 ms H2 s2 Jg Io hP=>?_⟩;exact k D2 ms H2 (fr.cA s2) (bp Jh s2) (fr.free (fun z=>by
   obtain⟨ps,e,_⟩:=Jh;rw[au.mp z,e] at Jg;cases Jg) Jg) Io hP
inductive A5 (vs:List V)(H:Hp)(Q:VK)(E':XK):Prop
 |mk (gh:Int)(pl:Addr)(dj:List Int)(h1:vs=[.int gh,.ref pl])(h2:H pl=some (.tup (dj.map V.int)))(h3:dj.length<=11)(h4: ∀H',ay H H'->Q (.int (L2.placeOf gh dj:Int)) H'):A5 vs H Q E'
def Dj:aV ["late","limits"] ["late","limits"] (aA (top 1)):={}
def EW (T:Txt K mg):eO P w K mg base "place_of" 1 ["late","limits"] A5:=by
 refine T.Ex.fb (k:=0) Dj (fun f cV A' outer s H vs Q E hr h=>?_)
 ·obtain⟨gh,pl,dj,rfl,gQ,Jf,k⟩:=h;refine⟨_,(ah (bP (aY tV (pv 0) ai (a8 _))
(av (a6 ai))
bh)
(av (a6 (aO cS ai (lz T.dk (gR (tn:=["limit"]) (cn:=["late"]) (cj:=[0]) rfl (iy (zX:=[(".0",.local),("limit",.local),("late",.cell)])) (Pe (pv 1)) (fun _ _ _ _=>(eo (i:=0) (show(["limit","late"]:List Str).Nodup by decide +kernel) rfl (Or.inl rfl))) (fun _ _ _ _=>(nL (aY jW (pv 0) (pv 1) (a8 _)))) (fun _ _ _ _=>(pv 0)))))))),?_⟩
  refine⟨_,rfl,_,_,rfl,rfl,_,rfl,cE (fun z=>?_) (fun z=>?_)⟩
  ·have z':gh<=0:=aS z;have e:L2.placeOf gh dj=0:=a0 z';have q:=k H (ay.refl _);rw[e] at q;exact q
  have z': ¬ gh<=0:=fun q=>z (aH q);have e:L2.placeOf gh dj=1 + (dj.filter fun l=>decide (l < gh)).length:=aQ z';refine⟨_,rfl,pl,rfl,⟨_,cy.of gQ⟩,?_⟩;refine JU (K:=K) (a:=pl) (xs:=dj.map V.int) (fun D' j σ H6=>H D'=none/\ ∃v,σ=[v,some (.int gh)]/\ay H H6/\H6 D'=some (.lst (((dj.take j).filter fun l=>decide (l < gh)).map V.int))) (fun D' uT=>⟨uT,none,rfl,ay.new uT,af⟩) (fun D' j σ H6 _ ⟨_,_,_,t3,_⟩=>cy.of (t3 _ _ gQ)) ?_ ?_
  ·rintro D' j x σ H6 KU ⟨uT,v,rfl,t3,gK⟩;rw[aE] at KU;obtain⟨y,hy,rfl⟩:=bq.mp KU;have mS:=fO (fun l=>decide (l < gh)) hy;have hlen:((dj.take j).filter fun l=>decide (l < gh)).length<=100:=by
    have:=aZ (fun l=>decide (l < gh)) (dj.take j);rw[bz] at this;lia
   refine⟨_,rfl,_,rfl,_,_,rfl,rfl,_,rfl,cE (fun q=>?_) (fun q=>?_)⟩
   ·rw[a0 q] at mS;refine⟨_,rfl,_,gK,a9 (by rw[ae]; lia),uT,_,rfl,t3.cW uT,?_⟩;rw[af,mS,aL];rfl
   ·rw[aQ q,bS] at mS;refine⟨uT,_,rfl,t3,?_⟩;rw[mS];exact gK
  ·rintro D' σ H6 uT ⟨_,v,rfl,t3,gK⟩;refine⟨D',_,rfl,.inl (bD.of gK),_,_,rfl,rfl,?_⟩;have q:=k H6 t3;rw[e] at q;have e2:(1:Int) + ((((dj.take (dj.map V.int).length).filter fun l=>decide (l < gh)).map V.int).length:Int)=((1 + (dj.filter fun l=>decide (l < gh)).length:Nat):Int):=by
    rw[ae,ae,bb];simp
   rw[← e2] at q;exact q
inductive EY (A:dU)(tb:Addr)(vs:List V)(H:Hp)(Q:VK)(E':XK):Prop
 |mk (pw pl:Addr)(S:Bk)(f:eM)(n:Nat)(aJ:Str)(day:Int)(dj:List Int)(h1:vs=[.ref pw,.str aJ,.int day,.ref pl])(h2:dM A H pw S f)(h3:WF S n)(h4:n<=60)(h5:kG H tb)(h6:H pl=some (.tup (dj.map V.int)))(h7:dj.length<=11)(h8: ∀D H',Frame [tb] H H'->kG H' tb->H D=none->H' D=some (.lst ((S.P1 aJ day dj).map V.int))->Q (.ref D) H'):EY A tb vs H Q E'
def wQ:aV ["work","who","day","limits","sums","number","left","place"] ["work","who","day","limits"] (aA (top 42)):={}
def IC (T:Txt K mg){A:dU}{tb:Addr}(G:jA K mg A)(DL:pM K mg "bills_in_order" (top 17) tb)(KB:K.In base)(BM:BMain mg base):eO P w K mg base "ages_at" 6 ["work","who","day","limits"] (EY A tb):=by
 have tL:eO P w K mg base "owed_at" 5 ["work","who","day"] (A4 A tb):=zt T G DL KB BM;have EZ:eO P w K mg base "place_of" 1 ["late","limits"] A5:=EW T;refine T.HP.fb (k:=5) wQ (fun f cV A' outer s H vs Q E hr h=>?_)
 ·obtain⟨pw,pl,S,g,n,aJ,day,dj,rfl,hW,wf,hn,hT,gQ,Jf,k⟩:=h;have nd:=wQ.nd;refine⟨_,(ah (sv 4 nd (aO Eh (bK (aa ai ao)) (aO cS (lz T.dk (pv 3)) ai)))
(ah (dX bC rfl (rD (fc tL hr (aa (pv 0) (aa (pv 1) (aa (pv 2) ao))))) (gT (bR (gn 5 nd) (bR (gn 6 nd) fP)))
(ah (sv 7 nd (fc EZ hr (aa (aO eQ (pv 2) (kg (xl (kg (pv 0)) (pv 5)))) (aa (pv 3) ao))))
(av (jU (aO cS (xl (pv 4) (pv 7)) (pv 6)) (sO (pv 4) (pv 7) set_list)))))
(av (a6 (pv 4))))),?_⟩
  refine⟨(by show 1<=sizeLine; decide),fun p9 n9=>?_⟩;have t9:=ay.new (o:= .lst [V.int 0]) n9;have UP:(dj.map V.int).length=dj.length:=ae _;refine⟨_,rfl,pl,_,rfl,.inr (cy.of (t9 _ _ gQ)),_,_,rfl,rfl,p9,_,_,rfl,rfl,af,by lia,by lia,?_,fun ps BF=>?_⟩
  ·show 1 * _<=sizeLine;rw[UP,eX];lia
  have e2:(((dj.map V.int).length:Int) + 2).toNat=dj.length + 2:=by rw[UP]; lia
  rw[e2,Nx];have Dc:=ay.new (o:= .lst ((List.replicate (dj.length + 2) (0:Int)).map V.int)) BF;have DQ:=t9.trans Dc;have kQ:upd (upd H p9 (.lst [V.int 0])) ps (.lst ((List.replicate (dj.length + 2) (0:Int)).map V.int)) ps=some (.lst ((List.replicate (dj.length + 2) (0:Int)).map V.int)):=af;have QP:H ps=none:=t9.free BF;generalize upd (upd H p9 (.lst [V.int 0])) ps (.lst ((List.replicate (dj.length + 2) (0:Int)).map V.int))=H1 at DQ kQ;have Jh:=bp hT DQ;refine⟨_,rfl,_,rfl,_,rfl,pw,S,g,n,aJ,day,rfl,hW.same DQ,wf,hn,Jh,fun D ms H2 fr BA nD hD hP=>?_⟩;refine⟨D,rfl,⟨_,bD.of hD⟩,?_⟩;have nA: ∃q,H1 tb=some (.nA q):=let⟨q,e,_⟩:=Jh; ⟨q,e⟩
  have off: ∀{a:Addr} {o:HO},H1 a=some o->(∀q,o≠ .nA q)->H2 a=some o:=fun{a o} e hq=>fr _ _ (fun z=>by
   obtain⟨q,eq⟩:=nA;rw[au.mp z,eq] at e;exact hq q (aF e).symm) e
  have A6:=wO (hW.same DQ) nA fr;have QQ:=off kQ (fun _ z=>by cases z);have QR:=off (DQ _ _ gQ) (fun _ z=>by cases z);have fr0:Frame [tb] H H2:=fr.mF DQ;have A1: ∀t∈S.hZ true aJ day,t.1 < S.aG.length:=fun t ht=>Iu (aU:=true) ht;have hag:S.P1 aJ day dj=(S.hZ true aJ day).foldl (fun l t=>ui l (L2.placeOf (day - (S.bl t.1).b) dj) t.2) (List.replicate (dj.length + 2) 0):=rfl;rw[hag] at k;generalize S.hZ true aJ day=ts at hP A1 k;have hDp:D≠ps:=fun e=>by rw[e,kQ] at nD; cases nD
  refine eP (K:=K) (a:=D) (xs:=ms) (fun i σ H3=> ∃(l:List Int) (x5 x6 x7:Option V),σ=[some (.ref pw),some (.str aJ),some (.int day),some (.ref pl),some (.ref ps),x5,x6,x7]/\Frame [ps] H2 H3/\H3 ps=some (.lst (l.map V.int))/\l.length=dj.length + 2/\l=(ts.take i).foldl (fun l t=>ui l (L2.placeOf (day - (S.bl t.1).b) dj) t.2) (List.replicate (dj.length + 2) 0))
   ⟨_,none,none,none,rfl,Frame.refl,QQ,List.length_replicate,rfl⟩ (fun i σ H3 _ ⟨_,_,_,_,_,f3,_⟩=>bD.of (f3 _ _ (by simpa using hDp) hD)) ?_ ?_
  ·rintro i x σ H3 hx ⟨l,x5,x6,x7,rfl,f3,RN,K3,he⟩;have Wv: ∀{a:Addr} {o:HO},H2 a=some o->(∀q,o≠ .lst q)->H3 a=some o:=fun{a o} e hq=>f3 _ _ (fun z=>by
    rw[au.mp z,QQ] at e;exact hq _ (aF e).symm) e
   have hi:i < ts.length:=by have:=(ak.mp hx).1; have:=aM hP; lia
   have qN:=ag hi;obtain⟨v,hv,p,rfl,hp⟩:=bL hP qN;rw[hx] at hv;obtain rfl:x= .ref p:=aF hv;have hm:=A1 _ (bN hi);rw[lX (fun l t=>ui l (L2.placeOf (day - (S.bl t.1).b) dj) t.2) ts _ qN,← he];generalize ts[i]=t at hp hm;obtain⟨dw,hw⟩:=A6.obj;obtain⟨q,q1,dq,q2⟩:=A6.rb.get hm;have YZ:g.pb∉[ps]:=fun z=>by
    have e:=hW.hb;rw[au.mp z,QP] at e;cases e
   have R4:=Wv hp (fun _ z=>by cases z);have hw3:=Wv hw (fun _ z=>by cases z);have hq3:=Wv q2 (fun _ z=>by cases z);have Y0:=Wv QR (fun _ z=>by cases z);refine⟨p,_,rfl,cy.of R4,rfl,_,_,rfl,_,_,rfl,rfl,?_⟩;refine⟨_,rfl,_,rfl,pw,_,dw,_,_,rfl,hw3,G.bG,G.dW,jk g,_,rfl,g.pb,_,_,.ref q,rfl,rfl,bD.of (f3 _ _ YZ A6.hb),cI (by rw[aE,q1]; rfl),q,_,dq,_,_,rfl,hq3,G.dZ,G.nW,KC _ _,_,_,rfl,rfl,_,rfl,_,pl,dj,rfl,Y0,Jf,fun H4 s4=>?_⟩;have hpo:=ER (day - (S.bl t.1).b) dj;have R5:=s4 _ _ RN;refine⟨_,rfl,_,rfl,ps,_,_,.int (l.getD (L2.placeOf (day - (S.bl t.1).b) dj) 0),rfl,rfl,bD.of R5,oa (by show L2.placeOf (day - (S.bl t.1).b) dj < _; lia),_,rfl,_,_,rfl,rfl,?_⟩;refine⟨_,rfl,_,rfl,ps,_,_,L2.placeOf (day - (S.bl t.1).b) dj,rfl,rfl,R5,u6 (by rw[ae]; show L2.placeOf (day - (S.bl t.1).b) dj < _; lia),?_⟩;refine⟨ui l (L2.placeOf (day - (S.bl t.1).b) dj) t.2,_,_,_,rfl,(f3.cA s4).tr (Frame.upd (by simp)),?_,?_,rfl⟩
   ·rw[af];unfold ui;rw[List.map_set]
   ·rw[Iw]; exact K3
  ·rintro σ H3 ⟨l,x5,x6,x7,rfl,f3,RN,K3,he⟩;rw[← aM hP,bb] at he;rw[he] at RN;refine⟨_,rfl,k ps H3 (fun b o hb e=>f3 b o (fun z=>by rw[au.mp z,QP] at e; cases e) (fr0 b o hb e)) ?_ QP RN⟩;obtain⟨q,e1,Tj,e3⟩:=BA;have kx: ∀{a:Addr} {o:HO},H2 a=some o->(∀q,o≠ .lst q)->H3 a=some o:=fun{a o} e hq=>f3 _ _ (fun z=>by
    rw[au.mp z,QQ] at e;exact hq _ (aF e).symm) e
   refine⟨q,kx e1 (fun _ z=>by cases z),Tj,?_⟩;rcases e3 with e3|⟨c',e3,e4⟩
   ·exact .inl e3
   ·exact .inr ⟨c',e3,kx e4 (fun _ z=>by cases z)⟩
def eU (pk pw:Addr):List (Str×V):=[("kept",.ref pk),("work",.ref pw)]
def vh (pk pw:Addr):(eU pk pw).lookup ("kept":Str)=some (V.ref pk):=by rfl
def sh (pk pw:Addr):(eU pk pw).lookup ("work":Str)=some (V.ref pw):=by rfl
def K4 (pk pw:Addr):eF "work" (.ref pw) (eF "kept" (.ref pk) [])=eU pk pw:=by rfl
inductive vi (A:dU)(vs:List V)(H:Hp)(Q:VK)(E':XK):Prop
 |mk (x dx:Addr)(h1:vs=[.ref x])(h2:H x=some (.ins A.book dx []))(h3: ∀pk pw f H',Frame [x] H H'->H' x=some (.ins A.book dx (eU pk pw))->H' pk=some (.dK [])->dM A H' pw Bk.new f->H pk=none->H pw=none->(∀b∈f.fp,H b=none)->pk∉f.fp->Q .en H'):vi A vs H Q E'
def NA:aV ["self"] ["self"] (aA (mem 29 0)):={}
def K5 {A:dU}(G:jA K mg A):tH P w K mg base "Book" A.book 3 ["self"] (vi A):=by
 have E1:tH P w K mg base "Work" A.work 1 ["self"] (vc A):=KY G;refine Ni (k:=2) G.Ng G.Nf NA (fun f cV A' outer s H vs Q E hr h=>?_)
 ·obtain⟨x,dx,rfl,hx,k⟩:=h;refine⟨_,(ah (mE (pv 0) vF) (av (mE (pv 0) (Ge E1 (hr.mono (by decide)) rfl)))),?_⟩;intro pk nk;have ne1:pk≠x:=(aI hx nk).symm;refine⟨_,rfl,x,_,dx,_,rfl,ay.new nk _ _ hx,G.eI,G.gH,lt1000 C1 (by decide),?_⟩;have F1:Frame [x] H (upd (upd H pk (.dK [])) x (.ins A.book dx (eF "kept" (.ref pk) []))):=(ay.new nk).frame.tr (Frame.upd (by simp));have g1:upd (upd H pk (.dK [])) x (.ins A.book dx (eF "kept" (.ref pk) [])) x=some (.ins A.book dx (eF "kept" (.ref pk) [])):=af;have k1:upd (upd H pk (.dK [])) x (.ins A.book dx (eF "kept" (.ref pk) [])) pk=some (.dK []):=by rw[aB ne1,af]
  generalize upd (upd H pk (.dK [])) x (.ins A.book dx (eF "kept" (.ref pk) []))=H1 at F1 g1 k1 ⊢;intro xw Y1 NB QS ne;have s2:=jS (C:=A.work) (fs:=[]) NB QS ne;refine⟨xw,Y1,rfl,af,fun g H3 Mo W3 nf=>⟨rfl,?_⟩⟩;have Y2:x≠xw:=aI g1 NB;have nek:pk≠xw:=aI k1 NB;have g3:=Mo _ _ (by simpa using Y2) (s2 _ _ g1);have k3:=Mo _ _ (by simpa using nek) (s2 _ _ k1);refine⟨_,rfl,x,_,dx,_,rfl,g3,G.eI,G.fS,lt1000 (pl C1) (by decide),?_⟩;rw[K4];have fw: ∀b∈g.fp,H1 b=none:=fun b hb=>s2.free (nf b hb);have off: ∀b,H1 b=none->b≠x->H b=none:=fun b e n=>F1.free (by simpa using n) e;have xf:x∉g.fp:=fun z=>by have:=fw x z; rw[g1] at this; cases this
  have UQ:dM A (upd H3 x (.ins A.book dx (eU pk xw))) xw Bk.new g:=by
   obtain⟨dw,hw⟩:=W3.obj;obtain⟨ms,m1,m2⟩:=W3.hm;have nx: ∀p∈g.fp,p≠x:=fun p hp z=>xf (z▸hp);refine⟨⟨dw,by rw[aB Y2.symm]; exact hw⟩,by rw[aB (nx _ (by simp[eM.fp]))]; exact W3.hb,by rw[aB (nx _ (by simp[eM.fp]))]; exact W3.hc,by rw[aB (nx _ (by simp[eM.fp]))]; exact W3.hl,by rw[aB (nx _ (by simp[eM.fp]))]; exact W3.hf,⟨ms,by rw[aB (nx _ (by simp[eM.fp]))]; exact m1,?_⟩,?_,?_,W3.nd⟩
   ·cases m2;exact .nil
   ·exact⟨W3.rb.1,fun i p e=>by have:=(ak.mp e).1; have h0:=W3.rb.1; rw[h0] at this; exact absurd this (iO _)⟩
   ·exact⟨W3.rc.1,fun i p e=>by have:=(ak.mp e).1; have h0:=W3.rc.1; rw[h0] at this; exact absurd this (iO _)⟩
  refine k pk xw g _ ?_ af (by rw[aB ne1]; exact k3) UQ nk (off xw NB Y2.symm) (fun b hb=>off b (fw b hb) (fun z=>xf (z▸hb))) (fun z=>by have:=fw pk z; rw[k1] at this; cases this);intro b o hb e;have bx:b≠x:=by simpa using hb
  rw[aB bx];have e1:=F1 b o hb e;exact Mo b o (by simpa using aI e1 NB) (s2 b o e1)
def A7 (r:List Bool):Dt:= .lst (r.map Dt.bl)
def K6 (t:Nat×Nat×Int):Dt:= .tup [.int t.1,.int t.2.1,.int t.2.2]
def ie (fs ls:List Int)(al:List (List Bool)): ∀i,(bW fs ls al i).2.length<=i
 |0=>aD _
 |i + 1=>by
  have:=ie fs ls al i;unfold bW;split
  ·lia
  ·rw[ax]; show _ + 1<=_; lia
def Y3:Option Nat->V
 |none=> .en
 |some j=> .int j
def qC (bf:List (Key×V))(j:Nat):Bool:=(fQ bf (Sum.inl (j:Int):Key)).isSome
inductive A8 (K:Frag)(vs:List V)(H:Hp)(Q:VK)(E':XK):Prop
 |mk (f:Int)(pl:Addr)(ls:List Int)(pr:Addr)(row:List Bool)(pt:Addr)(bf:List (Key×V))(h1:vs=[.int f,.ref pl,.ref pr,.ref pt])(h2:bD K H pl (ls.map V.int))(h3:bD K H pr (row.map V.bl))(h4:row.length=ls.length)(h5:H pt=some (.dK bf))(h6: ∀H',ay H H'->Q (Y3 (g6 f ls row (qC bf))) H'):A8 K vs H Q E'
def oB (H:Hp)(ms:List (Nat×Nat×Int))(vs:List V):Prop:=Paired (fun(t:Nat×Nat×Int) v=> ∃p,v= .ref p/\H p=some (.tup [.int t.1,.int t.2.1,.int t.2.2])) ms vs
def oB.mono {H H':Hp}{ms:List (Nat×Nat×Int)}{vs:List V}(h:oB H ms vs)(k: ∀b xs,H b=some (.tup xs)->H' b=some (.tup xs)):oB H' ms vs:=
 Paired.iu h fun _ _ ⟨p,e,q⟩=>⟨p,e,k _ _ q⟩
def oB.rp {H:Hp}: ∀{ms:List (Nat×Nat×Int)} {vs:List V},oB H ms vs->gX H (ms.map K6) vs
 |_,_,.nil=>cJ.mpr rfl
 |_,_,.cons ⟨p,e,q⟩ t=>bw.mpr ⟨_,_,rfl,e▸dC q (bw.mpr ⟨_,_,rfl,dE.mpr rfl,bw.mpr ⟨_,_,rfl,dE.mpr rfl,bw.mpr ⟨_,_,rfl,dE.mpr rfl,cJ.mpr rfl⟩⟩⟩),oB.rp t⟩
def NC {H:Hp}{p:Addr}{o:HO}{bf:List (Key×V)}(h:H p=some (.dK bf)): ∀b xs,H b=some (.tup xs)->upd H p o b=some (.tup xs):=fun b xs e=>by
 rw[aB (mN e h (by intro z; cases z))]; exact e
def oC:aV ["free","lefts","fitting","taken","bill","left"] ["free","lefts","fitting","taken"] (aA (top 21)):={}
def yq (T:Txt K mg):eO P w K mg base "first_alike" 1 ["free","lefts","fitting","taken"] (A8 K):=by
 refine T.xR.fb (k:=0) oC (fun f cV A outer s H vs Q E hr h=>?_)
 ·obtain⟨fr,pl,ls,pr,row,pt,bf,rfl,hL,hR,Ci,hT,k⟩:=h;have hu:=jy hr;have nd:=oC.nd;refine⟨_,(ah (dX bC rfl (ra rfl T.jj (aa (pv 1) ao)) (gT (bR (gn 4 nd) (bR (gn 5 nd) fP)))
(av (bP (PW.pt (pw_and (gf (xl (pv 2) (pv 4))) (pw_and (aY cU (pv 5) (pv 0) (a8 _)) (pw_and1 (zK (G9 hu (pv 4) (pv 3)))))))
(av (a6 (pv 4)))
bh)))
(av (a6 D3))),?_⟩
  refine⟨_,rfl,pl,rfl,⟨_,hL⟩,?_⟩;refine nM (K:=K) (a:=pl) (xs:=ls.map V.int) (fun i σ H2=> ∃x4 x5,σ=[some (.int fr),some (.ref pl),some (.ref pr),some (.ref pt),x4,x5]/\ay H H2/\ ∀j,j < i->(row.getD j false && decide (ls.getD j 0=fr) && !qC bf j)=false)
   ⟨none,none,rfl,ay.refl _,fun j hj=>absurd hj (iO _)⟩ (fun i σ H2 _ ⟨_,_,_,s2,_⟩=>s2.seq hL) ?_ ?_
  ·rintro i x p σ H2 hx hp ⟨x4,x5,rfl,s2,UR⟩;have hi:i < ls.length:=by have:=(ak.mp hx).1; rwa [ae] at this
   rw[aE,ag hi] at hx;obtain rfl:V.int ls[i]=x:=aF hx;have s3:ay H2 (upd H2 p (.tup [.int i,.int ls[i]])):=ay.new hp;refine⟨p,_,rfl,cy.of af,rfl,_,_,rfl,_,_,rfl,rfl,?_⟩;have s4:=s2.trans s3;generalize upd H2 p (.tup [.int i,.int ls[i]])=H3 at s4 ⊢;have US:i < row.length:=by lia
   have K7:ls.getD i 0=ls[i]:=by rw[aj,ag hi]; rfl
   have UT:row.getD i false=row[i]:=by rw[aj,ag US]; rfl
   have next:(row.getD i false && decide (ls.getD i 0=fr) && !qC bf i)=false-> ∀j,j < i + 1->(row.getD j false && decide (ls.getD j 0=fr) && !qC bf j)=false:=fun e j hj=>by
    rcases Nat.lt_succ_iff_lt_or_eq.mp hj with h|h
    ·exact UR j h
    ·rw[h]; exact e
   refine⟨_,rfl,_,rfl,pr,_,_,.bl row[i],rfl,rfl,s4.seq hR,cI (by rw[aE,ag US]; rfl),_,rfl,?_⟩;refine cE (fun c1=>?_) (fun c1=>bV ?_)
   ·refine⟨_,rfl,_,rfl,rfl,_,rfl,cE (fun c2=>?_) (fun c2=>bV ?_)⟩
    ·have UU:ls[i]=fr:=by have:=aS c2; injection this
     refine⟨_,rfl,_,rfl,pt,_,rfl,lu.k (k:=Sum.inl (i:Int)) (s4 _ _ hT),_,rfl,cE (fun c3=>?_) (fun c3=>?_)⟩
     ·
      refine⟨_,rfl,?_⟩;have e:g6 fr ls row (qC bf)=some i:=by
       unfold g6;refine List.find?_range_eq_some.mpr ⟨?_,dz.mpr hi,fun j hj=>?_⟩
       ·rw[UT,K7,c1,UU];simpa[qC] using c3
       ·rw[UR j hj]; rfl
      have q:=k H3 s4;rw[e] at q;exact q
     ·refine⟨_,_,rfl,s4,next ?_⟩;have c3':qC bf i=true:=by
       unfold qC;cases h:(fQ bf (Sum.inl (i:Int):Key)).isSome with
       |true=>rfl
       |false=>rw[h] at c3; exact absurd rfl c3
      rw[c3']; simp
    ·have UU: ¬ ls[i]=fr:=fun z=>c2 (aH (by rw[z]));refine⟨_,_,rfl,s4,next ?_⟩;rw[K7,decide_eq_false UU]; simp
   ·refine⟨_,_,rfl,s4,next ?_⟩;rw[UT,Bool.eq_false_iff.mpr c1]; rfl
  ·rintro σ H2 ⟨x4,x5,rfl,s2,UR⟩;rw[ae] at UR;have e:g6 fr ls row (qC bf)=none:=by
    unfold g6;refine List.find?_eq_none.mpr fun j hj=>?_;rw[UR j (dz.mp hj)];exact aX
   have q:=k H2 s2;rw[e] at q;exact q
inductive wR (K:Frag)(vs:List V)(H:Hp)(Q:VK)(E':XK):Prop
 |mk (pf pl pa:Addr)(fs ls:List Int)(al:List (List Bool))(h1:vs=[.ref pf,.ref pl,.ref pa])(h2:bD K H pf (fs.map V.int))(h3:bD K H pl (ls.map V.int))(h4:Rp H (.lst (al.map A7)) (.ref pa))(h5:fs.length<=1000)(h6:al.length=fs.length)(h7:(∀r∈al,r.length=ls.length))(h8: ∀v H',ay H H'->Rp H' (.lst ((bW fs ls al fs.length).2.map K6)) v->Q v H'):wR K vs H Q E'
def Dk:aV ["frees","lefts","allowed","taken","made","credit","free","bill"] ["frees","lefts","allowed"] (aA (top 20)):={}
def ND (T:Txt K mg):eO P w K mg base "alike" 2 ["frees","lefts","allowed"] (wR K):=by
 have yr:eO P w K mg base "first_alike" 1 ["free","lefts","fitting","taken"] (A8 K):=yq T;refine T.M3.fb (k:=1) Dk (fun f cV A outer s H vs Q E hr h=>?_)
 ·obtain⟨pf,pl,pa,fs,ls,al,rfl,hF,hL,hA,hf1,X1,K8,k⟩:=h;have hu:=jy hr;have nd:=Dk.nd;obtain⟨pa',refs,e0,Y4,DT⟩:=jZ.mp hA;cases e0;refine⟨_,(ah (sv 3 nd vF)
(ah (sv 4 nd (bK ao))
(ah (dX bC rfl (ra rfl T.jj (aa (pv 0) ao)) (gT (bR (gn 5 nd) (bR (gn 6 nd) fP)))
(ah (sv 7 nd (fc yr hr (aa (pv 6) (aa (pv 1) (aa (xl (pv 2) (pv 5)) (aa (pv 3) ao))))))
(av (bP (zK (Mj (pv 7)))
(ah (zU hu (pv 3) (pv 7) mP rfl)
(av (bM (qv (pv 4) (cg (aa (pv 5) (aa (pv 7) (aa (pv 6) ao))))))))
bh))))
(av (a6 (pv 4)))))),?_⟩
  intro pt nt;refine⟨bu _,fun pm nm=>?_⟩;have s1:ay H (upd H pt (.dK [])):=ay.new nt;have s2:ay H (upd (upd H pt (.dK [])) pm (.lst [])):=s1.trans (ay.new nm);have Y5:H pm=none:=s1.free nm;have OE:pt≠pm:=aI af nm;refine⟨_,rfl,pf,rfl,⟨_,s2.seq hF⟩,?_⟩;refine nM (K:=K) (a:=pf) (xs:=fs.map V.int) (fun i σ H2=> ∃x5 x6 x7 bf ms,σ=[some (.ref pf),some (.ref pl),some (.ref pa),some (.ref pt),some (.ref pm),x5,x6,x7]/\ay H H2/\H2 pt=some (.dK bf)/\(∀j:Nat,qC bf j=(bW fs ls al i).1 j)/\bf.length<=i/\H2 pm=some (.lst ms)/\oB H2 (bW fs ls al i).2 ms)
   ⟨none,none,none,[],[],rfl,s2,by rw[aB OE]; exact af,fun j=>rfl,aD _,af,.nil⟩ (fun i σ H2 _ ⟨_,_,_,_,_,_,s3,_⟩=>s3.seq hF) ?_ ?_
  ·rintro i x p σ H2 hx hp ⟨x5,x6,x7,bf,ms,rfl,s3,hT,ni,DO,hM,Dl⟩;have hi:i < fs.length:=by have:=(ak.mp hx).1; rwa [ae] at this
   rw[aE,ag hi] at hx;obtain rfl:V.int fs[i]=x:=aF hx;have s4:ay H2 (upd H2 p (.tup [.int i,.int fs[i]])):=ay.new hp;refine⟨p,_,rfl,cy.of af,rfl,_,_,rfl,_,_,rfl,rfl,?_⟩;have s5:=s3.trans s4;have E2:=s4 _ _ hT;have sj:=s4 _ _ hM;have E3:=Dl.mono (f7 s4);generalize upd H2 p (.tup [.int i,.int fs[i]])=H3 at s5 E2 sj E3 ⊢;clear s4 hp;have UW:i < al.length:=by lia
   have g0:(al.map A7)[i]? =some (A7 al[i]):=by rw[aE,ag UW]; rfl
   obtain⟨rv,Ww,Wx⟩:=DT.get g0;obtain⟨pr,Y6,e1,L1,zl⟩:=jZ.mp Wx;subst e1;have hrx:Y6=al[i].map V.bl:=by
    clear L1 Ww Wx;generalize al[i]=r at zl
    induction r generalizing Y6 with
    |nil=>exact cJ.mp zl
    |cons b r ih=>
     obtain⟨v,rest,e,h1,h2⟩:=bw.mp zl;rw[e,rh.mp h1,ih rest h2]; rfl
   subst hrx;have Y7:fs.getD i 0=fs[i]:=by rw[aj,ag hi]; rfl
   have Y8:al.getD i []=al[i]:=by rw[aj,ag UW]; rfl
   refine⟨_,rfl,_,rfl,_,rfl,_,rfl,pa,_,_,.ref pr,rfl,rfl,bD.of (s5 _ _ Y4),cI Ww,_,rfl,fs[i],pl,ls,pr,al[i],pt,bf,rfl,s5.seq hL,bD.of (s5 _ _ L1),K8 _ (bN _),E2,fun H4 s6=>?_⟩;have etk:qC bf=(bW fs ls al i).1:=funext ni;have sE:bW fs ls al (i + 1)=match g6 fs[i] ls al[i] (qC bf) with
     |none=>bW fs ls al i
     |some j=>(fun x=>x == j || (bW fs ls al i).1 x,(bW fs ls al i).2 ++ [(i,j,fs[i])]):=by
    rw[etk,← Y7,← Y8]; rfl
   cases hb:g6 fs[i] ls al[i] (qC bf) with
   |none=>
    rw[hb] at sE;refine⟨_,rfl,_,rfl,bV ?_⟩;refine⟨_,_,_,bf,ms,rfl,s5.trans s6,s6 _ _ E2,?_,by lia,s6 _ _ sj,?_⟩
    ·intro j; rw[sE]; exact ni j
    ·rw[sE]; exact E3.mono (f7 s6)
   |some j=>
    rw[hb] at sE;refine⟨_,rfl,_,rfl,fH ?_⟩;have R6:=s6 _ _ E2;have wU:=s6 _ _ sj;refine⟨_,rfl,_,rfl,pt,_,rfl,Ei.k (k:=Sum.inl (j:Int)) R6 (a9 (by lia)),?_⟩;have K9:upd H4 pt (.dK (putK bf (Sum.inl (j:Int):Key) (.bl true))) pm=some (.lst ms):=by rw[aB OE.symm]; exact wU
    have BC:=(E3.length);have R7:=ie fs ls al i;have s7:ay H (upd H4 pt (.dK (putK bf (Sum.inl (j:Int):Key) (.bl true)))):=(s5.trans s6).cW nt;have E4:oB (upd H4 pt (.dK (putK bf (Sum.inl (j:Int):Key) (.bl true)))) (bW fs ls al i).2 ms:=(E3.mono (f7 s6)).mono (NC R6);have IA:upd H4 pt (.dK (putK bf (Sum.inl (j:Int):Key) (.bl true))) pt=some (.dK (putK bf (Sum.inl (j:Int):Key) (.bl true))):=af;generalize upd H4 pt (.dK (putK bf (Sum.inl (j:Int):Key) (.bl true)))=H5 at K9 s7 E4 IA ⊢;refine⟨_,rfl,.inl ⟨rfl,_,bD.of K9⟩,_,rfl,_,rfl,_,rfl,(by show 3<=sizeLine; decide),fun p8 n8=>?_⟩;have s8:ay H5 (upd H5 p8 (.tup [.int i,.int j,.int fs[i]])):=ay.new n8;refine⟨pm,ms,_,rfl,rfl,s8 _ _ K9,a9 (by lia),?_⟩;refine⟨_,_,_,putK bf (Sum.inl (j:Int):Key) (.bl true),ms ++ [.ref p8],rfl,(s7.trans s8).cW Y5,?_,fun x=>?_,?_,af,?_⟩
    ·rw[aB OE]; exact s8 _ _ IA
    ·rw[sE];unfold qC;rw[Ca];by_cases hx:x=j
     ·subst hx; simp
     ·have: ¬ (Sum.inl (x:Int):Key)=Sum.inl (j:Int):=fun z=>hx (by injection z with z; lia);rw[aQ this];have h2:=ni x;unfold qC at h2;rw[h2];simp[hx]
    ·have:=jg bf (Sum.inl (j:Int):Key) (.bl true);lia
    ·rw[sE];exact cG ((E4.mono (f7 s8)).mono (dI (s8 _ _ K9))) ⟨p8,rfl,dI (s8 _ _ K9) _ _ af⟩
  ·rintro σ H2 ⟨x5,x6,x7,bf,ms,rfl,s3,hT,ni,DO,hM,Dl⟩;rw[ae] at Dl;refine⟨_,rfl,?_⟩;exact k _ _ s3 (gj hM Dl.rp)
def cQ (fs ls:List Int)(al:List (List Bool))(i:Nat):List (Nat×Int):=(bH (fs.getD i 0) (cv fs ls al i).1 (al.getD i []) (cv fs ls al i).1.length).2
def Dm (fs ls:List Int)(al:List (List Bool))(i:Nat):(cv fs ls al (i + 1)).1=dO (cv fs ls al i).1 (cQ fs ls al i):=rfl
def uy (fs ls:List Int)(al:List (List Bool))(i:Nat):(cv fs ls al (i + 1)).2=(cv fs ls al i).2 ++ (cQ fs ls al i).map fun x=>(i,x.1,x.2):=rfl
def QT (H:Hp)(ps:List (Nat×Int))(vs:List V):Prop:=Paired (fun(t:Nat×Int) v=> ∃p,v= .ref p/\H p=some (.tup [.int t.1,.int t.2])) ps vs
def QT.mono {H H':Hp}{ps:List (Nat×Int)}{vs:List V}(h:QT H ps vs)(k: ∀b xs,H b=some (.tup xs)->H' b=some (.tup xs)):QT H' ps vs:=
 Paired.iu h fun _ _ ⟨p,e,q⟩=>⟨p,e,k _ _ q⟩
def gx (f:Int)(l:List Int)(row:List Bool): ∀j,(bH f l row j).2.length<=j
 |0=>aD _
 |j + 1=>by
  have:=gx f l row j;rw[bH];split
  ·rw[ax]; show _ + 1<=_; lia
  ·lia
inductive A9 (K:Frag)(vs:List V)(H:Hp)(Q:VK)(E':XK):Prop
 |mk (f:Int)(pl:Addr)(ls:List Int)(pr:Addr)(row:List Bool)(h1:vs=[.int f,.ref pl,.ref pr])(h2:bD K H pl (ls.map V.int))(h3:bD K H pr (row.map V.bl))(h4:row.length=ls.length)(h5:ls.length<=100)(h6: ∀(q:Addr) (ms:List V) (H':Hp),ay H H'->H q=none->H' q=some (.lst ms)->QT H' (bH f ls row ls.length).2 ms->Q (.ref q) H'):A9 K vs H Q E'
def uz:aV ["free","lefts","fitting","still_free","parts","bill","left","amount"] ["free","lefts","fitting"] (aA (top 23)):={}
def E5 (T:Txt K mg):eO P w K mg base "parts_of" 1 ["free","lefts","fitting"] (A9 K):=by
 refine T.Ez.fb (k:=0) uz (fun f cV A outer s H vs Q E hr h=>?_)
 ·obtain⟨fr,pl,ls,pr,row,rfl,hL,hR,Ci,Qz,k⟩:=h;have hu:=jy hr;have nd:=uz.nd;refine⟨_,(ah (sv 3 nd (pv 0))
(ah (sv 4 nd (bK ao))
(ah (dX bC rfl (ra rfl T.jj (aa (pv 1) ao)) (gT (bR (gn 5 nd) (bR (gn 6 nd) fP)))
(ah (sv 7 nd (fk (sR rfl) (by rfl) T.Kv boot_min (aa (pv 3) (aa (pv 6) ao))))
(av (bP (PW.pt (pw_and (gf (xl (pv 2) (pv 5))) (pw_and1 (aY je (pv 7) ai (a8 _)))))
(ah (bM (qv (pv 4) (cg (aa (pv 5) (aa (pv 7) ao)))))
(av (sv 3 nd (aO eQ (pv 3) (pv 7)))))
bh))))
(av (a6 (pv 4)))))),?_⟩
  refine⟨_,rfl,?_⟩;refine⟨bu _,fun q nq=>?_⟩;have s1:ay H (upd H q (.lst [])):=ay.new nq;refine⟨_,rfl,pl,rfl,⟨_,s1.seq hL⟩,?_⟩;refine nM (K:=K) (a:=pl) (xs:=ls.map V.int) (fun i σ H2=> ∃(x5 x6 x7:Option V) (ms:List V),σ=[some (.int fr),some (.ref pl),some (.ref pr),some (.int (bH fr ls row i).1),some (.ref q),x5,x6,x7]/\ay H H2/\H2 q=some (.lst ms)/\QT H2 (bH fr ls row i).2 ms)
   ⟨none,none,none,[],rfl,s1,af,.nil⟩ (fun i σ H2 _ ⟨_,_,_,_,_,s2,_⟩=>s2.seq hL) ?_ ?_
  ·rintro i x p σ H2 hx hp ⟨x5,x6,x7,ms,rfl,s2,hM,hP⟩;have hi:i < ls.length:=by have:=(ak.mp hx).1; rwa [ae] at this
   rw[aE,ag hi] at hx;obtain rfl:V.int ls[i]=x:=aF hx;have s3:ay H2 (upd H2 p (.tup [.int i,.int ls[i]])):=ay.new hp;refine⟨p,_,rfl,cy.of af,rfl,_,_,rfl,_,_,rfl,rfl,?_⟩;have s4:=s2.trans s3;have R8:=s3 _ _ hM;have Y9:=hP.mono (f7 s3);generalize upd H2 p (.tup [.int i,.int ls[i]])=H3 at s4 R8 Y9 ⊢;have US:i < row.length:=by lia
   have K7:ls.getD i 0=ls[i]:=getD_at hi;have UT:row.getD i false=row[i]:=getD_at US;have hlen:ms.length<=i:=by have:=hP.length; have:=gx fr ls row i; lia
   refine⟨_,rfl,_,rfl,_,_,rfl,?_⟩;have em:(if ls[i] < (bH fr ls row i).1 then ls[i] else(bH fr ls row i).1)=gq (bH fr ls row i).1 (ls.getD i 0):=by rw[K7]; rfl
   rw[em];have sE:bH fr ls row (i + 1)=if row.getD i false=true/\0 < gq (bH fr ls row i).1 (ls.getD i 0) then((bH fr ls row i).1 - gq (bH fr ls row i).1 (ls.getD i 0),(bH fr ls row i).2 ++ [(i,gq (bH fr ls row i).1 (ls.getD i 0))]) else bH fr ls row i:=by rw[bH]
   generalize gq (bH fr ls row i).1 (ls.getD i 0)=am at sE ⊢;have no: ¬ (row.getD i false=true/\0 < am)-> ∃(x5 x6 x7:Option V) (ms:List V),[some (.int fr),some (.ref pl),some (.ref pr),some (.int (bH fr ls row i).1),some (.ref q),some (V.int i),some (V.int ls[i]),some (V.int am)]=[some (.int fr),some (.ref pl),some (.ref pr),some (.int (bH fr ls row (i + 1)).1),some (.ref q),x5,x6,x7]/\ay H H3/\H3 q=some (.lst ms)/\QT H3 (bH fr ls row (i + 1)).2 ms:=fun c=>by
    rw[sE,aQ c];exact⟨_,_,_,ms,rfl,s4,R8,Y9⟩
   refine⟨_,rfl,_,rfl,pr,_,_,.bl row[i],rfl,rfl,s4.seq hR,cI (by rw[aE,ag US]; rfl),_,rfl,?_⟩;refine cE (fun c1=>?_) (fun c1=>bV ?_)
   ·refine⟨_,rfl,_,_,rfl,rfl,_,rfl,cE (fun c2=>?_) (fun c2=>?_)⟩
    ·have UU:0 < am:=aS c2;rw[a0 ⟨by rw[UT]; exact c1,UU⟩] at sE;refine⟨_,rfl,.inl ⟨rfl,_,bD.of R8⟩,_,rfl,_,rfl,(by show 2<=sizeLine; decide),fun p8 n8=>?_⟩;have s8:ay H3 (upd H3 p8 (.tup [.int i,.int am])):=ay.new n8;refine⟨q,ms,_,rfl,rfl,s8 _ _ R8,a9 (by lia),?_⟩;refine⟨_,rfl,_,rfl,_,_,rfl,rfl,?_⟩;refine⟨_,_,_,ms ++ [.ref p8],by rw[sE]; rfl,(s4.trans s8).cW nq,af,?_⟩;rw[sE];exact cG ((Y9.mono (f7 s8)).mono (dI (s8 _ _ R8))) ⟨p8,rfl,dI (s8 _ _ R8) _ _ af⟩
    ·exact no fun z=>c2 (aH z.2)
   ·exact no fun z=>c1 (by rw[← UT]; exact z.1)
  ·rintro σ H2 ⟨x5,x6,x7,ms,rfl,s2,hM,hP⟩;rw[ae] at hP;refine⟨_,rfl,?_⟩;exact k _ _ _ s2 nq hM hP
def qD (f:Int)(l:List Int)(row:List Bool): ∀j,∀x∈(bH f l row j).2,x.1 < j
 |0,x,hx=>by cases hx
 |j + 1,x,hx=>by
  rw[bH] at hx;split at hx
  ·rcases bg.mp hx with hx|hx
   ·have:=qD f l row j x hx; lia
   ·rw[au] at hx; subst hx; exact fY _
  ·have:=qD f l row j x hx; lia
def Dn (fs ls:List Int)(al:List (List Bool)): ∀i,(cv fs ls al i).2.length<=i * ls.length
 |0=>by show 0<=_; lia
 |i + 1=>by
  have:=Dn fs ls al i;have h2:=gx (fs.getD i 0) (cv fs ls al i).1 (al.getD i []) (cv fs ls al i).1.length;rw[uy,ax,ae,xy];unfold cQ;rw[jP] at h2 ⊢;lia
inductive wV (K:Frag)(vs:List V)(H:Hp)(Q:VK)(E':XK):Prop
 |mk (pf pl pa:Addr)(fs ls:List Int)(al:List (List Bool))(h1:vs=[.ref pf,.ref pl,.ref pa])(h2:bD K H pf (fs.map V.int))(h3:bD K H pl (ls.map V.int))(h4:Rp H (.lst (al.map A7)) (.ref pa))(h5:fs.length<=63)(h6:ls.length<=63)(h7:al.length=fs.length)(h8:(∀r∈al,r.length=ls.length))(h9: ∀(pm:Addr) (ms:List V) (H':Hp),ay H H'->H' pm=some (.lst ms)->oB H' (cv fs ls al fs.length).2 ms->Q (.ref pm) H'):wV K vs H Q E'
def Gu {H:Hp}: ∀(r:List Bool) {xs:List V},gX H (r.map Dt.bl) xs->xs=r.map V.bl
 |[],_,h=>cJ.mp h
 |b :: r,_,h=>by
  obtain⟨v,rest,e,h1,h2⟩:=bw.mp h;rw[e,rh.mp h1,Gu r h2]; rfl
def QU {H:Hp}{al:List (List Bool)}{refs:List V}(h:gX H (al.map A7) refs){i:Nat}(hi:i < al.length): ∃pr,refs[i]? =some (.ref pr)/\H pr=some (.lst (al[i].map V.bl)):=by
 have g0:(al.map A7)[i]? =some (A7 al[i]):=by rw[aE,ag hi]; rfl
 obtain⟨rv,Ww,Wx⟩:=h.get g0;obtain⟨pr,Y6,e1,L1,zl⟩:=jZ.mp Wx;rw[Gu _ zl] at L1;exact⟨pr,by rw[Ww,e1],L1⟩
def pN:aV ["frees","lefts","allowed","still_left","made","credit","free","parts","bill","amount"] ["frees","lefts","allowed"] (aA (top 22)):={}
def Ba (T:Txt K mg):eO P w K mg base "shared_out" 2 ["frees","lefts","allowed"] (wV K):=by
 have E6:eO P w K mg base "parts_of" 1 ["free","lefts","fitting"] (A9 K):=E5 T;refine T.Ae.fb (k:=1) pN (fun f cV A outer s H vs Q E hr h=>?_)
 ·obtain⟨pf,pl,pa,fs,ls,al,rfl,hF,hL,hA,hf1,Qz,X1,K8,k⟩:=h;have hu:=jy hr;have nd:=pN.nd;obtain⟨pa',refs,e0,Y4,DT⟩:=jZ.mp hA;cases e0;refine⟨_,(ah (sv 3 nd (fZ mj (by rfl) T.nS Fn (aa (pv 1) ao)))
(ah (sv 4 nd (bK ao))
(ah (dX bC rfl (ra rfl T.jj (aa (pv 0) ao)) (gT (bR (gn 5 nd) (bR (gn 6 nd) fP)))
(ah (sv 7 nd (fc E6 hr (aa (pv 6) (aa (pv 3) (aa (xl (pv 2) (pv 5)) ao)))))
(av (dX bC rfl (rD (pv 7)) (gT (bR (gn 8 nd) (bR (gn 9 nd) fP)))
(ah (jU (aO eQ (xl (pv 3) (pv 8)) (pv 9)) (sO (pv 3) (pv 8) set_list))
(av (bM (qv (pv 4) (cg (aa (pv 5) (aa (pv 8) (aa (pv 9) ao))))))))))))
(av (a6 (pv 4)))))),?_⟩
  refine⟨_,rfl,pl,_,rfl,.inl hL,fun q nq=>?_⟩;refine⟨bu _,fun pm nm=>?_⟩;have s1:ay H (upd H q (.lst (ls.map V.int))):=ay.new nq;have s2:ay H (upd (upd H q (.lst (ls.map V.int))) pm (.lst [])):=s1.trans (ay.new nm);have Y5:H pm=none:=s1.free nm;have Za:q≠pm:=aI af nm;refine⟨_,rfl,pf,rfl,⟨_,s2.seq hF⟩,?_⟩;refine nM (K:=K) (a:=pf) (xs:=fs.map V.int) (fun i σ H2=> ∃(x5 x6 x7 x8 x9:Option V) (ms:List V),σ=[some (.ref pf),some (.ref pl),some (.ref pa),some (.ref q),some (.ref pm),x5,x6,x7,x8,x9]/\ay H H2/\H2 q=some (.lst ((cv fs ls al i).1.map V.int))/\H2 pm=some (.lst ms)/\oB H2 (cv fs ls al i).2 ms)
   ⟨none,none,none,none,none,[],rfl,s2,by rw[aB Za]; exact af,af,.nil⟩ (fun i σ H2 _ ⟨_,_,_,_,_,_,_,s3,_⟩=>s3.seq hF) ?_ ?_
  ·rintro i x p σ H2 hx hp ⟨x5,x6,x7,x8,x9,ms,rfl,s3,hQ,hM,Dl⟩;have hi:i < fs.length:=by have:=(ak.mp hx).1; rwa [ae] at this
   rw[aE,ag hi] at hx;obtain rfl:V.int fs[i]=x:=aF hx;have s4:ay H2 (upd H2 p (.tup [.int i,.int fs[i]])):=ay.new hp;refine⟨p,_,rfl,cy.of af,rfl,_,_,rfl,_,_,rfl,rfl,?_⟩;have s5:=s3.trans s4;have Wy:=s4 _ _ hQ;have sj:=s4 _ _ hM;have E3:=Dl.mono (f7 s4);generalize upd H2 p (.tup [.int i,.int fs[i]])=H3 at s5 Wy sj E3 ⊢;clear s4 hp;have UW:i < al.length:=by lia
   obtain⟨pr,Zb,La⟩:=QU DT UW;have Y7:fs.getD i 0=fs[i]:=getD_at hi;have Y8:al.getD i []=al[i]:=getD_at UW;have Jf:=jP fs ls al i;have QV:cQ fs ls al i=(bH fs[i] (cv fs ls al i).1 al[i] (cv fs ls al i).1.length).2:=by unfold cQ; rw[Y7,Y8]
   have abv:(cQ fs ls al i).length<=ls.length:=by rw[QV,Jf]; exact gx _ _ _ _
   have Zc: ∀x∈cQ fs ls al i,x.1 < ls.length:=by rw[QV,Jf]; exact qD _ _ _ _
   have R7:=Dn fs ls al i;have aek:(cv fs ls al i).2.length<=3969:=aR R7 (qQ (show i<=63 by lia) Qz);refine⟨_,rfl,_,rfl,_,rfl,_,rfl,pa,_,_,.ref pr,rfl,rfl,bD.of (s5 _ _ Y4),cI Zb,fs[i],q,(cv fs ls al i).1,pr,al[i],rfl,bD.of Wy,bD.of (s5 _ _ La),by rw[Jf]; exact K8 _ (bN _),by rw[Jf]; lia,fun r UX H4 s6 UY YF hP=>?_⟩;rw[← QV] at hP;have hQ5:=s6 _ _ Wy;have wU:=s6 _ _ sj;have Zd:=E3.mono (f7 s6);have hrq:r≠q:=(aI Wy UY).symm;have Tt:r≠pm:=(aI sj UY).symm;have s7:=s5.trans s6;have QR:UX.length=(cQ fs ls al i).length:=hP.length.symm;refine⟨_,rfl,r,rfl,⟨_,bD.of YF⟩,?_⟩;refine eP (K:=K) (a:=r) (xs:=UX) (fun m σ H5=> ∃(x8 x9:Option V) (ms:List V),σ=[some (.ref pf),some (.ref pl),some (.ref pa),some (.ref q),some (.ref pm),some (.int i),some (.int fs[i]),some (.ref r),x8,x9]/\ay H H5/\H5 q=some (.lst ((dO (cv fs ls al i).1 ((cQ fs ls al i).take m)).map V.int))/\H5 pm=some (.lst ms)/\oB H5 ((cv fs ls al i).2 ++ ((cQ fs ls al i).take m).map fun x=>(i,x.1,x.2)) ms/\H5 r=some (.lst UX)/\QT H5 (cQ fs ls al i) UX)
    ⟨_,_,ms,rfl,s7,hQ5,wU,by simpa using Zd,YF,hP⟩ (fun m σ H5 _ ⟨_,_,_,_,_,_,_,_,h,_⟩=>bD.of h) ?_ ?_
   ·rintro m x σ H5 hx ⟨y8,y9,UZ,rfl,t5,QW,K9,E4,OD,R3⟩;have hm:m < (cQ fs ls al i).length:=by have:=(ak.mp hx).1; lia
    have g0:(cQ fs ls al i)[m]? =some (cQ fs ls al i)[m]:=ag hm;obtain⟨v,hv,pp,e1,Jd⟩:=bL R3 g0;rw[hx] at hv;obtain rfl:x=v:=aF hv;subst e1;have hb:(cQ fs ls al i)[m].1 < ls.length:=Zc _ (bN _);have ni:=kP hm;have Tw:(dO (cv fs ls al i).1 ((cQ fs ls al i).take m)).length=ls.length:=by rw[qq,Jf]
    generalize (cQ fs ls al i)[m]=pt at Jd hb ni g0;obtain⟨b,am⟩:=pt;dsimp only at Jd hb;refine⟨pp,_,rfl,cy.of Jd,rfl,_,_,rfl,_,_,rfl,rfl,?_⟩;refine⟨_,rfl,_,rfl,q,_,_,_,rfl,rfl,bD.of QW,oa (by rw[Tw]; exact hb),_,rfl,_,_,rfl,rfl,_,rfl,_,rfl,q,_,_,b,rfl,rfl,QW,u6 (by rw[ae,Tw]; exact hb),?_⟩;rw[← List.map_set];have hap:dO (cv fs ls al i).1 ((cQ fs ls al i).take (m + 1))=(dO (cv fs ls al i).1 ((cQ fs ls al i).take m)).set b ((dO (cv fs ls al i).1 ((cQ fs ls al i).take m)).getD b 0 - am):=by rw[ni,ug]
    rw[← hap];have t6:ay H (upd H5 q (.lst ((dO (cv fs ls al i).1 ((cQ fs ls al i).take (m + 1))).map V.int))):=t5.cW nq;have ID:upd H5 q (.lst ((dO (cv fs ls al i).1 ((cQ fs ls al i).take (m + 1))).map V.int)) pm=some (.lst UZ):=by rw[aB Za.symm]; exact K9
    have hQ7:upd H5 q (.lst ((dO (cv fs ls al i).1 ((cQ fs ls al i).take (m + 1))).map V.int)) q=some (.lst ((dO (cv fs ls al i).1 ((cQ fs ls al i).take (m + 1))).map V.int)):=af;have hr7:upd H5 q (.lst ((dO (cv fs ls al i).1 ((cQ fs ls al i).take (m + 1))).map V.int)) r=some (.lst UX):=by rw[aB hrq]; exact OD
    have QX:=E4.mono (dI (o:= .lst ((dO (cv fs ls al i).1 ((cQ fs ls al i).take (m + 1))).map V.int)) QW);have hP7:=R3.mono (dI (o:= .lst ((dO (cv fs ls al i).1 ((cQ fs ls al i).take (m + 1))).map V.int)) QW);generalize upd H5 q (.lst ((dO (cv fs ls al i).1 ((cQ fs ls al i).take (m + 1))).map V.int))=H6 at t6 ID hQ7 hr7 QX hP7 ⊢;have BC:=QX.length;rw[ax,ae,bz] at BC;refine⟨_,rfl,.inl ⟨rfl,_,bD.of ID⟩,_,rfl,_,rfl,_,rfl,(by show 3<=sizeLine; decide),fun p8 n8=>?_⟩;have s8:ay H6 (upd H6 p8 (.tup [.int i,.int b,.int am])):=ay.new n8;refine⟨pm,UZ,_,rfl,rfl,s8 _ _ ID,ja (by lia),?_⟩;refine⟨_,_,UZ ++ [.ref p8],rfl,(t6.trans s8).cW Y5,?_,af,?_,?_,?_⟩
    ·rw[aB Za]; exact s8 _ _ hQ7
    ·rw[ni,aL,← dR];exact cG ((QX.mono (f7 s8)).mono (dI (s8 _ _ ID))) ⟨p8,rfl,dI (s8 _ _ ID) _ _ af⟩
    ·rw[aB Tt]; exact s8 _ _ hr7
    ·exact(hP7.mono (f7 s8)).mono (dI (s8 _ _ ID))
   ·rintro σ H5 ⟨y8,y9,UZ,rfl,t5,QW,K9,E4,OD,R3⟩;rw[QR,bb] at QW E4;exact⟨_,_,_,_,_,UZ,rfl,t5,by rw[Dm]; exact QW,K9,by rw[uy]; exact E4⟩
  ·rintro σ H2 ⟨x5,x6,x7,x8,x9,ms,rfl,s3,hQ,hM,Dl⟩;rw[ae] at Dl;refine⟨_,rfl,?_⟩;exact k _ _ _ s3 hM Dl
def NF {X:Cx}{K:Frag}{es:List Expr}{k:Nat}{pos:Pos}{t:Ml}{n:Nat}(hK:X.K=K)(hc:X.calm=true)(h:Js X es t)(hn:(assignEach es X.env).length=n)(sE:(assignEach es X.env).findIdx? (·.1)=none):PG X (.Tuple es k pos) (Pb K n t):=by
 subst hK;exact Jt hc h hn sE
def fX {H H':Hp}{tb:Addr}{fp:List Addr}{pos:Pos}{qual:Str}(t:Tb H tb pos qual)(fr:Frame fp H H')(ht:tb∉fp)(hf: ∀a∈fp,∀φ,H a≠some (.ext φ)):Tb H' tb pos qual:=by
 obtain⟨ps,h1,h2,h3⟩:=t;refine⟨ps,fr _ _ ht h1,h2,?_⟩;rcases h3 with h3|⟨c',h3,h4⟩
 ·exact .inl h3
 ·exact .inr ⟨c',h3,fr _ _ (fun z=>hf _ z _ h4) h4⟩
def cY {H:Hp}{tb:Addr}{pos:Pos}{qual:Str}(t:Tb H tb pos qual): ∃ps,H tb=some (.nA ps):=let⟨ps,e,_⟩:=t; ⟨ps,e⟩
def dN {fp TF:List Addr}{H H':Hp}(f:Frame fp H H')(h: ∀x∈fp,x∈TF):Frame TF H H':=fun b o hb e=>f b o (fun z=>hb (h b z)) e
def vj {H:Hp}{p C D:Addr}{fs:List (Str×V)}{ys:List V}{o:HO}(h:eA H p C fs)(e:H D=some (.lst ys)):eA (upd H D o) p C fs:=let⟨dx,z⟩:=h; ⟨dx,by rw[aB (mN z e (by intro q; cases q))]; exact z⟩
def gI.upd {A:dU}{H:Hp}{S:Bk}{cs:List Nat}{qs:List Addr}{D:Addr}{ys:List V}{o:HO}(h:gI A H S cs qs)(e:H D=some (.lst ys)):gI A (L2.upd H D o) S cs qs:=Paired.iu h fun _ _ z=>vj z e
def iI.upd {A:dU}{H:Hp}{S:Bk}{cs:List Nat}{qs:List Addr}{D:Addr}{ys:List V}{o:HO}(h:iI A H S cs qs)(e:H D=some (.lst ys)):iI A (L2.upd H D o) S cs qs:=Paired.iu h fun _ _ z=>vj z e
def gI.tb {A:dU}{H H':Hp}{S:Bk}{cs:List Nat}{qs:List Addr}{tb:Addr}{pos:Pos}{qual:Str}(h:gI A H S cs qs)(t:Tb H tb pos qual)(fr:Frame [tb] H H'):gI A H' S cs qs:=Paired.iu h fun _ _ z=>z.frame fr (wN t z)
def oS {rows:List Rw}{c:Nat}(h:c < rows.length):(rows.map fun r=>V.int r.d)[c]? =some (.int (rows.getD c default).d):=by
 rw[aE,ag h,aj,ag h]; rfl
def oT (rows:List Rw)(aJ:Str)(key:Rw->Int):(inOrder rows aJ key).length<=rows.length:=by
 have e:(inOrder rows aJ key).length=((List.range rows.length).filter fun k=>decide ((rows.getD k default).aJ=aJ)).length:=by
  unfold inOrder gw;rw[ae,(dg _).length_eq,ae]
 have:=aZ (fun k=>decide ((rows.getD k default).aJ=aJ)) (List.range rows.length);rw[bT] at this;lia
def mU (rows:List Rw)(k:Nat):Bool:=decide (0 < (rows.getD k default).d)
abbrev Lb:=List Int->List Int->List (List Bool)->List (Nat×Nat×Int)
def qE:Lb:=fun fs ls al=>(bW fs ls al fs.length).2
def Dp:Lb:=fun fs ls al=>(cv fs ls al fs.length).2
structure Lc (way:Lb):Prop where
 lt: ∀fs ls al,∀t∈way fs ls al,t.1 < fs.length/\t.2.1 < ls.length
 len: ∀fs ls al,fs.length<=63->ls.length<=63->(way fs ls al).length<=4000
def QY (way:Lb)(sp:Sp):Prop:= ∀(pf pl pa:Addr) (fs ls:List Int) (al:List (List Bool)) (H:Hp) (Q:VK),H pf=some (.lst (fs.map V.int))->H pl=some (.lst (ls.map V.int))->Rp H (.lst (al.map A7)) (.ref pa)->fs.length<=63->ls.length<=63->al.length=fs.length->(∀r∈al,r.length=ls.length)->
 (∀(pm:Addr) (ms:List V) (H':Hp),ay H H'->H' pm=some (.lst ms)->gy H' (way fs ls al) ms->Q (.ref pm) H')->sp [.ref pf,.ref pl,.ref pa] H Q E0
def jc (H:Hp)(D:Addr)(al:List (List Bool))(rs:List V):Prop:=Paired (fun(r:List Bool) v=> ∃p,v= .ref p/\p≠D/\H p=some (.lst (r.map V.bl))) al rs
def jc.upd {H:Hp}{D:Addr}{al:List (List Bool)}{rs:List V}{o:HO}(h:jc H D al rs):jc (L2.upd H D o) D al rs:=Paired.iu h fun _ _ ⟨p,e,n,z⟩=>⟨p,e,n,by rw[aB n]; exact z⟩
def jc.same {H H':Hp}{D:Addr}{al:List (List Bool)}{rs:List V}(h:jc H D al rs)(s:ay H H'):jc H' D al rs:=Paired.iu h fun _ _ ⟨p,e,n,z⟩=>⟨p,e,n,s _ _ z⟩
def zu {H:Hp}: ∀r:List Bool,gX H (r.map Dt.bl) (r.map V.bl)
 |[]=>cJ.mpr rfl
 |b :: r=>bw.mpr ⟨_,_,rfl,rh.mpr rfl,zu r⟩
def jc.rp {H:Hp}{D:Addr}: ∀{al:List (List Bool)} {rs:List V},jc H D al rs->gX H (al.map A7) rs
 |_,_,.nil=>cJ.mpr rfl
 |_,_,.cons ⟨p,e,_,z⟩ t=>bw.mpr ⟨_,_,rfl,e▸gj z (zu _),jc.rp t⟩
def IE {S:Bk}{l:List (Nat×Nat×Int)}{i:Nat}{t:Nat×Nat×Int}(h:l[i]? =some t):kN S (l.take (i + 1))=(kN S (l.take i)).put t.1 t.2.1 t.2.2:=lX (fun(S:Bk) (t:Nat×Nat×Int)=>S.put t.1 t.2.1 t.2.2) l S h
def Gv (S:Bk): ∀l,(kN S l).aG.length=S.aG.length/\(kN S l).credits.length=S.credits.length
 |[]=>⟨rfl,rfl⟩
 |t :: l=>by
  obtain⟨a,b⟩:=Gv (S.put t.1 t.2.1 t.2.2) l;exact⟨a.trans eW,b.trans eW⟩
inductive Bb (P:Program)(w:World)(K:Frag)(mg:Str->Option Value)(base:Heap)(A:dU)(tB tC:Addr)(vs:List V)(H:Hp)(Q:VK)(E':XK):Prop
 |mk (pw fa:Addr)(S:Bk)(f:eM)(n:Nat)(aJ:Str)(way:Lb)(sp:Sp)(h1:vs=[.ref pw,.str aJ,.ref fa])(h2:dM A H pw S f)(h3:WF S n)(h4:n<=62)(h5:kG H tB)(h6:lh H tC)(h7:Lc way)(h8:Yx P w K mg base 2 fa sp)(h9:QY way sp)(LV: ∀gs ts fs ls al,vT S aJ gs ts fs ls al-> ∀D ms H',Frame (tB :: tC :: f.fp) H H'->kG H' tB->lh H' tC->dM A H' pw (kN S ((way fs ls al).map (mz gs ts))) f->H D=none->H' D=some (.lst ms)->gy H' ((way fs ls al).map (mz gs ts)) ms->Q (.ref D) H'):Bb P w K mg base A tB tC vs H Q E'
def lj:aV ["self","who","way","givers","takers","frees","lefts","found","numbered","credit_number","bill_number","amount"] ["self","who","way"] (aA (mem 25 7)):={}
def Dq (T:Txt K mg){A:dU}{tB tC:Addr}(G:jA K mg A)(DB:pM K mg "bills_in_order" (top 17) tB)(DC:pM K mg "credits_in_order" (top 18) tC)(i9:tB≠tC)(KB:K.In base)(BM:BMain mg base):gU sU P w K mg base A.work "one_round" 3 ["self","who","way"] (Bb P w K mg base A tB tC):=by
 have i7:eO P w K mg base "bills_in_order" 2 ["bills","who"] (vf A tB):=lZ T G DB KB BM;have g9:eO P w K mg base "credits_in_order" 2 ["all_credits","who"] (vg A tC):=ko T G DC KB BM;have yt:eO P w K mg base "row_of_fits" 2 ["credit","bills"] (KZ A):=yg T G;have KS:gU sU P w K mg base A.work "put" 1 ["self","credit_number","bill_number","amount"] (AJ A):=Ov G;refine Nh (k:=2) G.rL G.bG lj (fun f cV A' outer s H vs Q E hr h=>?_)
 ·obtain⟨pw,fa,S,g,n,aJ,way,sp,rfl,hW,wf,hn,jv,jl,U0,hFv,hWC,k⟩:=h;have nd:=lj.nd;have hlc:S.credits.length<=62:=by have:=wf.lc; lia
  have hlb:S.aG.length<=62:=by have:=wf.lb; lia
  refine⟨_,(ah (sv 3 nd (gR (tn:=["credit"]) (cn:=["self"]) (cj:=[0]) rfl (iy (zX:=[(".0",.local),("credit",.local),("self",.cell)])) (rD (fc g9 hr (aa (kg (pv 0)) (aa (pv 1) ao)))) (fun _ _ _ _=>(eo (i:=0) (show(["credit","self"]:List Str).Nodup by decide +kernel) rfl (Or.inl rfl))) (fun _ _ _ _=>(nL (aY je (ix (lN (K:=K) rfl) (fz (K:=K) rfl (pv 1) rfl) (fz (K:=K) rfl (pv 0) rfl) (fun _ _=>rfl)) ai (a8 _)))) (fun _ _ _ _=>(pv 0))))
(ah (sv 4 nd (gR (tn:=["bill"]) (cn:=["self"]) (cj:=[0]) rfl (iy (zX:=[(".0",.local),("bill",.local),("self",.cell)])) (rD (fc i7 hr (aa (kg (pv 0)) (aa (pv 1) ao)))) (fun _ _ _ _=>(eo (i:=0) (show(["bill","self"]:List Str).Nodup by decide +kernel) rfl (Or.inl rfl))) (fun _ _ _ _=>(nL (aY je (ix (lN (K:=K) rfl) (fz (K:=K) rfl (pv 1) rfl) (fz (K:=K) rfl (pv 0) rfl) (fun _ _=>rfl)) ai (a8 _)))) (fun _ _ _ _=>(pv 0))))
(ah (jX (i:=5) nd rfl (Or.inl rfl) (tn:=["credit"]) (cn:=["self"]) (cj:=[0]) rfl (iy (zX:=[(".0",.local),("credit",.local),("self",.cell)])) (rD (pv 3)) (fun _ _ _ _=>(eo (i:=0) (show(["credit","self"]:List Str).Nodup by decide +kernel) rfl (Or.inl rfl))) (fun _ _ _ _=>mm) (fun _ _ _ _=>(ix (lN (K:=K) rfl) (fz (K:=K) rfl (pv 1) rfl) (fz (K:=K) rfl (pv 0) rfl) (fun _ _=>rfl))))
(ah (jX (i:=6) nd rfl (Or.inl rfl) (tn:=["bill"]) (cn:=["self"]) (cj:=[0]) rfl (iy (zX:=[(".0",.local),("bill",.local),("self",.cell)])) (rD (pv 4)) (fun _ _ _ _=>(eo (i:=0) (show(["bill","self"]:List Str).Nodup by decide +kernel) rfl (Or.inl rfl))) (fun _ _ _ _=>mm) (fun _ _ _ _=>(ix (lN (K:=K) rfl) (fz (K:=K) rfl (pv 1) rfl) (fz (K:=K) rfl (pv 0) rfl) (fun _ _=>rfl))))
(ah (sv 7 nd (Qr (i:=2) (k:=2) (hr.mono (by decide)) rfl (Or.inl rfl) (aa (pv 5) (aa (pv 6) (aa (gR (tn:=["credit"]) (cn:=["takers"]) (cj:=[4]) rfl (iy (zX:=[(".0",.local),("credit",.local),("row_of_fits",.globalImplicit),("takers",.cell)])) (rD (pv 3)) (fun _ _ _ _=>(eo (i:=0) (show(["credit","takers"]:List Str).Nodup by decide +kernel) rfl (Or.inl rfl))) (fun _ _ _ _=>mm) (fun _ _ _ _=>(fc yt hr (aa (pv 0) (aa (pv 1) ao))))) ao)))))
(ah (jX (i:=8) nd rfl (Or.inl rfl) (tn:=["giver","taker","amount"]) (cn:=["takers","givers"]) (cj:=[4,3]) rfl (AZ (zX:=[(".0",.local),("giver",.local),("taker",.local),("amount",.local),("givers",.cell),("takers",.cell)])) (rD (pv 7)) (fun _ _ _ _=>(NF (K:=K) (n:=3) rfl rfl (bR (eo (i:=0) (show(["giver","taker","amount","takers","givers"]:List Str).Nodup by decide +kernel) rfl (Or.inl rfl) (Or.inr rfl)) (bR (eo (i:=1) (show(["giver","taker","amount","takers","givers"]:List Str).Nodup by decide +kernel) rfl (Or.inl rfl) (Or.inr rfl)) (bR (eo (i:=2) (show(["giver","taker","amount","takers","givers"]:List Str).Nodup by decide +kernel) rfl (Or.inl rfl) (Or.inr rfl)) fP))) rfl rfl)) (fun _ _ _ _=>mm) (fun _ _ _ _=>(cg (aa (fz (K:=K) rfl (ix (lN (K:=K) rfl) (pv 4) (pv 0) (fun _ _=>rfl)) rfl) (aa (fz (K:=K) rfl (ix (lN (K:=K) rfl) (pv 3) (pv 1) (fun _ _=>rfl)) rfl) (aa (pv 2) ao))))))
(ah (dX bC rfl (rD (pv 8)) (gT (bR (gn 9 nd) (bR (gn 10 nd) (bR (gn 11 nd) fP))))
(av (bM (nZ KS (hr.mono (by decide)) nK (pv 0) (aa (pv 9) (aa (pv 10) (aa (pv 11) ao)))))))
(av (a6 (pv 8)))))))))),?_⟩
  obtain⟨dw,hw⟩:=hW.obj;refine⟨_,rfl,pw,_,dw,_,_,rfl,hw,G.bG,G.cL,g8 g,_,rfl,g.pc,g.cps,S,aJ,rfl,hW.hc,hW.rc,(by lia),jl,fun D1 Ze H1 Ld kr U1 Il Kg=>?_⟩;have DS:=wO hW (cY jl) Ld;have Le: ∀a∈[tC],∀φ,H a≠some (.ext φ):=fun a ha φ e=>by
   obtain⟨ps,z⟩:=cY jl;rw[au.mp ha,z] at e;cases e
  have jw:kG H1 tB:=fX jv Ld (by simpa using i9) Le;have F1:Frame (tB :: tC :: g.fp) H H1:=dN Ld (by intro x hx; rw[List.mem_singleton.mp hx]; simp);clear Le;refine⟨D1,rfl,⟨_,bD.of Il⟩,?_⟩;have Nz:=oT S.credits aJ (·.a);have QZ: ∀c∈inOrder S.credits aJ (·.a),c < S.credits.length:=fun c hc=>(kW.mp hc).1;have MM:=hX S.credits aJ (·.a);generalize inOrder S.credits aJ (·.a)=ord at Kg Nz QZ MM;have Q0:=aM Kg;refine eu (K:=K) (a:=D1) (xs:=Ze.map V.ref) (fun D i σ H6=>H1 D=none/\ ∃(v:Option V) (rs:List Addr),σ=[v,some (.ref pw)]/\ay H1 H6/\H6 D=some (.lst (rs.map V.ref))/\gI A H6 S ((ord.take i).filter (mU S.credits)) rs) (fun D hD=>⟨hD,none,[],rfl,ay.new hD,af,.nil⟩) (fun D i σ H6 _ ⟨_,_,_,_,t3,_⟩=>bD.of (t3 _ _ Il)) ?_ ?_
  ·rintro D i x σ H6 hx ⟨hD,v,rs,rfl,t3,gK,Q1⟩;rw[aE] at hx;obtain⟨q,hq,rfl⟩:=bq.mp hx;have hi:i < ord.length:=by have:=(ak.mp hq).1; lia
   have qN:=ag hi;obtain⟨q',tX,lY⟩:=bL Kg qN;rw[hq] at tX;obtain rfl:q=q':=aF tX;have mS:=fO (mU S.credits) qN;have rC:=QZ _ (bN hi);generalize ord[i]=c at lY mS rC;obtain⟨dq,NG⟩:=lY.same t3;have Lf:=DS.same t3;obtain⟨Q2,Q3⟩:=Lf.obj;have Ci:rs.length<=1000:=by
    have e1:=aM Q1;have e2:=aZ (mU S.credits) (ord.take i);rw[bz] at e2;lia
   refine⟨_,rfl,pw,_,Q2,_,_,rfl,Q3,G.bG,G.fG,lU g,_,rfl,q,_,dq,_,_,rfl,NG,G.di,G.eN,oR _ _,g.pf,_,_,.int (S.cr c).d,rfl,rfl,bD.of Lf.hf,cI (oS rC),_,_,rfl,rfl,_,rfl,cE (fun z=>?_) (fun z=>?_)⟩
   ·have z':mU S.credits c=true:=z;rw[a0 z'] at mS;refine⟨_,rfl,_,gK,a9 (by rw[ae]; exact Ci),hD,_,rs ++ [q],rfl,t3.cW hD,(by rw[af,aL]; rfl),?_⟩;rw[mS];exact cG (Q1.upd gK) (vj ⟨dq,NG⟩ gK)
   ·have z': ¬ mU S.credits c=true:=z;rw[aQ z',bS] at mS;refine⟨hD,_,rs,rfl,t3,gK,?_⟩;rw[mS];exact Q1
  rintro pg σ H2 npg ⟨_,v,rs,rfl,s2,Wz,NH⟩;rw[ae,← Q0,bb] at NH;have egs:ord.filter (mU S.credits)=inTurn S.credits aJ (·.a):=MM.symm;rw[egs] at NH;clear MM egs QZ Nz Kg Q0 Il;have K7:(inTurn S.credits aJ (·.a)).length<=62:=by
   rw[hX];have e1:=aZ (fun k=>decide (0 < (S.credits.getD k default).d)) (inOrder S.credits aJ (·.a));have e2:=oT S.credits aJ (·.a);lia
  have WA: ∀c∈inTurn S.credits aJ (·.a),c < S.credits.length:=fun c hc=>(dA.mp hc).1;have A6:=DS.same s2;have jx:kG H2 tB:=bp jw s2;have lD:lh H2 tC:=bp kr s2;have F2:=F1.cA s2;clear Ld DS jw kr s2 F1;obtain⟨Zf,Ow⟩:=A6.obj;refine⟨_,rfl,pw,_,Zf,_,_,rfl,Ow,G.bG,G.dW,jk g,_,rfl,g.pb,g.iD,S,aJ,rfl,A6.hb,A6.rb,(by lia),jx,fun D1 Ze H1 Ld jw U1 Il Kg=>?_⟩;have DS:=wO A6 (cY jx) Ld;have Le: ∀a∈[tB],∀φ,H2 a≠some (.ext φ):=fun a ha φ e=>by
   obtain⟨ps,z⟩:=cY jx;rw[au.mp ha,z] at e;cases e
  have kr:lh H1 tC:=fX lD Ld (by simpa using i9.symm) Le;have F1:Frame (tB :: tC :: g.fp) H H1:=F2.tr (dN Ld (by intro x hx; rw[List.mem_singleton.mp hx]; simp));have hG1:=NH.tb jx Ld;have U2:H1 pg=some (.lst (rs.map V.ref)):=Ld _ _ (fun z=>by
   obtain⟨ps,e⟩:=cY jx;rw[au.mp z,e] at Wz;cases Wz) Wz
  clear Le;refine⟨D1,rfl,⟨_,bD.of Il⟩,?_⟩;have Nz:=oT S.aG aJ (·.b);have QZ: ∀c∈inOrder S.aG aJ (·.b),c < S.aG.length:=fun c hc=>(kW.mp hc).1;have MM:=hX S.aG aJ (·.b);generalize inOrder S.aG aJ (·.b)=ord at Kg Nz QZ MM;have Q0:=aM Kg;refine eu (K:=K) (a:=D1) (xs:=Ze.map V.ref) (fun D i σ H6=>H1 D=none/\ ∃(v:Option V) (us:List Addr),σ=[v,some (.ref pw)]/\ay H1 H6/\H6 D=some (.lst (us.map V.ref))/\iI A H6 S ((ord.take i).filter (mU S.aG)) us) (fun D hD=>⟨hD,none,[],rfl,ay.new hD,af,.nil⟩) (fun D i σ H6 _ ⟨_,_,_,_,t3,_⟩=>bD.of (t3 _ _ Il)) ?_ ?_
  ·rintro D i x σ H6 hx ⟨hD,v,us,rfl,t3,gK,Q1⟩;rw[aE] at hx;obtain⟨q,hq,rfl⟩:=bq.mp hx;have hi:i < ord.length:=by have:=(ak.mp hq).1; lia
   have qN:=ag hi;obtain⟨q',tX,lY⟩:=bL Kg qN;rw[hq] at tX;obtain rfl:q=q':=aF tX;have mS:=fO (mU S.aG) qN;have rC:=QZ _ (bN hi);generalize ord[i]=c at lY mS rC;obtain⟨dq,NG⟩:=lY.same t3;have Lf:=DS.same t3;obtain⟨Q2,Q3⟩:=Lf.obj;have Ci:us.length<=1000:=by
    have e1:=aM Q1;have e2:=aZ (mU S.aG) (ord.take i);rw[bz] at e2;lia
   refine⟨_,rfl,pw,_,Q2,_,_,rfl,Q3,G.bG,G.fF,lT g,_,rfl,q,_,dq,_,_,rfl,NG,G.dZ,G.eT,lR _ _,g.pl,_,_,.int (S.bl c).d,rfl,rfl,bD.of Lf.hl,cI (oS rC),_,_,rfl,rfl,_,rfl,cE (fun z=>?_) (fun z=>?_)⟩
   ·have z':mU S.aG c=true:=z;rw[a0 z'] at mS;refine⟨_,rfl,_,gK,a9 (by rw[ae]; exact Ci),hD,_,us ++ [q],rfl,t3.cW hD,(by rw[af,aL]; rfl),?_⟩;rw[mS];exact cG (Q1.upd gK) (vj ⟨dq,NG⟩ gK)
   ·have z': ¬ mU S.aG c=true:=z;rw[aQ z',bS] at mS;refine⟨hD,_,us,rfl,t3,gK,?_⟩;rw[mS];exact Q1
  rintro pt σ H3 OF ⟨_,v',us,rfl,s3,xr,DP⟩;rw[ae,← Q0,bb] at DP;have ets:ord.filter (mU S.aG)=inTurn S.aG aJ (·.b):=MM.symm;rw[ets] at DP;clear MM ets QZ Nz Kg Q0 Il;have htl:(inTurn S.aG aJ (·.b)).length<=62:=by
   rw[hX];have e1:=aZ (fun k=>decide (0 < (S.aG.getD k default).d)) (inOrder S.aG aJ (·.b));have e2:=oT S.aG aJ (·.b);lia
  have OE: ∀c∈inTurn S.aG aJ (·.b),c < S.aG.length:=fun c hc=>(dA.mp hc).1;have AK:=DS.same s3;have wW:kG H3 tB:=bp jw s3;have wX:lh H3 tC:=bp kr s3;have F3:=F1.cA s3;have U3:=hG1.same s3;have NI:=s3 _ _ U2;clear Ld DS jw kr s3 F1 hG1 U2 F2 A6 jx lD NH Wz Ow;generalize hgs:inTurn S.credits aJ (·.a)=gs at U3 K7 WA;generalize hts:inTurn S.aG aJ (·.b)=ts at DP htl OE;have hgq:=aM U3;have htq:=aM DP;have hR:vT S aJ gs ts (gs.map fun g=>(S.cr g).d) (ts.map fun t=>(S.bl t).d) (gs.map fun g=>ts.map fun t=>S.eG g t):=⟨hgs.symm,hts.symm,rfl,rfl,rfl⟩;refine⟨_,rfl,pg,rfl,⟨_,bD.of NI⟩,?_⟩;refine eu (K:=K) (a:=pg) (xs:=rs.map V.ref) (fun D i σ H6=>H3 D=none/\ ∃(v:Option V),σ=[v,some (.ref pw)]/\ay H3 H6/\H6 D=some (.lst (((gs.take i).map fun g=>(S.cr g).d).map V.int))) (fun D hD=>⟨hD,none,rfl,ay.new hD,af⟩) (fun D i σ H6 _ ⟨_,_,_,t3,_⟩=>bD.of (t3 _ _ NI)) ?_ ?_
  ·rintro D i x σ H6 hx ⟨hD,v,rfl,t3,gK⟩;rw[aE] at hx;obtain⟨q,hq,rfl⟩:=bq.mp hx;have hi:i < gs.length:=by have:=(ak.mp hq).1; lia
   obtain⟨q',tX,lY⟩:=bL U3 (ag hi);rw[hq] at tX;obtain rfl:q=q':=aF tX;have ni:=kP hi;have rC:=WA _ (bN hi);generalize gs[i]=c at lY ni rC;obtain⟨dq,NG⟩:=lY.same t3;have Lf:=AK.same t3;obtain⟨Q2,Q3⟩:=Lf.obj;refine⟨_,rfl,pw,_,Q2,_,_,rfl,Q3,G.bG,G.fG,lU g,_,rfl,q,_,dq,_,_,rfl,NG,G.di,G.eN,oR _ _,g.pf,_,_,.int (S.cr c).d,rfl,rfl,bD.of Lf.hf,cI (oS rC),_,gK,a9 (by rw[ae,ae,bz]; lia),hD,_,rfl,t3.cW hD,?_⟩;rw[af,ni,aL,aL];rfl
  rintro pf σ H4 R9 ⟨_,v4,rfl,s4,DR⟩;rw[ae,← hgq,bb] at DR;have U4:=U3.same s4;have E2:=DP.same s4;have UQ:=AK.same s4;have yu:kG H4 tB:=bp wW s4;have yw:lh H4 tC:=bp wX s4;have F4:=F3.cA s4;have U5:=s4 _ _ NI;have wY:=s4 _ _ xr;clear s4 F3 wW wX AK DP U3 NI xr;refine⟨_,rfl,pt,rfl,⟨_,bD.of wY⟩,?_⟩;refine eu (K:=K) (a:=pt) (xs:=us.map V.ref) (fun D i σ H6=>H4 D=none/\ ∃(v:Option V),σ=[v,some (.ref pw)]/\ay H4 H6/\H6 D=some (.lst (((ts.take i).map fun g=>(S.bl g).d).map V.int))) (fun D hD=>⟨hD,none,rfl,ay.new hD,af⟩) (fun D i σ H6 _ ⟨_,_,_,t3,_⟩=>bD.of (t3 _ _ wY)) ?_ ?_
  ·rintro D i x σ H6 hx ⟨hD,v,rfl,t3,gK⟩;rw[aE] at hx;obtain⟨q,hq,rfl⟩:=bq.mp hx;have hi:i < ts.length:=by have:=(ak.mp hq).1; lia
   obtain⟨q',tX,lY⟩:=bL E2 (ag hi);rw[hq] at tX;obtain rfl:q=q':=aF tX;have ni:=kP hi;have rC:=OE _ (bN hi);generalize ts[i]=c at lY ni rC;obtain⟨dq,NG⟩:=lY.same t3;have Lf:=UQ.same t3;obtain⟨Q2,Q3⟩:=Lf.obj;refine⟨_,rfl,pw,_,Q2,_,_,rfl,Q3,G.bG,G.fF,lT g,_,rfl,q,_,dq,_,_,rfl,NG,G.dZ,G.eT,lR _ _,g.pl,_,_,.int (S.bl c).d,rfl,rfl,bD.of Lf.hl,cI (oS rC),_,gK,a9 (by rw[ae,ae,bz]; lia),hD,_,rfl,t3.cW hD,?_⟩;rw[af,ni,aL,aL];rfl
  rintro pl σ H5 WB ⟨_,v5,rfl,s5,gQ⟩;rw[ae,← htq,bb] at gQ;have Zg:=U4.same s5;have R6:=E2.same s5;have hW5:=UQ.same s5;have Lg:kG H5 tB:=bp yu s5;have Lh:lh H5 tC:=bp yw s5;have F5:=F4.cA s5;have NJ:=s5 _ _ U5;have Q4:=s5 _ _ wY;have U6:=s5 _ _ DR;clear s5 F4 yu yw UQ E2 U4 U5 wY DR;refine⟨fa,sp,rfl,hFv,_,rfl,_,rfl,_,rfl,pg,rfl,⟨_,bD.of NJ⟩,?_⟩;refine eu (K:=K) (a:=pg) (xs:=rs.map V.ref) (fun D i σ H6=>H5 D=none/\ ∃(v:Option V) (ws:List V),σ=[v,some (.ref pt)]/\ay H5 H6/\H6 D=some (.lst ws)/\jc H6 D ((gs.take i).map fun g=>ts.map fun t=>S.eG g t) ws) (fun D hD=>⟨hD,none,[],rfl,ay.new hD,af,.nil⟩) (fun D i σ H6 _ ⟨_,_,_,_,t3,_⟩=>bD.of (t3 _ _ NJ)) ?_ ?_
  ·rintro D i x σ H6 hx ⟨hD,v,ws,rfl,t3,gK,Sa⟩;rw[aE] at hx;obtain⟨q,hq,rfl⟩:=bq.mp hx;have hi:i < gs.length:=by have:=(ak.mp hq).1; lia
   obtain⟨q',tX,lY⟩:=bL Zg (ag hi);rw[hq] at tX;obtain rfl:q=q':=aF tX;have ni:=kP hi;have rC:=WA _ (bN hi);generalize gs[i]=c at lY ni rC;have Jb:=aM Sa;rw[ae,bz] at Jb;refine⟨_,rfl,_,rfl,q,pt,S,c,ts,us,rfl,lY.same t3,t3 _ _ Q4,R6.same t3,(by lia),fun p H7 t7 np hp=>?_⟩;have Zh:(ts.map fun b=>pG (S.cr c) (S.bl b) b)=ts.map fun t=>S.eG c t:=gO fun b hb=>zk wf rC (OE b hb);rw[Zh] at hp;have Sb:=t7 _ _ gK;have QJ:p≠D:=(aI gK np).symm;refine⟨_,Sb,a9 (by lia),hD,_,ws ++ [.ref p],rfl,(t3.trans t7).cW hD,af,?_⟩;rw[ni,aL];exact cG ((Sa.same t7).upd) ⟨p,rfl,QJ,by rw[aB QJ]; exact hp⟩
  rintro pa σ H6 npa ⟨_,v6,ws,rfl,s6,Ji,Sa⟩;rw[ae,← hgq,bb] at Sa;refine hWC pf pl pa _ _ _ H6 _ (s6 _ _ U6) (s6 _ _ gQ) (gj Ji Sa.rp) (by rw[ae]; lia) (by rw[ae]; lia) (by rw[ae,ae]) (fun r hr=>by
   obtain⟨x,_,rfl⟩:=bF.mp hr;rw[ae,ae]) fun pm ms H7 s7 Zi Dl=>?_
  have iX:=U0.lt (gs.map fun g=>(S.cr g).d) (ts.map fun t=>(S.bl t).d) (gs.map fun g=>ts.map fun t=>S.eG g t);have hlen:=U0.len (gs.map fun g=>(S.cr g).d) (ts.map fun t=>(S.bl t).d) (gs.map fun g=>ts.map fun t=>S.eG g t) (by rw[ae]; lia) (by rw[ae]; lia);rw[ae,ae] at iX;have kk:=k _ _ _ _ _ hR;generalize way (gs.map fun g=>(S.cr g).d) (ts.map fun t=>(S.bl t).d) (gs.map fun g=>ts.map fun t=>S.eG g t)=fd at iX hlen Dl kk;have yx:=s6.trans s7;have hG7:=Zg.same yx;have hT7:=R6.same yx;have WC:=hW5.same yx;have Q5:kG H7 tB:=bp Lg yx;have Q7:lh H7 tC:=bp Lh yx;have F7:=F5.cA yx;have U7:=yx _ _ NJ;have U8:=yx _ _ Q4;clear yx s6 s7 F5 Lg Lh hW5 R6 Zg NJ Q4 U6 gQ Sa Ji k hWC hFv;have Nv:=aM Dl;refine⟨_,rfl,pm,rfl,⟨_,bD.of Zi⟩,?_⟩;refine eu (K:=K) (a:=pm) (xs:=ms) (fun D i σ H6=>H7 D=none/\ ∃(v1 v2 v3:Option V) (ws:List V),σ=[v1,v2,v3,some (.ref pt),some (.ref pg)]/\ay H7 H6/\H6 D=some (.lst ws)/\gy H6 ((fd.take i).map (mz gs ts)) ws) (fun D hD=>⟨hD,none,none,none,[],rfl,ay.new hD,af,.nil⟩) (fun D i σ H6 _ ⟨_,_,_,_,_,_,t3,_⟩=>bD.of (t3 _ _ Zi)) ?_ ?_
  ·rintro D i x σ H6 hx ⟨hD,v1,v2,v3,ws,rfl,t3,gK,IA⟩;have hi:i < fd.length:=by have:=(ak.mp hx).1; lia
   obtain⟨v',hv,p,rfl,hp⟩:=bL Dl (ag hi);rw[hx] at hv;obtain rfl:x= .ref p:=aF hv;have ni:=kP hi;obtain⟨l1,l2⟩:=iX _ (bN hi);generalize fd[i]=t at hp ni l1 l2;have Jb:=aM IA;rw[ae,bz] at Jb;have g1:gs[t.1]? =some (gs.getD t.1 0):=by rw[aj,ag l1]; rfl
   have g2:ts[t.2.1]? =some (ts.getD t.2.1 0):=by rw[aj,ag l2]; rfl
   obtain⟨q1,Q0,i1⟩:=bL hG7 g1;obtain⟨q2,BE,i2⟩:=bL hT7 g2;obtain⟨d1,e1⟩:=i1.same t3;obtain⟨d2,e2⟩:=i2.same t3;refine⟨p,_,rfl,cy.of (t3 _ _ hp),rfl,_,_,rfl,_,_,rfl,_,_,rfl,rfl,?_⟩;refine⟨_,rfl,_,rfl,pg,_,_,.ref q1,rfl,rfl,bD.of (t3 _ _ U7),cI (by rw[aE,Q0]; rfl),q1,_,d1,_,_,rfl,e1,G.di,G.eN,oR _ _,?_⟩;refine⟨_,rfl,_,rfl,pt,_,_,.ref q2,rfl,rfl,bD.of (t3 _ _ U8),cI (by rw[aE,BE]; rfl),q2,_,d2,_,_,rfl,e2,G.dZ,G.eT,lR _ _,_,rfl,(by show 3<=sizeLine; decide),fun p8 n8=>?_⟩;have s8:=ay.new (o:= .tup [.int (gs.getD t.1 0:Nat),.int (ts.getD t.2.1 0:Nat),.int t.2.2]) n8;have hl8:=s8 _ _ gK;refine⟨_,hl8,ja (by lia),hD,_,_,_,ws ++ [.ref p8],rfl,(t3.trans s8).cW hD,af,?_⟩;rw[ni,aL];have tk:=eZ (o:= .lst (ws ++ [.ref p8])) hl8;exact cG ((IA.mono s8.tk).mono tk) ⟨p8,rfl,tk _ _ af⟩
  rintro pn σ H8 OG ⟨_,w1,w2,w3,ws,rfl,s8,EM,U9⟩;rw[← Nv,bb] at U9;have Sd:=WC.same s8;have Li:kG H8 tB:=bp Q5 s8;have Lj:lh H8 tC:=bp Q7 s8;have F8:=F7.cA s8;have Zj:H pn=none:=by
   cases e:H pn with
   |none=>rfl
   |some o=>
    exfalso;by_cases js:pn∈tB :: tC :: g.fp
    ·rcases aw.mp js with z|js
     ·obtain⟨ps,q⟩:=cY Q5;rw[← z,OG] at q;cases q
     ·rcases aw.mp js with z|js
      ·obtain⟨ps,q⟩:=cY Q7;rw[← z,OG] at q;cases q
      ·exact WC.new OG js
    ·have q:=F7 _ _ js e;rw[OG] at q;cases q
  have Va:pn∉g.fp:=WC.new OG;have A1: ∀t∈fd.map (mz gs ts),t.1 < S.credits.length/\t.2.1 < S.aG.length:=fun t ht=>by
   obtain⟨u,hu,rfl⟩:=bF.mp ht;obtain⟨l1,l2⟩:=iX u hu;exact⟨WA _ (j8 l1),OE _ (j8 l2)⟩
  have Jf:(fd.map (mz gs ts)).length<=4000:=by rw[ae]; exact hlen
  generalize fd.map (mz gs ts)=L at U9 kk A1 Jf;have Jb:=aM U9;clear iX hlen Dl Zi U7 U8 hG7 hT7 WC Q5 Q7 F7 s8;refine⟨_,rfl,pn,rfl,⟨_,bD.of EM⟩,?_⟩;refine eP (K:=K) (a:=pn) (xs:=ws) (fun i σ H2=> ∃(x9 IF yy:Option V),σ=[some (.ref pw),some (.str aJ),some (.ref fa),some (.ref pg),some (.ref pt),some (.ref pf),some (.ref pl),some (.ref pm),some (.ref pn),x9,IF,yy]/\Frame g.fp H8 H2/\dM A H2 pw (kN S (L.take i)) g)
   ⟨none,none,none,rfl,Frame.refl,Sd⟩ (fun i σ H2 _ ⟨_,_,_,_,f2,_⟩=>bD.of (f2 _ _ Va EM)) ?_ ?_
  ·rintro i x σ H2 hx ⟨x9,IF,yy,rfl,f2,A6⟩;have hi:i < L.length:=by have:=(ak.mp hx).1; lia
   have qN:=ag hi;obtain⟨v',hv,p,rfl,hp⟩:=bL U9 qN;rw[hx] at hv;obtain rfl:x= .ref p:=aF hv;have xr:=IE (S:=S) qN;obtain⟨m1,m2⟩:=A1 _ (bN hi);generalize L[i]=t at hp xr m1 m2;obtain⟨b1,b2⟩:=Gv S (L.take i);have BC:(kN S (L.take i)).made.length < sizeLine:=by
    rw[jO,ax,bz];have:=wf.lm;exact ja (by lia)
   obtain⟨Zf,Ow⟩:=A6.obj;refine⟨p,_,rfl,cy.of (Sd.tk f2 _ _ hp),rfl,_,_,rfl,_,_,rfl,_,_,rfl,rfl,?_⟩;refine⟨_,rfl,pw,Zf,_,rfl,Ow,KQ g,_,rfl,_,rfl,_,rfl,pw,_,g,t.1,t.2.1,t.2.2,rfl,A6,(by rw[b2]; exact m1),(by rw[b1]; exact m2),BC,fun H3 f3 W3=>?_⟩;refine⟨_,_,_,rfl,f2.tr f3,?_⟩;rw[xr];exact W3
  ·rintro σ H2 ⟨x9,IF,yy,rfl,f2,A6⟩;rw[← Jb,bb] at A6;have ext2: ∀a∈g.fp,∀φ,H8 a≠some (.ext φ):=fun a ha φ e=>by
    obtain⟨xs,z⟩:=Sd.lists a ha;rw[z] at e;cases e
   have IG:tB∉g.fp:=Sd.off fun xs e=>by
    obtain⟨ps,z⟩:=cY Li;rw[z] at e;cases e
   have IH:tC∉g.fp:=Sd.off fun xs e=>by
    obtain⟨ps,z⟩:=cY Lj;rw[z] at e;cases e
   exact⟨_,rfl,kk pn ws H2 (F8.tr (dN f2 fun x hx=>by simp[hx])) (fX Li f2 IG ext2) (fX Lj f2 IH ext2) A6 Zj (f2 _ _ Va EM) (U9.mono (Sd.tk f2))⟩
def sk (g:eM):(lS g).lookup ("one_round":Str)=none:=by rfl
def pO {α β:Type}{F:α->β->Prop}: ∀{l₁:List α} {r₁:List β} {l₂:List α} {r₂:List β},Paired F l₁ r₁->Paired F l₂ r₂->Paired F (l₁ ++ l₂) (r₁ ++ r₂)
 |_,_,_,_,.nil,h=>h
 |_,_,_,_,.cons a t,h=> .cons a (pO t h)
def E7:Lc qE:=⟨fun fs ls al t h=>mB fs ls al _ t h,fun fs ls al h1 _=>by
 have:=L2.ie fs ls al fs.length;show(bW fs ls al fs.length).2.length<=4000;lia⟩
def Lk:Lc Dp:=⟨fun fs ls al t h=>vY fs ls al _ t h,fun fs ls al h1 h2=>by
 have:=qr fs ls al fs.length;have h3:fs.length * ls.length<=63 * 63:=qQ h1 h2;show(cv fs ls al fs.length).2.length<=4000;lia⟩
def uA {H:Hp}: ∀{ms:List (Nat×Nat×Int)} {xs:List V},gX H (ms.map K6) xs->gy H ms xs
 |[],_,h=>by
  rw[cJ.mp h];exact .nil
 |t :: ms,_,h=>by
  obtain⟨v,r,rfl,h1,h2⟩:=bw.mp h;obtain⟨a,ys,rfl,h3,h4⟩:=jY.mp h1;obtain⟨u1,r1,rfl,e1,h5⟩:=bw.mp h4;obtain⟨u2,r2,rfl,e2,h6⟩:=bw.mp h5;obtain⟨u3,r3,rfl,e3,h7⟩:=bw.mp h6;obtain rfl:=cJ.mp h7;obtain rfl:=dE.mp e1;obtain rfl:=dE.mp e2;obtain rfl:=dE.mp e3;exact .cons ⟨a,rfl,h3⟩ (uA h2)
def Ll:QY qE (wR K):=fun pf pl pa fs ls al H Q h1 h2 h3 h4 h5 h6 h7 k=>
 ⟨pf,pl,pa,fs,ls,al,rfl,bD.of h1,bD.of h2,h3,by lia,h6,h7,fun v H' s r=>by
  obtain⟨a,xs,rfl,e,r'⟩:=jZ.mp r;exact k a xs H' s e (uA r')⟩
def Q8:QY Dp (wV K):=fun pf pl pa fs ls al H Q h1 h2 h3 h4 h5 h6 h7 k=>
 ⟨pf,pl,pa,fs,ls,al,rfl,bD.of h1,bD.of h2,h3,h4,h5,h6,h7,fun pm ms H' s e r=>k pm ms H' s e r⟩
inductive Bc (A:dU)(tB tC:Addr)(vs:List V)(H:Hp)(Q:VK)(E':XK):Prop
 |mk (pw:Addr)(S:Bk)(f:eM)(n:Nat)(aJ:Str)(h1:vs=[.ref pw,.str aJ])(h2:dM A H pw S f)(h3:WF S n)(h4:n<=60)(h5:kG H tB)(h6:lh H tC)(h7: ∀D ms H',Frame (tB :: tC :: f.fp) H H'->kG H' tB->lh H' tC->dM A H' pw (S.jz aJ) f->H D=none->H' D=some (.lst ms)->gy H' ((S.jz aJ).made.drop S.made.length) ms->Q (.ref D) H'):Bc A tB tC vs H Q E'
def pP:aV ["self","who","first","second"] ["self","who"] (aA (mem 25 6)):={}
def NK (T:Txt K mg){A:dU}{tB tC:Addr}(G:jA K mg A)(DB:pM K mg "bills_in_order" (top 17) tB)(DC:pM K mg "credits_in_order" (top 18) tC)(i9:tB≠tC)(KB:K.In base)(BM:BMain mg base):gU sU P w K mg base A.work "sweep" 4 ["self","who"] (Bc A tB tC):=by
 have uB:gU sU P w K mg base A.work "one_round" 3 ["self","who","way"] (Bb P w K mg base A tB tC):=Dq T G DB DC i9 KB BM;obtain⟨f1,m1,V1⟩:=eO.fnv (ND (P:=P) (w:=w) (base:=base) T);obtain⟨f2,m2,V2⟩:=eO.fnv (Ba (P:=P) (w:=w) (base:=base) T);refine Nh (k:=3) G.yb G.bG pP (fun f cV A' outer s H vs Q E hr h=>?_)
 ·obtain⟨pw,S,g,n,aJ,rfl,hW,wf,hn,jv,jl,k⟩:=h;have nd:=pP.nd;refine⟨_,(ah (sv 2 nd (nZ uB (hr.mono (by decide)) nK (pv 0) (aa (pv 1) (aa (Fq (v:= .ref f1) rfl m1 rfl) ao))))
(ah (sv 3 nd (nZ uB (hr.mono (by decide)) nK (pv 0) (aa (pv 1) (aa (Fq (v:= .ref f2) rfl m2 rfl) ao))))
(av (a6 (aO gr (pv 2) (pv 3)))))),?_⟩
  obtain⟨dw,hw⟩:=hW.obj;refine⟨_,rfl,pw,dw,_,rfl,hw,sk g,_,rfl,pw,f1,S,g,n,aJ,qE,_,rfl,hW,wf,(by lia),jv,jl,E7,V1,Ll,fun gs ts fs ls al R D1 Zk H1 F1 jw kr DS U1 Il Jh=>?_⟩;obtain⟨er,lr⟩:=Kb R;have Zh:fs.length=gs.length:=by rw[R.ef,ae]
  have eS:kN S ((qE fs ls al).map (mz gs ts))=bQ aJ S true:=by rw[er]; unfold qE; rw[Zh]
  have em:(bQ aJ S true).made=S.made ++ (qE fs ls al).map (mz gs ts):=by rw[← eS]; exact jO _ _
  obtain⟨_,l1,e1,b1,n1⟩:=vZ S aJ true;have el1:l1=(qE fs ls al).map (mz gs ts):=List.append_cancel_left (e1.symm.trans em);rw[eS] at DS;rw[← el1] at Jh;have hcb:S.credits.length * S.aG.length<=60 * 60:=qQ (by have:=wf.lc; lia) (by have:=wf.lb; lia);have wf1:WF (bQ aJ S true) (n + 1):=by
   refine wf.later lr (fun t ht=>?_) (cK _) ?_
   ·rw[e1] at ht;rcases bg.mp ht with ht|ht
    ·exact wf.m t ht
    ·exact b1 t ht
   ·rw[e1,ax];have:=wf.lm;have:=wf.lc;lia
  obtain⟨dw1,Uo⟩:=DS.obj;refine⟨_,rfl,pw,dw1,_,rfl,Uo,sk g,_,rfl,pw,f2,_,g,n + 1,aJ,Dp,_,rfl,DS,wf1,(by lia),jw,kr,Lk,V2,Q8,fun Vb WD Vc WE WG R2 D2 Oz H2 F2 jx lD A6 Jg Io BA=>?_⟩;obtain⟨er2,lr2⟩:=Kd R2;have Zl:Vc.length=Vb.length:=by rw[R2.ef,ae]
  have eS2:kN (bQ aJ S true) ((Dp Vc WE WG).map (mz Vb WD))=S.jz aJ:=by
   show _ =bQ aJ (bQ aJ S true) false;rw[er2]; unfold Dp; rw[Zl]
  have em2:(S.jz aJ).made=(bQ aJ S true).made ++ (Dp Vc WE WG).map (mz Vb WD):=by rw[← eS2]; exact jO _ _
  rw[eS2] at A6;have BC:(S.jz aJ).made.length<=8000 * 60 + 8000:=by
   obtain⟨_,l3,e3,_,n3⟩:=rq S aJ;rw[e3,ax];have:=wf.lm;have:=wf.lc;lia
  have Zm:D1∉tB :: tC :: g.fp:=fun z=>by
   rcases aw.mp z with z|z
   ·obtain⟨ps,e⟩:=cY jv;rw[← z,U1] at e;cases e
   ·rcases aw.mp z with z|z
    ·obtain⟨ps,e⟩:=cY jl;rw[← z,U1] at e;cases e
    ·exact hW.new U1 z
  have Zn:=F2 _ _ Zm Il;have kt:cw H1 H2:=fun b xs e=>F2 b _ (fun z=>by
   rcases aw.mp z with z|z
   ·obtain⟨ps,e'⟩:=cY jw;rw[z,e'] at e;cases e
   ·rcases aw.mp z with z|z
    ·obtain⟨ps,e'⟩:=cY kr;rw[z,e'] at e;cases e
    ·obtain⟨ys,e'⟩:=DS.lists b z;rw[e'] at e;cases e) e
  have t1:=aM Jh;have t2:=aM BA;have hlen:(S.jz aJ).made.length=S.made.length + l1.length + ((Dp Vc WE WG).map (mz Vb WD)).length:=by
   rw[em2,e1,ax,ax]
  refine⟨_,rfl,_,rfl,D1,D2,Zk,Oz,rfl,rfl,Zn,Io,?_,fun p np=>?_⟩
  ·have:Zk.length + Oz.length<=1000000:=by lia
   exact cq (ja this)
  ·have s3:=ay.new (o:= .lst (Zk ++ Oz)) np;have F:=F1.tr F2;have np0:H p=none:=by
    cases e:H p with
    |none=>rfl
    |some o=>
     exfalso;by_cases js:p∈tB :: tC :: g.fp
     ·rcases aw.mp js with z|js
      ·obtain⟨ps,q⟩:=cY jx;rw[← z,np] at q;cases q
      ·rcases aw.mp js with z|js
       ·obtain⟨ps,q⟩:=cY lD;rw[← z,np] at q;cases q
       ·exact A6.new np js
     ·have q:=F _ _ js e;rw[np] at q;cases q
   refine k p _ _ (F.cA s3) (bp jx s3) (bp lD s3) (A6.same s3) np0 af ?_;have ed:(S.jz aJ).made.drop S.made.length=l1 ++ (Dp Vc WE WG).map (mz Vb WD):=by
    rw[em2,e1,dR,List.drop_left]
   rw[ed];exact pO ((Jh.mono kt).mono s3.tk) (BA.mono s3.tk)
def Bd (g:eM):(lS g).lookup ("tell_bill":Str)=none:=by rfl
def uU (g:eM):(lS g).lookup ("tell_payment":Str)=none:=by rfl
def Be (g:eM):(lS g).lookup ("tell_note":Str)=none:=by rfl
def wZ (g:eM):(lS g).lookup ("set_by_hand":Str)=none:=by rfl
def Lm (g:eM):(lS g).lookup ("sweep":Str)=none:=by rfl
inductive vk (A:dU)(K:Frag)(tB tC:Addr)(vs:List V)(H:Hp)(Q:VK)(E:XK):Prop
 |mk (pw pd:Addr)(S:Bk)(f:eM)(n:Nat)(d:bc)(h1:vs=[.ref pw,.ref pd])(h2:dM A H pw S f)(h3:WF S n)(h4:n<=60)(h5:kG H tB)(h6:lh H tC)(h7:H pd=some (.tup (bc.vs d)))(h8:d.tells=true)(h9:(S.bar d=""-> ∀v f' H',f'.fp=f.fp->Frame (tB :: tC :: f.fp) H H'->kG H' tB->lh H' tC->dM A H' pw (S.enter d) f'->ju H' (fun D=>H D=none) (S.Ke d) v->Q v H'))(LV:(S.bar d≠""->Nm A K E (S.bar d) H)):vk A K tB tC vs H Q E
def Gw:aV ["work","deed","kind"] ["work","deed"] (aA (top 30)):={}
def Ln (T:Txt K mg){A:dU}{tB tC:Addr}(G:jA K mg A)(DB:pM K mg "bills_in_order" (top 17) tB)(DC:pM K mg "credits_in_order" (top 18) tC)(i9:tB≠tC)(KB:K.In base)(BM:BMain mg base):wt P w K mg base "done" 7 ["work","deed"] (vk A K tB tC):=by
 have Dr:gU (nj P w mg) P w K mg base A.work "tell_bill" 5 ["self","who","day","due","amount"] (AL A K):=C4 T G;have w6:gU (nj P w mg) P w K mg base A.work "tell_payment" 6 ["self","who","day","amount"] (AN A K):=wA T G;have Ds:gU (nj P w mg) P w K mg base A.work "tell_note" 6 ["self","bill_number","day","amount"] (AO A K):=C5 T G;have yz:gU (nj P w mg) P w K mg base A.work "set_by_hand" 5 ["self","credit_number","bill_number","amount"] (KR A K):=ye T G;have NL:gU sU P w K mg base A.work "sweep" 4 ["self","who"] (Bc A tB tC):=NK T G DB DC i9 KB BM;refine Qv (k:=6) T.Qn Gw (fun f cV A' outer s H vs Q E hr mQ h=>?_)
 ·obtain⟨pw,pd,S,g,n,d,rfl,hW,wf,hn,jv,jl,hd,ht,k1,k2⟩:=h;have nd:=Gw.nd;obtain⟨dw,hw⟩:=hW.obj;refine⟨_,(ah (sv 2 nd (xt (pv 1) ai))
(ah (bP (aY cU (pv 2) aK (a8 _))
(av (a6 (nZ Dr (hr.mono (by decide)) mQ.pass (pv 0) (aa (xt (pv 1) ai) (aa (xt (pv 1) ai) (aa (xt (pv 1) ai) (aa (xt (pv 1) ai) ao)))))))
bh)
(ah (bP (aY cU (pv 2) aK (a8 _))
(av (a6 (nZ w6 (hr.mono (by decide)) mQ.pass (pv 0) (aa (xt (pv 1) ai) (aa (xt (pv 1) ai) (aa (xt (pv 1) ai) ao))))))
bh)
(ah (bP (aY cU (pv 2) aK (a8 _))
(av (a6 (nZ Ds (hr.mono (by decide)) mQ.pass (pv 0) (aa (xt (pv 1) ai) (aa (xt (pv 1) ai) (aa (xt (pv 1) ai) ao))))))
bh)
(ah (bP (aY cU (pv 2) aK (a8 _))
(av (a6 (nZ yz (hr.mono (by decide)) mQ.pass (pv 0) (aa (xt (pv 1) ai) (aa (xt (pv 1) ai) (aa (xt (pv 1) ai) ao))))))
bh)
(av (a6 (nZ NL (hr.mono (by decide)) nK (pv 0) (aa (xt (pv 1) ai) ao))))))))),?_⟩
  have ext: ∀a∈g.fp,∀φ,H a≠some (.ext φ):=fun a ha φ e=>by
   obtain⟨xs,z⟩:=hW.lists a ha;rw[z] at e;cases e
  have IG:tB∉g.fp:=hW.off fun xs e=>by
   obtain⟨ps,z⟩:=cY jv;rw[z] at e;cases e
  have IH:tC∉g.fp:=hW.off fun xs e=>by
   obtain⟨ps,z⟩:=cY jl;rw[z] at e;cases e
  cases d with
  |fC n=>cases ht
  |ask o w d=>cases ht
  |gZ w d l=>cases ht
  |dJ wh dy du am=>
   refine⟨_,rfl,pd,_,_,.str "bill",rfl,rfl,cy.of hd,rfl,?_⟩;refine⟨_,rfl,rfl,true,BD _,fH ⟨_,rfl,pw,dw,_,rfl,hw,Bd g,_,rfl,pd,_,_,.str wh,rfl,rfl,cy.of hd,rfl,_,rfl,pd,_,_,.int dy,rfl,rfl,cy.of hd,rfl,_,rfl,pd,_,_,.int du,rfl,rfl,cy.of hd,rfl,_,rfl,pd,_,_,.int am,rfl,rfl,cy.of hd,rfl,pw,S,g,wh,dy,du,am,rfl,hW,(by have:=wf.lb; lia),fun hb f1 H1 e1 F1 W1=>?_,k2⟩⟩;exact k1 hb _ f1 H1 e1 (dN F1 fun x hx=>by simp[hx]) (fX jv F1 IG ext) (fX jl F1 IH ext) W1 rfl
  |o7 wh dy am=>
   refine⟨_,rfl,pd,_,_,.str "pay",rfl,rfl,cy.of hd,rfl,?_⟩;refine⟨_,rfl,rfl,false,jL (show("pay":Str)≠"bill" by decide +kernel),bV ?_⟩;refine⟨_,rfl,rfl,true,BD _,fH ⟨_,rfl,pw,dw,_,rfl,hw,uU g,_,rfl,pd,_,_,.str wh,rfl,rfl,cy.of hd,rfl,_,rfl,pd,_,_,.int dy,rfl,rfl,cy.of hd,rfl,_,rfl,pd,_,_,.int am,rfl,rfl,cy.of hd,rfl,pw,S,g,wh,dy,am,rfl,hW,(by have:=wf.lc; lia),fun hb f1 H1 e1 F1 W1=>?_,k2⟩⟩;exact k1 hb _ f1 H1 e1 (dN F1 fun x hx=>by simp[hx]) (fX jv F1 IG ext) (fX jl F1 IH ext) W1 rfl
  |note b dy am=>
   refine⟨_,rfl,pd,_,_,.str "note",rfl,rfl,cy.of hd,rfl,?_⟩;refine⟨_,rfl,rfl,false,jL (show("note":Str)≠"bill" by decide +kernel),bV ?_⟩;refine⟨_,rfl,rfl,false,jL (show("note":Str)≠"pay" by decide +kernel),bV ?_⟩;refine⟨_,rfl,rfl,true,BD _,fH ⟨_,rfl,pw,dw,_,rfl,hw,Be g,_,rfl,pd,_,_,.int b,rfl,rfl,cy.of hd,rfl,_,rfl,pd,_,_,.int dy,rfl,rfl,cy.of hd,rfl,_,rfl,pd,_,_,.int am,rfl,rfl,cy.of hd,rfl,pw,S,g,b,dy,am,rfl,hW,(by have:=wf.lc; lia),fun hb f1 H1 e1 F1 W1=>?_,k2⟩⟩;exact k1 hb _ f1 H1 e1 (dN F1 fun x hx=>by simp[hx]) (fX jv F1 IG ext) (fX jl F1 IH ext) W1 rfl
  |set c b am=>
   refine⟨_,rfl,pd,_,_,.str "set",rfl,rfl,cy.of hd,rfl,?_⟩;refine⟨_,rfl,rfl,false,jL (show("set":Str)≠"bill" by decide +kernel),bV ?_⟩;refine⟨_,rfl,rfl,false,jL (show("set":Str)≠"pay" by decide +kernel),bV ?_⟩;refine⟨_,rfl,rfl,false,jL (show("set":Str)≠"note" by decide +kernel),bV ?_⟩;refine⟨_,rfl,rfl,true,BD _,fH ⟨_,rfl,pw,dw,_,rfl,hw,wZ g,_,rfl,pd,_,_,.int c,rfl,rfl,cy.of hd,rfl,_,rfl,pd,_,_,.int b,rfl,rfl,cy.of hd,rfl,_,rfl,pd,_,_,.int am,rfl,rfl,cy.of hd,rfl,pw,S,g,n,c,b,am,rfl,hW,wf,(ja (by have:=wf.lm; lia)),fun hb f1 H1 e1 F1 W1=>?_,k2⟩⟩;exact k1 hb _ f1 H1 e1 (dN F1 fun x hx=>by simp[hx]) (fX jv F1 IG ext) (fX jl F1 IH ext) W1 rfl
  |fu wh=>
   refine⟨_,rfl,pd,_,_,.str "sweep",rfl,rfl,cy.of hd,rfl,?_⟩;refine⟨_,rfl,rfl,false,jL (show("sweep":Str)≠"bill" by decide +kernel),bV ?_⟩;refine⟨_,rfl,rfl,false,jL (show("sweep":Str)≠"pay" by decide +kernel),bV ?_⟩;refine⟨_,rfl,rfl,false,jL (show("sweep":Str)≠"note" by decide +kernel),bV ?_⟩;refine⟨_,rfl,rfl,false,jL (show("sweep":Str)≠"set" by decide +kernel),bV ?_⟩;refine⟨_,rfl,pw,dw,_,rfl,hw,Lm g,_,rfl,pd,_,_,.str wh,rfl,rfl,cy.of hd,rfl,pw,S,g,n,wh,rfl,hW,wf,(by lia),jv,jl,fun D ms H1 F1 jw kr W1 nD hD hT=>?_⟩;exact k1 rfl _ g H1 rfl F1 jw kr W1 ⟨D,ms,rfl,nD,hD,hT⟩
def Gx {α:Type}(x:α)(xs:List α):qY (x :: xs) 0=some x:=cI (xs:=x :: xs) (j:=0) rfl
def lE (H:Hp)(ss:List (Int×bc))(bf:List (Key×V)):Prop:=Paired (fun(st:Int×bc) (kv:Key×V)=>kv.1=Sum.inl st.1/\ ∃pd,kv.2= .ref pd/\H pd=some (.tup (bc.vs st.2))/\st.2.tells=true) ss bf
def lE.mono {H H':Hp}{ss:List (Int×bc)}{bf:List (Key×V)}(h:lE H ss bf)(k:cw H H'):lE H' ss bf:=Paired.iu h fun _ _ ⟨e,p,e2,z,t⟩=>⟨e,p,e2,k _ _ z,t⟩
structure fM (A:dU)(H:Hp)(pb pk pw:Addr)(T:eL)(f:eM):Prop where
 obj:eA H pb A.book (eU pk pw)
 kept: ∃bf,H pk=some (.dK bf)/\lE H T.steps bf
 wk:dM A H pw T.bk f
def fM.same {A:dU}{H H':Hp}{pb pk pw:Addr}{T:eL}{f:eM}(h:fM A H pb pk pw T f)(s:ay H H'):fM A H' pb pk pw T f:=by
 obtain⟨bf,k1,k2⟩:=h.kept;exact⟨h.obj.same s,⟨bf,s _ _ k1,k2.mono s.tk⟩,h.wk.same s⟩
def Gy {A:dU}{H H':Hp}{pw:Addr}{S:Bk}{f:eM}(h:dM A H pw S f)(kl: ∀a xs,H a=some (.lst xs)->H' a=some (.lst xs))(ki: ∀a C dx fs,fs.length=5->H a=some (.ins C dx fs)->H' a=some (.ins C dx fs))(kt:cw H H'):dM A H' pw S f:=by
 obtain⟨dw,hw⟩:=h.obj;obtain⟨ms,m1,m2⟩:=h.hm;exact⟨⟨dw,ki _ _ _ _ rfl hw⟩,kl _ _ h.hb,kl _ _ h.hc,kl _ _ h.hl,kl _ _ h.hf,⟨ms,kl _ _ m1,m2.mono kt⟩,⟨h.rb.1,fun i p e=>let⟨dx,z⟩:=h.rb.2 i p e; ⟨dx,ki _ _ _ _ rfl z⟩⟩,⟨h.rc.1,fun i p e=>let⟨dx,z⟩:=h.rc.2 i p e; ⟨dx,ki _ _ _ _ rfl z⟩⟩,h.nd⟩
def Lo (o:HO):Prop:=(∀xs,o≠ .lst xs)/\(∀xs,o≠ .tup xs)/\ ∀C dx fs,fs.length=5->o≠ .ins C dx fs
def w9 {A:dU}{H:Hp}{pw p:Addr}{S:Bk}{f:eM}{o u:HO}(h:dM A H pw S f)(e:H p=some o)(n:Lo o):dM A (upd H p u) pw S f:=
 Gy h (fun a xs z=>by rw[aB (fun q=>by rw[q,e] at z; exact n.1 xs (aF z))]; exact z) (fun a C dx fs hl z=>by rw[aB (fun q=>by rw[q,e] at z; exact n.2.2 C dx fs hl (aF z))]; exact z)
  (fun a xs z=>by rw[aB (fun q=>by rw[q,e] at z; exact n.2.1 xs (aF z))]; exact z)
def vm (bf:List (Key×V)):Lo (.dK bf):=⟨fun _ z=>(by cases z),fun _ z=>(by cases z),fun _ _ _ _ z=>(by cases z)⟩
def Lp (φ:Heap->Prop):Lo (.ext φ):=⟨fun _ z=>(by cases z),fun _ z=>(by cases z),fun _ _ _ _ z=>(by cases z)⟩
def zv (C dx pk pw:Addr):Lo (.ins C dx (eU pk pw)):=⟨fun _ z=>(by cases z),fun _ z=>(by cases z),fun _ _ fs hl z=>(by injection z with _ _ z; rw[← z] at hl; cases hl)⟩
def Bf {H:Hp}{p:Addr}{o u:HO}(e:H p=some o)(n:Lo o):cw H (upd H p u):=fun a xs z=>by rw[aB (fun q=>by rw[q,e] at z; exact n.2.1 xs (aF z))]; exact z
def tM {H:Hp}{m:Int}: ∀{ss:List (Int×bc)} {bf:List (Key×V)},lE H ss bf->fQ bf (Sum.inl m:Key)=none-> ∀st∈ss,st.1≠m
 |_,_,.nil,_,_,h=>by cases h
 |_,_,.cons (a:=a) (b:=kv) ⟨e,_⟩ t,hv,st,h=>by
  by_cases q:kv.1=(Sum.inl m:Key)
  ·rw[fL q] at hv;cases hv
  ·rw[fm q] at hv;rcases aw.mp h with rfl|h
   ·intro z;rw[e,z] at q;exact q rfl
   ·exact tM t hv st h
def zw {H:Hp}{m:Int}{v:V}: ∀{ss:List (Int×bc)} {bf:List (Key×V)},lE H ss bf->fQ bf (Sum.inl m:Key)=some v-> ∃st∈ss,st.1=m/\ ∃pd,v= .ref pd/\H pd=some (.tup (bc.vs st.2))/\st.2.tells=true
 |_,_,.nil,hv=>by cases hv
 |_,_,.cons (a:=a) (b:=kv) ⟨e,pd,e2,z,tl⟩ t,hv=>by
  by_cases q:kv.1=(Sum.inl m:Key)
  ·rw[fL q] at hv;rw[e] at q;refine⟨a,ba,by injection q,pd,?_,z,tl⟩;rw[← aF hv,e2]
  ·rw[fm q] at hv;obtain⟨st,h1,h2⟩:=zw t hv;exact⟨st,aW _ h1,h2⟩
def Du {H:Hp}{m:Int}: ∀{ss:List (Int×bc)} {bf:List (Key×V)},lE H ss bf->(∀st∈ss,st.1≠m)->fQ bf (Sum.inl m:Key)=none
 |_,_,.nil,_=>rfl
 |_,_,.cons (a:=a) (b:=kv) ⟨e,_⟩ t,h=>by
  rw[fm (fun q=>by
   rw[e] at q;exact h a ba (by injection q))]
  exact Du t fun st hs=>h st (aW _ hs)
def zx {H:Hp}{m:Int}: ∀{ss:List (Int×bc)} {bf:List (Key×V)},lE H ss bf->lE H (ss.filter fun st=>decide (st.1≠m)) (lL bf (Sum.inl m:Key))
 |_,_,.nil=> .nil
 |_,_,.cons (a:=a) (b:=kv) ⟨e,r⟩ t=>by
  have ih:=zx (m:=m) t;unfold lL at ih ⊢;by_cases q:a.1=m
  ·have q':kv.1=(Sum.inl m:Key):=by rw[e,q]
   rw[List.filter_cons_of_neg (by simp[q]),List.filter_cons_of_neg (by simp[q'])];exact ih
  ·have q': ¬ kv.1=(Sum.inl m:Key):=by rw[e]; intro z; exact q (by injection z)
   rw[List.filter_cons_of_pos (by simp[q]),List.filter_cons_of_pos (by simp[q'])];exact .cons ⟨e,r⟩ ih
def xa: ∀{ss:List (Int×bc)},ss.Pairwise (fun a b=>a.1 < b.1)-> ∀{x y:Int×bc},x∈ss->y∈ss->x.1=y.1->x=y
 |[],_,_,_,h,_,_=>by cases h
 |a :: ss,hp,x,y,hx,hy,e=>by
  rw[ej] at hp;rcases aw.mp hx with hx|hx
  ·rcases aw.mp hy with hy|hy
   ·rw[hx,hy]
   ·have:=hp.1 y hy;rw[hx] at e;lia
  ·rcases aw.mp hy with hy|hy
   ·have:=hp.1 x hx;rw[hy] at e;lia
   ·exact xa hp.2 hx hy e
def II (ss:List (Int×bc))(m:Int):Bool:=ss.any fun st=>decide (st.1=m) && st.2.isSet
def qF (ss:List (Int×bc))(m:Int):(ss.filter (cX m)).length=ss.length↔II ss m=false:=by
 rw[List.length_filter_eq_length_iff];unfold II;rw[sF];constructor
 ·intro h st hs;have:=h st hs;unfold cX at this;cases h2:decide (st.1=m) && st.2.isSet
  ·simp
  ·rw[h2] at this;cases this
 ·intro h st hs;have:=h st hs;unfold cX;cases h2:decide (st.1=m) && st.2.isSet
  ·rfl
  ·exact absurd h2 this
def Lq {ss:List (Int×bc)}{m:Int}{st:Int×bc}(hp:ss.Pairwise (fun a b=>a.1 < b.1))(hs:st∈ss)(e:st.1=m):II ss m=st.2.isSet:=by
 unfold II;cases h:st.2.isSet with
 |true=>exact List.any_eq_true.mpr ⟨st,hs,by simp[e,h]⟩
 |false=>
  rw[sF];intro x hx z;have z':x.1=m/\x.2.isSet=true:=by simpa using z
  have q:=xa hp hx hs (z'.1.trans e.symm);rw[q,h] at z';cases z'.2
def Dv {ss:List (Int×bc)}{m:Int}(h: ∀st∈ss,st.1≠m):II ss m=false:=by
 unfold II;rw[sF];intro x hx z;have z':x.1=m/\x.2.isSet=true:=by simpa using z
 exact h x hx z'.1
def Lr {ss:List (Int×bc)}{m:Int}(hp:ss.Pairwise (fun a b=>a.1 < b.1))(h:II ss m=true):ss.filter (cX m)=ss.filter fun st=>decide (st.1≠m):=by
 apply sJ;intro st hs;unfold cX;by_cases e:st.1=m
 ·rw[← Lq hp hs e,h];simp[e]
 ·simp[e]
def Dw (pk pw:Addr):(eU pk pw).lookup ("in_force":Str)=none:=by rfl
def NM (pk pw:Addr):(eU pk pw).lookup ("undo":Str)=none:=by rfl
def Vd (pk pw:Addr):(eU pk pw).lookup ("do":Str)=none:=by rfl
inductive tN (A:dU)(vs:List V)(H:Hp)(Q:VK)(E':XK):Prop
 |mk (pb pk pw:Addr)(T:eL)(f:eM)(n:Nat)(m:Int)(h1:vs=[.ref pb,.int m])(h2:fM A H pb pk pw T f)(h3:Good T n)(h4: ∀H',ay H H'->Q (.bl (II T.steps m)) H'):tN A vs H Q E'
def tO:aV ["self","number"] ["self","number"] (aA (mem 29 3)):={}
def E8 {A:dU}(G:jA K mg A):gU sU P w K mg base A.book "in_force" 1 ["self","number"] (tN A):=by
 refine Nh (k:=0) G.tG G.eI tO (fun f cV A' outer s H vs Q E hr h=>?_)
 ·obtain⟨pb,pk,pw,T,g,n,m,rfl,hB,hG,k⟩:=h;have hu:=jy hr;obtain⟨db,hb⟩:=hB.obj;obtain⟨bf,hk,hK⟩:=hB.kept;refine⟨_,(av (a6 (qg (O8 (Pz hu (pv 1) (kg (pv 0)))) (nE (fI lK (xt (cF hu (kg (pv 0)) (pv 1) (fun _ _=>rfl)) ai) (cg (aa aK (aa aK ao))) (by rfl)))))),?_⟩;refine⟨_,rfl,_,rfl,pb,_,db,_,_,rfl,hb,G.eI,G.gH,vh _ _,pk,_,rfl,lu.k (k:=(Sum.inl m:Key)) hk,_,rfl,?_⟩;cases hv:fQ bf (Sum.inl m:Key) with
  |none=>
   refine bV ?_;have q:=k H (ay.refl _);rw[Dv (tM hK hv)] at q;exact q
  |some v=>
   refine fH ?_;obtain⟨st,hs,e,pd,rfl,Gk,ht⟩:=zw hK hv;obtain⟨r,er⟩:=rW (.inl ht);rw[er] at Gk;refine⟨_,rfl,pb,_,db,_,_,rfl,hb,G.eI,G.gH,vh _ _,_,rfl,pk,.ref pd,rfl,(by have z:=lu.k (k:=(Sum.inl m:Key)) hk; rw[hv] at z; exact z),pd,_,_,.str (bc.word st.2),rfl,rfl,cy.of Gk,Gx _ _,(by show 2<=sizeLine; decide),fun p np=>?_⟩;have s1:=ay.new (o:= .tup [.str "set",.str "sweep"]) np;refine⟨p,_,rfl,.inr (cy.of af),rfl,rfl,?_⟩;have q:=k _ s1;rw[Lq hG.inc hs e,← Gj ht] at q;exact q
inductive Q9 (A:dU)(K:Frag)(tB tC:Addr)(vs:List V)(H:Hp)(Q:VK)(E:XK):Prop
 |mk (pb pd pk pw:Addr)(T:eL)(f:eM)(n:Nat)(d:bc)(h1:vs=[.ref pb,.int n,.ref pd])(h2:fM A H pb pk pw T f)(h3:Good T n)(h4:n<=59)(h5:kG H tB)(h6:lh H tC)(h7:H pd=some (.tup (bc.vs d)))(h8:d.tells=true)(h9:(T.bk.bar d=""-> ∀v f' H',f'.fp=f.fp->Frame (tB :: tC :: pk :: f.fp) H H'->kG H' tB->lh H' tC->fM A H' pb pk pw ⟨T.steps ++ [((n:Int),d)],T.bk.enter d⟩ f'->ju H' (fun D=>H D=none) (T.bk.Ke d) v->Q v H'))(LV:(T.bk.bar d≠""->Nm A K E (T.bk.bar d) H)):Q9 A K tB tC vs H Q E
def xc:aV ["self","number","deed","answer"] ["self","number","deed"] (aA (mem 29 1)):={}
def Zo (T:Txt K mg){A:dU}{tB tC:Addr}(G:jA K mg A)(DB:pM K mg "bills_in_order" (top 17) tB)(DC:pM K mg "credits_in_order" (top 18) tC)(i9:tB≠tC)(KB:K.In base)(BM:BMain mg base):gU (nj P w mg) P w K mg base A.book "do" 8 ["self","number","deed"] (Q9 A K tB tC):=by
 have E9:wt P w K mg base "done" 7 ["work","deed"] (vk A K tB tC):=Ln T G DB DC i9 KB BM;refine rN (k:=7) G.EG G.eI xc (fun f cV A' outer s H vs Q E hr mQ h=>?_)
 ·obtain⟨pb,pd,pk,pw,T,g,n,d,rfl,hB,hG,hn,jv,jl,hd,ht,k1,k2⟩:=h;have hu:=jy hr;have nd:=xc.nd;obtain⟨db,hb⟩:=hB.obj;obtain⟨bf,hk,hK⟩:=hB.kept;have hW:=hB.wk;refine⟨_,(ah (sv 3 nd (tI E9 (hr.mono (by decide)) rfl mQ.pass (aa (kg (pv 0)) (aa (pv 2) ao))))
(ah (zU hu (kg (pv 0)) (pv 1) (pv 2) rfl)
(av (a6 (pv 3))))),?_⟩
  refine⟨_,rfl,pb,_,db,_,_,rfl,hb,G.eI,G.fS,sh _ _,_,rfl,pw,pd,T.bk,g,n,d,rfl,hW,hG.wf (by lia),(by lia),jv,jl,hd,ht,fun pA v f1 H1 e1 F1 jw kr W1 hA=>?_,k2⟩;have Ra: ∀a o,H a=some o->(∀xs,o≠ .lst xs)->(∀ps,o≠ .nA ps)->a∉tB :: tC :: g.fp:=fun a o e n1 n2 z=>by
   rcases aw.mp z with z|z
   ·obtain⟨ps,q⟩:=cY jv;rw[z,q] at e;exact n2 ps (aF e).symm
   ·rcases aw.mp z with z|z
    ·obtain⟨ps,q⟩:=cY jl;rw[z,q] at e;exact n2 ps (aF e).symm
    ·obtain⟨xs,q⟩:=hW.lists a z;rw[q] at e;exact n1 xs (aF e).symm
  have kt:cw H H1:=fun a xs e=>F1 _ _ (Ra _ _ e (fun _ z=>by cases z) (fun _ z=>by cases z)) e;have Ve:=F1 _ _ (Ra _ _ hb (fun _ z=>by cases z) (fun _ z=>by cases z)) hb;have IJ:=F1 _ _ (Ra _ _ hk (fun _ z=>by cases z) (fun _ z=>by cases z)) hk;have hK1:=hK.mono kt;have mv:=kt _ _ hd;have DO:=aM hK;have hlen:=hG.len;refine⟨_,rfl,_,rfl,pb,_,db,_,_,rfl,Ve,G.eI,G.gH,vh _ _,_,rfl,pk,_,rfl,Ei.k (k:=(Sum.inl (n:Int):Key)) IJ (a9 (by lia)),?_⟩;rw[JO _ (Du hK1 fun st hs=>by have:=(hG.lt st hs).2; lia)];have s2: ∀a o,a≠pk->H1 a=some o->upd H1 pk (.dK (bf ++ [(Sum.inl (n:Int),V.ref pd)])) a=some o:=fun a o hn e=>by rw[aB hn]; exact e
  have nbk:pb≠pk:=mN Ve IJ (by intro z; cases z);have Zp:=Bf (u:= .dK (bf ++ [(Sum.inl (n:Int),V.ref pd)])) IJ (vm bf);refine⟨_,rfl,k1 pA v f1 _ e1 ((dN F1 fun x hx=>?_).tr (Frame.upd (by simp))) (fX jw (Frame.upd (fp:=[pk]) (by simp)) (fun z=>?_) (fun a ha φ e=>?_)) (fX kr (Frame.upd (fp:=[pk]) (by simp)) (fun z=>?_) (fun a ha φ e=>?_)) ⟨⟨db,s2 _ _ nbk Ve⟩,⟨_,af,?_⟩,w9 W1 IJ (vm bf)⟩ ?_⟩
  ·rcases aw.mp hx with hx|hx
   ·simp[hx]
   ·rcases aw.mp hx with hx|hx
    ·simp[hx]
    ·simp[hx]
  ·obtain⟨ps,q⟩:=cY jw;rw[au.mp z,IJ] at q;cases q
  ·rw[au.mp ha,IJ] at e;cases e
  ·obtain⟨ps,q⟩:=cY kr;rw[au.mp z,IJ] at q;cases q
  ·rw[au.mp ha,IJ] at e;cases e
  ·exact cG (hK1.mono Zp) ⟨rfl,pd,rfl,Zp _ _ mv,ht⟩
  ·exact hA.keep (fun D xs o e=>⟨o,s2 _ _ (mN e IJ (by intro z; cases z)) e⟩) Zp
def Dx: ∀{ss:List (Int×bc)} {B S:Bk} {i:Nat} {k:Int} {d:bc},cH (ss.take i) B=some S->ss[i]? =some (k,d)->S.bar d≠""->iC ss B=S.bar d/\cH ss B=none
 |[],_,_,_,_,_,_,h,_=>by simp at h
 |(k0,d0) :: ss,B,S,0,k,d,hw,h,hb=>by
  cases hw;have e:(k0,d0)=(k,d):=by simpa using h
  cases e;unfold iC cH;rw[aQ hb,aQ hb];exact⟨rfl,rfl⟩
 |(k0,d0) :: ss,B,S,i + 1,k,d,hw,h,hb=>by
  rw[List.take_succ_cons] at hw;unfold cH at hw;split at hw
  ·rename_i q;have ih:=Dx hw (by simpa using h) hb;unfold iC cH;rw[a0 q,a0 q];exact ih
  ·cases hw
def Dy {ss:List (Int×bc)}{B S:Bk}{i:Nat}{k:Int}{d:bc}(hw:cH (ss.take i) B=some S)(h:ss[i]? =some (k,d))(hb:S.bar d=""):cH (ss.take (i + 1)) B=some (S.enter d):=by
 obtain⟨hi,e⟩:=ak.mp h;rw[kP hi,lx,hw,e];show(if S.bar d="" then some (S.enter d) else none)=_;rw[a0 hb]
def Zq (A:dU)(K:Frag)(tB tC:Addr)(fp:List Addr)(E:XK)(t:Str)(H:Hp):Prop:= ∀C dx H',gS K C A.refusal->Frame fp H H'->kG H' tB->lh H' tC->H dx=none->H' dx=some (.xd [("text",.str t)])->E (.ref C) (some dx) H'
inductive Bg (A:dU)(K:Frag)(tB tC:Addr)(vs:List V)(H:Hp)(Q:VK)(E:XK):Prop
 |mk (pk:Addr)(ss:List (Int×bc))(bf:List (Key×V))(h1:vs=[.ref pk])(h2:H pk=some (.dK bf))(h3:lE H ss bf)(h4:ss.length<=59)(h5:(iC ss Bk.new=""∨iC ss Bk.new="too much"))(h6:kG H tB)(h7:lh H tC)(h8:(∀S,cH ss Bk.new=some S-> ∀pw f H',Frame [tB,tC] H H'->kG H' tB->lh H' tC->dM A H' pw S f->H pw=none->(∀b∈f.fp,H b=none)->Q (.ref pw) H'))(h9:(cH ss Bk.new=none->Zq A K tB tC [tB,tC,pk] E "needed" H)):Bg A K tB tC vs H Q E
def pQ:aV ["kept","work","deed"] ["kept"] (aA (top 31)):={}
def OH {H:Hp}{tb d:Addr}{pos:Pos}{qual:Str}{φ:Heap->Prop}{u:HO}(t:Tb H tb pos qual)(e:H d=some (.ext φ))(n: ∀q:Str,φ≠fun h=>h.CodeRec (.ref d) q):Tb (upd H d u) tb pos qual:=by
 obtain⟨ps,h1,h2,h3⟩:=t;refine⟨ps,by rw[aB (mN h1 e (by intro z; cases z))]; exact h1,h2,?_⟩;rcases h3 with h3|⟨c',h3,h4⟩
 ·exact .inl h3
 ·refine .inr ⟨c',h3,?_⟩;by_cases z:c'=d
  ·subst z;rw[e] at h4;have h5:=aF h4;injection h5 with h5;exact absurd h5 (n qual)
  ·rw[aB z];exact h4
def Bh (T:Txt K mg){A:dU}{tB tC:Addr}(G:jA K mg A)(DB:pM K mg "bills_in_order" (top 17) tB)(DC:pM K mg "credits_in_order" (top 18) tC)(i9:tB≠tC)(hnd:A.iH≠A.tooMuch)(KB:K.In base)(BM:BMain mg base):wt P w K mg base "done_again" 8 ["kept"] (Bg A K tB tC):=by
 have E9:wt P w K mg base "done" 7 ["work","deed"] (vk A K tB tC):=Ln T G DB DC i9 KB BM;have E1:tH P w K mg base "Work" A.work 1 ["self"] (vc A):=KY G;refine Qv (k:=7) T.Af pQ (fun f cV A' outer s H vs Q E hr mQ h=>?_)
 ·obtain⟨pk,ss,bf,rfl,hk,hK,hl,hfb,jv,jl,k1,k2⟩:=h;have nd:=pQ.nd;refine⟨_,(ah (sv 1 nd (Ge E1 (hr.mono (by decide)) rfl))
(ah (M4 mQ.own rfl (pv 0) (gn 2 nd)
(av (Cs mQ rfl rfl G.wq G.qx (show mg "Needed"≠some (.ref A.tooMuch) from fun z=>hnd (by rw[G.zh] at z; injection z with z; injection z)) (Ie T G) (hr.h.mono (by decide)) rfl (fun xe pn E hx=>av (bM (tI E9 (hr.mono (by decide)) rfl hx (aa (pv 1) (aa (pv 2) ao))))))))
(av (a6 (pv 1))))),?_⟩
  intro xw Y1 NB QS ne;have s1:=jS (C:=A.work) (fs:=[]) NB QS ne;refine⟨xw,Y1,rfl,af,fun g H1 F1 W1 nf=>⟨rfl,?_⟩⟩;have fg: ∀b∈g.fp,H b=none:=fun b hb=>s1.free (nf b hb);have S1:ay H H1:=fun b o e=>F1 b o (by simpa using aI e NB) (s1 b o e);clear F1 nf s1;refine⟨_,rfl,?_⟩;have IJ:=S1 _ _ hk;have hlen:=aM hK;refine Ky (td:=fun _ _ _=>True) IJ fun φ hφ=>⟨fun i σ H2=> ∃(S:Bk) (f:eM) (x2:Option V),σ=[some (.ref pk),some (.ref xw),x2]/\cH (ss.take i) Bk.new=some S/\dM A H2 xw S f/\(∀b∈f.fp,H b=none)/\Frame [tB,tC,pk] H H2/\H2 pk=some (.ext φ)/\kG H2 tB/\lh H2 tC,?_,?_,?_,?_⟩
  ·have ext: ∀a∈[pk],∀φ,H1 a≠some (.ext φ):=fun a ha φ e=>by
    rw[au.mp ha,IJ] at e;cases e
   have nB:tB∉[pk]:=fun z=>by
    obtain⟨ps,q⟩:=cY jv;rw[au.mp z,hk] at q;cases q
   have nC:tC∉[pk]:=fun z=>by
    obtain⟨ps,q⟩:=cY jl;rw[au.mp z,hk] at q;cases q
   exact⟨Bk.new,g,none,rfl,rfl,w9 W1 IJ (vm bf),fg,(S1.frame (fp:=[tB,tC,pk])).tr (Frame.upd (by simp)),af,fX (bp jv S1) (Frame.upd (fp:=[pk]) (by simp)) nB ext,fX (bp jl S1) (Frame.upd (fp:=[pk]) (by simp)) nC ext⟩
  ·rintro i σ H2 ⟨S,f,x2,_,_,_,_,_,e,_⟩;exact e
  ·rintro i x σ H2 hx ⟨S,f,x2,rfl,hw,hW,hf,F2,e2,jx,lD⟩;rw[aE] at hx;obtain⟨kv,Wm,rfl⟩:=bq.mp hx;have hi:i < ss.length:=by have:=(ak.mp Wm).1; lia
   have qN:=ag hi;obtain⟨kv',Vf,ek,pd,epd,Gk,ht⟩:=bL hK qN;rw[Wm] at Vf;obtain rfl:kv=kv':=aF Vf;generalize ss[i]=st at qN ek Gk ht;obtain⟨sn,d⟩:=st;rw[epd];have QF:H2 pd=some (.tup (bc.vs d)):=F2 _ _ (fun z=>by
    simp only[List.mem_cons,List.not_mem_nil,or_false] at z;rcases z with z|z|z
    ·obtain⟨ps,q⟩:=cY jv;rw[← z,Gk] at q;cases q
    ·obtain⟨ps,q⟩:=cY jl;rw[← z,Gk] at q;cases q
    ·rw[z,hk] at Gk;cases Gk) Gk
   have wf:WF S (0 + (ss.take i).length):=tw _ WF.new hw (by rw[bz]; lia);refine⟨_,rfl,_,rfl,xw,pd,S,f,_,d,rfl,hW,wf,(by rw[bz]; lia),jx,lD,QF,ht,fun hb v f' H3 e3 F3 wW wX W3 _=>?_,fun hb=>?_⟩
   ·refine⟨S.enter d,f',_,rfl,Dy hw qN hb,W3,(by rw[e3]; exact hf),F2.trans F3 (fun x hx=>?_),F3 _ _ (fun z=>?_) e2,wW,wX⟩
    ·rcases aw.mp hx with hx|hx
     ·exact .inl (by simp[hx])
     ·rcases aw.mp hx with hx|hx
      ·exact .inl (by simp[hx])
      ·exact .inr (hf x hx)
    ·rcases aw.mp z with z|z
     ·obtain⟨ps,q⟩:=cY jx;rw[← z,e2] at q;cases q
     ·rcases aw.mp z with z|z
      ·obtain⟨ps,q⟩:=cY lD;rw[← z,e2] at q;cases q
      ·have:=hf _ z;rw[hk] at this;cases this
   ·obtain⟨ef,ew⟩:=Dx hw qN hb;have et:S.bar d="too much":=(hfb.resolve_left (by rw[ef]; exact hb)).symm.trans ef |>.symm;intro C hC hCt dx H3 s3 nd3 OB;have VX:C=A.tooMuch:=hCt et;refine⟨by rw[VX],fun Zr n2=>?_⟩;have s4:=ay.new (o:= .xd [("text",.str "needed")]) n2;have Ls:=s3.trans s4;refine k2 ew A.iH Zr _ G.zi (F2.cA Ls) (bp jx Ls) (bp lD Ls) ?_ af;have Vg:=s3.free n2;cases e:H Zr with
    |none=>rfl
    |some o=>
     exfalso;by_cases js:Zr∈[tB,tC,pk]
     ·simp only[List.mem_cons,List.not_mem_nil,or_false] at js;rcases js with z|z|z
      ·obtain⟨ps,q⟩:=cY jx;rw[← z,Vg] at q;cases q
      ·obtain⟨ps,q⟩:=cY lD;rw[← z,Vg] at q;cases q
      ·rw[z,e2] at Vg;cases Vg
     ·have q:=F2 _ _ js e;rw[Vg] at q;cases q
  ·rintro σ H2 ⟨S,f,x2,rfl,hw,hW,hf,F2,e2,jx,lD⟩;rw[← hlen,bb] at hw;refine⟨_,rfl,k1 S hw xw f _ (fun b o hb e=>?_) (OH jx e2 hφ.2) (OH lD e2 hφ.2) (w9 hW e2 (Lp φ)) NB hf⟩;by_cases z:b=pk
   ·subst z;rw[hk] at e;rw[af];exact e
   ·rw[aB z];exact F2 _ _ (by simp only[List.mem_cons,List.not_mem_nil,or_false,not_or] at hb ⊢; exact⟨hb.1,hb.2,z⟩) e
def Rb (pk pw qO:Addr):eF "work" (.ref qO) (eU pk pw)=eU pk qO:=by rfl
def Rc (pk vn pw:Addr):eF "kept" (.ref vn) (eU pk pw)=eU vn pw:=by rfl
inductive Fb (A:dU)(K:Frag)(tB tC:Addr)(vs:List V)(H:Hp)(Q:VK)(E:XK):Prop
 |mk (pb pk pw:Addr)(T:eL)(f:eM)(n:Nat)(m:Int)(h1:vs=[.ref pb,.int m])(h2:fM A H pb pk pw T f)(h3:Good T n)(h4:n<=59)(h5:kG H tB)(h6:lh H tC)(h7:(II T.steps m=true-> ∀S,cH (T.steps.filter (cX m)) Bk.new=some S-> ∀vn qO f' H',Frame [tB,tC,pb] H H'->kG H' tB->lh H' tC->fM A H' pb vn qO ⟨T.steps.filter (cX m),S⟩ f'->H vn=none->(∀b∈f'.fp,H b=none)->Q (.str "undone") H'))(h8:(II T.steps m=true->cH (T.steps.filter (cX m)) Bk.new=none->Zq A K tB tC [tB,tC] E "needed" H))(h9:(II T.steps m=false->Zq A K tB tC [tB,tC] E "no setting" H)):Fb A K tB tC vs H Q E
def sm:aV ["self","number","kept"] ["self","number"] (aA (mem 29 2)):={}
def Rf (T:Txt K mg){A:dU}{tB tC:Addr}(G:jA K mg A)(DB:pM K mg "bills_in_order" (top 17) tB)(DC:pM K mg "credits_in_order" (top 18) tC)(i9:tB≠tC)(hnd:A.iH≠A.tooMuch)(KB:K.In base)(BM:BMain mg base):gU (nj P w mg) P w K mg base A.book "undo" 9 ["self","number"] (Fb A K tB tC):=by
 have Bi:wt P w K mg base "done_again" 8 ["kept"] (Bg A K tB tC):=Bh T G DB DC i9 hnd KB BM;have Fc:gU sU P w K mg base A.book "in_force" 1 ["self","number"] (tN A):=E8 G;refine rN (k:=8) G.Ax G.eI sm (fun f cV A' outer s H vs Q E hr mQ h=>?_)
 ·obtain⟨pb,pk,pw,TT,g,n,m,rfl,hB,hG,hn,jv,jl,k1,k2,k3⟩:=h;have hu:=jy hr;have nd:=sm.nd;obtain⟨db,hb⟩:=hB.obj;refine⟨_,(ah (bP (jT (gf (nZ Fc (hr.mono (by decide)) nK (pv 0) (aa (pv 1) ao))))
(av (kb mQ (AD T G) (hr.h.mono (by decide)) rfl rfl))
bh)
(ah (sv 2 nd (fZ CB (by rfl) T.Qp (by rfl) (aa (kg (pv 0)) ao)))
(ah (bM (JS (pv 2) (pv 1) ⟨rfl,rfl,rfl,rfl⟩))
(ah (mE (pv 0) (tI Bi (hr.mono (by decide)) rfl mQ.pass (aa (pv 2) ao)))
(ah (mE (pv 0) (pv 2))
(av (a6 aK))))))),?_⟩
  refine⟨_,rfl,pb,db,_,rfl,hb,Dw _ _,_,rfl,pb,pk,pw,TT,g,n,m,rfl,hB,hG,fun H1 s1=>⟨_,rfl,?_⟩⟩;refine cE (fun z=>?_) (fun z=>?_)
  ·have z':II TT.steps m=false:=by simpa using z
   intro dx nn;have s2:=s1.trans (ay.new (o:= .xd [("text",.str "no setting")]) nn);exact k3 z' A.jR dx _ G.rH s2.frame (bp jv s2) (bp jl s2) (s1.free nn) af
  have z':II TT.steps m=true:=by simpa using z
  have Oy:=hB.same s1;obtain⟨bf,hk,hK⟩:=Oy.kept;have Ve:=s1 _ _ hb;refine⟨_,rfl,pb,_,db,_,_,rfl,Ve,G.eI,G.gH,vh _ _,pk,bf,rfl,hk,fun p2 np2=>?_⟩;have s2:=ay.new (o:= .dK bf) np2;have uJ:upd H1 p2 (.dK bf) p2=some (.dK bf):=af;have n2:H p2=none:=s1.free np2;have S2:=s1.trans s2;have hK2:=hK.mono s2.tk;generalize upd H1 p2 (.dK bf)=H2 at uJ S2 hK2;clear s2;cases hv:fQ bf (Sum.inl m:Key) with
  |none=>
   have:=Dv (tM hK hv);rw[z'] at this;cases this
  |some v=>
  refine⟨_,rfl,p2,rfl,.inl ⟨bf,.inl uJ⟩,_,rfl,bf,(Sum.inl m:Key),v,uJ,rfl,hv,?_⟩;have WH:=(zx (m:=m) hK2).mono (Bf (u:= .dK (lL bf (Sum.inl m:Key))) uJ (vm bf));rw[← Lr hG.inc z'] at WH;have S3:ay H (upd H2 p2 (.dK (lL bf (Sum.inl m:Key)))):=S2.cW n2;have R4:upd H2 p2 (.dK (lL bf (Sum.inl m:Key))) p2=some (.dK (lL bf (Sum.inl m:Key))):=af;generalize upd H2 p2 (.dK (lL bf (Sum.inl m:Key)))=H3 at WH S3 R4;have Nv:=aZ (cX m) TT.steps;have K7:=hG.len;have Vh:(cH TT.steps Bk.new).isSome=true:=by rw[hG.w]; rfl
  refine⟨_,rfl,p2,_,_,rfl,R4,WH,(by lia),P2 m TT.steps (nQ.refl Bk.new) Vh,bp jv S3,bp jl S3,fun S hS qO f' H4 F4 yu yw W4 npw nf4=>?_,fun hS=>?_⟩
  case refine_2=>
   intro C dx H4 hC F4 yu yw nd4 Zs;refine k2 z' hS C dx H4 hC ((S3.frame (fp:=[tB,tC])).trans F4 (fun x hx=>?_)) yu yw (S3.free nd4) Zs;simp only[List.mem_cons,List.not_mem_nil,or_false] at hx;rcases hx with hx|hx|hx
   ·exact .inl (by simp[hx])
   ·exact .inl (by simp[hx])
   ·exact .inr (by rw[hx]; exact n2)
  have off: ∀a o,H3 a=some o->(∀ps,o≠ .nA ps)->a∉[tB,tC]:=fun a o e n1 z=>by
   simp only[List.mem_cons,List.not_mem_nil,or_false] at z;rcases z with z|z
   ·obtain⟨ps,q⟩:=cY (bp jv S3);rw[z,q] at e;exact n1 ps (aF e).symm
   ·obtain⟨ps,q⟩:=cY (bp jl S3);rw[z,q] at e;exact n1 ps (aF e).symm
  have yA:=F4 _ _ (off _ _ (S3 _ _ hb) (fun _ z=>by cases z)) (S3 _ _ hb);have OI:=F4 _ _ (off _ _ R4 (fun _ z=>by cases z)) R4;have hK4:=WH.mono (fun a xs e=>F4 _ _ (off _ _ e (fun _ z=>by cases z)) e);have F4':Frame [tB,tC,pb] H H4:=dN ((S3.frame (fp:=[tB,tC])).tr F4) (by simp);refine⟨_,rfl,pb,_,db,_,rfl,yA,G.eI,G.fS,(by show 2 < 1000; decide),?_⟩;rw[Rb];have e5:upd H4 pb (.ins A.book db (eU pk qO)) pb=some (.ins A.book db (eU pk qO)):=af;have Vi:=zv A.book db pk pw;have W5:=w9 (u:= .ins A.book db (eU pk qO)) W4 yA Vi;have nb2:p2≠pb:=(aI hb n2).symm;have Lu:upd H4 pb (.ins A.book db (eU pk qO)) p2=some (.dK (lL bf (Sum.inl m:Key))):=by rw[aB nb2]; exact OI
  have hK5:=hK4.mono (Bf (u:= .ins A.book db (eU pk qO)) yA Vi);have Vj: ∀a∈[pb],∀φ,H4 a≠some (.ext φ):=fun a ha φ e=>by
   rw[au.mp ha,yA] at e;cases e
  have nB:tB∉[pb]:=fun z=>by
   obtain⟨ps,q⟩:=cY yu;rw[au.mp z,yA] at q;cases q
  have nC:tC∉[pb]:=fun z=>by
   obtain⟨ps,q⟩:=cY yw;rw[au.mp z,yA] at q;cases q
  have Lg:kG (upd H4 pb (.ins A.book db (eU pk qO))) tB:=fX yu (Frame.upd (fp:=[pb]) (by simp)) nB Vj;have Lh:lh (upd H4 pb (.ins A.book db (eU pk qO))) tC:=fX yw (Frame.upd (fp:=[pb]) (by simp)) nC Vj;have F5:Frame [tB,tC,pb] H (upd H4 pb (.ins A.book db (eU pk qO))):=F4'.tr (Frame.upd (by simp));generalize upd H4 pb (.ins A.book db (eU pk qO))=H5 at e5 W5 Lu hK5 Lg Lh F5;refine⟨_,rfl,_,rfl,pb,_,db,_,rfl,e5,G.eI,G.gH,(by show 2 < 1000; decide),?_⟩;rw[Rc];have OJ:=zv A.book db pk qO;have Vk: ∀a∈[pb],∀φ,H5 a≠some (.ext φ):=fun a ha φ e=>by
   rw[au.mp ha,e5] at e;cases e
  refine k1 z' S hS p2 qO f' _ (F5.tr (Frame.upd (by simp))) (fX Lg (Frame.upd (fp:=[pb]) (by simp)) nB Vk) (fX Lh (Frame.upd (fp:=[pb]) (by simp)) nC Vk) ⟨⟨db,af⟩,⟨_,by rw[aB nb2]; exact Lu,hK5.mono (Bf e5 OJ)⟩,w9 W5 e5 OJ⟩ n2 (fun b hb=>S3.free (nf4 b hb))
def Dt.v:Dt->V
 | .int i=> .int i
 | .str s=> .str s
 | .bl b=> .bl b
 |_=> .en
def Dt.flat:Dt->Bool
 | .int _=>true
 | .str _=>true
 | .bl _=>true
 |_=>false
def xg {H:Hp}: ∀{ds:List Dt} {xs:List V},ds.all Dt.flat=true->gX H ds xs->xs=ds.map Dt.v
 |[],_,_,h=>cJ.mp h
 |d :: ds,_,hf,h=>by
  obtain⟨v,r,rfl,h1,h2⟩:=bw.mp h;rw[List.all_cons,Jl] at hf;rw[xg hf.2 h2];cases d with
  |int i=>rw[dE.mp h1]; rfl
  |str s=>rw[gg.mp h1]; rfl
  |bl b=>rw[rh.mp h1]; rfl
  |en=>cases hf.1
  |lst _=>cases hf.1
  |tup _=>cases hf.1
def tP (H:Hp)(pd:Addr):bc->Prop
 | .gZ w dy l=> ∃pl,H pd=some (.tup [.str "ages",.str w,.int dy,.ref pl])/\H pl=some (.tup (l.map V.int))
 |d=>H pd=some (.tup (bc.vs d))
def Gz {H:Hp}{d:bc}{v:V}(h:Rp H d.dt v): ∃pd,v= .ref pd/\tP H pd d:=by
 cases d with
 |gZ w dy l=>
  obtain⟨a,xs,rfl,h1,h2⟩:=jY.mp h;obtain⟨v1,r1,rfl,e1,h2⟩:=bw.mp h2;obtain⟨v2,r2,rfl,e2,h2⟩:=bw.mp h2;obtain⟨v3,r3,rfl,e3,h2⟩:=bw.mp h2;obtain⟨v4,r4,rfl,e4,h2⟩:=bw.mp h2;obtain rfl:=cJ.mp h2;obtain rfl:=gg.mp e1;obtain rfl:=gg.mp e2;obtain rfl:=dE.mp e3;obtain⟨pl,ys,rfl,h4,h5⟩:=jY.mp e4;have e5:=xg (by rw[List.all_map]; exact List.all_eq_true.mpr fun _ _=>rfl) h5;rw[e5,eE] at h4;exact⟨a,rfl,pl,h1,h4⟩
 |_=>
  obtain⟨a,xs,rfl,h1,h2⟩:=jY.mp h;have e5:=xg (by rfl) h2;rw[e5] at h1;exact⟨a,rfl,h1⟩
def tP.mono {H H':Hp}{pd:Addr}{d:bc}(h:tP H pd d)(k:cw H H'):tP H' pd d:=by
 cases d with
 |gZ w dy l=>
  obtain⟨pl,h1,h2⟩:=h;exact⟨pl,k _ _ h1,k _ _ h2⟩
 |_=>exact k _ _ h
def l0 {A:dU}{H H':Hp}{pb pk pw:Addr}{T:eL}{f:eM}(h:fM A H pb pk pw T f)(k: ∀a o,H a=some o->(∀ps,o≠ .nA ps)->H' a=some o):fM A H' pb pk pw T f:=by
 obtain⟨db,hb⟩:=h.obj;obtain⟨bf,k1,k2⟩:=h.kept;have kt:cw H H':=fun a xs e=>k _ _ e (fun _ z=>by cases z);exact⟨⟨db,k _ _ hb (fun _ z=>by cases z)⟩,⟨bf,k _ _ k1 (fun _ z=>by cases z),k2.mono kt⟩,Gy h.wk (fun a xs e=>k _ _ e (fun _ z=>by cases z)) (fun a C dx fs _ e=>k _ _ e (fun _ z=>by cases z)) kt⟩
def zy {H H':Hp}{fp:List Addr}{a:Addr}{o:HO}(F:Frame fp H H')(ht: ∀t∈fp,∃ps,H t=some (.nA ps))(e:H a=some o)(n: ∀ps,o≠ .nA ps):H' a=some o:=F _ _ (fun z=>by
 obtain⟨ps,q⟩:=ht a z;rw[q] at e;exact n ps (aF e).symm) e
def NN {d:bc}(h:d.tells=true):bc.word d≠"owed"/\bc.word d≠"free"/\bc.word d≠"ages"/\bc.word d≠"undo":=by
 cases d with
 |dJ _ _ _ _=>show("bill":Str)≠"owed"/\("bill":Str)≠"free"/\("bill":Str)≠"ages"/\("bill":Str)≠"undo"; decide +kernel
 |o7 _ _ _=>show("pay":Str)≠"owed"/\("pay":Str)≠"free"/\("pay":Str)≠"ages"/\("pay":Str)≠"undo"; decide +kernel
 |note _ _ _=>show("note":Str)≠"owed"/\("note":Str)≠"free"/\("note":Str)≠"ages"/\("note":Str)≠"undo"; decide +kernel
 |set _ _ _=>show("set":Str)≠"owed"/\("set":Str)≠"free"/\("set":Str)≠"ages"/\("set":Str)≠"undo"; decide +kernel
 |fu _=>show("sweep":Str)≠"owed"/\("sweep":Str)≠"free"/\("sweep":Str)≠"ages"/\("sweep":Str)≠"undo"; decide +kernel
 |fC _=>cases h
 |ask _ _ _=>cases h
 |gZ _ _ _=>cases h
inductive xh (A:dU)(tB tC:Addr)(vs:List V)(H:Hp)(Q:VK)(E':XK):Prop
 |mk (pb pd pk pw:Addr)(T:eL)(f:eM)(n:Nat)(d:bc)(h1:vs=[.ref pb,.int n,.ref pd])(h2:fM A H pb pk pw T f)(h3:Good T n)(h4:n<=59)(h5:kG H tB)(h6:lh H tC)(h7:tP H pd d)(h8:d.ok)(h9: ∀v vn qO f' H',Frame (tB :: tC :: pb :: pk :: f.fp) H H'->kG H' tB->lh H' tC->fM A H' pb vn qO (cz T n d).2 f'->(∀x∈vn :: f'.fp,x∈pk :: f.fp∨H x=none)->ju H' (fun D=>H D=none/\D∉vn :: f'.fp) (cz T n d).1 v->Q v H'):xh A tB tC vs H Q E'
def sq:aV ["book","number","deed","kind","refusal"] ["book","number","deed"] (aA (top 36)):={}
def Dz (T:Txt K mg){A:dU}{tB tC:Addr}(G:jA K mg A)(DB:pM K mg "bills_in_order" (top 17) tB)(DC:pM K mg "credits_in_order" (top 18) tC)(i9:tB≠tC)(hnd:A.iH≠A.tooMuch)(KB:K.In base)(BM:BMain mg base):eO P w K mg base "answer_of" 10 ["book","number","deed"] (xh A tB tC):=by
 have Rg:gU (nj P w mg) P w K mg base A.book "undo" 9 ["self","number"] (Fb A K tB tC):=Rf T G DB DC i9 hnd KB BM;have Zt:gU (nj P w mg) P w K mg base A.book "do" 8 ["self","number","deed"] (Q9 A K tB tC):=Zo T G DB DC i9 KB BM;have tL:eO P w K mg base "owed_at" 5 ["work","who","day"] (A4 A tB):=zt T G DB KB BM;have IK:eO P w K mg base "free_at" 5 ["work","who","day"] (ET A tC):=IB T G DC KB BM;have IL:eO P w K mg base "ages_at" 6 ["work","who","day","limits"] (EY A tB):=IC T G DB KB BM;refine T.Ct.fb (k:=9) sq (fun f cV A' outer s H vs Q E hr h=>?_)
 ·obtain⟨pb,pd,pk,pw,TT,g,n,d,rfl,hB,hG,hn,jv,jl,hd,b9,k⟩:=h;have nd:=sq.nd;refine⟨_,(ah (sv 3 nd (xt (pv 2) ai))
(ah (bP (aY cU (pv 3) aK (a8 _))
(av (a6 (fc tL hr (aa (kg (pv 0)) (aa (xt (pv 2) ai) (aa (xt (pv 2) ai) ao))))))
bh)
(ah (bP (aY cU (pv 3) aK (a8 _))
(av (a6 (fc IK hr (aa (kg (pv 0)) (aa (xt (pv 2) ai) (aa (xt (pv 2) ai) ao))))))
bh)
(ah (bP (aY cU (pv 3) aK (a8 _))
(av (a6 (fc IL hr (aa (kg (pv 0)) (aa (xt (pv 2) ai) (aa (xt (pv 2) ai) (aa (xt (pv 2) ai) ao)))))))
bh)
(av (Hw (i:=4) rfl rfl rfl nd rfl rfl rfl G.fR G.ED (fun xe pn E hx=>(ah (bP (aY cU (pv 3) aK (a8 _))
(av (a6 (nZ Rg (hr.mono (by decide)) hx (pv 0) (aa (ix (jH (K:=K) rfl) (pv 2) ai (fun _ _=>rfl)) ao))))
bh)
(av (a6 (nZ Zt (hr.mono (by decide)) hx (pv 0) (aa (pv 1) (aa (pv 2) ao))))))))))))),?_⟩
  obtain⟨db,hb⟩:=hB.obj;have hW:=hB.wk;have Vl: ∀t∈[tB,tC],∃ps,H t=some (.nA ps):=fun t z=>by
   simp only[List.mem_cons,List.not_mem_nil,or_false] at z;rcases z with rfl|rfl
   ·exact cY jv
   ·exact cY jl
  have big: ∀x∈[tB,tC],x∈tB :: tC :: pb :: pk :: g.fp:=fun x z=>by
   simp only[List.mem_cons,List.not_mem_nil,or_false] at z;rcases z with rfl|rfl <;> simp
  have Vm: ∀a∈[tB],∀φ,H a≠some (.ext φ):=fun a ha φ e=>by
   obtain⟨ps,q⟩:=cY jv;rw[au.mp ha,q] at e;cases e
  have Zu: ∀a∈[tC],∀φ,H a≠some (.ext φ):=fun a ha φ e=>by
   obtain⟨ps,q⟩:=cY jl;rw[au.mp ha,q] at e;cases e
  obtain⟨bf,hk,hK⟩:=hB.kept;have Oo: ∀D,H D=none->D∉pk :: g.fp:=fun D e z=>by
   rcases aw.mp z with z|z
   ·rw[z,hk] at e;cases e
   ·exact hW.new e z
  have wf:=hG.wf (by lia:n<=60);by_cases ht:d.tells=true
  ·have DJ:H pd=some (.tup (bc.vs d)):=by cases d <;> first|exact hd|cases ht
   obtain⟨r,er⟩:=rW (.inl ht);have Wt:H pd=some (.tup (.str (bc.word d) :: r)):=by rw[← er]; exact DJ
   obtain⟨w1,w2,w3,w4⟩:=NN ht;rw[wK ht] at k;refine⟨_,rfl,pd,_,_,.str (bc.word d),rfl,rfl,cy.of Wt,Gx _ _,?_⟩;refine⟨_,rfl,rfl,false,jL w1,bV ?_⟩;refine⟨_,rfl,rfl,false,jL w2,bV ?_⟩;refine⟨_,rfl,rfl,false,jL w3,bV ?_⟩;refine⟨_,rfl,rfl,false,jL w4,bV ⟨_,rfl,pb,db,_,rfl,hb,Vd _ _,_,rfl,_,rfl,pb,pd,pk,pw,TT,g,n,d,rfl,hB,hG,hn,jv,jl,DJ,ht,fun pA v f1 H1 e1 F1 jw kr Oy hA=>?_,fun pA=>?_⟩⟩
   ·rw[a0 pA] at k;refine k v pk pw f1 H1 (dN F1 fun x z=>?_) jw kr Oy (by rw[e1]; exact fun x hx=> .inl hx) (hA.keep (fun D xs o e=>⟨⟨o,by rw[e1]; exact Oo D o⟩,e⟩) fun _ _ e=>e);rcases aw.mp z with z|z
    ·simp[z]
    ·rcases aw.mp z with z|z
     ·simp[z]
     ·rcases aw.mp z with z|z
      ·simp[z]
      ·simp[z]
   ·rw[aQ pA] at k;intro C hC _ dx H1 s1 KH DN;exact⟨C,dx,_,rfl,rfl,hC,DN,k _ pk pw g H1 s1.frame (bp jv s1) (bp jl s1) (hB.same s1) (fun x hx=> .inl hx) rfl⟩
  cases d with
  |dJ _ _ _ _=>exact absurd rfl ht
  |o7 _ _ _=>exact absurd rfl ht
  |note _ _ _=>exact absurd rfl ht
  |set _ _ _=>exact absurd rfl ht
  |fu _=>exact absurd rfl ht
  |ask o wh dy=>
   have hd:H pd=some (.tup (bc.vs (.ask o wh dy))):=hd;cases o with
   |true=>
    refine⟨_,rfl,pd,_,_,.str "owed",rfl,rfl,cy.of hd,rfl,?_⟩;refine⟨_,rfl,rfl,true,BD _,fH ⟨_,rfl,pb,_,db,_,_,rfl,hb,G.eI,G.fS,sh _ _,_,rfl,pd,_,_,.str wh,rfl,rfl,cy.of hd,rfl,_,rfl,pd,_,_,.int dy,rfl,rfl,cy.of hd,rfl,pw,TT.bk,g,n,wh,dy,rfl,hW,wf,(by lia),jv,fun D ms H1 F1 jw nD hD hP=>?_⟩⟩;have F2:Frame [tB,tC] H H1:=dN F1 (by simp);exact k _ pk pw g H1 (dN F2 big) jw (fX jl F1 (by simpa using i9.symm) Vm) (l0 hB fun a o e z=>zy F2 Vl e z) (fun x hx=> .inl hx) ⟨D,ms,rfl,⟨nD,Oo D nD⟩,hD,hP⟩
   |false=>
    refine⟨_,rfl,pd,_,_,.str "free",rfl,rfl,cy.of hd,rfl,?_⟩;refine⟨_,rfl,rfl,false,jL (show("free":Str)≠"owed" by decide +kernel),bV ?_⟩;refine⟨_,rfl,rfl,true,BD _,fH ⟨_,rfl,pb,_,db,_,_,rfl,hb,G.eI,G.fS,sh _ _,_,rfl,pd,_,_,.str wh,rfl,rfl,cy.of hd,rfl,_,rfl,pd,_,_,.int dy,rfl,rfl,cy.of hd,rfl,pw,TT.bk,g,n,wh,dy,rfl,hW,wf,(by lia),jl,fun D ms H1 F1 kr nD hD hP=>?_⟩⟩;have F2:Frame [tB,tC] H H1:=dN F1 (by simp);exact k _ pk pw g H1 (dN F2 big) (fX jv F1 (by simpa using i9) Zu) kr (l0 hB fun a o e z=>zy F2 Vl e z) (fun x hx=> .inl hx) ⟨D,ms,rfl,⟨nD,Oo D nD⟩,hD,hP⟩
  |gZ wh dy dj=>
   obtain⟨pl,hd,gQ⟩:=hd;refine⟨_,rfl,pd,_,_,.str "ages",rfl,rfl,cy.of hd,rfl,?_⟩;refine⟨_,rfl,rfl,false,jL (show("ages":Str)≠"owed" by decide +kernel),bV ?_⟩;refine⟨_,rfl,rfl,false,jL (show("ages":Str)≠"free" by decide +kernel),bV ?_⟩;refine⟨_,rfl,rfl,true,BD _,fH ⟨_,rfl,pb,_,db,_,_,rfl,hb,G.eI,G.fS,sh _ _,_,rfl,pd,_,_,.str wh,rfl,rfl,cy.of hd,rfl,_,rfl,pd,_,_,.int dy,rfl,rfl,cy.of hd,rfl,_,rfl,pd,_,_,.ref pl,rfl,rfl,cy.of hd,rfl,pw,pl,TT.bk,g,n,wh,dy,dj,rfl,hW,wf,(by lia),jv,gQ,b9.1,fun D H1 F1 jw nD hD=>?_⟩⟩;have F2:Frame [tB,tC] H H1:=dN F1 (by simp);exact k _ pk pw g H1 (dN F2 big) jw (fX jl F1 (by simpa using i9.symm) Vm) (l0 hB fun a o e z=>zy F2 Vl e z) (fun x hx=> .inl hx) ⟨D,rfl,⟨nD,Oo D nD⟩,hD⟩
  |fC m=>
   have hd:H pd=some (.tup (bc.vs (.fC m))):=hd;refine⟨_,rfl,pd,_,_,.str "undo",rfl,rfl,cy.of hd,rfl,?_⟩;refine⟨_,rfl,rfl,false,jL (show("undo":Str)≠"owed" by decide +kernel),bV ?_⟩;refine⟨_,rfl,rfl,false,jL (show("undo":Str)≠"free" by decide +kernel),bV ?_⟩;refine⟨_,rfl,rfl,false,jL (show("undo":Str)≠"ages" by decide +kernel),bV ?_⟩;have Zv:cz TT n (.fC m)=if(TT.steps.filter (cX m)).length=TT.steps.length then(uZ.txt "no setting",TT) else
     match cH (TT.steps.filter (cX m)) Bk.new with
     |none=>(.txt "needed",TT)
     |some S=>(.txt "undone",⟨TT.steps.filter (cX m),S⟩):=rfl
   refine⟨_,rfl,rfl,true,BD _,fH ⟨_,rfl,pb,db,_,rfl,hb,NM _ _,_,rfl,pd,_,_,.int m,rfl,rfl,cy.of hd,rfl,pb,pk,pw,TT,g,n,m,rfl,hB,hG,hn,jv,jl,fun hF S hS vn qO f' H1 F1 jw kr Oy nk nf=>?_,fun hF hS=>?_,fun hF=>?_⟩⟩
   ·have Qx: ¬ (TT.steps.filter (cX m)).length=TT.steps.length:=fun z=>by
     rw[(qF _ _).mp z] at hF;cases hF
    rw[Zv,aQ Qx,hS] at k;refine k _ vn qO f' H1 (dN F1 (fun x z=>?_)) jw kr Oy (fun x hx=> .inr ?_) rfl
    ·simp only[List.mem_cons,List.not_mem_nil,or_false] at z;rcases z with rfl|rfl|rfl <;> simp
    ·rcases aw.mp hx with hx|hx
     ·rw[hx]; exact nk
     ·exact nf x hx
   ·have Qx: ¬ (TT.steps.filter (cX m)).length=TT.steps.length:=fun z=>by
     rw[(qF _ _).mp z] at hF;cases hF
    rw[Zv,aQ Qx,hS] at k;intro C dx H1 hC F1 jw kr KH DN;exact⟨C,dx,_,rfl,rfl,hC,DN,k _ pk pw g H1 (dN F1 big) jw kr (l0 hB fun a o e z=>zy F1 Vl e z) (fun x hx=> .inl hx) rfl⟩
   ·rw[Zv,a0 ((qF _ _).mpr hF)] at k;intro C dx H1 hC F1 jw kr KH DN;exact⟨C,dx,_,rfl,rfl,hC,DN,k _ pk pw g H1 (dN F1 big) jw kr (l0 hB fun a o e z=>zy F1 Vl e z) (fun x hx=> .inl hx) rfl⟩
def zz (d:bc): ∀(l:List bc) (T:eL) (n:Nat),cM (l ++ [d]) T n=((cM l T n).1 ++ [(cz (cM l T n).2 ((n + l.length:Nat):Int) d).1],(cz (cM l T n).2 ((n + l.length:Nat):Int) d).2)
 |[],T,n=>rfl
 |e :: l,T,n=>by
  show((cz T n e).1 :: (cM (l ++ [d]) (cz T n e).2 (n + 1)).1,(cM (l ++ [d]) (cz T n e).2 (n + 1)).2)=_;rw[zz d l,show n + 1 + l.length=n + (e :: l).length by rw[bJ]; lia];rfl
def zA {ds:List bc}{i:Nat}(hi:i < ds.length):cM (ds.take (i + 1)) eL.new 0=((cM (ds.take i) eL.new 0).1 ++ [(cz (cM (ds.take i) eL.new 0).2 (i:Int) ds[i]).1],(cz (cM (ds.take i) eL.new 0).2 (i:Int) ds[i]).2):=by
 rw[kP hi,zz,bz,Nat.zero_add,Nat.min_eq_left (cq hi)]
def IM {A:dU}{H:Hp}{pb pk pw pt:Addr}{T:eL}{f:eM}{ws:List V}{o:HO}(h:fM A H pb pk pw T f)(e:H pt=some (.lst ws))(n:pt∉f.fp):fM A (upd H pt o) pb pk pw T f:=by
 obtain⟨db,hb⟩:=h.obj;obtain⟨bf,k1,k2⟩:=h.kept;have kt:cw H (upd H pt o):=eZ e;have ki: ∀{a C dx:Addr} {gs:List (Str×V)},H a=some (.ins C dx gs)->upd H pt o a=some (.ins C dx gs):=fun{a C dx gs} z=>by rw[aB (mN z e (by intro q; cases q))]; exact z
 have kl: ∀p∈f.fp,∀xs,H p=some (.lst xs)->upd H pt o p=some (.lst xs):=fun p hp xs z=>by rw[aB (fun(q:p=pt)=>n (q▸hp))]; exact z
 obtain⟨dw,hw⟩:=h.wk.obj;obtain⟨ms,m1,m2⟩:=h.wk.hm;have hW:=h.wk;exact⟨⟨db,ki hb⟩,⟨bf,by rw[aB (mN k1 e (by intro q; cases q))]; exact k1,k2.mono kt⟩,
  ⟨⟨dw,ki hw⟩,kl _ (by simp[eM.fp]) _ hW.hb,kl _ (by simp[eM.fp]) _ hW.hc,kl _ (by simp[eM.fp]) _ hW.hl,kl _ (by simp[eM.fp]) _ hW.hf,⟨ms,kl _ (by simp[eM.fp]) _ m1,m2.mono kt⟩,hW.rb.keep fun _ _ _ z=>ki z,hW.rc.keep fun _ _ _ z=>ki z,hW.nd⟩⟩
def GA {A:dU}{H:Hp}{pb pk pw tB tC a:Addr}{T:eL}{f:eM}(h:fM A H pb pk pw T f)(jv:kG H tB)(jl:lh H tC)(z:a∈tB :: tC :: pb :: pk :: f.fp):(∃ps,H a=some (.nA ps))∨(∃C dx fs,H a=some (.ins C dx fs))∨(∃bf,H a=some (.dK bf))∨(∃xs,H a=some (.lst xs))/\a∈f.fp:=by
 rcases aw.mp z with rfl|z
 ·exact .inl (cY jv)
 rcases aw.mp z with rfl|z
 ·exact .inl (cY jl)
 rcases aw.mp z with rfl|z
 ·obtain⟨db,hb⟩:=h.obj;exact .inr (.inl ⟨_,_,_,hb⟩)
 rcases aw.mp z with rfl|z
 ·obtain⟨bf,k1,_⟩:=h.kept;exact .inr (.inr (.inl ⟨_,k1⟩))
 ·exact .inr (.inr (.inr ⟨h.wk.lists a z,z⟩))
def Lv {A:dU}{H H':Hp}{pb pk pw tB tC:Addr}{T:eL}{f:eM}(h:fM A H pb pk pw T f)(jv:kG H tB)(jl:lh H tC)(F:Frame (tB :: tC :: pb :: pk :: f.fp) H H'):cw H H':=fun a xs e=>F _ _ (fun z=>by
 rcases GA h jv jl z with⟨_,q⟩|⟨_,_,_,q⟩|⟨_,q⟩|⟨⟨_,q⟩,_⟩ <;> (rw[e] at q; cases q)) e
def Fd {A:dU}{H H':Hp}{pb pk pw tB tC a:Addr}{T:eL}{f:eM}{xs:List V}(h:fM A H pb pk pw T f)(jv:kG H tB)(jl:lh H tC)(F:Frame (tB :: tC :: pb :: pk :: f.fp) H H')(e:H a=some (.lst xs))(n:a∉pk :: f.fp):H' a=some (.lst xs):=F _ _ (fun z=>by
 rcases GA h jv jl z with⟨_,q⟩|⟨_,_,_,q⟩|⟨_,q⟩|⟨_,q⟩
 ·rw[e] at q; cases q
 ·rw[e] at q; cases q
 ·rw[e] at q; cases q
 ·exact n (aW _ q)) e
inductive vp (A:dU)(tB tC:Addr)(vs:List V)(H:Hp)(Q:VK)(E':XK):Prop
 |mk (pb pk pw ps:Addr)(f:eM)(ds:List bc)(ms:List V)(h1:vs=[.ref pb,.ref ps])(h2:fM A H pb pk pw eL.new f)(h3:H ps=some (.lst ms))(h4:ps∉f.fp)(h5:bU H ds ms)(h6:ds.length<=60)(h7:(∀d∈ds,d.ok))(h8:kG H tB)(h9:lh H tC)(LV: ∀pt ws vn qO f' H',Frame (tB :: tC :: pb :: pk :: f.fp) H H'->kG H' tB->lh H' tC->H pt=none->H' pt=some (.lst ws)->Paired (ju H' (fun D=>D≠pt/\(D∈pk :: f.fp∨H D=none))) (cM ds eL.new 0).1 ws->fM A H' pb vn qO (cM ds eL.new 0).2 f'->Q (.ref pt) H'):vp A tB tC vs H Q E'
def pS:aV ["book","deeds","told","number","deed"] ["book","deeds"] (aA (top 35)):={}
def bU.get {H:Hp}{i:Nat}: ∀{ds:List bc} {ms:List V},bU H ds ms-> ∀{d:bc},ds[i]? =some d-> ∃v,ms[i]? =some v/\Rp H d.dt v:=fun{ds ms} h {d} e=>gX.get h (by rw[aE,e]; rfl)
def su (T:Txt K mg){A:dU}{tB tC:Addr}(G:jA K mg A)(DB:pM K mg "bills_in_order" (top 17) tB)(DC:pM K mg "credits_in_order" (top 18) tC)(i9:tB≠tC)(hnd:A.iH≠A.tooMuch)(KB:K.In base)(BM:BMain mg base):eO P w K mg base "answers_in" 11 ["book","deeds"] (vp A tB tC):=by
 have DA:eO P w K mg base "answer_of" 10 ["book","number","deed"] (xh A tB tC):=Dz T G DB DC i9 hnd KB BM;refine T.Ag.fb (k:=10) pS (fun f cV A' outer s H vs Q E hr h=>?_)
 ·obtain⟨pb,pk,pw,ps,g,ds,ms,rfl,hB,kQ,BF,IP,hl,b9,jv,jl,k⟩:=h;have nd:=pS.nd;refine⟨_,(ah (sv 2 nd (bK ao))
(ah (dX bC rfl (ra rfl T.jj (aa (pv 1) ao)) (gT (bR (gn 3 nd) (bR (gn 4 nd) fP)))
(av (bM (qv (pv 2) (fc DA hr (aa (pv 0) (aa (pv 3) (aa (pv 4) ao))))))))
(av (a6 (pv 2))))),?_⟩
  refine⟨bu _,fun pt nt=>?_⟩;have s1:=ay.new (o:= .lst []) nt;have hlen:=bU.length IP;obtain⟨bf,hk,_⟩:=hB.kept;have Rh:ps∉pk :: g.fp:=fun z=>by
   rcases aw.mp z with z|z
   ·rw[z,hk] at kQ;cases kQ
   ·exact BF z
  have ntk:pt∉pk :: g.fp:=fun z=>by
   rcases aw.mp z with z|z
   ·rw[z,hk] at nt;cases nt
   ·exact hB.wk.new nt z
  refine⟨_,rfl,ps,rfl,⟨_,bD.of (s1 _ _ kQ)⟩,?_⟩;refine nM (K:=K) (a:=ps) (xs:=ms) (fun i σ H2=> ∃(x3 x4:Option V) (vn qO:Addr) (f':eM) (ws:List V),σ=[some (.ref pb),some (.ref ps),some (.ref pt),x3,x4]/\Frame (tB :: tC :: pb :: pk :: g.fp) H H2/\H2 pt=some (.lst ws)/\fM A H2 pb vn qO (cM (ds.take i) eL.new 0).2 f'/\Good (cM (ds.take i) eL.new 0).2 i/\(∀x∈vn :: f'.fp,(x∈pk :: g.fp∨H x=none)/\x≠pt)/\kG H2 tB/\lh H2 tC/\Paired (ju H2 (fun D=>D≠pt/\D∉vn :: f'.fp/\(D∈pk :: g.fp∨H D=none))) (cM (ds.take i) eL.new 0).1 ws)
   ⟨none,none,pk,pw,g,[],rfl,s1.frame,af,hB.same s1,Good.new,fun x hx=>⟨.inl hx,fun z=>ntk (z▸hx)⟩,bp jv s1,bp jl s1,.nil⟩ (fun i σ H2 _ ⟨_,_,_,_,_,_,_,f2,_⟩=>bD.of (Fd hB jv jl f2 kQ Rh)) ?_ ?_
  ·rintro i x p σ H2 hx hp ⟨x3,x4,vn,qO,f',ws,rfl,F2,xr,Gp,NH,WI,jx,lD,DT⟩;have hi:i < ds.length:=by have:=(ak.mp hx).1; lia
   have qN:=ag hi;obtain⟨v',hv,Ub⟩:=bU.get IP qN;rw[hx] at hv;obtain rfl:x=v':=aF hv;obtain⟨pd,rfl,hd⟩:=Gz Ub;have hd2:=hd.mono (Lv hB jv jl F2);have NO:=b9 _ (bN hi);have WJ:=zA hi;have pL:Good (cz (cM (ds.take i) eL.new 0).2 (i:Int) ds[i]).2 (i + 1):=NH.step ds[i];rw[WJ];generalize ds[i]=d at hd2 NO pL;have Ci:(cM (ds.take i) eL.new 0).1.length<=100:=by rw[jh,bz]; lia
   generalize cM (ds.take i) eL.new 0=R at Gp NH DT pL Ci;have s3:=ay.new (o:= .tup [.int i,.ref pd]) hp;refine⟨p,_,rfl,cy.of af,rfl,_,_,rfl,_,_,rfl,rfl,?_⟩;have F3:=F2.cA s3;have Lw:=s3 _ _ xr;have Lx:=Gp.same s3;have wW:kG _ tB:=bp jx s3;have wX:lh _ tC:=bp lD s3;have OB:=hd2.mono s3.tk;have Zw:Paired (ju (upd H2 p (.tup [.int i,.ref pd])) (fun D=>D≠pt/\D∉vn :: f'.fp/\(D∈pk :: g.fp∨H D=none))) R.1 ws:=Paired.iu DT fun _ _ z=>z.keep (fun D xs o e=>⟨o,s3 _ _ e⟩) s3.tk;generalize upd H2 p (.tup [.int i,.ref pd])=H3 at F3 Lw Lx wW wX OB Zw;have Jb:=aM Zw;refine⟨_,rfl,.inl ⟨rfl,_,bD.of Lw⟩,_,rfl,_,rfl,_,rfl,pb,pd,vn,qO,R.2,f',i,d,rfl,Lx,NH,(by lia),wW,wX,OB,NO,fun v pk2 pw2 f2 H4 F4 yu yw WK js hA4=>?_⟩;have Zx:pt∉vn :: f'.fp:=fun z=>(WI pt z).2 rfl;have wY:=Fd Lx wW wX F4 Lw Zx;have kt4:=Lv Lx wW wX F4;refine⟨pt,ws,v,rfl,rfl,wY,a9 (by lia),?_⟩;have frees: ∀x,H3 x=none->x∈pk :: g.fp∨H x=none:=fun x h1=>by
    by_cases q:x∈pk :: g.fp
    ·exact .inl q
    ·right;cases e:H x with
     |none=>rfl
     |some o=>
      exfalso;by_cases q2:x∈tB :: tC :: pb :: pk :: g.fp
      ·rcases aw.mp q2 with q2|q2
       ·obtain⟨_,z⟩:=cY wW;rw[← q2,h1] at z;cases z
       rcases aw.mp q2 with q2|q2
       ·obtain⟨_,z⟩:=cY wX;rw[← q2,h1] at z;cases z
       rcases aw.mp q2 with q2|q2
       ·obtain⟨_,z⟩:=Lx.obj;rw[← q2,h1] at z;cases z
       exact q q2
      ·have z:=F3 _ _ q2 e;rw[h1] at z;cases z
   have Vn: ∀x∈pk2 :: f2.fp,(x∈pk :: g.fp∨H x=none)/\x≠pt:=fun x hx=>by
    rcases js x hx with h1|h1
    ·exact WI x h1
    ·exact⟨frees x h1,fun z=>by rw[z,Lw] at h1; cases h1⟩
   have Zy:pt∉f2.fp:=fun z=>(Vn pt (aW _ z)).2 rfl;have Vo: ∀a∈[pt],∀φ,H4 a≠some (.ext φ):=fun a ha φ e=>by
    rw[au.mp ha,wY] at e;cases e
   have nB:tB∉[pt]:=fun z=>by
    obtain⟨_,q⟩:=cY yu;rw[au.mp z,wY] at q;cases q
   have nC:tC∉[pt]:=fun z=>by
    obtain⟨_,q⟩:=cY yw;rw[au.mp z,wY] at q;cases q
   have F34:Frame (tB :: tC :: pb :: pk :: g.fp) H (upd H4 pt (.lst (ws ++ [v]))):=(F3.trans F4 fun x hx=>by
    rcases aw.mp hx with hx|hx
    ·exact .inl (by simp[hx])
    rcases aw.mp hx with hx|hx
    ·exact .inl (by simp[hx])
    rcases aw.mp hx with hx|hx
    ·exact .inl (by simp[hx])
    rcases(WI x hx).1 with h1|h1
    ·exact .inl (by simp[List.mem_cons.mp h1])
    ·exact .inr h1).trans (Frame.upd (fp:=[pt]) (by simp)) (fun x hx=> .inr (by rw[List.mem_singleton.mp hx]; exact nt))
   refine⟨_,_,pk2,pw2,f2,ws ++ [v],rfl,F34,af,IM WK wY Zy,pL,Vn,fX yu (Frame.upd (fp:=[pt]) (by simp)) nB Vo,fX yw (Frame.upd (fp:=[pt]) (by simp)) nC Vo,?_⟩;have ktl:=eZ (o:= .lst (ws ++ [v])) wY;refine cG (Paired.iu Zw fun _ _ z=>z.keep (fun D xs o e=>?_) (kt4.trans ktl)) (hA4.keep (fun D xs o e=>?_) ktl)
   ·have e4:=Fd Lx wW wX F4 e o.2.1;refine⟨⟨o.1,fun q=>?_,o.2.2⟩,by rw[aB o.1]; exact e4⟩;rcases js D q with h1|h1
    ·exact o.2.1 h1
    ·rw[e] at h1;cases h1
   ·have nD:D≠pt:=fun z=>by
     have:=o.1;rw[z,Lw] at this;cases this
    exact⟨⟨nD,o.2,frees D o.1⟩,by rw[aB nD]; exact e⟩
  ·rintro σ H2 ⟨x3,x4,vn,qO,f',ws,rfl,F2,xr,Gp,NH,WI,jx,lD,DT⟩;rw[← hlen,bb] at DT Gp;refine⟨_,rfl,k pt ws vn qO f' H2 F2 jx lD nt xr (Paired.iu DT fun _ _ z=>z.keep (fun D xs o e=>⟨⟨o.1,o.2.2⟩,e⟩) fun _ _ e=>e) Gp⟩
inductive tQ (A:dU)(tB tC:Addr)(vs:List V)(H:Hp)(Q:VK)(E':XK):Prop
 |mk (ps:Addr)(ds:List bc)(ms:List V)(h1:vs=[.ref ps])(h2:H ps=some (.lst ms))(h3:bU H ds ms)(h4:ds.length<=60)(h5:(∀d∈ds,d.ok))(h6:kG H tB)(h7:lh H tC)(h8: ∀pt ws H',Frame [tB,tC] H H'->kG H' tB->lh H' tC->H pt=none->H' pt=some (.lst ws)->Paired (ju H' (fun D=>D≠pt/\H D=none)) (cM ds eL.new 0).1 ws->Q (.ref pt) H'):tQ A tB tC vs H Q E'
def xi:aV ["deeds","book"] ["deeds"] (aA (top 33)):={}
def IQ (T:Txt K mg){A:dU}{tB tC:Addr}(G:jA K mg A)(DB:pM K mg "bills_in_order" (top 17) tB)(DC:pM K mg "credits_in_order" (top 18) tC)(i9:tB≠tC)(hnd:A.iH≠A.tooMuch)(KB:K.In base)(BM:BMain mg base):eO P w K mg base "answers" 12 ["deeds"] (tQ A tB tC):=by
 have mI:eO P w K mg base "answers_in" 11 ["book","deeds"] (vp A tB tC):=su T G DB DC i9 hnd KB BM;have Fe:tH P w K mg base "Book" A.book 3 ["self"] (vi A):=K5 G;refine T.HL.fb (k:=11) xi (fun f cV A' outer s H vs Q E hr h=>?_)
 ·obtain⟨ps,ds,ms,rfl,kQ,IP,hl,b9,jv,jl,k⟩:=h;have nd:=xi.nd;refine⟨_,(ah (sv 1 nd (Ge Fe (hr.mono (by decide)) rfl))
(av (a6 (fc mI hr (aa (pv 1) (aa (pv 0) ao)))))),?_⟩
  intro xb Vp Ri Rj ne;have s1:=jS (C:=A.book) (fs:=[]) Ri Rj ne;refine⟨xb,Vp,rfl,af,fun pk pw g H1 F1 hx hk hW nk npw nf Rh=>⟨rfl,?_⟩⟩;have S1:ay H H1:=fun b o e=>F1 b o (by simpa using aI e Ri) (s1 b o e);have fr: ∀b∈g.fp,H b=none:=fun b hb=>s1.free (nf b hb);have UM:H pk=none:=s1.free nk;refine⟨_,rfl,_,rfl,xb,pk,pw,ps,g,ds,ms,rfl,⟨⟨Vp,hx⟩,⟨[],hk,.nil⟩,hW⟩,S1 _ _ kQ,(fun z=>by
   have:=fr _ z;rw[kQ] at this;cases this),IP.mono S1.tk,hl,b9,bp jv S1,bp jl S1,fun pt ws _ _ _ H2 F2 jx lD nt xr hA _=>?_⟩
  refine k pt ws H2 ((S1.frame (fp:=[tB,tC])).trans F2 fun x hx=>?_) jx lD (S1.free nt) xr (Paired.iu hA fun _ _ z=>z.keep (fun D xs o e=>⟨⟨o.1,o.2.elim (fun q=>(aw.mp q).elim (fun q=>by rw[q]; exact UM) (fr D)) S1.free⟩,e⟩) fun _ _ e=>e);rcases aw.mp hx with hx|hx
  ·exact .inl (by simp[hx])
  rcases aw.mp hx with hx|hx
  ·exact .inl (by simp[hx])
  rcases aw.mp hx with hx|hx
  ·exact .inr (by rw[hx]; exact Ri)
  rcases aw.mp hx with hx|hx
  ·exact .inr (by rw[hx]; exact UM)
  ·exact .inr (fr x hx)
inductive Ly (K:Frag)(vs:List V)(H:Hp)(Q:VK)(E':XK):Prop
 |mk (a:Addr)(xs:List V)(m b:Int)(h1:vs=[.ref a,.int m,.int b])(h2:bD K H a xs)(h3:xs.length<=63)(h4:Q (.int m) H):Ly K vs H Q E'
inductive Bj (vs:List V)(H:Hp)(Q:VK)(E':XK):Prop
 |mk (d v:_)(h1:vs=[v])(h2:Rp H d v)(h3:Q (.bl (isW d)) H):Bj vs H Q E'
def Bl:aV ["_law_script","_law_most","_law_bound"] ["_law_script","_law_most","_law_bound"] (aA (top 44)):={}
def DD (T:Txt K mg):eO P w K mg base "_law_room" 1 ["_law_script","_law_most","_law_bound"] (Ly K):=by
 refine T.Cv.fb (k:=0) Bl (fun f cV A outer s H vs Q E hr h=>?_)
 ·obtain⟨a,xs,m,b,rfl,hS,hz,k⟩:=h;refine⟨_,(ah (bP (aY je (lz T.dk (pv 0)) ai (a8 _))
   (av (a6 (pv 2)))
   bh)
   (av (a6 (pv 1)))),?_⟩
  refine⟨_,rfl,a,xs,rfl,.inl hS,_,_,rfl,rfl,_,rfl,?_⟩;refine cE (fun c=>?_) (fun c=>?_)
  ·have c':(63:Int) < (xs.length:Int):=aS c;lia
  ·exact⟨_,rfl,k⟩
def yB:aV ["_law_found"] ["_law_found"] (aA (top 46)):={}
def Bm (T:Txt K mg):eO P w K mg base "_law_whole" 1 ["_law_found"] Bj:=by
 refine T.Ah.fb (k:=0) yB (fun f cV A outer s H vs Q E hr h=>?_)
 ·obtain⟨d,v,rfl,r,k⟩:=h;refine⟨_,(av (a6 (qg (uO T.c8 T.zd boot_int (pv 0)) (nE (O9 (uO T.c8 T.Qo boot_bool (pv 0))))))),?_⟩;refine⟨_,rfl,v,_,_,isI d,rfl,r.ty,Ts d,_,rfl,?_⟩;cases d with
  |int i=>exact fH ⟨_,rfl,v,_,_,false,rfl,r.ty,Og (.int i),_,rfl,k⟩
  |bl i=>exact fH ⟨_,rfl,v,_,_,true,rfl,r.ty,Og (.bl i),_,rfl,k⟩
  |en=>exact bV k
  |str x=>exact bV k
  |tup ds=>exact bV k
  |lst ds=>exact bV k
inductive GB (vs:List V)(H:Hp)(Q:VK)(E':XK):Prop
 |mk (d v1 v2:_)(h1:vs=[v1,v2])(h2:Rp H d v1)(h3:Rp H d v2)(h4:d.size<=100000)(h5:d.plain=true)(h6: ∀H',ay H H'->Q (.bl true) H'):GB vs H Q E'
def pT:aV ["_law_found","_law_due","_law_todo","_law_pair","_law_k"] ["_law_found","_law_due"] (aA (top 48)):={}
def Bn (T:Txt K mg):eO P w K mg base "_law_alike" 2 ["_law_found","_law_due"] GB:=by
 have Bo:eO P w K mg base "_law_whole" 1 ["_law_found"] Bj:=Bm T;refine T.Ai.fb (k:=1) pT (fun f cV A outer s H vs Q E hr h=>?_)
 ·obtain⟨d,v1,v2,rfl,r1,r2,hsz,gQ,k⟩:=h;have hu:=jy hr;have nd:=pT.nd;refine⟨_,(ah (sv 2 nd (bK (aa (cg (aa (pv 0) (aa (pv 1) ao))) ao)))
(ah (Ju bC (aY (JW hu) (pv 2) (bK ao) (a8 _))
(ah (sv 3 nd (Pt PySem.F.plainAttrs_list PySem.F.slot_list_pop PySem.F.type_list_pop Px (pv 2)))
(av (bP (gf (fk En (by rfl) T.c8 boot_isinstance (aa (xt (pv 3) ai) (aa (cg (aa (zJ (v:= .ty "list") (by rfl) T.nS Fn rfl) (aa (zJ (v:= .ty "tuple") (by rfl) T.u0 boot_tuple rfl) ao))) ao))))
(ah (bP (aY qU (uO T.c8 T.nS Fn (xt (pv 3) ai)) (uO T.c8 T.nS Fn (xt (pv 3) ai)) (a8 _))
(av (a6 mP))
bh)
(ah (bP (aY qU (uO T.c8 T.u0 boot_tuple (xt (pv 3) ai)) (uO T.c8 T.u0 boot_tuple (xt (pv 3) ai)) (a8 _))
(av (a6 mP))
bh)
(ah (bP (aY qU (lz T.dk (xt (pv 3) ai)) (lz T.dk (xt (pv 3) ai)) (a8 _))
(av (a6 mP))
bh)
(av (dX bC rfl (hJ rfl T.kX (aa (lz T.dk (xt (pv 3) ai)) ao)) (gn 4 nd)
(av (bM (qv (pv 2) (cg (aa (ix Of (xt (pv 3) ai) (pv 4) (fun _ _=>rfl)) (aa (ix Of (xt (pv 3) ai) (pv 4) (fun _ _=>rfl)) ao)))))))))))
(av (bP (gf (uO T.c8 T.Ga boot_str (xt (pv 3) ai)))
(av (bP (PW.pt (pw_or (jT (gf (uO T.c8 T.Ga boot_str (xt (pv 3) ai)))) (pw_or1 (aY qU (xt (pv 3) ai) (xt (pv 3) ai) (a8 _)))))
(av (a6 mP))
bh))
(av (bP (PW.pt (pw_or (jT (gf (fc Bo hr (aa (xt (pv 3) ai) ao)))) (pw_or1 (aY qU (xt (pv 3) ai) (xt (pv 3) ai) (a8 _)))))
(av (a6 mP))
bh))))))))
(av (a6 mP)))),?_⟩
  refine⟨_,rfl,_,rfl,(by show 2<=sizeLine; decide),fun t0 nt0=>⟨(by show 1<=sizeLine; decide),fun l nl=>?_⟩⟩;have sA:ay H (upd H t0 (.tup [v1,v2])):=ay.new nt0;have hl0:H l=none:=sA.free nl;refine⟨fun m σ H2=> ∃td ds x3 x4,σ=[some v1,some v2,some (.ref l),x3,x4]/\ay H H2/\H2 l=some (.lst td)/\Paired (mq H H2) ds td/\Dt.fq ds=m/\m<=100000/\ ∀d∈ds,d.plain=true,
   ⟨d.size,[.ref t0],[d],none,none,rfl,sA.trans (ay.new nl),af,.cons ⟨t0,v1,v2,rfl,JY nl _ _ af,r1,r2⟩ .nil,by simp[Dt.fq],hsz,by simpa using gQ⟩,?_⟩
  rintro m σ H2 ⟨td,ds,x3,x4,rfl,s1,hl,hp,hm,YJ,Vq⟩;refine⟨_,rfl,bu _,fun p3 n3=>?_⟩;have s2:ay H2 (upd H2 p3 (.lst [])):=ay.new n3;refine⟨l,p3,td,rfl,rfl,bD.of (s2 _ _ hl),bD.of af,_,rfl,?_⟩;generalize Np:upd H2 p3 (.lst [])=H3 at s2 ⊢;have K3:=s2 _ _ hl;cases htd:td with
  |nil=>exact bV (k _ (s1.trans s2))
  |cons z zs=>
  refine fH ⟨fun σ' H'=> ∃m',m' < m/\ ∃td ds x3 x4,σ'=[some v1,some v2,some (.ref l),x3,x4]/\ay H H'/\H' l=some (.lst td)/\Paired (mq H H') ds td/\Dt.fq ds=m'/\m'<=100000/\ ∀d∈ds,d.plain=true,fun _ _ h=>h,?_⟩;have i9:td.length - 1 < td.length:=by rw[htd]; simp
  obtain⟨y,hy⟩: ∃y,td[td.length - 1]? =some y:=⟨_,ag i9⟩;obtain⟨NP,c,Zz,⟨t,u1,u2,ey,ht,q1,q2⟩,Uq⟩:=ub hp hy;subst ey;have Uc:c.plain=true:=Vq c (by rw[Zz]; simp);have Wg: ∀d∈NP,d.plain=true:=fun d hd=>Vq d (by rw[Zz]; simp[hd]);have hmm:Dt.fq NP + c.size=m:=by
   have:=hm;rw[Zz,Dt.iA] at this;simpa[Dt.fq] using this
  refine⟨_,rfl,.inl ⟨rfl,_,bD.of K3⟩,l,td,.ref t,rfl,rfl,K3,hy,?_⟩;have ht3:=s2 _ _ ht;have s4:ay H (upd H3 l (.lst td.dropLast)):=(s1.trans s2).cW hl0;have Rk:upd H3 l (.lst td.dropLast) t=some (.tup [u1,u2]):=dI K3 _ _ ht3;have OI:Paired (mq H (upd H3 l (.lst td.dropLast))) NP td.dropLast:=Paired.iu Uq fun d v h=>h.mono fun b xs e=>dI K3 _ _ (s2 _ _ e);have ZA:upd H3 l (.lst td.dropLast) l=some (.lst td.dropLast):=af;generalize upd H3 l (.lst td.dropLast)=H4 at s4 Rk OI ZA ⊢;clear Np K3 ht3 s2 n3 hp hl ht;refine⟨_,rfl,t,_,_,u2,rfl,rfl,cy.of Rk,rfl,(by show 2<=sizeLine; decide),fun p5 n5=>?_⟩;have s5:ay H4 (upd H4 p5 (.tup [.ty "list",.ty "tuple"])):=ay.new n5;have q25:=Rp.mono (s4.trans s5) c q2;have q15:=Rp.mono (s4.trans s5) c q1;refine⟨u2,p5,["list","tuple"],_,isLT c,rfl,af,q25.ty,PV c,_,rfl,?_⟩;have DU:=s5 _ _ Rk;have ZC:=s5 _ _ ZA;have Lu:Paired (mq H (upd H4 p5 (.tup [.ty "list",.ty "tuple"]))) NP td.dropLast:=Paired.iu OI fun d v h=>h.mono fun b xs e=>s5 _ _ e;have s6:=s4.trans s5;generalize upd H4 p5 (.tup [.ty "list",.ty "tuple"])=H5 at s5 q25 q15 DU ZC Lu s6 ⊢;clear s5 n5;refine cE (fun Vr=>?_) (fun Vr=>?_)
  ·
   obtain⟨a1,ZD,e1,S1,R1⟩:=FJ q1 Vr;obtain⟨a2,Rl,e2,S2,R2⟩:=FJ q2 Vr;refine⟨_,rfl,t,_,_,u1,rfl,rfl,cy.of DU,rfl,u1,_,_,XX c,rfl,q15.ty,Cj c,_,rfl,t,_,_,u2,rfl,rfl,cy.of DU,rfl,u2,_,_,XX c,rfl,q25.ty,Cj c,rfl,_,rfl,Ce rfl ?_⟩;refine⟨_,rfl,t,_,_,u1,rfl,rfl,cy.of DU,rfl,u1,_,_,XY c,rfl,q15.ty,JX c,_,rfl,t,_,_,u2,rfl,rfl,cy.of DU,rfl,u2,_,_,XY c,rfl,q25.ty,JX c,rfl,_,rfl,Ce rfl ?_⟩;have hlen:ZD.length=Rl.length:=by rw[← R1.length,← R2.length]
   refine⟨_,rfl,t,_,_,u1,rfl,rfl,cy.of DU,rfl,a1,ZD,by rw[e1],S1 K H5 s6,_,rfl,t,_,_,u2,rfl,rfl,cy.of DU,rfl,a2,Rl,by rw[e2],S2 K H5 s6,rfl,_,rfl,Ce (by rw[hlen]) ?_⟩;have Oc:Rl.length=(kids c).length:=R2.length.symm;have Wr:=Hh Vr;have DO:=Dt.rg (kids c);refine⟨_,rfl,t,_,_,u2,rfl,rfl,cy.of DU,rfl,a2,Rl,by rw[e2],S2 K H5 s6,(Rl.length:Int),rfl,by lia,by lia,?_⟩;rw[dB];refine jM (lo:=0) (n:=Rl.length) (fun i σ H6=> ∃OK x4,σ=[some v1,some v2,some (.ref l),some (.ref t),x4]/\ay H H6/\H6 l=some (.lst OK)/\H6 t=some (.tup [u1,u2])/\Paired (mq H H6) (NP ++ (kids c).take i) OK)
    ⟨td.dropLast,x4,rfl,s6,ZC,DU,by simpa using Lu⟩ ?_ ?_
   ·rintro i σ H6 hi ⟨OK,x4',rfl,s7,gK,WL,OC⟩;have X0:i < (kids c).length:=by lia
    have g0:(kids c)[i]? =some (kids c)[i]:=ag X0;obtain⟨w1,g1,z1⟩:=R1.get g0;obtain⟨w2,g2,z2⟩:=R2.get g0;have R7:OK.length < sizeLine:=by
     have h1:=OC.length;have h2:=Dt.rg (NP ++ (kids c).take i);have h3:=xK (kids c) i;rw[Dt.iA] at h2;exact ja (by lia)
    refine⟨_,rfl,.inl ⟨rfl,_,bD.of gK⟩,?_⟩;refine⟨_,rfl,t,_,_,u1,rfl,rfl,cy.of WL,rfl,_,rfl,a1,ZD,_,w1,e1,rfl,S1 K H6 s7,by rw[iQ]; exact cI g1,_,rfl,t,_,_,u2,rfl,rfl,cy.of WL,rfl,_,rfl,a2,Rl,_,w2,e2,rfl,S2 K H6 s7,by rw[iQ]; exact cI g2,(by show 2<=sizeLine; decide),fun p7 n7=>?_⟩;have s8:ay H6 (upd H6 p7 (.tup [w1,w2])):=ay.new n7;have Sb:=s8 _ _ gK;refine⟨l,OK,.ref p7,rfl,rfl,Sb,R7,?_⟩;refine⟨OK ++ [.ref p7],_,rfl,(s7.trans s8).cW hl0,af,dI Sb _ _ (s8 _ _ WL),?_⟩;rw[uL g0,← dR];exact cG (Paired.iu OC fun d v h=>h.mono fun b xs e=>dI Sb _ _ (s8 _ _ e)) ⟨p7,w1,w2,rfl,dI Sb _ _ af,z1,z2⟩
   ·rintro σ H6 ⟨OK,x4',rfl,s7,gK,WL,OC⟩;rw[Oc,bb] at OC;refine⟨Dt.fq (NP ++ kids c),?_,OK,_,_,_,rfl,s7,gK,OC,rfl,?_,?_⟩
    ·rw[Dt.iA]; lia
    ·rw[Dt.iA]; lia
    ·intro d hd;rcases bg.mp hd with hd|hd
     ·exact Wg d hd
     ·exact Eo Uc d hd
  ·
   have fin:(fun σ' H'=> ∃m',m' < m/\ ∃td ds x3 x4,σ'=[some v1,some v2,some (.ref l),x3,x4]/\ay H H'/\H' l=some (.lst td)/\Paired (mq H H') ds td/\Dt.fq ds=m'/\m'<=100000/\ ∀d∈ds,d.plain=true) [some v1,some v2,some (.ref l),some (.ref t),x4] H5:=by
    have:=c.size_pos;exact⟨Dt.fq NP,by lia,_,NP,_,_,rfl,s6,ZC,Lu,rfl,by lia,Wg⟩
   refine⟨_,rfl,t,_,_,u2,rfl,rfl,cy.of DU,rfl,u2,_,_,V7 c,rfl,q25.ty,yX c,_,rfl,?_⟩;refine cE (fun hS=>?_) (fun hS=>?_)
   ·have ec: ∃x,c= .str x:=by cases c <;> first|exact⟨_,rfl⟩|cases hS
    obtain⟨x,rfl⟩:=ec;obtain rfl:=gg.mp q1;obtain rfl:=gg.mp q2;refine⟨_,rfl,t,_,_,_,rfl,rfl,cy.of DU,rfl,_,_,_,true,rfl,m9.str x,yX (.str x),_,rfl,bV ?_⟩;refine⟨_,rfl,t,_,_,_,rfl,rfl,cy.of DU,rfl,_,rfl,t,_,_,_,rfl,rfl,cy.of DU,rfl,rfl,_,rfl,Ce rfl ?_⟩;exact fin
   ·have ec: ∃x,c= .int x:=by cases c <;> first|exact⟨_,rfl⟩|exact absurd rfl hS|exact absurd rfl Vr|cases Uc
    obtain⟨x,rfl⟩:=ec;obtain rfl:=dE.mp q1;obtain rfl:=dE.mp q2;refine⟨_,rfl,t,_,_,_,rfl,rfl,cy.of DU,rfl,.int x,_,rfl,dE.mpr rfl,_,rfl,bV ?_⟩;refine⟨_,rfl,t,_,_,_,rfl,rfl,cy.of DU,rfl,_,rfl,t,_,_,_,rfl,rfl,cy.of DU,rfl,rfl,_,rfl,Ce rfl ?_⟩;exact fin
inductive xj (K:Frag)(vs:List V)(H:Hp)(Q:VK)(E':XK):Prop
 |mk (po:Addr)(os:List Str)(aJ:Str)(cell i:Int)(h1:vs=[.ref po,.str aJ,.int cell,.int i])(h2:bD K H po (os.map V.str))(h3:os.length<=1000)(h4: ∀(n:Int) (H':Hp),ay H H'->Q (.int n) H'):xj K vs H Q E'
def oE:aV ["_law_owners","_law_who","_law_cell","_law_k","_law_rest","_law_number","_law_spot","_law_one"] ["_law_owners","_law_who","_law_cell","_law_k"] (aA (top 51)):={}
def yC (T:Txt K mg):eO P w K mg base "_law_chosen" 1 ["_law_owners","_law_who","_law_cell","_law_k"] (xj K):=by
 refine T.xW.fb (k:=0) oE (fun f cV A outer s H vs Q E hr h=>?_)
 ·obtain⟨po,os,aJ,cell,i,rfl,hS,ho,k⟩:=h;have nd:=oE.nd;refine⟨_,(ah (sv 4 nd (aO iw (pv 2) ai))
(ah (sv 5 nd (aO bZ (aO cS (aO iw (pv 4) ai) (pv 3)) (aO cS (lz T.dk (pv 0)) ai)))
(ah (dX bC rfl (hJ rfl T.kX (aa (lz T.dk (pv 0)) ao)) (gn 6 nd)
(ah (sv 7 nd (aO bZ (aO cS (pv 5) (pv 6)) (lz T.dk (pv 0))))
(av (bP (PW.pt (pw_and (aY cU (xl (pv 0) (pv 7)) (pv 1) (a8 _)) (pw_and1 (aY je (aO bZ (pv 2) ai) ai (a8 _)))))
(av (a6 (pv 7)))
bh))))
(ah (bP (aY cU (aO bZ (pv 2) ai) ai (a8 _))
(av (sv 5 nd (xl (bK (aa (pE lp ai) (aa (aO iY ai ai) (aa (aO eQ (pE lp ai) (aO bZ (pv 4) (aO iY ai ai))) ao)))) (aO bZ (pv 4) ai))))
bh)
(av (a6 (pv 5))))))),?_⟩
  refine⟨_,rfl,_,_,rfl,rfl,⟨by decide,by decide⟩,?_⟩;refine⟨_,rfl,_,_,rfl,rfl,⟨by decide,by decide⟩,_,rfl,_,_,rfl,rfl,_,rfl,po,_,rfl,.inl hS,_,_,rfl,rfl,_,_,rfl,rfl,(by show(0:Int) < ((os.map V.str).length:Int) + 1; lia),?_⟩;generalize ZE:(cell / 16 / 2 + i) % (((os.map V.str).length:Int) + 1)=num;show _;refine⟨_,rfl,po,_,rfl,.inl hS,((os.map V.str).length:Int),rfl,by lia,by rw[ae]; lia,?_⟩;rw[dB];refine jM (lo:=0) (n:=(os.map V.str).length) (fun j σ H2=> ∃x6 x7,σ=[some (.ref po),some (.str aJ),some (.int cell),some (.int i),some (.int (cell / 16)),some (.int num),x6,x7]/\H2=H)
   ⟨none,none,by rw[← ZE]; rfl,rfl⟩ ?_ ?_
  ·rintro j σ H2 hj ⟨x6,x7,rfl,rfl⟩;have hm:0 < ((os.map V.str).length:Int):=by lia
   obtain⟨y,_,hy⟩:=k6 (g:=V.str) (xs:=os) (m:=((os.map V.str).length:Int)) (x:=num + (0 + (j:Int))) (by rw[ae]) hm;refine⟨_,rfl,_,rfl,_,_,rfl,rfl,_,rfl,po,_,rfl,.inl hS,_,_,rfl,rfl,hm,?_⟩;refine⟨_,rfl,_,rfl,po,_,_,.str y,rfl,rfl,hS,hy,_,rfl,rfl,_,rfl,cE (fun c=>?_) (fun c=>bV ⟨_,_,rfl,rfl⟩)⟩;refine⟨_,rfl,_,_,rfl,rfl,(by show(0:Int) < 5; decide),_,_,rfl,rfl,_,rfl,cE (fun c=>?_) (fun c=>⟨_,_,rfl,rfl⟩)⟩;exact⟨_,rfl,k _ _ (ay.refl _)⟩
  ·rintro σ H2 ⟨x6,x7,rfl,rfl⟩;refine⟨_,rfl,_,_,rfl,rfl,(by show(0:Int) < 47; decide),rfl,_,rfl,cE (fun c=>?_) (fun c=>⟨_,rfl,k _ _ (ay.refl _)⟩)⟩;refine⟨_,rfl,_,_,rfl,rfl,⟨by decide,by decide,by decide⟩,_,rfl,_,rfl,_,_,rfl,rfl,⟨by decide,by decide,by decide⟩,_,_,rfl,rfl,(by show(0:Int) < _; decide +kernel),_,_,rfl,rfl,(by show 3<=sizeLine; decide),fun p4 n4=>?_⟩;obtain⟨y,_,hy⟩:=at3 (-1) (10 ^ (9:Int).toNat) (-2 - cell / 16 % 10 ^ (60:Int).toNat) (cell / 16);refine⟨_,rfl,_,_,rfl,rfl,(by show(0:Int) < 3; decide),p4,_,_,.int y,rfl,rfl,bD.of af,hy,?_⟩;exact⟨_,rfl,k _ _ (ay.new n4)⟩
inductive Bp (vs:List V)(H:Hp)(Q:VK)(E':XK):Prop
 |mk (c:Int)(h1:vs=[.int c])(h2: ∀r:Int,(r=0∨r=1)->Q (.int r) H):Bp vs H Q E'
def yD:aV ["_law_cell"] ["_law_cell"] (aA (top 52)):={}
def Bq (T:Txt K mg):eO P w K mg base "_law_hasty" 1 ["_law_cell"] Bp:=by
 refine T.Aj.fb (k:=0) yD (fun f cV A outer s H vs Q E hr h=>?_)
 ·obtain⟨c,rfl,k⟩:=h;refine⟨_,(av (a6 (fZ lJ (by rfl) T.zd boot_int (aa (SD (fI cU (aO bZ (pv 0) ai) ai (a8 _)) (nE (qg (fI cU (aO bZ (pv 0) ai) ai (a8 _)) (nE (fI cU (aO bZ (aO iw (pv 0) ai) ai) ai (a8 _)))))) ao)))),?_⟩;have fin: ∀b:Bool,Q (.int (if b then 1 else 0)) H:=fun b=>k _ (by cases b <;> simp);refine⟨_,rfl,_,_,rfl,rfl,(by show(0:Int) < 29; decide),rfl,_,rfl,cE (fun c=> .inr ⟨_,rfl,fin _⟩) (fun c=>?_)⟩;refine⟨_,rfl,_,_,rfl,rfl,(by show(0:Int) < 41; decide),rfl,_,rfl,cE (fun c=>?_) (fun c=> .inr ⟨_,rfl,fin _⟩)⟩;exact⟨_,rfl,_,_,rfl,rfl,⟨by decide,by decide⟩,_,_,rfl,rfl,(by show(0:Int) < 2; decide),rfl,.inr ⟨_,rfl,fin _⟩⟩
inductive Br (K:Frag)(vs:List V)(H:Hp)(Q:VK)(E':XK):Prop
 |mk (a:Addr)(cs:List Int)(i:Nat)(h1:vs=[.ref a,.int i])(h2:bD K H a (cs.map V.int))(h3:i < cs.length)(h4: ∀n:Int,Q (.int n) H):Br K vs H Q E'
def oF:aV ["_law_cells","_law_k","_law_days"] ["_law_cells","_law_k"] (aA (top 53)):={}
def yE (T:Txt K mg):eO P w K mg base "_law_due_in" 2 ["_law_cells","_law_k"] (Br K):=by
 have Bs:eO P w K mg base "_law_hasty" 1 ["_law_cell"] Bp:=Bq T;refine T.xX.fb (k:=1) oF (fun f cV A outer s H vs Q E hr h=>?_)
 ·obtain⟨a,cs,i,rfl,hS,hi,k⟩:=h;have nd:=oF.nd;refine⟨_,(ah (sv 2 nd (aO bZ (aO cS (xl (pv 0) (aO bZ (aO cS (pv 1) ai) (lz T.dk (pv 0)))) (pv 1)) ai))
(iz (bP (aY cU (aO bZ (xl (pv 0) (pv 1)) ai) ai (a8 _))
(av (sv 2 nd (aO bZ (xl (pv 0) (aO bZ (aO cS (pv 1) ai) (lz T.dk (pv 0)))) (aO iY ai ai))))
bh)
(av (a6 (aO eQ (pv 2) (aO me (aO cS (pv 2) ai) (fc Bs hr (aa (xl (pv 0) (pv 1)) ao)))))))),?_⟩
  have hm:0 < ((cs.map V.int).length:Int):=by rw[ae]; lia
  obtain⟨y,_,hy⟩:=k6 (g:=V.int) (xs:=cs) (m:=((cs.map V.int).length:Int)) (x:=(i:Int) + 1) (by rw[ae]) hm;refine⟨_,rfl,_,rfl,_,_,rfl,rfl,_,rfl,a,_,rfl,.inl hS,_,_,rfl,rfl,hm,a,_,_,.int y,rfl,rfl,hS,hy,_,rfl,_,_,rfl,rfl,_,_,rfl,rfl,(by show(0:Int) < 9; decide),?_⟩;refine⟨fun σ' H'=>H'=H/\ ∃d:Int,σ'=[some (.ref a),some (.int i),some (.int d)],?_,?_⟩
  ·refine⟨_,rfl,_,rfl,a,_,_,_,rfl,rfl,hS,oa hi,_,_,rfl,rfl,(by show(0:Int) < 13; decide),rfl,_,rfl,cE (fun c=>?_) (fun c=>⟨rfl,_,rfl⟩)⟩;refine⟨_,rfl,_,rfl,_,_,rfl,rfl,_,rfl,a,_,rfl,.inl hS,_,_,rfl,rfl,hm,a,_,_,.int y,rfl,rfl,hS,hy,_,_,rfl,rfl,⟨by decide,by decide,by decide⟩,_,_,rfl,rfl,(by show(0:Int) < _; decide +kernel),?_⟩;exact⟨rfl,_,rfl⟩
  rintro σ' H' ⟨rfl,d,rfl⟩;refine⟨_,rfl,_,rfl,_,_,rfl,rfl,_,rfl,_,rfl,a,_,_,_,rfl,rfl,hS,oa hi,_,rfl,fun r ZF=>?_⟩;exact⟨_,_,rfl,rfl,.inr (by rcases ZF with rfl|rfl <;> exact⟨by decide,by decide⟩),_,_,rfl,rfl,k _⟩
def uV (H:Hp)(a pm kH:Addr)(i:Nat)(σ:L2.St)(H2:Hp):Prop:=
 ∃(pb ph:Addr) (bs hs:List Str) (sp:List Int) (ds:List bc) (ms:List V) (x5 x6 x7 x8 x9 IF yy Lz NQ L4 LA DV:Option V),σ=[some (.ref a),some (.ref pm),some (.ref pb),some (.ref ph),some (.ref kH),x5,x6,x7,x8,x9,IF,yy,Lz,NQ,L4,LA,DV]/\ay H H2/\
  H2 pm=some (.lst ms)/\bU H2 ds ms/\ds.length=i/\(∀d∈ds,d.ok)/\H2 pb=some (.lst (bs.map V.str))/\bs.length<=i/\H2 ph=some (.lst (hs.map V.str))/\hs.length<=i/\H2 kH=some (.lst (sp.map V.int))/\sp.length<=i/\pb≠pm/\pb≠kH/\ph≠pm/\ph≠kH
def uV.mk' {H:Hp}{a pm kH pb ph:Addr}{i:Nat}{H4 H6:Hp}{bs hs:List Str}{sp:List Int}{ds:List bc}{d:bc}{ms:List V}{p8:Addr}{x5 x6 x7 x8 x9 IF yy Lz NQ L4 LA DV:Option V}
  (hR:bU H4 ds ms) (hl:ds.length=i) (b9: ∀d∈ds,d.ok) (kp:cw H4 H6) (s6:ay H H6) (hM:H6 pm=some (.lst (ms ++ [.ref p8]))) (hd:Rp H6 d.dt (.ref p8)) (hdo:d.ok)
  (hb:H6 pb=some (.lst (bs.map V.str))) (Nq:bs.length<=i + 1) (hh:H6 ph=some (.lst (hs.map V.str))) (hhl:hs.length<=i + 1) (MH:H6 kH=some (.lst (sp.map V.int))) (R7:sp.length<=i + 1)
  (n1:pb≠pm) (n2:pb≠kH) (n3:ph≠pm) (n4:ph≠kH):
  uV H a pm kH (i + 1) [some (.ref a),some (.ref pm),some (.ref pb),some (.ref ph),some (.ref kH),x5,x6,x7,x8,x9,IF,yy,Lz,NQ,L4,LA,DV] H6:=by
 refine⟨pb,ph,bs,hs,sp,ds ++ [d],ms ++ [.ref p8],x5,x6,x7,x8,x9,IF,yy,Lz,NQ,L4,LA,DV,rfl,s6,hM,(hR.mono kp).snoc hd,by rw[ax,hl]; rfl,fun d' DJ=>?_,hb,Nq,hh,hhl,MH,R7,n1,n2,n3,n4⟩;rcases bg.mp DJ with h|h
 ·exact b9 d' h
 ·rw[au.mp h]; exact hdo
def dj (r:Int)(j:Nat):List Int:=(List.range j).map fun(t:Nat)=>1 + r % 9 + (0 + (t:Int)) * (2 + r % 30)
def DE (r:Int)(j:Nat):(dj r j).length=j:=by unfold dj; rw[List.length_map,List.length_range]
def NR {w:Str}{d:Int}(r:Int)(j:Nat)(hj:j<=11):(bc.gZ w d (dj r j)).ok:=by
 have h9:=iP r (show(9:Int)≠0 by decide);have h30:=iP r (show(30:Int)≠0 by decide);refine⟨by rw[DE]; exact hj,?_,fun x hx=>?_⟩
 ·unfold dj;rw[sI];refine List.pairwise_lt_range.imp fun{a b} Jc=>?_;have:(0 + (a:Int)) * (2 + r % 30) < (0 + (b:Int)) * (2 + r % 30):=Int.mul_lt_mul_of_pos_right (by lia) (by lia);lia
 ·unfold dj at hx;obtain⟨t,_,rfl⟩:=bF.mp hx;have:0<=(0 + (t:Int)) * (2 + r % 30):=Int.mul_nonneg (by lia) (by lia);lia
def Vs (x y:Int)(b:Bool):True/\qY [V.int x,V.int y] (if b=true then 1 else 0)=some (V.int (if b=true then y else x)):=⟨trivial,by cases b <;> rfl⟩
def OL {H H4:Hp}{pm p8 kH pb ph:Addr}{ms xs b' h' s':List V}(nm:H pm=none)(s4:ay H H4)(sj:H4 pm=some (.lst ms))(n8:H4 p8=none)(n1:pb≠pm)(n3:ph≠pm)(GC:kH≠pm)
  (yA:H4 pb=some (.lst b')) (Jj:H4 ph=some (.lst h')) (oG:H4 kH=some (.lst s')):
  cw H4 (upd (upd H4 p8 (.tup xs)) pm (.lst (ms ++ [.ref p8])))/\ay H (upd (upd H4 p8 (.tup xs)) pm (.lst (ms ++ [.ref p8])))/\upd (upd H4 p8 (.tup xs)) pm (.lst (ms ++ [.ref p8])) pm=some (.lst (ms ++ [.ref p8]))/\
  upd (upd H4 p8 (.tup xs)) pm (.lst (ms ++ [.ref p8])) p8=some (.tup xs)/\upd (upd H4 p8 (.tup xs)) pm (.lst (ms ++ [.ref p8])) pb=some (.lst b')/\upd (upd H4 p8 (.tup xs)) pm (.lst (ms ++ [.ref p8])) ph=some (.lst h')/\
  upd (upd H4 p8 (.tup xs)) pm (.lst (ms ++ [.ref p8])) kH=some (.lst s'):=by
 have s8:=ay.new (o:= .tup xs) n8;refine⟨s8.tk.trans (eZ (s8 _ _ sj)),(s4.trans s8).cW nm,af,dI (s8 _ _ sj) _ _ af,?_,?_,?_⟩
 ·rw[aB n1]; exact s8 _ _ yA
 ·rw[aB n3]; exact s8 _ _ Jj
 ·rw[aB GC]; exact s8 _ _ oG
def Vt {H H4:Hp}{pm kH pb ph:Addr}{ms b' h':List V}{sp:List Int}{x:Int}(WM:H kH=none)(s4:ay H H4)(sj:H4 pm=some (.lst ms))(n2:pb≠kH)(n4:ph≠kH)(GC:kH≠pm)
  (yA:H4 pb=some (.lst b')) (Jj:H4 ph=some (.lst h')) (oG:H4 kH=some (.lst (sp.map V.int))):
  cw H4 (upd H4 kH (.lst (sp.map V.int ++ [.int x])))/\ay H (upd H4 kH (.lst (sp.map V.int ++ [.int x])))/\upd H4 kH (.lst (sp.map V.int ++ [.int x])) pm=some (.lst ms)/\upd H4 kH (.lst (sp.map V.int ++ [.int x])) pb=some (.lst b')/\
  upd H4 kH (.lst (sp.map V.int ++ [.int x])) ph=some (.lst h')/\upd H4 kH (.lst (sp.map V.int ++ [.int x])) kH=some (.lst ((sp ++ [x]).map V.int)):=by
 refine⟨eZ oG,s4.cW WM,?_,?_,?_,?_⟩
 ·rw[aB GC.symm]; exact sj
 ·rw[aB n2]; exact yA
 ·rw[aB n4]; exact Jj
 ·rw[af,aL]; rfl
def gW {H:Hp}{d:Dt}{v:V}{ds:List Dt}{vs:List V}(h:Rp H d v)(r:gX H ds vs):gX H (d :: ds) (v :: vs):=bw.mpr ⟨_,_,rfl,h,r⟩
def rI {H:Hp}(i:Int):Rp H (.int i) (.int i):=dE.mpr rfl
def rS {H:Hp}(x:Str):Rp H (.str x) (.str x):=gg.mpr rfl
def r0 {H:Hp}:gX H [] []:=cJ.mpr rfl
def GD {H9:Hp}{p9 pb:Addr}{bs:List Str}{aJ:Str}{b:Bool}{Q:VK}(h9:H9 p9=some (.lst [V.str aJ]))(hb:H9 pb=some (.lst (bs.map V.str)))(hl:bs.length<=100)
  (q: ∀(LB:Addr) (OM:Hp) (n:Nat),n<=1->ay H9 OM->H9 LB=none->OM LB=some (.lst ((bs ++ List.replicate n aJ).map V.str))->Q (.ref LB) OM):
  S6 (.ref p9) (.int (if b=true then 1 else 0)) H9 (fun v H=>S5 (.ref pb) v H Q):=by
 have hk:(if b=true then(1:Int) else 0).toNat<=1:=by split <;> decide
 refine⟨p9,_,_,rfl,rfl,h9,(by split <;> decide),(by split <;> decide),(by show 1 * _<=sizeLine; split <;> decide),fun Se ZG=>?_⟩;generalize (if b=true then(1:Int) else 0).toNat=n at hk ⊢;rw[MO];have Dc:=ay.new (o:= .lst ((List.replicate n aJ).map V.str)) ZG;refine⟨pb,Se,_,_,rfl,rfl,Dc _ _ hb,af,?_,fun LB Jk=>?_⟩
 ·refine cq (a9 ?_);rw[ae,ae,iN];lia
 ·rw[← aL];exact q LB _ n hk (Dc.trans (ay.new Jk)) (Dc.free Jk) af
inductive GF (K:Frag)(vs:List V)(H:Hp)(Q:VK)(E':XK):Prop
 |mk (a:Addr)(cs:List Int)(h1:vs=[.ref a])(h2:bD K H a (cs.map V.int))(h3:cs.length<=100)(h4: ∀(pd:Addr) (ds:List bc) (ms:List V) (H':Hp),ay H H'->H' pd=some (.lst ms)->bU H' ds ms->ds.length=cs.length->(∀d∈ds,d.ok)->Q (.ref pd) H'):GF K vs H Q E'
def pU:aV ["_law_cells","_law_made","_law_bills","_law_held","_law_spots","_law_k","_law_rest","_law_pick","_law_who","_law_day","_law_amount","_law_bill","_law_due","_law_part","_law_credit","_law_menu","_law_limits"] ["_law_cells"] (aA (top 54)):={}
def Bt (T:Txt K mg):eO P w K mg base "_law_deeds" 3 ["_law_cells"] (GF K):=by
 have yF:eO P w K mg base "_law_penned" 2 ["_law_cells","_law_k"] (wy K):=yd T;have pV:eO P w K mg base "_law_chosen" 1 ["_law_owners","_law_who","_law_cell","_law_k"] (xj K):=yC T;have yG:eO P w K mg base "_law_due_in" 2 ["_law_cells","_law_k"] (Br K):=yE T;refine T.Ak.fb (k:=2) pU (fun f cV A outer s H vs Q E hr h=>?_)
 ·obtain⟨a,cs,rfl,hS,hc,k⟩:=h;have nd:=pU.nd;refine⟨_,(ah (sv 1 nd (bK ao))
(ah (sv 2 nd (bK ao))
(ah (sv 3 nd (bK ao))
(ah (sv 4 nd (bK ao))
(ah (dX bC rfl (hJ rfl T.kX (aa (lz T.dk (pv 0)) ao)) (gn 5 nd)
(ah (sv 6 nd (aO bZ (aO iw (xl (pv 0) (pv 5)) ai) (aO iY ai ai)))
(ah (sv 7 nd (aO bZ (aO cS (xl (pv 0) (pv 5)) (aO me ai (pv 5))) ai))
(ah (jU (fc yF hr (aa (pv 0) (aa (pv 5) ao))) (gT (bR (gn 8 nd) (bR (gn 9 nd) (bR (gn 10 nd) fP)))))
(ah (sv 11 nd (fc pV hr (aa (pv 2) (aa (pv 8) (aa (xl (pv 0) (pv 5)) (aa (pv 5) ao))))))
(av (bP (aY jW (pv 7) ai (a8 _))
(ah (sv 12 nd (aO cS (pv 9) (fc yG hr (aa (pv 0) (aa (pv 5) ao)))))
(ah (bM (qv (pv 1) (cg (aa aK (aa (pv 8) (aa (pv 9) (aa (pv 12) (aa (pv 10) ao))))))))
(av (sv 2 nd (aO gr (pv 2) (aO Eh (bK (aa (pv 8) ao)) (fZ lJ (by rfl) T.zd boot_int (aa (qg (fI je (pv 10) ai (a8 _)) (nE (fI Jx (pv 12) (pv 9) (a8 _)))) ao))))))))
(av (bP (aY jW (pv 7) ai (a8 _))
(ah (bM (qv (pv 1) (cg (aa aK (aa (pv 8) (aa (pv 9) (aa (pv 10) ao)))))))
(av (sv 3 nd (aO gr (pv 3) (aO Eh (bK (aa (pv 8) ao)) (fZ lJ (by rfl) T.zd boot_int (aa (fI je (pv 10) ai (a8 _)) ao)))))))
(av (bP (aY cU (pv 7) ai (a8 _))
(ah (bM (qv (pv 1) (cg (aa aK (aa (pv 11) (aa (pv 9) (aa (pv 10) ao)))))))
(av (bP (PW.pt (pw_and (aY tV ai (pv 11) (a8 _)) (pw_and (aY jW (pv 11) (lz T.dk (pv 2)) (a8 _)) (pw_and1 (aY je (pv 10) ai (a8 _))))))
(av (sv 3 nd (aO gr (pv 3) (bK (aa (xl (pv 2) (pv 11)) ao)))))
bh)))
(av (bP (aY jW (pv 7) ai (a8 _))
(ah (bM (qv (pv 4) (pv 5)))
(iz (sv 13 nd (xl (bK (aa (pv 10) (aa (aO cS ai (aO bZ (pv 6) ai)) ao))) (fZ lJ (by rfl) T.zd boot_int (aa (qg (fI je (pv 10) ai (a8 _)) (nE (fI je (aO bZ (pv 6) ai) ai (a8 _)))) ao))))
(ah (sv 14 nd (fc pV hr (aa (pv 3) (aa (pv 8) (aa (xl (pv 0) (pv 5)) (aa (aO cS (pv 5) ai) ao))))))
(iz (bP (aY cU (aO bZ (xl (pv 0) (pv 5)) ai) ai (a8 _))
(av (sv 14 nd (aO bZ (aO iw (pv 6) ai) (aO cS (lz T.dk (pv 3)) ai))))
bh)
(av (bM (qv (pv 1) (cg (aa aK (aa (pv 14) (aa (pv 11) (aa (pv 13) ao))))))))))))
(av (bP (aY jW (pv 7) ai (a8 _))
(ah (bM (qv (pv 4) (pv 5)))
(av (bM (qv (pv 1) (cg (aa aK (aa (pv 8) ao)))))))
(av (bP (aY cU (pv 7) ai (a8 _))
(ah (sv 15 nd (aO gr (pv 4) (bK (aa (pv 5) (aa (pE lp ai) (aa (aO iY ai ai) (aa ai (aa (aO eQ (pv 5) ai) (aa (aO bZ (aO iw (pv 6) ai) (aO cS (pv 5) ai)) (aa (aO eQ (pE lp ai) (pv 6)) ao))))))))))
(av (bM (qv (pv 1) (cg (aa aK (aa (xl (pv 15) (aO bZ (pv 6) (lz T.dk (pv 15)))) ao)))))))
(av (bP (aY cU (pv 7) ai (a8 _))
(av (bM (qv (pv 1) (cg (aa (xl (bK (aa aK (aa aK ao))) (aO bZ (pv 6) ai)) (aa (pv 8) (aa (pv 9) ao)))))))
(ah (jX (i:=16) nd rfl (Or.inl rfl) (tn:=["_law_j"]) (cn:=["_law_rest"]) (cj:=[6]) rfl (iy (zX:=[(".0",.local),("_law_j",.local),("_law_rest",.cell)])) (hJ rfl T.kX (aa (aO bZ (pv 6) ai) ao)) (fun _ _ _ _=>(eo (i:=0) (show(["_law_j","_law_rest"]:List Str).Nodup by decide +kernel) rfl (Or.inl rfl))) (fun _ _ _ _=>mm) (fun _ _ _ _=>(aO cS (aO cS ai (aO bZ (pv 1) ai)) (aO me (pv 0) (aO cS ai (aO bZ (pv 1) ai))))))
(av (bM (qv (pv 1) (cg (aa aK (aa (pv 8) (aa (pv 9) (aa (fZ xJ (by rfl) T.u0 boot_tuple (aa (pv 16) ao)) ao))))))))))))))))))))))))))))
(av (a6 (pv 1)))))))),?_⟩
  refine⟨bu _,fun pm nm=>⟨bu _,fun pb nb=>⟨bu _,fun ph nh=>⟨bu _,fun kH L5=>?_⟩⟩⟩⟩;have s1:ay H (upd H pm (.lst [])):=ay.new nm;have t2:=ay.new (o:= .lst []) nb;have t3:=ay.new (o:= .lst []) nh;have t4:=ay.new (o:= .lst []) L5;have s4:=((s1.trans t2).trans t3).trans t4;have WM:H kH=none:=((s1.trans t2).trans t3).free L5;have g1:=((t2.trans t3).trans t4) _ _ (af (H:=H) (a:=pm) (o:= .lst []));have g2:=(t3.trans t4) _ _ (af (H:=upd H pm (.lst [])) (a:=pb) (o:= .lst []));have g3:=t4 _ _ (af (H:=upd (upd H pm (.lst [])) pb (.lst [])) (a:=ph) (o:= .lst []));have g4:=af (H:=upd (upd (upd H pm (.lst [])) pb (.lst [])) ph (.lst [])) (a:=kH) (o:= .lst []);have e12:pb≠pm:=(aI af nb).symm;have e13:ph≠pm:=(aI (t2 _ _ af) nh).symm;have GC:kH≠pm:=(aI ((t2.trans t3) _ _ af) L5).symm;have e24:pb≠kH:=aI (t3 _ _ af) L5;have e34:ph≠kH:=aI af L5;generalize upd (upd (upd (upd H pm (.lst [])) pb (.lst [])) ph (.lst [])) kH (.lst [])=H4 at s4 g1 g2 g3 g4 ⊢;refine⟨_,rfl,a,_,rfl,.inl (s4.seq hS),((cs.map V.int).length:Int),rfl,by lia,by rw[ae]; lia,?_⟩;rw[dB];refine jM (lo:=0) (n:=(cs.map V.int).length) (uV H a pm kH)
   ⟨pb,ph,[],[],[],[],[],none,none,none,none,none,none,none,none,none,none,none,none,rfl,s4,g1,r0,rfl,(fun _ h=>by cases h),g2,aD _,g3,aD _,g4,aD _,e12,e24,e13,e34⟩ ?_ ?_
  ·clear t2 t3 t4 s1 g1 g2 g3 g4 s4 H4 e12 e24 e13 e34 nb nh L5 pb ph;rintro i σ H2 hi ⟨pb,ph,bs,hs,sp,ds,ms,x5,x6,x7,x8,x9,IF,yy,Lz,NQ,L4,LA,DV,rfl,s2,hM,hR,GG,b9,hb,Nq,hh,hhl,xG,aeP,n1,n2,n3,n4⟩;have ZH:i < cs.length:=by rwa [ae] at hi
   have Sf:qY (cs.map V.int) (0 + (i:Int))=some (.int (cs.getD i 0)):=by rw[iQ]; exact oa ZH
   have Qk:=s2.seq hS;generalize mO:cs.getD i 0=cell at Sf;refine⟨_,rfl,_,rfl,a,_,_,.int cell,rfl,rfl,Qk,Sf,_,_,rfl,rfl,⟨by decide,by decide⟩,_,_,rfl,rfl,⟨by decide,by decide,by decide⟩,_,_,rfl,rfl,(by show(0:Int) < _; decide +kernel),?_⟩;refine⟨_,rfl,_,rfl,a,_,_,.int cell,rfl,rfl,Qk,Sf,_,rfl,_,_,rfl,rfl,.inl ⟨by decide,by decide⟩,_,_,rfl,rfl,_,_,rfl,rfl,(by show(0:Int) < 16; decide),?_⟩;refine⟨_,rfl,_,rfl,a,cs,i,(by rw[iQ]; rfl),Qk,ZH,fun p aJ day dP H3 s3 hp pz=>?_⟩;refine⟨p,_,rfl,cy.of hp,rfl,_,_,rfl,_,_,rfl,_,_,rfl,rfl,?_⟩;refine⟨_,rfl,_,rfl,_,rfl,_,rfl,a,_,_,.int cell,rfl,rfl,s3.seq Qk,Sf,_,rfl,pb,bs,aJ,cell,_,rfl,bD.of (s3 _ _ hb),by lia,fun bl H4 s4'=>?_⟩;have Ls:=s3.trans s4';have s4:=s2.trans Ls;have sj:=Ls _ _ hM;have NS:=hR.mono Ls.tk;have yA:=Ls _ _ hb;have Jj:=Ls _ _ hh;have oG:=Ls _ _ xG;have hS4:=s4.seq hS;have ZI:=hS;have BC:ms.length<=100:=by have:=hR.length; lia
   clear Ls s3 s4' hp hM hR hb hh xG s2 Qk H2 H3;refine⟨_,rfl,_,_,rfl,rfl,_,rfl,cE (fun c1=>?_) (fun c1=>?_)⟩
   ·
    refine⟨_,rfl,_,rfl,_,rfl,a,cs,i,(by rw[iQ]; rfl),hS4,ZH,fun n=>⟨_,_,rfl,rfl,?_⟩⟩;refine⟨_,rfl,.inl ⟨rfl,_,bD.of sj⟩,_,rfl,_,rfl,_,rfl,_,rfl,(by show 5<=sizeLine; decide),fun p8 n8=>?_⟩;refine⟨pm,ms,_,rfl,rfl,ay.new n8 _ _ sj,a9 (by lia),?_⟩;obtain⟨k5,s5,wU,h8,BG,DW,mJ⟩:=OL (xs:=[V.str "bill",.str aJ,.int day,.int (day + n),.int dP]) nm s4 sj n8 n1 n3 GC yA Jj oG;refine⟨_,rfl,_,rfl,(by show 1<=sizeLine; decide),fun p9 n9=>?_⟩;have t9:=ay.new (o:= .lst [V.str aJ]) n9;refine⟨_,rfl,_,_,rfl,rfl,_,rfl,cE (fun c=>⟨_,rfl,_,rfl,_,_,rfl,rfl,.inr ⟨_,rfl,?_⟩⟩) (fun c=> .inr ⟨_,rfl,?_⟩)⟩
    all_goals
     refine GD af (t9 _ _ BG) (by lia) fun LB OM n hn ZJ Jk ZK=>?_;have ux:=t9.trans ZJ;exact uV.mk' (d:= .dJ aJ day _ dP) (pb:=LB) NS GG b9 (k5.trans ux.tk) (s5.trans ux) (ux _ _ wU) (dC (ux _ _ h8) (gW (rS _) (gW (rS _) (gW (rI _) (gW (rI _) (gW (rI _) r0)))))) pz ZK (by rw[ax,iN]; lia) (ux _ _ DW) (by lia) (ux _ _ mJ) (by lia) (aI (t9 _ _ wU) Jk).symm (aI (t9 _ _ mJ) Jk).symm n3 n4
   refine⟨_,rfl,_,_,rfl,rfl,_,rfl,cE (fun c2=>?_) (fun c2=>?_)⟩
   ·
    refine⟨_,rfl,.inl ⟨rfl,_,bD.of sj⟩,_,rfl,_,rfl,_,rfl,(by show 4<=sizeLine; decide),fun p8 n8=>?_⟩;refine⟨pm,ms,_,rfl,rfl,ay.new n8 _ _ sj,a9 (by lia),?_⟩;obtain⟨k5,s5,wU,h8,BG,DW,mJ⟩:=OL (xs:=[V.str "pay",.str aJ,.int day,.int dP]) nm s4 sj n8 n1 n3 GC yA Jj oG;refine⟨_,rfl,_,rfl,(by show 1<=sizeLine; decide),fun p9 n9=>?_⟩;have t9:=ay.new (o:= .lst [V.str aJ]) n9;refine⟨_,rfl,_,_,rfl,rfl,.inr ⟨_,rfl,?_⟩⟩;refine GD af (t9 _ _ DW) (by lia) fun LB OM n hn ZJ Jk ZK=>?_;have ux:=t9.trans ZJ;exact uV.mk' (d:= .o7 aJ day dP) (ph:=LB) NS GG b9 (k5.trans ux.tk) (s5.trans ux) (ux _ _ wU) (dC (ux _ _ h8) (gW (rS _) (gW (rS _) (gW (rI _) (gW (rI _) r0))))) pz (ux _ _ BG) (by lia) ZK (by rw[ax,iN]; lia) (ux _ _ mJ) (by lia) n1 n2 (aI (t9 _ _ wU) Jk).symm (aI (t9 _ _ mJ) Jk).symm
   refine⟨_,rfl,rfl,_,rfl,cE (fun c3=>?_) (fun c3=>?_)⟩
   ·
    refine⟨_,rfl,.inl ⟨rfl,_,bD.of sj⟩,_,rfl,_,rfl,_,rfl,(by show 4<=sizeLine; decide),fun p8 n8=>?_⟩;refine⟨pm,ms,_,rfl,rfl,ay.new n8 _ _ sj,a9 (by lia),?_⟩;obtain⟨k5,s5,wU,h8,BG,DW,mJ⟩:=OL (xs:=[V.str "note",.int bl,.int day,.int dP]) nm s4 sj n8 n1 n3 GC yA Jj oG;have no:=fun(Lz NQ L4 LA DV x5 x6 x7 x8 x9 IF yy:Option V)=>uV.mk' (a:=a) (x5:=x5) (x6:=x6) (x7:=x7) (x8:=x8) (x9:=x9) (IF:=IF) (yy:=yy) (Lz:=Lz) (NQ:=NQ) (L4:=L4) (LA:=LA) (DV:=DV) (d:= .note bl day dP) NS GG b9 k5 s5 wU (dC h8 (gW (rS _) (gW (rI _) (gW (rI _) (gW (rI _) r0))))) pz BG (by lia) DW (by lia) mJ (by lia) n1 n2 n3 n4;refine⟨_,rfl,_,_,rfl,rfl,_,rfl,cE (fun d1=>?_) (fun d1=>bV (no ..))⟩;refine⟨_,rfl,_,rfl,pb,_,rfl,.inl (bD.of BG),_,_,rfl,rfl,_,rfl,cE (fun d2=>?_) (fun d2=>bV (no ..))⟩;refine⟨_,rfl,_,_,rfl,rfl,_,rfl,cE (fun d3=>?_) (fun d3=>no ..)⟩;have Us:0<=bl:=aS d1;have YL:bl < ((bs.map V.str).length:Int):=aS d2;obtain⟨bn,rfl⟩:=cD Us;have hbn:bn < bs.length:=by rw[ae] at YL; lia
    refine⟨_,rfl,_,rfl,_,rfl,pb,_,_,.str bs[bn],rfl,rfl,bD.of BG,cI (by rw[aE,ag hbn]; rfl),(by show 1<=sizeLine; decide),fun p9 n9=>?_⟩;have t9:=ay.new (o:= .lst [V.str bs[bn]]) n9;refine⟨ph,p9,_,_,rfl,rfl,t9 _ _ DW,af,cq (a9 (by rw[ae]; show hs.length + 1<=1000; lia)),fun LB Jk=>?_⟩;have ux:=t9.trans (ay.new (o:= .lst (hs.map V.str ++ [V.str bs[bn]])) Jk);exact uV.mk' (d:= .note (bn:Int) day dP) (ph:=LB) (hs:=hs ++ [bs[bn]]) NS GG b9 (k5.trans ux.tk) (s5.trans ux) (ux _ _ wU) (dC (ux _ _ h8) (gW (rS _) (gW (rI _) (gW (rI _) (gW (rI _) r0))))) pz (ux _ _ BG) (by lia) (by rw[aL]; exact af) (by rw[ax]; show hs.length + 1<=_; lia) (ux _ _ mJ) (by lia) n1 n2 (aI (t9 _ _ wU) Jk).symm (aI (t9 _ _ mJ) Jk).symm
   refine⟨_,rfl,_,_,rfl,rfl,_,rfl,cE (fun c4=>?_) (fun c4=>?_)⟩
   ·
    refine⟨_,rfl,.inl ⟨rfl,_,bD.of oG⟩,_,rfl,kH,_,_,rfl,rfl,oG,a9 (by rw[ae]; lia),?_⟩;obtain⟨k0,s0,Sg,WN,Sh,NT⟩:=Vt (x:=0 + (i:Int)) WM s4 sj n2 n4 GC yA Jj oG;have hR0:=NS.mono k0;have ZL:=s0.seq ZI;generalize upd H4 kH (.lst (sp.map V.int ++ [.int (0 + (i:Int))]))=H5 at s0 Sg WN Sh NT hR0 ZL ⊢;refine⟨fun σ' H'=>ay H5 H'/\ ∃part:Int,σ'=[some (.ref a),some (.ref pm),some (.ref pb),some (.ref ph),some (.ref kH),some (.int (0 + (i:Int))),some (.int (cell / 16 % 10 ^ (60:Int).toNat)),some (.int ((cell + 5 * (0 + (i:Int))) % 16)),some (.str aJ),some (.int day),some (.int dP),some (.int bl),Lz,some (.int part),L4,LA,DV],?_,?_⟩
    ·refine⟨_,rfl,_,rfl,_,_,rfl,rfl,(by show(0:Int) < 3; decide),_,_,rfl,rfl,(by show 2<=sizeLine; decide),fun p9 n9=>?_⟩;refine⟨_,rfl,_,_,rfl,rfl,_,rfl,cE (fun d=>⟨_,rfl,_,_,rfl,rfl,(by show(0:Int) < 4; decide),_,_,rfl,rfl,.inr ⟨_,rfl,p9,_,_,_,rfl,rfl,bD.of af,(Vs _ _ _).2,?_⟩⟩) (fun d=> .inr ⟨_,rfl,p9,_,_,_,rfl,rfl,bD.of af,(Vs _ _ _).2,?_⟩)⟩
     ·exact⟨ay.new n9,_,rfl⟩
     ·exact⟨ay.new n9,_,rfl⟩
    rintro σ' H6 ⟨ZM,part,rfl⟩;refine⟨_,rfl,_,rfl,_,rfl,_,rfl,a,_,_,.int cell,rfl,rfl,ZM.seq ZL,Sf,_,rfl,_,_,rfl,rfl,ph,hs,aJ,cell,_,rfl,bD.of (ZM _ _ Sh),by lia,fun cr0 H7 s67=>?_⟩;have yx:=ZM.trans s67;refine⟨fun σ' H'=>H'=H7/\ ∃cr:Int,σ'=[some (.ref a),some (.ref pm),some (.ref pb),some (.ref ph),some (.ref kH),some (.int (0 + (i:Int))),some (.int (cell / 16 % 10 ^ (60:Int).toNat)),some (.int ((cell + 5 * (0 + (i:Int))) % 16)),some (.str aJ),some (.int day),some (.int dP),some (.int bl),Lz,some (.int part),some (.int cr),LA,DV],?_,?_⟩
    ·refine⟨_,rfl,_,rfl,a,_,_,.int cell,rfl,rfl,yx.seq ZL,Sf,_,_,rfl,rfl,(by show(0:Int) < 41; decide),rfl,_,rfl,cE (fun d=>?_) (fun d=>⟨rfl,_,rfl⟩)⟩;refine⟨_,rfl,_,_,rfl,rfl,⟨by decide,by decide⟩,_,rfl,ph,_,rfl,.inl (bD.of (yx _ _ Sh)),_,_,rfl,rfl,_,_,rfl,rfl,(by show(0:Int) < ((hs.map V.str).length:Int) + 1; lia),?_⟩;exact⟨rfl,_,rfl⟩
    rintro σ' H' ⟨rfl,cr,rfl⟩;have ID:=yx _ _ Sg;refine⟨_,rfl,.inl ⟨rfl,_,bD.of ID⟩,_,rfl,_,rfl,_,rfl,(by show 4<=sizeLine; decide),fun p8 n8=>?_⟩;refine⟨pm,ms,_,rfl,rfl,ay.new n8 _ _ ID,a9 (by lia),?_⟩;obtain⟨k5,s5,wU,h8,BG,DW,mJ⟩:=OL (xs:=[V.str "set",.int cr,.int bl,.int part]) nm (s0.trans yx) ID n8 n1 n3 GC (yx _ _ WN) (yx _ _ Sh) (yx _ _ NT);exact uV.mk' (d:= .set cr bl part) (hR0.mono yx.tk) GG b9 k5 s5 wU (dC h8 (gW (rS _) (gW (rI _) (gW (rI _) (gW (rI _) r0))))) trivial BG (by lia) DW (by lia) mJ (by rw[ax]; show sp.length + 1<=_; lia) n1 n2 n3 n4
   refine⟨_,rfl,_,_,rfl,rfl,_,rfl,cE (fun c5=>?_) (fun c5=>?_)⟩
   ·
    refine⟨_,rfl,.inl ⟨rfl,_,bD.of oG⟩,_,rfl,kH,_,_,rfl,rfl,oG,a9 (by rw[ae]; lia),?_⟩;obtain⟨k0,s0,Sg,WN,Sh,NT⟩:=Vt (x:=0 + (i:Int)) WM s4 sj n2 n4 GC yA Jj oG;refine⟨_,rfl,.inl ⟨rfl,_,bD.of Sg⟩,_,rfl,(by show 2<=sizeLine; decide),fun p8 n8=>?_⟩;refine⟨pm,ms,_,rfl,rfl,ay.new n8 _ _ Sg,a9 (by lia),?_⟩;obtain⟨k5,s5,wU,h8,BG,DW,mJ⟩:=OL (xs:=[V.str "sweep",.str aJ]) nm s0 Sg n8 n1 n3 GC WN Sh NT;exact uV.mk' (d:= .fu aJ) (NS.mono k0) GG b9 k5 s5 wU (dC h8 (gW (rS _) (gW (rS _) r0))) trivial BG (by lia) DW (by lia) mJ (by rw[ax]; show sp.length + 1<=_; lia) n1 n2 n3 n4
   refine⟨_,rfl,rfl,_,rfl,cE (fun c6=>?_) (fun c6=>?_)⟩
   ·
    refine⟨_,rfl,_,rfl,_,rfl,_,_,rfl,rfl,⟨by decide,by decide,by decide⟩,_,rfl,_,_,rfl,rfl,_,rfl,_,_,rfl,rfl,⟨by decide,by decide⟩,_,rfl,_,_,rfl,rfl,_,_,rfl,rfl,(by show(0:Int) < 0 + (i:Int) + 1; lia),_,rfl,_,rfl,_,_,rfl,rfl,(by show 7<=sizeLine; decide),fun p9 n9=>?_⟩;refine⟨kH,p9,_,_,rfl,rfl,ay.new n9 _ _ oG,af,cq (a9 (by rw[ae]; show sp.length + 7<=1000; lia)),fun Se ZG=>?_⟩;have Dc:=(ay.new (o:= .lst [V.int (0 + (i:Int)),.int (-1),.int (10 ^ (9:Int).toNat),.int 0,.int (0 + (i:Int) - 1),.int ((cell / 16 % 10 ^ (60:Int).toNat) / 3 % (0 + (i:Int) + 1)),.int (-2 - (cell / 16 % 10 ^ (60:Int).toNat))]) n9).trans (ay.new (o:= .lst (sp.map V.int ++ [V.int (0 + (i:Int)),.int (-1),.int (10 ^ (9:Int).toNat),.int 0,.int (0 + (i:Int) - 1),.int ((cell / 16 % 10 ^ (60:Int).toNat) / 3 % (0 + (i:Int) + 1)),.int (-2 - (cell / 16 % 10 ^ (60:Int).toNat))])) ZG);have Vu:=af (H:=upd H4 p9 (.lst [V.int (0 + (i:Int)),.int (-1),.int (10 ^ (9:Int).toNat),.int 0,.int (0 + (i:Int) - 1),.int ((cell / 16 % 10 ^ (60:Int).toNat) / 3 % (0 + (i:Int) + 1)),.int (-2 - (cell / 16 % 10 ^ (60:Int).toNat))])) (a:=Se) (o:= .lst (sp.map V.int ++ [V.int (0 + (i:Int)),.int (-1),.int (10 ^ (9:Int).toNat),.int 0,.int (0 + (i:Int) - 1),.int ((cell / 16 % 10 ^ (60:Int).toNat) / 3 % (0 + (i:Int) + 1)),.int (-2 - (cell / 16 % 10 ^ (60:Int).toNat))]));generalize upd (upd H4 p9 (.lst [V.int (0 + (i:Int)),.int (-1),.int (10 ^ (9:Int).toNat),.int 0,.int (0 + (i:Int) - 1),.int ((cell / 16 % 10 ^ (60:Int).toNat) / 3 % (0 + (i:Int) + 1)),.int (-2 - (cell / 16 % 10 ^ (60:Int).toNat))])) Se (.lst (sp.map V.int ++ [V.int (0 + (i:Int)),.int (-1),.int (10 ^ (9:Int).toNat),.int 0,.int (0 + (i:Int) - 1),.int ((cell / 16 % 10 ^ (60:Int).toNat) / 3 % (0 + (i:Int) + 1)),.int (-2 - (cell / 16 % 10 ^ (60:Int).toNat))]))=H5 at Dc Vu ⊢;have Vv:sp.map V.int ++ [V.int (0 + (i:Int)),.int (-1),.int (10 ^ (9:Int).toNat),.int 0,.int (0 + (i:Int) - 1),.int ((cell / 16 % 10 ^ (60:Int).toNat) / 3 % (0 + (i:Int) + 1)),.int (-2 - (cell / 16 % 10 ^ (60:Int).toNat))]=(sp ++ [0 + (i:Int),-1,10 ^ (9:Int).toNat,0,0 + (i:Int) - 1,(cell / 16 % 10 ^ (60:Int).toNat) / 3 % (0 + (i:Int) + 1),-2 - (cell / 16 % 10 ^ (60:Int).toNat)]).map V.int:=by rw[aL]; rfl
    rw[Vv] at Vu;generalize Tu:sp ++ [0 + (i:Int),-1,10 ^ (9:Int).toNat,0,0 + (i:Int) - 1,(cell / 16 % 10 ^ (60:Int).toNat) / 3 % (0 + (i:Int) + 1),-2 - (cell / 16 % 10 ^ (60:Int).toNat)]=mn at Vu;have aeT:0 < mn.length:=by rw[← Tu,ax]; show 0 < sp.length + 7; lia
    have hmp:0 < ((mn.map V.int).length:Int):=by rw[ae]; lia
    obtain⟨y,_,hy⟩:=k6 (g:=V.int) (xs:=mn) (m:=((mn.map V.int).length:Int)) (x:=(cell / 16 % 10 ^ (60:Int).toNat)) (by rw[ae]) hmp;have Rm:=Dc _ _ sj;refine⟨_,rfl,.inl ⟨rfl,_,bD.of Rm⟩,_,rfl,_,rfl,_,rfl,Se,_,rfl,.inl (bD.of Vu),_,_,rfl,rfl,hmp,Se,_,_,.int y,rfl,rfl,bD.of Vu,hy,(by show 2<=sizeLine; decide),fun p8 n8=>?_⟩;refine⟨pm,ms,_,rfl,rfl,ay.new n8 _ _ Rm,a9 (by lia),?_⟩;obtain⟨k5,s5,wU,h8,BG,DW,mJ⟩:=OL (xs:=[V.str "undo",.int y]) nm (s4.trans Dc) Rm n8 n1 n3 GC (Dc _ _ yA) (Dc _ _ Jj) (Dc _ _ oG);exact uV.mk' (d:= .fC y) (NS.mono Dc.tk) GG b9 k5 s5 wU (dC h8 (gW (rS _) (gW (rI _) r0))) trivial BG (by lia) DW (by lia) mJ (by lia) n1 n2 n3 n4
   refine⟨_,rfl,rfl,_,rfl,cE (fun c7=>?_) (fun c7=>?_)⟩
   ·
    refine⟨_,rfl,.inl ⟨rfl,_,bD.of sj⟩,(by show 2<=sizeLine; decide),fun p9 n9=>?_⟩;have t9:=ay.new (o:= .lst [V.str "owed",.str "free"]) n9;obtain⟨y,YI,hy⟩:=k6 (g:=fun o:Bool=>V.str (if o then "owed" else "free")) (xs:=[true,false]) (m:=2) (x:=(cell / 16 % 10 ^ (60:Int).toNat)) rfl (by decide);refine⟨_,rfl,_,_,rfl,rfl,(by show(0:Int) < 2; decide),p9,_,_,_,rfl,rfl,bD.of af,hy,_,rfl,_,rfl,(by show 3<=sizeLine; decide),fun p8 n8=>?_⟩;have hM9:=t9 _ _ sj;refine⟨pm,ms,_,rfl,rfl,ay.new n8 _ _ hM9,a9 (by lia),?_⟩;obtain⟨k5,s5,wU,h8,BG,DW,mJ⟩:=OL (xs:=[V.str (if y then "owed" else "free"),.str aJ,.int day]) nm (s4.trans t9) hM9 n8 n1 n3 GC (t9 _ _ yA) (t9 _ _ Jj) (t9 _ _ oG);exact uV.mk' (d:= .ask y aJ day) (NS.mono t9.tk) GG b9 k5 s5 wU (dC h8 (gW (rS _) (gW (rS _) (gW (rI _) r0)))) trivial BG (by lia) DW (by lia) mJ (by lia) n1 n2 n3 n4
   ·
    obtain⟨Sk,ZN,aeU⟩:=AF (cell / 16 % 10 ^ (60:Int).toNat) 12 (by decide);refine⟨_,rfl,_,_,rfl,rfl,(by show(0:Int) < 12; decide),_,rfl,l9 (by decide) (iP _ (by decide)),Int.lt_trans (kJ _ (by decide)) (by decide),?_⟩;show yV (N6 0 ((cell / 16 % 10 ^ (60:Int).toNat) % 12).toNat) _ _ _ _ _ _;rw[ZN,dB];refine vK (lo:=0) (n:=Sk) (fun D j σ H6=>H4 D=none/\ ∃v,σ=[v,some (.int (cell / 16 % 10 ^ (60:Int).toNat))]/\ay H4 H6/\H6 D=some (.lst ((dj (cell / 16 % 10 ^ (60:Int).toNat) j).map V.int))) (fun D hD=>⟨hD,none,rfl,ay.new hD,af⟩) ?_ ?_
    ·rintro D j σ H6 hj ⟨hD,v,rfl,t3,hl⟩;refine⟨_,rfl,_,_,rfl,rfl,(by show(0:Int) < 9; decide),_,_,rfl,rfl,_,rfl,_,rfl,_,_,rfl,rfl,(by show(0:Int) < 30; decide),_,_,rfl,rfl,_,_,rfl,rfl,.inl ⟨by lia,by lia⟩,_,_,rfl,rfl,?_⟩;refine⟨_,hl,a9 (by rw[ae,DE]; lia),hD,_,rfl,t3.cW hD,?_⟩;rw[af];unfold dj;rw[kK,aL,aL]; rfl
    ·rintro D σ H6 _ ⟨hD,v,rfl,t3,hl⟩;have K9:=t3 _ _ sj;refine⟨_,rfl,.inl ⟨rfl,_,bD.of K9⟩,_,rfl,_,rfl,_,rfl,D,_,rfl,.inl ⟨bD.of hl,fun pt OF=>?_⟩⟩;have t7:=t3.trans (ay.new (o:= .tup ((dj (cell / 16 % 10 ^ (60:Int).toNat) Sk).map V.int)) OF);have g7:=af (H:=H6) (a:=pt) (o:= .tup ((dj (cell / 16 % 10 ^ (60:Int).toNat) Sk).map V.int));generalize upd H6 pt (.tup ((dj (cell / 16 % 10 ^ (60:Int).toNat) Sk).map V.int))=H7 at t7 g7 ⊢;refine⟨(by show 4<=sizeLine; decide),fun p8 n8=>?_⟩;have ID:=t7 _ _ sj;refine⟨pm,ms,_,rfl,rfl,ay.new n8 _ _ ID,a9 (by lia),?_⟩;obtain⟨k5,s5,wU,h8,BG,DW,mJ⟩:=OL (xs:=[V.str "ages",.str aJ,.int day,.ref pt]) nm (s4.trans t7) ID n8 n1 n3 GC (t7 _ _ yA) (t7 _ _ Jj) (t7 _ _ oG);exact uV.mk' (d:= .gZ aJ day (dj (cell / 16 % 10 ^ (60:Int).toNat) Sk)) (NS.mono t7.tk) GG b9 k5 s5 wU (dC h8 (gW (rS _) (gW (rS _) (gW (rI _) (gW (dC (k5 _ _ g7) (gX.ints _)) r0))))) (NR (cell / 16 % 10 ^ (60:Int).toNat) Sk (by lia)) BG (by lia) DW (by lia) mJ (by lia) n1 n2 n3 n4
  ·rintro σ H2 ⟨pb,ph,bs,hs,sp,ds,ms,x5,x6,x7,x8,x9,IF,yy,Lz,NQ,L4,LA,DV,rfl,s2,hM,hR,GG,b9,_⟩;rw[ae] at GG;refine⟨_,rfl,?_⟩;exact k pm ds ms H2 s2 hM hR GG b9
def ju.rp {H:Hp}{ok:Addr->Prop}{a:uZ}{v:V}(h:ju H ok a v):Rp H a.dt v:=by
 cases a with
 |int i=>exact dE.mpr h
 |txt s=>exact gg.mpr h
 |sets l=>
  obtain⟨D,ms,rfl,_,z,t⟩:=h;exact gj z (gy.Oq t)
 |pairs l=>
  obtain⟨D,ms,rfl,_,z,t⟩:=h;exact gj z (iT.Oq t)
 |«ints» l=>
  obtain⟨D,rfl,_,z⟩:=h;exact gj z (Dh l)
def oU {α:Type}(f:α->Dt)(n:Nat): ∀l:List α,(∀x∈l,(f x).size<=n)->Dt.fq (l.map f)<=l.length * n
 |[],_=>bu _
 |x :: l,h=>by
  have h1:=oU f n l fun y hy=>h y (aW _ hy);have h2:=h x ba;rw[de,bJ,xy];show(f x).size + Dt.fq (l.map f)<=_;lia
def qG {α:Type}(f:α->Dt)(l:List α)(h: ∀x∈l,(f x).plain=true):Dt.mr (l.map f)=true:=by
 rw[Dt.qm];intro d hd;obtain⟨x,hx,rfl⟩:=bF.mp hd;exact h x hx
def IS {H:Hp}{pd:Addr}{d:bc}(h:tP H pd d): ∃r,H pd=some (.tup (.str (bc.word d) :: r)):=by
 cases d with
 |gZ w dy l=>
  obtain⟨pl,h1,_⟩:=h;exact⟨_,h1⟩
 |_=>exact⟨_,h⟩
def zB (d:bc):xI (.str (bc.word d)) [.str "bill",.str "pay",.str "note",.str "set",.str "sweep"]=d.tells:=by
 cases d with
 |dJ _ _ _ _=>show xI (.str "bill") _ =true; decide +kernel
 |o7 _ _ _=>show xI (.str "pay") _ =true; decide +kernel
 |note _ _ _=>show xI (.str "note") _ =true; decide +kernel
 |set _ _ _=>show xI (.str "set") _ =true; decide +kernel
 |fu _=>show xI (.str "sweep") _ =true; decide +kernel
 |fC _=>show xI (.str "undo") _ =false; decide +kernel
 |ask o _ _=>
  cases o
  ·show xI (.str "free") _ =false; decide +kernel
  ·show xI (.str "owed") _ =false; decide +kernel
 |gZ _ _ _=>show xI (.str "ages") _ =false; decide +kernel
def NU (xs:List V)(a b:Nat)(h:a<=b):(qj xs (some (a:Int)) (some (b:Int))).length<=b - a:=by
 unfold qj;rw[HT.zN,HT.zN,bz];lia
def NV (ns:List Int)(lo hi:Option Int): ∃cs:List Int,qj (ns.map V.int) lo hi=cs.map V.int:=by
 unfold qj;rw[← List.map_drop,← List.map_take];exact⟨_,rfl⟩
def Ff {H:Hp}{ok:Addr->Prop}: ∀{as:List uZ} {ws:List V},Paired (ju H ok) as ws->gX H (as.map uZ.dt) ws
 |_,_,.nil=>cJ.mpr rfl
 |_,_,.cons h t=>bw.mpr ⟨_,_,rfl,h.rp,Ff t⟩
def LC {H:Hp}{tb:Addr}{pos:Pos}{qual:Str}(h:H tb=some (.nA #[])):Tb H tb pos qual:=⟨#[],h,True.intro,.inl rfl⟩
def LD (K:Frag)(cps:List (Addr×Addr)):Sp:=fun vs H Q _=> ∃(a:Addr) (ns:List Int),vs=[.ref a]/\bD K H a (ns.map V.int)/\ns.length<=63/\(∀cp∈cps,H cp.2=some (.nA #[]))/\ ∀H',Q (.bl true) H'
def NW {H:Hp}{sd p:Addr}{S:Bk}{f:fA}{ws:List V}{o:HO}(h:dh H sd S f)(e:H p=some (.lst ws))(n:p∉f.fp):dh (upd H p o) sd S f:=
 h.keep (fun b u hb z=>by
  have nb:b≠p:=by
   rcases hb with hb|hb
   ·rw[hb];exact mN h.dict e (by intro q; cases q)
   ·exact fun q=>n (q▸hb)
  rw[aB nb];exact z) (eZ e)
inductive LF (vs:List V)(H:Hp)(Q:VK)(E':XK):Prop
 |mk (pa:Addr)(ds:List bc)(ms:List V)(h1:vs=[.ref pa])(h2:H pa=some (.lst ms))(h3:bU H ds ms)(h4:ds.length<=59)(h5:(∀d∈ds,d.ok))(h6: ∀(t:Addr) (v:V) (ps sd:Addr) (us:List V) (f:fA) (H':Hp),ay H H'->H' t=some (.tup [v,.ref ps,.ref sd])->H' ps=some (.lst us)->fT H' (cM ds eL.new 0).2.steps us->dh H' sd (cM ds eL.new 0).2.bk f->(∀x∈f.fp,H x=none)->ps∉f.fp->Good (cM ds eL.new 0).2 ds.length->Q (.ref t) H'):LF vs H Q E'
def jm:aV ["_law_asked","_law_steps","_law_state","_law_due","_law_number","_law_deed","_law_answer"] ["_law_asked"] (aA (top 66)):={}
def pB (T:Txt K mg):eO P w K mg base "_law_gone_through" 6 ["_law_asked"] LF:=by
 have mG:=rQ (P:=P) (w:=w) (base:=base) T;have Bu:=AY (P:=P) (w:=w) (base:=base) T;have oH:=uw (P:=P) (w:=w) (base:=base) T;refine T.pj.fb (k:=5) jm (fun f cV A outer s H vs Q E hr h=>?_)
 ·obtain⟨pa,ds,ms,rfl,Ji,IP,GG,b9,k⟩:=h;have nd:=jm.nd;have BC:=bU.length IP;refine⟨_,(ah (sv 1 nd (bK ao))
(ah (sv 2 nd (JV mG (hr.mono (by decide)) rfl))
(ah (sv 3 nd (bK ao))
(ah (dX bC rfl (hJ rfl T.kX (aa (lz T.dk (pv 0)) ao)) (gn 4 nd)
(ah (sv 5 nd (xl (pv 0) (pv 4)))
(ah (sv 6 nd aK)
(iz (bP (PW.pt (pw_or (gf (fc Bu hr (aa (pv 5) ao))) (pw_or1 (aY cU (xt (pv 5) ai) aK (a8 _)))))
(av (jU (fc oH hr (aa (pv 1) (aa (pv 2) (aa (pv 4) (aa (pv 5) ao))))) (gT (bR (gn 6 nd) (bR (gn 1 nd) (bR (gn 2 nd) fP))))))
bh)
(av (bM (qv (pv 3) (pv 6))))))))
(av (a6 (cg (aa (pv 3) (aa (pv 1) (aa (pv 2) ao)))))))))),?_⟩
  refine⟨bu _,fun ps BF=>?_⟩;have s6:=ay.new (o:= .lst []) BF;have Rn:upd H ps (.lst []) ps=some (.lst []):=af;generalize upd H ps (.lst [])=H6 at s6 Rn;refine⟨rfl,fun sd g H7 s7 Ro M7 nf=>?_⟩;have Vw:=s7 _ _ Rn;have yx:=s6.trans s7;have ZO:ps∉g.fp:=fun z=>by
   have:=nf _ z;rw[Rn] at this;cases this
  have nf5: ∀b∈g.fp,H b=none:=fun b hb=>s6.free (nf b hb);refine⟨bu _,fun pu WO=>?_⟩;have s8:=ay.new (o:= .lst []) WO;have Vx:upd H7 pu (.lst []) pu=some (.lst []):=af;have Vy:=s8 _ _ Vw;have Vz:=Ro.same s8;have ZP:pu∉g.fp:=Ro.off WO;have ZQ:pu≠ps:=(aI Vw WO).symm;have ZR:=yx.trans s8;have ZS:H pu=none:=yx.free WO;generalize upd H7 pu (.lst [])=H8 at s8 Vx Vy Vz ZR;refine⟨_,rfl,pa,_,rfl,.inl (bD.of (ZR _ _ Ji)),(ms.length:Int),rfl,by lia,by lia,?_⟩;rw[dB];refine jM (lo:=0) (n:=ms.length) (fun i σ H2=> ∃(ps sd:Addr) (us ws:List V) (f:fA) (x4 x5 x6:Option V),σ=[some (.ref pa),some (.ref ps),some (.ref sd),some (.ref pu),x4,x5,x6]/\ay H H2/\H2 ps=some (.lst us)/\fT H2 (cM (ds.take i) eL.new 0).2.steps us/\dh H2 sd (cM (ds.take i) eL.new 0).2.bk f/\(∀x∈f.fp,H x=none)/\ps∉f.fp/\Good (cM (ds.take i) eL.new 0).2 i/\H2 pu=some (.lst ws)/\ws.length=i/\pu∉f.fp/\pu≠ps)
   ⟨ps,sd,[],[],g,none,none,none,rfl,ZR,Vy,.nil,Vz,nf5,ZO,Good.new,Vx,rfl,ZP,ZQ⟩ ?_ ?_
  ·rintro i σ H2 hi ⟨ps,sd,us,ws,f,x4,x5,x6,rfl,s2,kQ,L6,hB,LG,BF,hG,hpu,Jb,R9,ZT⟩;rw[iQ];have uM:i < ds.length:=by lia
   have qN:=ag uM;obtain⟨v0,Yd,UY⟩:=bU.get IP qN;obtain⟨pd,rfl,hd5⟩:=Gz UY;have hd:=hd5.mono s2.tk;have NO:=b9 _ (bN uM);have WJ:=zA uM;have pL:Good (cz (cM (ds.take i) eL.new 0).2 (i:Int) ds[i]).2 (i + 1):=hG.step ds[i];rw[WJ];generalize ds[i]=d at hd NO pL;generalize (cM (ds.take i) eL.new 0).2=TT at L6 hB hG pL;clear WJ UY hd5 qN;refine⟨_,rfl,_,rfl,pa,_,_,.ref pd,rfl,rfl,bD.of (s2 _ _ Ji),cI Yd,?_⟩;refine⟨fun σ' H'=> ∃(v:V) (qz ve:Addr) (zp:List V) (f':fA),σ'=[some (.ref pa),some (.ref qz),some (.ref ve),some (.ref pu),some (.int (i:Int)),some (.ref pd),some v]/\ay H H'/\H' qz=some (.lst zp)/\fT H' (cz TT i d).2.steps zp/\dh H' ve (cz TT i d).2.bk f'/\(∀x∈f'.fp,H x=none)/\qz∉f'.fp/\H' pu=some (.lst ws)/\pu∉f'.fp/\pu≠qz,?_,?_⟩
   ·obtain⟨r,hdw⟩:=IS hd;refine⟨_,rfl,pd,bc.word d,r,rfl,hdw,fun H3 s3=>⟨_,rfl,?_⟩⟩;have OB:=hd.mono s3.tk;have ZU:=s3 _ _ hdw;have Iq:=s3 _ _ kQ;have NX:fT H3 TT.steps us:=L6.mono s3.tk;have Lx:=hB.same s3;have WQ:=s2.trans s3;have LH:=s3 _ _ hpu;have ON: ∀(R:VK),(∀t v qz ve zp f' H',H' t=some (.tup [v,.ref qz,.ref ve])->ay H H'->H' qz=some (.lst zp)->fT H' (cz TT i d).2.steps zp->dh H' ve (cz TT i d).2.bk f'->(∀x∈f'.fp,H x=none)->qz∉f'.fp->H' pu=some (.lst ws)->pu∉f'.fp->pu≠qz->R (.ref t) H')->OA R H3 ps f (cz TT i d):=fun R h t v qz ve f' zp H' ht hv hp hS hb fr fi np nq=>
     h t v qz ve zp f' H' ht (fr.same WQ LG) hp hS hb (fun x hx=>(fi x hx).elim (LG x) fun z=>WQ.free z) np (fr _ _ R9 LH) (fun z=>(fi pu z).elim R9 fun q=>by rw[LH] at q; cases q) (fun z=>ZT (z.trans (nq pu _ R9 LH z.symm)))
    by_cases ht:d.tells=true
    ·rw[zB,ht];have DJ:H3 pd=some (.tup (bc.vs d)):=by cases d <;> first|exact OB|cases ht
     refine fH (fH ⟨_,rfl,_,rfl,_,rfl,_,rfl,ps,sd,pd,i,TT,us,f,d,rfl,Iq,NX,Lx,BF,DJ,.inl ht,hG,(by lia),ON _ fun t v qz ve zp f' H' ht MH hp hS hb hn ZV u1 u2 u3=>?_⟩);refine⟨t,_,rfl,cy.of ht,rfl,_,_,rfl,_,_,rfl,_,_,rfl,rfl,?_⟩;exact⟨v,qz,ve,zp,f',rfl,MH,hp,hS,hb,hn,ZV,u1,u2,u3⟩
    ·rw[zB,Bool.eq_false_iff.mpr ht];refine bV ⟨_,rfl,pd,_,_,.str (bc.word d),rfl,rfl,cy.of ZU,Gx _ _,rfl,?_⟩;cases d with
     |dJ _ _ _ _=>exact absurd rfl ht
     |o7 _ _ _=>exact absurd rfl ht
     |note _ _ _=>exact absurd rfl ht
     |set _ _ _=>exact absurd rfl ht
     |fu _=>exact absurd rfl ht
     |fC m=>
      refine⟨true,BD _,fH ⟨_,rfl,_,rfl,_,rfl,_,rfl,ps,sd,pd,i,TT,us,f,.fC m,rfl,Iq,NX,Lx,BF,OB,.inr ⟨m,rfl⟩,hG,(by lia),ON _ fun t v qz ve zp f' H' ht MH hp hS hb hn ZV u1 u2 u3=>?_⟩⟩;refine⟨t,_,rfl,cy.of ht,rfl,_,_,rfl,_,_,rfl,_,_,rfl,rfl,?_⟩;exact⟨v,qz,ve,zp,f',rfl,MH,hp,hS,hb,hn,ZV,u1,u2,u3⟩
     |ask o wh dy=>
      refine⟨false,jL (by cases o; exact(show("free":Str)≠"undo" by decide +kernel); exact(show("owed":Str)≠"undo" by decide +kernel)),bV ?_⟩;exact⟨_,ps,sd,us,f,rfl,WQ,Iq,NX,Lx,LG,BF,LH,R9,ZT⟩
     |gZ wh dy dj=>
      refine⟨false,jL (show("ages":Str)≠"undo" by decide +kernel),bV ?_⟩;exact⟨_,ps,sd,us,f,rfl,WQ,Iq,NX,Lx,LG,BF,LH,R9,ZT⟩
   ·rintro σ' H' ⟨v,qz,ve,zp,f',rfl,s',Uq,ZI,hB',ZW,ZX,u1,u2,u3⟩;refine⟨_,rfl,.inl ⟨rfl,_,bD.of u1⟩,_,rfl,pu,ws,v,rfl,rfl,u1,a9 (by lia),?_⟩;exact⟨qz,ve,zp,ws ++ [v],f',_,_,_,rfl,s'.cW ZS,by rw[aB u3.symm]; exact Uq,ZI.mono (eZ u1),NW hB' u1 u2,ZW,ZX,pL,af,by rw[ax,Jb]; rfl,u2,u3⟩
  ·rintro σ H2 ⟨ps,sd,us,ws,f,x4,x5,x6,rfl,s2,kQ,L6,hB,LG,BF,hG,hpu,_⟩;rw[← BC,bb] at L6 hB hG;refine⟨_,rfl,_,rfl,_,rfl,(by show 3<=sizeLine; decide),fun t nt=>?_⟩;have s9:=ay.new (o:= .tup [V.ref pu,.ref ps,.ref sd]) nt;exact k t _ ps sd us f _ (s2.trans s9) af (s9 _ _ kQ) (L6.mono s9.tk) (hB.same s9) LG BF hG
inductive qH (A:dU)(tB tC:Addr)(vs:List V)(H:Hp)(Q:VK)(E':XK):Prop
 |mk (ps:Addr)(ds:List bc)(ms:List V)(h1:vs=[.ref ps])(h2:H ps=some (.lst ms))(h3:bU H ds ms)(h4:ds.length<=60)(h5:(∀d∈ds,d.ok))(h6:kG H tB)(h7:lh H tC)(h8: ∀D us H',Frame [tB,tC] H H'->kG H' tB->lh H' tC->H D=none->H' D=some (.lst us)->gy H' (cM ds eL.new 0).2.bk.made us->Q (.ref D) H'):qH A tB tC vs H Q E'
def uC:aV ["deeds","book"] ["deeds"] (aA (top 34)):={}
def Fg (T:Txt K mg){A:dU}{tB tC:Addr}(G:jA K mg A)(DB:pM K mg "bills_in_order" (top 17) tB)(DC:pM K mg "credits_in_order" (top 18) tC)(i9:tB≠tC)(hnd:A.iH≠A.tooMuch)(KB:K.In base)(BM:BMain mg base):eO P w K mg base "settings" 12 ["deeds"] (qH A tB tC):=by
 have mI:eO P w K mg base "answers_in" 11 ["book","deeds"] (vp A tB tC):=su T G DB DC i9 hnd KB BM;have Fe:tH P w K mg base "Book" A.book 3 ["self"] (vi A):=K5 G;refine T.EA.fb (k:=11) uC (fun f cV A' outer s H vs Q E hr h=>?_)
 ·obtain⟨ps,ds,ms,rfl,kQ,IP,hl,b9,jv,jl,k⟩:=h;have nd:=uC.nd;refine⟨_,(ah (sv 1 nd (Ge Fe (hr.mono (by decide)) rfl))
(ah (bM (fc mI hr (aa (pv 1) (aa (pv 0) ao))))
(av (a6 (fZ mj (by rfl) T.nS Fn (aa (kg (kg (pv 1))) ao)))))),?_⟩
  intro xb Vp Ri Rj ne;have s1:=jS (C:=A.book) (fs:=[]) Ri Rj ne;refine⟨xb,Vp,rfl,af,fun pk pw g H1 F1 hx hk hW nk npw nf Rh=>⟨rfl,?_⟩⟩;have S1:ay H H1:=fun b o e=>F1 b o (by simpa using aI e Ri) (s1 b o e);have fr: ∀b∈g.fp,H b=none:=fun b hb=>s1.free (nf b hb);have UM:H pk=none:=s1.free nk;refine⟨_,rfl,_,rfl,xb,pk,pw,ps,g,ds,ms,rfl,⟨⟨Vp,hx⟩,⟨[],hk,.nil⟩,hW⟩,S1 _ _ kQ,(fun z=>by
   have:=fr _ z;rw[kQ] at this;cases this),IP.mono S1.tk,hl,b9,bp jv S1,bp jl S1,fun pt ws vn qO f' H2 F2 jx lD nt xr hA Gp=>?_⟩
  have F02:Frame [tB,tC] H H2:=(S1.frame (fp:=[tB,tC])).trans F2 fun x hx=>by
   rcases aw.mp hx with hx|hx
   ·exact .inl (by simp[hx])
   rcases aw.mp hx with hx|hx
   ·exact .inl (by simp[hx])
   rcases aw.mp hx with hx|hx
   ·exact .inr (by rw[hx]; exact Ri)
   rcases aw.mp hx with hx|hx
   ·exact .inr (by rw[hx]; exact UM)
   ·exact .inr (fr x hx)
  obtain⟨db,RO⟩:=Gp.obj;obtain⟨dw,Ow⟩:=Gp.wk.obj;obtain⟨us,m1,m2⟩:=Gp.wk.hm;refine⟨_,rfl,xb,_,db,_,_,rfl,RO,G.eI,G.fS,sh _ _,qO,_,dw,_,_,rfl,Ow,G.bG,G.jJ,Ap f',f'.pm,us,rfl,.inl (bD.of m1),fun D nD=>?_⟩;have s3:=ay.new (o:= .lst us) nD;refine k D us _ (F02.cA s3) (bp jx s3) (bp lD s3) ?_ af (m2.mono s3.tk);cases e:H D with
  |none=>rfl
  |some o=>
   exfalso;by_cases js:D∈[tB,tC]
   ·simp only[List.mem_cons,List.not_mem_nil,or_false] at js;rcases js with z|z
    ·obtain⟨_,q⟩:=cY jx;rw[← z,nD] at q;cases q
    ·obtain⟨_,q⟩:=cY lD;rw[← z,nD] at q;cases q
   ·have q:=F02 _ _ js e;rw[nD] at q;cases q
end
end eJ
namespace L2
open PySem
def eB (l:List Rw):Nat:=(l.filter fun r=>decide (0 < r.d)).length
def oV (r:Rw)(l:List Rw):eB (r :: l)=eB l + if 0 < r.d then 1 else 0:=by
 unfold eB;by_cases h:0 < r.d
 ·rw[List.filter_cons_of_pos (by simpa using h),if_pos h]; rfl
 ·rw[List.filter_cons_of_neg (by simpa using h),if_neg h]; rfl
def xk: ∀{l:List Rw} {i:Nat} {r:Rw},i < l.length->r.d<=(l.getD i default).d->eB (l.set i r)<=eB l/\(0 < (l.getD i default).d->r.d<=0->eB (l.set i r) + 1=eB l)
 |[],_,_,h,_=>absurd h (iO _)
 |x :: l,0,r,_,hd=>by
  have DJ:r.d<=x.d:=hd;show eB (r :: l)<=eB (x :: l)/\(0 < x.d->r.d<=0->eB (r :: l) + 1=eB (x :: l));rw[oV,oV];by_cases a:0 < r.d
  ·rw[a0 a,a0 (by lia)];exact⟨aD _,fun _ h=>by lia⟩
  ·rw[aQ a];by_cases b:0 < x.d
   ·rw[a0 b];exact⟨by lia,fun _ _=>rfl⟩
   ·rw[aQ b];exact⟨aD _,fun h=>absurd h b⟩
 |x :: l,i + 1,r,h,hd=>by
  obtain⟨h1,h2⟩:=xk (l:=l) (i:=i) (r:=r) (Nat.lt_of_succ_lt_succ h) hd;show eB (x :: l.set i r)<=eB (x :: l)/\(0 < (l.getD i default).d->r.d<=0->eB (x :: l.set i r) + 1=eB (x :: l));rw[oV,oV];exact⟨by lia,fun a b=>by have:=h2 a b; lia⟩
def Bk.Bv (S:Bk):Nat:=S.made.length + eB S.aG + eB S.credits
def GH {S:Bk}{c b:Nat}{x:Int}(hc:c < S.credits.length)(hb:b < S.aG.length)(hx:0<=x):(S.put c b x).Bv<=S.Bv + 1/\(0 < (S.cr c).d->0 < (S.bl b).d->x=gq (S.cr c).d (S.bl b).d->(S.put c b x).Bv<=S.Bv):=by
 obtain⟨b1,b2⟩:=xk (l:=S.aG) (i:=b) (r:=(S.bl b).less x) hb (by show(S.bl b).d - x<=(S.bl b).d; lia);obtain⟨c1,c2⟩:=xk (l:=S.credits) (i:=c) (r:=(S.cr c).less x) hc (by show(S.cr c).d - x<=(S.cr c).d; lia);have e:(S.put c b x).Bv=S.made.length + 1 + eB (S.aG.set b ((S.bl b).less x)) + eB (S.credits.set c ((S.cr c).less x)):=by
  show(S.made ++ [(c,b,x)]).length + _ + _ =_;rw[ax];rfl
 rw[e];unfold Bk.Bv;refine⟨by lia,fun h1 h2 h3=>?_⟩;by_cases q:(S.bl b).d < (S.cr c).d
 ·have hz:((S.bl b).less x).d<=0:=by
   show(S.bl b).d - x<=0;rw[h3];unfold gq;rw[a0 q];lia
  have:=b2 h2 hz;lia
 ·have hz:((S.cr c).less x).d<=0:=by
   show(S.cr c).d - x<=0;rw[h3];unfold gq;rw[aQ q];lia
  have:=c2 h1 hz;lia
def tR {ex:Bool}{c:Nat}: ∀{l:List Nat} {S:Bk},l.Nodup->c < S.credits.length->(∀b∈l,b < S.aG.length/\0 < (S.bl b).d)->(l.foldl (bY ex c) S).Bv<=S.Bv/\(l.foldl (bY ex c) S).credits.length=S.credits.length
 |[],S,_,_,_=>⟨aD _,rfl⟩
 |b :: l,S,nd,hc,hl=>by
  rw[ee];rw[eV] at nd;obtain⟨hb,pb⟩:=hl b ba;by_cases q:0 < (S.cr c).d/\S.eG c b=true/\((S.cr c).d=(S.bl b).d∨ex=false)
  ·have e:bY ex c S b=S.put c b (gq (S.cr c).d (S.bl b).d):=a0 q;rw[e];have mn:0<=gq (S.cr c).d (S.bl b).d:=by
    unfold gq;split <;> lia
   have L:Later S (S.put c b (gq (S.cr c).d (S.bl b).d)):=Later.put hb hc mn;have p:=(GH hc hb mn).2 q.1 pb rfl;obtain⟨r1,r2⟩:=tR (ex:=ex) (S:=S.put c b (gq (S.cr c).d (S.bl b).d)) nd.2 (by rw[L.cl]; exact hc) (fun b' zV=>by
    obtain⟨u1,u2⟩:=hl b' (aW _ zV);refine⟨by rw[L.bl]; exact u1,?_⟩;have nb:b'≠b:=fun z=>nd.1 (z▸zV);rw[sZ hb,aQ nb];exact u2)
   exact⟨aR r1 p,r2.trans L.cl⟩
  ·have e:bY ex c S b=S:=aQ q;rw[e];exact tR nd.2 hc fun b' zV=>hl b' (aW _ zV)
def oJ {ex:Bool}{aJ:Str}: ∀{l:List Nat} {S:Bk},(∀c∈l,c < S.credits.length)->(l.foldl (cu aJ ex) S).Bv<=S.Bv
 |[],_,_=>aD _
 |c :: l,S,hl=>by
  rw[ee];obtain⟨r1,r2⟩:=tR (ex:=ex) (jI S.aG aJ (·.b)) (hl c ba) (fun b hb=>⟨(dA.mp hb).1,(dA.mp hb).2.2⟩);refine aR (oJ fun c' O7=>?_) r1;show c' < (cu aJ ex S c).credits.length;rw[show(cu aJ ex S c).credits.length=S.credits.length from r2];exact hl c' (aW _ O7)
def IT (S:Bk)(aJ:Str):(S.jz aJ).Bv<=S.Bv:=
 aR (oJ fun c hc=>(dA.mp hc).1) (oJ fun c hc=>(dA.mp hc).1)
def tS (l:List Rw)(r:Rw):eB (l ++ [r])<=eB l + 1:=by
 unfold eB;rw[ip,ax];have:=aZ (fun r:Rw=>decide (0 < r.d)) [r];have e:[r].length=1:=rfl;lia
def IU {S:Bk}{d:bc}(hb:S.bar d=""):(S.enter d).Bv<=S.Bv + 1:=by
 cases d with
 |dJ w dy u a=>
  have:=tS S.aG ⟨w,dy,u,a,a⟩;show S.made.length + eB (S.aG ++ [_]) + eB S.credits<=S.made.length + eB S.aG + eB S.credits + 1;lia
 |o7 w dy a=>
  have:=tS S.credits ⟨w,dy,a,-1,a⟩;show S.made.length + eB S.aG + eB (S.credits ++ [_])<=S.made.length + eB S.aG + eB S.credits + 1;lia
 |note b dy a=>
  have:=tS S.credits ⟨(S.bl b.toNat).aJ,dy,a,b,a⟩;show S.made.length + eB S.aG + eB (S.credits ++ [_])<=S.made.length + eB S.aG + eB S.credits + 1;lia
 |set c b a=>
  obtain⟨⟨c1,c2⟩,⟨b1,b2⟩,g,x,m1,m2⟩:=nP hb;exact(GH (by lia) (by lia) (by lia)).1
 |fu w=>exact lI (IT S w)
 |fC m=>exact cK _
 |ask o w d=>exact cK _
 |gZ w d l=>exact cK _
def xm: ∀(l:List (Int×bc)) {S T:Bk},cH l S=some T->T.Bv<=S.Bv + l.length
 |[],S,T,e=>by
  cases e;exact aD _
 |(k,d) :: l,S,T,e=>by
  unfold cH at e;split at e
  ·rename_i hb;have h1:=xm l e;have h2:=IU hb;rw[bJ];lia
  ·cases e
def Good.made {T:eL}{n:Nat}(h:Good T n):T.bk.made.length<=n:=by
 have h1:=xm T.steps h.w;have h2:=h.len;have h3:Bk.new.Bv=0:=rfl;have h4:T.bk.made.length<=T.bk.Bv:=by unfold Bk.Bv; lia
 lia
open PySem.Spec PyProof.Rows
inductive EvU (K:Frag)(x:V)(lo hi:Option Int)(H:Hp)(Q:VK):Prop
 |mk (a:Addr)(y:V)(xs:List V)(h1:x= .ref a)(h2:cy K H a (y :: xs))(h3:lo=some 1)(h4:hi=none)(q: ∀p,H p=none->Q (.ref p) (upd H p (.tup xs))):EvU K x lo hi H Q
def LI {X:Cx}{K:Frag}(hK:X.K=K:=by first|with_reducible exact Kt|with_reducible exact kx|rfl):Mu X (EvU K):=by
 subst hK;intro pins s σ H x v vl vu lo hi sl Q I rx hs pl pu h;obtain⟨a,y,xs,rfl,hx,rfl,rfl,q⟩:=h;cases rx;cases pl;cases pu;obtain⟨b0,r,ht,hz⟩:=I.tuple hx;cases r with
 | @cons _ u _ us ru r=>
  have hl:(u :: us).toArray.size=xs.length + 1:=by rw[bA,bJ,r.length]
  refine⟨"tuple",_,PyProof.Rows.slot_tuple_getitem.lookup,ht.typeIs,getItem_tuple_from (a:=1) ht hs (aD _) (by rw[hl]; exact Nat.succ_pos _) ?_ (by rw[hl]; exact hz)⟩;exact⟨.ref s.heap.objs.size,_,I.laid (t':=s.toks) (o:= .tup xs) (fun b ob q=>az _ q) (aD _) ⟨aR (cK _) hz,_,r,IsTup.new _ _⟩,rfl,q _ (I.b9.fresh (aD _))⟩
end L2
namespace eJ
open PySem L2 PyProof.Rows LW
seal L2.pC L2.PS L2.PE L2.PT L2.PW L2.PA L2.PC L2.PG L2.Js L2.PI L2.MB L2.LR L2.PO L2.oP L2.N9 L2.hV L2.JJ L2.Mu
section
variable {P:Program}{w:World}{K:Frag}{mg:Str->Option Value}{base:Heap}
inductive VA (K:Frag)(vs:List V)(H:Hp)(Q:VK)(E':XK):Prop
 |mk (a:Addr)(ns:List Int)(k:Nat)(h1:vs=[.ref a,.int k])(h2:bD K H a (ns.map V.int))(h3: ∀i:Int,Q (.int i) H):VA K vs H Q E'
def Fh:aV ["_law_script","_law_k"] ["_law_script","_law_k"] (aA (top 47)):={}
def IV (T:Txt K mg):eO P w K mg base "_law_at" 1 ["_law_script","_law_k"] (VA K):=by
 refine T.HQ.fb (k:=0) Fh (fun f cV A outer s H vs Q E hr h=>?_)
 ·obtain⟨a,ns,k,rfl,hS,q⟩:=h;refine⟨_,(ah (bP (aY jW (pv 1) (lz T.dk (pv 0)) (a8 _))
(av (a6 (xl (pv 0) (pv 1))))
bh)
(av (a6 ai))),?_⟩
  refine⟨_,rfl,_,rfl,a,_,rfl,.inl hS,_,_,rfl,rfl,_,rfl,cE (fun z=>?_) (fun _=>q 0)⟩;have z':(k:Int) < ((ns.map V.int).length:Int):=aS z;have hk:k < ns.length:=by rw[ae] at z'; lia
  exact⟨_,rfl,_,rfl,a,_,_,.int (ns.getD k 0),rfl,rfl,hS,oa hk,q _⟩
def iJ (pr:List (Str×Int)):List bc:=pr.flatMap fun x=>[.ask true x.1 x.2,.ask false x.1 x.2]
def zC (pr:List (Str×Int))(x:Str×Int):iJ (pr ++ [x])=iJ pr ++ [.ask true x.1 x.2,.ask false x.1 x.2]:=by
 unfold iJ;rw[List.flatMap_append];simp
def kz (pr:List (Str×Int)):(iJ pr).length=2 * pr.length:=by
 induction pr with
 |nil=>rfl
 |cons x pr ih=>
  have e:iJ (x :: pr)= .ask true x.1 x.2 :: .ask false x.1 x.2 :: iJ pr:=rfl;rw[e,bJ,bJ,ih,bJ];lia
def oK: ∀(l m:List bc) (T:eL) (n:Nat),cM (l ++ m) T n=((cM l T n).1 ++ (cM m (cM l T n).2 (n + l.length)).1,(cM m (cM l T n).2 (n + l.length)).2)
 |[],m,T,n=>rfl
 |d :: l,m,T,n=>by
  show((cz T n d).1 :: (cM (l ++ m) (cz T n d).2 (n + 1)).1,(cM (l ++ m) (cz T n d).2 (n + 1)).2)=_;rw[oK l m,show n + 1 + l.length=n + (d :: l).length by rw[bJ]; lia];rfl
def zD: ∀(m:List bc) (T:eL) (n:Nat),(∀d∈m,(∃o w y,d= .ask o w y)∨ ∃w y l,d= .gZ w y l)->(cM m T n).2=T/\ ∀(i:Nat) (d:bc),m[i]? =some d->(cM m T n).1[i]? =some (cz T 0 d).1
 |[],T,n,_=>⟨rfl,fun i d h=>by simp at h⟩
 |e :: m,T,n,h=>by
  have he:(cz T n e).2=T/\(cz T n e).1=(cz T 0 e).1:=by
   rcases h e ba with⟨o,w,y,rfl⟩|⟨w,y,l,rfl⟩
   ·exact⟨rfl,rfl⟩
   ·exact⟨rfl,rfl⟩
  obtain⟨h1,h2⟩:=zD m T (n + 1) fun d hd=>h d (aW _ hd);have eq:cM (e :: m) T n=((cz T n e).1 :: (cM m T (n + 1)).1,(cM m T (n + 1)).2):=by
   show((cz T n e).1 :: (cM m (cz T n e).2 (n + 1)).1,(cM m (cz T n e).2 (n + 1)).2)=_;rw[he.1]
  rw[eq];refine⟨h1,fun i d hd=>?_⟩;cases i with
  |zero=>
   have e2:e=d:=by simpa using hd
   subst e2;show some (cz T n e).1=_;rw[he.2]
  |succ i=>exact h2 i d (by simpa using hd)
def zE {H:Hp}{rs:List Rw}{ps:List Addr}(h:eR H rs ps){a:Addr}(ha:a∈ps): ∃xs,H a=some (.lst xs):=by
 induction h with
 |nil=>cases ha
 | @cons r p rs ps hr t ih=>
  rcases aw.mp ha with ha|ha
  ·rw[ha];exact⟨_,hr⟩
  ·exact ih ha
def NY {H:Hp}{sd a:Addr}{S:Bk}{f:fA}(h:dh H sd S f)(hb:a∈f.fp): ∃xs,H a=some (.lst xs):=by
 obtain⟨ms,m1,_⟩:=h.hm;unfold fA.fp at hb;rcases aw.mp hb with z|z
 ·rw[z]; exact⟨_,h.hb⟩
 rcases aw.mp z with z|z
 ·rw[z]; exact⟨_,h.hc⟩
 rcases aw.mp z with z|z
 ·rw[z]; exact⟨_,m1⟩
 rcases bg.mp z with z|z
 ·exact zE h.rb z
 ·exact zE h.rc z
def Rq {H H':Hp}{sd:Addr}{S:Bk}{f:fA}(h:dh H sd S f)(k: ∀a o,H a=some o->(∀ps,o≠ .nA ps)->H' a=some o):dh H' sd S f:=by
 refine h.keep (fun b o hb e=>?_) (fun a xs e=>k _ _ e (fun _ z=>by cases z));refine k _ _ e (fun ps z=>?_);rcases hb with hb|hb
 ·rw[hb,h.dict,z] at e;cases e
 ·obtain⟨xs,q⟩:=NY h hb;rw[q,z] at e;cases e
def mV (k:Int)(o:Option bc)(l:List (Int×bc)):Option bc:=l.foldl (fun o st=>if st.1=k then some st.2 else o) o
def i8 (ss:List (Int×bc))(k:Nat):bc:=(mV k none ss).getD (.ask true "" 0)
def IW (k:Int)(o:Option bc)(l:List (Int×bc))(st:Int×bc):mV k o (l ++ [st])=if st.1=k then some st.2 else mV k o l:=lH
def tT {k:Int}: ∀{l:List (Int×bc)} {o:Option bc},(∀st∈l,st.1≠k)->mV k o l=o
 |[],_,_=>rfl
 |st :: l,o,h=>by
  show mV k (if st.1=k then some st.2 else o) l=o;rw[aQ (h st ba)];exact tT fun s hs=>h s (aW _ hs)
def DF {k:Int}{P:bc->Prop}: ∀{l:List (Int×bc)} {o:Option bc},(∀d∈o,P d)->(∀st∈l,P st.2)-> ∀d∈mV k o l,P d
 |[],_,h,_=>h
 |st :: l,o,h,hl=>DF (l:=l) (o:=if st.1=k then some st.2 else o) (fun d hd=>by
   split at hd
   ·cases hd;exact hl st ba
   ·exact h d hd) fun s hs=>hl s (aW _ hs)
def tU {S:Bk}: ∀(m k:Nat) (T:eL) (r:List (Int×bc)) (f:Nat->bc),(∀i,k<=i->f i=i8 r i)->(∀st∈r,(k:Int)<=st.1/\st.1 < ((k + m:Nat):Int))->r.Pairwise (fun a b=>a.1 < b.1)->(∀st∈r,st.2.tells=true)->cH r T.bk=some S->(cM ((List.range' k m).map f) T k).2=⟨T.steps ++ r,S⟩
 |0,k,T,[],f,_,_,_,_,e=>by
  cases e;rw[bS];rfl
 |0,k,T,st :: r,f,_,h,_,_,_=>by
  have:=h st ba;lia
 |m + 1,k,T,r,f,hf,h,hi,ht,e=>by
  show(cM ((List.range' (k + 1) m).map f) (cz T k (f k)).2 (k + 1)).2=_;have skip:(∀st∈r,st.1≠(k:Int))->(cM ((List.range' (k + 1) m).map f) (cz T k (f k)).2 (k + 1)).2=⟨T.steps ++ r,S⟩:=fun hk=>by
   have e0:f k= .ask true "" 0:=by
    rw[hf k (aD _),i8,tT hk];rfl
   rw[e0];exact tU m (k + 1) T r f (fun i hi=>hf i (by lia)) (fun st hs=>by have:=h st hs; have:=hk st hs; lia) hi ht e
  cases r with
  |nil=>exact skip fun st hs=>by cases hs
  |cons st r=>
   rw[ej] at hi;by_cases q:st.1=(k:Int)
   ·obtain⟨j,d⟩:=st;obtain rfl:j=(k:Int):=q;have hd:=ht _ ba;have e0:f k=d:=by
     rw[hf k (Nat.le_refl _),i8,mV,List.foldl_cons,if_pos rfl,← mV,tT fun s hs=>by have:=hi.1 s hs; dsimp only at this; lia];rfl
    unfold cH at e;split at e
    ·rename_i hb;have es:cz T k d=if T.bk.bar d="" then(T.bk.Ke d,(⟨T.steps ++ [((k:Int),d)],T.bk.enter d⟩:eL)) else(.txt (T.bk.bar d),T):=by cases d <;> first|rfl|cases hd
     rw[e0,es,a0 hb,tU m (k + 1) ⟨T.steps ++ [((k:Int),d)],T.bk.enter d⟩ r f (fun i uM=>by
      rw[hf i (by lia),i8,mV,ee,aQ (show ¬ (k:Int)=(i:Int) by lia)];rfl) (fun st hs=>by have:=h st (List.mem_cons_of_mem _ hs); have:=hi.1 st hs; dsimp only at this; lia) hi.2 (fun st hs=>ht st (List.mem_cons_of_mem _ hs)) e]
     show(⟨T.steps ++ [((k:Int),d)] ++ r,S⟩:eL)=_;rw[dR];rfl
    ·cases e
   ·refine skip fun s hs=>?_;have h1:=h st ba;rcases aw.mp hs with z|z
    ·rw[z];exact q
    ·have:=hi.1 s z;lia
def Good.never {R:eL}{n:Nat}(h:Good R n):(cM ((List.range n).map (i8 R.steps)) eL.new 0).2=R:=by
 rw[List.range_eq_range',tU (S:=R.bk) n 0 eL.new R.steps _ (fun _ _=>rfl) (fun st hs=>by have:=h.lt st hs; lia) h.inc h.tl h.w];rfl
def DG {T:eL}{n:Int}{d:bc}{st:Int×bc}(h:st∈(cz T n d).2.steps):st∈T.steps∨st.2=d:=by
 have dflt: ∀d:bc,st∈(if T.bk.bar d="" then(T.bk.Ke d,(⟨T.steps ++ [(n,d)],T.bk.enter d⟩:eL)) else(.txt (T.bk.bar d),T)).2.steps->st∈T.steps∨st.2=d:=fun d h=>by
  split at h
  ·rcases bg.mp h with h|h
   ·exact .inl h
   ·rw[au.mp h];exact .inr rfl
  ·exact .inl h
 cases d with
 |fC m=>
  rw[cz] at h;split at h
  ·exact .inl h
  ·split at h
   ·exact .inl h
   ·exact .inl (d8.mp h).1
 |ask o w d=>exact .inl h
 |gZ w d l=>exact .inl h
 |dJ w d u a=>exact dflt _ h
 |o7 w d a=>exact dflt _ h
 |note b d a=>exact dflt _ h
 |set c b a=>exact dflt _ h
 |fu w=>exact dflt _ h
def GI: ∀{l:List bc} {T:eL} {n:Nat} {st:Int×bc},st∈(cM l T n).2.steps->st∈T.steps∨st.2∈l
 |[],_,_,_,h=> .inl h
 |d :: l,T,n,st,h=>by
  rcases GI (l:=l) h with h|h
  ·rcases DG h with h|h
   ·exact .inl h
   ·exact .inr (h▸ba)
  ·exact .inr (aW _ h)
def sy (l:List bc)(pr:List (Str×Int)):(cM (l ++ iJ pr) eL.new 0).1=(cM l eL.new 0).1 ++ (iJ pr).map fun d=>(cz (cM l eL.new 0).2 0 d).1:=by
 rw[oK];dsimp only;generalize (cM l eL.new 0).2=T
 congr 1
 obtain⟨_,h⟩:=zD (iJ pr) T (0 + l.length) fun d hd=>by
  obtain⟨y,_,hy⟩:=Jo.mp hd;simp only[List.mem_cons,List.not_mem_nil,or_false] at hy;rcases hy with rfl|rfl <;> exact .inl ⟨_,_,_,rfl⟩
 apply GO;intro i;rw[aE];cases c:(iJ pr)[i]? with
 |none=>exact l8 (by rw[jh]; exact jq.mp c)
 |some d=>exact h i d c
def Rt {X:Cx}{K:Frag}(h:X.K=K):oP X (compareOp .In) (Xy K false):=by subst h; exact lK
def iK {H:Hp}: ∀ks:List Key,gX H (ks.map fun| .inl i=> .int i| .inr x=> .str x) (ks.map kV)
 |[]=>cJ.mpr rfl
 | .inl i :: ks=>bw.mpr ⟨_,_,rfl,dE.mpr rfl,iK ks⟩
 | .inr x :: ks=>bw.mpr ⟨_,_,rfl,gg.mpr rfl,iK ks⟩
def mW {H:Hp}{p:Addr}: ∀{d:bc},H p=some (.tup (bc.vs d))->(∀w y l,d≠ .gZ w y l)->Rp H d.dt (.ref p)
 | .dJ w d u a,h,_=>dC h (iK [.inr "bill",.inr w,.inl d,.inl u,.inl a])
 | .o7 w d a,h,_=>dC h (iK [.inr "pay",.inr w,.inl d,.inl a])
 | .note b d a,h,_=>dC h (iK [.inr "note",.inl b,.inl d,.inl a])
 | .set c b a,h,_=>dC h (iK [.inr "set",.inl c,.inl b,.inl a])
 | .fu w,h,_=>dC h (iK [.inr "sweep",.inr w])
 | .fC m,h,_=>dC h (iK [.inr "undo",.inl m])
 | .ask o w d,h,_=>dC h (iK [.inr (if o then "owed" else "free"),.inr w,.inl d])
 | .gZ w y l,_,n=>absurd rfl (n w y l)
inductive zF (vs:List V)(H:Hp)(Q:VK)(E':XK):Prop
 |mk (sd:Addr)(S:Bk)(f:fA)(x:Int)(h1:vs=[.ref sd,.int x])(h2:dh H sd S f)(h3: ∀(p:Addr) (ds:List bc) (ms:List V) (H':Hp),ay H H'->H' p=some (.lst ms)->bU H' ds ms->ds.length=7->(∀d∈ds,d.ok)->Q (.ref p) H'):zF vs H Q E'
def mX:aV ["_law_state","_law_amount","_law_bill","_law_credit","_law_made"] ["_law_state","_law_amount"] (aA (top 67)):={}
def xn (T:Txt K mg):eO P w K mg base "_law_needing" 1 ["_law_state","_law_amount"] zF:=by
 refine T.wo.fb (k:=0) mX (fun f cV A outer s H vs Q E hr h=>?_)
 ·obtain⟨sd,S,g,x,rfl,hB,q⟩:=h;have nd:=mX.nd;have hu:=jy hr;refine⟨_,(ah (sv 2 nd (lz T.dk (cF hu (pv 0) aK (fun _ _=>rfl))))
(ah (sv 3 nd (lz T.dk (cF hu (pv 0) aK (fun _ _=>rfl))))
(ah (sv 4 nd (bK (aa (cg (aa aK (aa aK (aa ai (aa ai (aa (pv 1) ao)))))) (aa (cg (aa aK (aa aK (aa ai (aa ai (aa (pv 1) ao)))))) ao))))
(ah (sv 4 nd (aO gr (pv 4) (bK (aa (cg (aa aK (aa aK (aa ai (aa (pv 1) ao))))) (aa (cg (aa aK (aa (pv 3) (aa (aO cS (pv 2) ai) (aa (pv 1) ao))))) ao)))))
(ah (sv 4 nd (aO gr (pv 4) (bK (aa (cg (aa aK (aa aK ao))) (aa (cg (aa aK (aa aK (aa ai (aa (pv 1) ao))))) ao)))))
(av (a6 (aO gr (pv 4) (bK (aa (cg (aa aK (aa (aO cS (pv 3) ai) (aa (pv 2) (aa (pv 1) ao))))) ao)))))))))),?_⟩
  refine⟨_,rfl,sd,_,rfl,hB.gB,_,_,rfl,.inl (bD.of hB.hb),?_⟩;refine⟨_,rfl,sd,_,rfl,hB.gC,_,_,rfl,.inl (bD.of hB.hc),?_⟩;refine⟨_,rfl,(by show 5<=sizeLine; decide),fun q1 n1=>⟨_,rfl,(by show 5<=sizeLine; decide),fun q2 n2=>⟨(by show 2<=sizeLine; decide),fun q3 n3=>?_⟩⟩⟩;refine⟨_,rfl,_,rfl,(by show 4<=sizeLine; decide),fun q4 n4=>⟨_,rfl,_,rfl,_,_,rfl,rfl,_,rfl,(by show 4<=sizeLine; decide),fun q5 n5=>⟨(by show 2<=sizeLine; decide),fun q6 n6=>?_⟩⟩⟩;refine⟨q3,q6,_,_,rfl,rfl,((ay.new n4).trans ((ay.new n5).trans (ay.new n6))) _ _ af,af,(by show 4<=sizeLine; decide),fun q7 n7=>?_⟩;refine⟨_,rfl,(by show 2<=sizeLine; decide),fun q8 n8=>⟨_,rfl,(by show 4<=sizeLine; decide),fun q9 n9=>⟨(by show 2<=sizeLine; decide),fun qa na=>?_⟩⟩⟩;refine⟨q7,qa,_,_,rfl,rfl,((ay.new n8).trans ((ay.new n9).trans (ay.new na))) _ _ af,af,(by show 6<=sizeLine; decide),fun qb nb=>?_⟩;refine⟨_,rfl,_,rfl,_,_,rfl,rfl,_,rfl,_,rfl,(by show 4<=sizeLine; decide),fun qc nc=>⟨(by show 1<=sizeLine; decide),fun qd nq=>?_⟩⟩;refine⟨qb,qd,_,_,rfl,rfl,((ay.new nc).trans (ay.new nq)) _ _ af,af,(by show 7<=sizeLine; decide),fun qe ne=>?_⟩;have se:=ay.new (o:= .lst ([V.ref q1,.ref q2] ++ [.ref q4,.ref q5] ++ [.ref q8,.ref q9] ++ [.ref qc])) ne;have sd:=(ay.new nq).trans se;have sc:=(ay.new nc).trans sd;have sa:=(ay.new na).trans ((ay.new nb).trans sc);have s9:=(ay.new n9).trans sa;have s5:=(ay.new n5).trans ((ay.new n6).trans ((ay.new n7).trans ((ay.new n8).trans s9)));have s4:=(ay.new n4).trans s5;have s2:=(ay.new n2).trans ((ay.new n3).trans s4);refine q qe [.dJ "zed" 0 1 x,.dJ "zed" 0 2 x,.o7 "zed" 0 x,.set _ _ x,.fu "zed",.o7 "zed" 1 x,.set _ _ x] _ _ ((ay.new n1).trans s2) af (bw.mpr ⟨_,_,rfl,mW (s2 _ _ af) nofun,bw.mpr ⟨_,_,rfl,mW (((ay.new n3).trans s4) _ _ af) nofun,bw.mpr ⟨_,_,rfl,mW (s5 _ _ af) nofun,bw.mpr ⟨_,_,rfl,mW (((ay.new n6).trans ((ay.new n7).trans ((ay.new n8).trans s9))) _ _ af) nofun,bw.mpr ⟨_,_,rfl,mW (s9 _ _ af) nofun,bw.mpr ⟨_,_,rfl,mW (sa _ _ af) nofun,bw.mpr ⟨_,_,rfl,mW (sd _ _ af) nofun,cJ.mpr rfl⟩⟩⟩⟩⟩⟩⟩) rfl fun d hd=>?_;have z:(0:Int)<=tF:=by decide +kernel
  have z1:(1:Int)<=tF:=by decide +kernel
  simp only[List.mem_cons,List.not_mem_nil,or_false] at hd;rcases hd with rfl|rfl|rfl|rfl|rfl|rfl|rfl <;> first|exact z|exact z1|exact trivial
def Fj {H:Hp}{p:Addr}{o:HO}(_:H p=none):upd H p o p=some o:=af
inductive Bw (H1 H:Hp)(pa ps sd:Addr)(ds:List bc):Prop
 |mk (ms us:List V)(g:fA)(s:ay H1 H)(ha:H pa=some (.lst ms))(hd:bU H ds ms)(hl:ds.length<=31)(b9: ∀d∈ds,d.ok)(hp:H ps=some (.lst us))(hs:fT H (cM ds eL.new 0).2.steps us)(hb:dh H sd (cM ds eL.new 0).2.bk g)(hf: ∀x∈g.fp,H1 x=none)(na:pa∉g.fp)(np:ps∉g.fp)(G:Good (cM ds eL.new 0).2 ds.length):Bw H1 H pa ps sd ds
def Bw.same {H1 H H':Hp}{pa ps sd:Addr}{ds:List bc}(h:Bw H1 H pa ps sd ds)(s:ay H H'):Bw H1 H' pa ps sd ds:=by
 obtain⟨ms,us,g,a,b,c,d,e,f,i,j,k,l,m,n⟩:=h;exact⟨ms,us,g,a.trans s,s _ _ b,c.mono s.tk,d,e,s _ _ f,i.mono s.tk,j.same s,k,l,m,n⟩
def Bw.new {H1 H H':Hp}{pa ps sd:Addr}{ds:List bc}{ms us:List V}{g:fA}(s:ay H1 H)(s':ay H H')(ha:H pa=some (.lst ms))(hd:bU H ds ms)(hl:ds.length<=31)(b9: ∀d∈ds,d.ok)(hp:H' ps=some (.lst us))(hs:fT H' (cM ds eL.new 0).2.steps us)(hb:dh H' sd (cM ds eL.new 0).2.bk g)(hf: ∀x∈g.fp,H x=none)(np:ps∉g.fp)(G:Good (cM ds eL.new 0).2 ds.length):Bw H1 H' pa ps sd ds:=
 ⟨ms,us,g,s.trans s',s' _ _ ha,hd.mono s'.tk,hl,b9,hp,hs,hb,fun x hx=>s.free (hf x hx),(fun z=>by
  have:=hf _ z;rw[ha] at this;cases this),np,G⟩
def NZ {l:List Int}(h:0 < l.length)(i:Int):0 < (if((l.map V.int).length:Int) - 1 > 1 then((l.map V.int).length:Int) - 1 else 1)/\ ∃m,qY (l.map V.int) (i % (if((l.map V.int).length:Int) - 1 > 1 then((l.map V.int).length:Int) - 1 else 1))=some (.int m):=by
 rw[ae];have key: ∀z:Int,0 < z->z<=l.length->0 < z/\ ∃m,qY (l.map V.int) (i % z)=some (.int m):=fun z h1 h2=>by
  have h3:=iP i (show z≠0 by lia);have h4:=kJ i h1;refine⟨h1,l.getD (i % z).toNat 0,?_⟩;have e:=oa (g:=V.int) (xs:=l) (i:=(i % z).toNat) (by lia);rwa [Int.toNat_of_nonneg h3] at e
 split
 ·exact key _ (by lia) (by lia)
 ·exact key _ (by lia) (by lia)
def bU.append {H:Hp}{ds es:List bc}{ms ns:List V}(h:bU H ds ms)(k:bU H es ns):bU H (ds ++ es) (ms ++ ns):=by
 unfold bU;rw[aL];exact gX.append h k
inductive zG (H:Hp):Option bc->Option V->Prop
 |no:zG H none none
 |yes (d:bc) (pd:Addr) (h:H pd=some (.tup (bc.vs d))) (t:d.tells=true):zG H (some d) (some (.ref pd))
def zG.mono {H H':Hp}{o:Option bc}{v:Option V}(h:zG H o v)(k:cw H H'):zG H' o v:=by
 cases h with
 |no=>exact .no
 |yes d pd h t=>exact .yes d pd (k _ _ h) t
inductive Told (R:eL)(pt:Addr)(H0 H:Hp)(pm:Addr)(dm dt:List bc):Prop
 |mk (mw us:List V)(f:Frame [pt] H0 H)(n:pm≠pt)(hm:H pm=some (.lst mw))(hd:bU H dm mw)(ht:H pt=some (.lst us))(ha:Paired (ju H (fun b=>b≠pt)) (dt.map fun d=>(cz R 0 d).1) us):Told R pt H0 H pm dm dt
def ju.kept {H H':Hp}{ok:Addr->Prop}{as:List uZ}{us:List V}(h:Paired (ju H ok) as us)(s: ∀b xs,ok b->H b=some (.lst xs)->H' b=some (.lst xs))(k:cw H H'):Paired (ju H' ok) as us:=Paired.iu h fun _ _ q=>q.keep (fun b xs o e=>⟨o,s b xs o e⟩) k
def Told.add {R:eL}{pt pm D:Addr}{H0 H H':Hp}{dm dt:List bc}{us ms:List V}{o:Bool}{aJ:Str}{day:Int}(h:Told R pt H0 H pm dm dt)(ht:H pt=some (.lst us))(s:ay H H')(nD:H D=none)(hD:H' D=some (.lst ms))(hP:iT H' (R.bk.hZ o aJ day) ms):Told R pt H0 (upd H' pt (.lst (us ++ [.ref D]))) pm dm (dt ++ [.ask o aJ day]):=by
 obtain⟨mw,zp,f,n,hm,hd,ht',ha⟩:=h;rw[ht] at ht';cases ht';have tk:=eZ (o:= .lst (us ++ [.ref D])) (s _ _ ht);have nb:D≠pt:=(aI ht nD).symm;refine⟨mw,_,(f.cA s).tr (Frame.upd (by simp)),n,by rw[aB n]; exact s _ _ hm,bU.mono hd (s.tk.trans tk),af,?_⟩;rw[aL];exact cG (ju.kept ha (fun b xs ok e=>by rw[aB ok]; exact s _ _ e) (s.tk.trans tk)) ⟨D,ms,rfl,nb,by rw[aB nb]; exact hD,hP.mono tk⟩
def Told.on {R:eL}{pt pm:Addr}{H0 H1 H:Hp}{dm dt:List bc}(h:Told R pt H1 H pm dm dt)(f:Frame [pt] H0 H1):Told R pt H0 H pm dm dt:=by
 obtain⟨mw,us,f',n,hm,hd,ht,ha⟩:=h;exact⟨mw,us,f.tr f',n,hm,hd,ht,ha⟩
def Told.same {R:eL}{pt pm:Addr}{H0 H H':Hp}{dm dt:List bc}(h:Told R pt H0 H pm dm dt)(s:ay H H'):Told R pt H' H' pm dm dt:=by
 obtain⟨mw,us,f,n,hm,hd,ht,ha⟩:=h;exact⟨mw,us,Frame.refl,n,s _ _ hm,bU.mono hd s.tk,s _ _ ht,ju.kept ha (fun _ _ _ e=>s _ _ e) s.tk⟩
def Told.fr {R:eL}{pt pm:Addr}{H0 H:Hp}{dm dt:List bc}(h:Told R pt H0 H pm dm dt):Frame [pt] H0 H:=by
 obtain⟨_,_,f,_⟩:=h;exact f
def IX {R:eL}{n:Nat}(wf:WF R.bk n)(hn:n<=60){pr:List (Str×Int)}(hp:pr.length<=12):Dt.fq (((iJ pr).map fun d=>(cz R 0 d).1).map uZ.dt)<=5000/\Dt.mr (((iJ pr).map fun d=>(cz R 0 d).1).map uZ.dt)=true:=by
 rw[eE];have key: ∀d∈iJ pr,(uZ.dt (cz R 0 d).1).size<=200/\(uZ.dt (cz R 0 d).1).plain=true:=fun d hd=>by
  obtain⟨y,_,hy⟩:=Jo.mp hd;have one: ∀o,(uZ.pairs (R.bk.hZ o y.1 y.2)).dt.size<=200/\(uZ.pairs (R.bk.hZ o y.1 y.2)).dt.plain=true:=fun o=>by
   have h1:=oU (fun t:Nat×Int=>Dt.tup [.int t.1,.int t.2]) 3 (R.bk.hZ o y.1 y.2) (fun x _=>aD _);have h2:(R.bk.hZ o y.1 y.2).length<=(R.bk.rows o).length:=Iv;have h3:(R.bk.rows o).length<=60:=by
    have:=wf.lb;have:=wf.lc;cases o
    ·show R.bk.credits.length<=60; lia
    ·show R.bk.aG.length<=60; lia
   refine⟨?_,qG _ _ fun x _=>rfl⟩;show 1 + Dt.fq ((R.bk.hZ o y.1 y.2).map fun t=>Dt.tup [.int t.1,.int t.2])<=200;lia
  simp only[List.mem_cons,List.not_mem_nil,or_false] at hy;rcases hy with rfl|rfl
  ·exact one true
  ·exact one false
 have h1:=oU (uZ.dt ∘ fun d=>(cz R 0 d).1) 200 (iJ pr) fun d hd=>(key d hd).1;rw[kz] at h1;exact⟨by lia,qG _ _ fun d hd=>(key d hd).2⟩
def IZ {ms:List (Nat×Nat×Int)}(h:ms.length<=60):(Dt.lst (ms.map fun t=> .tup [.int t.1,.int t.2.1,.int t.2.2])).size<=100000/\(Dt.lst (ms.map fun t=> .tup [.int t.1,.int t.2.1,.int t.2.2])).plain=true:=by
 have h1:=oU (fun t:Nat×Nat×Int=>Dt.tup [.int t.1,.int t.2.1,.int t.2.2]) 4 ms (fun x _=>aD _);refine⟨?_,qG _ ms fun x _=>rfl⟩;show 1 + Dt.fq (ms.map fun t=>Dt.tup [.int t.1,.int t.2.1,.int t.2.2])<=100000;lia
def KT (H H':Hp):Prop:= ∀a o,H a=some o->(∀ps,o≠ .nA ps)->H' a=some o
def ay.kt {H H':Hp}(s:ay H H'):KT H H':=fun _ _ e _=>s _ _ e
def KT.trans {H1 H2 H3:Hp}(h:KT H1 H2)(k:KT H2 H3):KT H1 H3:=fun a o e n=>k _ _ (h _ _ e n) n
def KT.l {H H':Hp}(h:KT H H'){a:Addr}{xs:List V}(e:H a=some (.lst xs)):H' a=some (.lst xs):=h _ _ e nofun
def KT.tk {H H':Hp}(h:KT H H'):cw H H':=fun _ _ e=>h _ _ e nofun
def LJ {H H':Hp}{tB tC:Addr}(F:Frame [tB,tC] H H')(hB:kG H tB)(hC:lh H tC):KT H H':=fun a o e n=>zy F (fun t z=>by
 simp only[List.mem_cons,List.not_mem_nil,or_false] at z;rcases z with rfl|rfl
 ·exact cY hB
 ·exact cY hC) e n
def LK:aV ["_law_script","_law_cells","_law_asked","_law_steps","_law_state","_law_spots","_law_number","_law_due","_law_rest","_law_later","_law_kept","_law_step","_law_never","_law_longer","_law_more","_law_told","_law_who","_law_day","_law_spot","_law_found","_law_rows","_law_other"] ["_law_script"] (aA (top 68)):={}
def Ru {cps:List (Addr×Addr)}{f:Addr}{fd:FuncData}(F:gu K "law" "law" (top 68) f fd)(T:Txt K mg){A:dU}{tB tC:Addr}(G:jA K mg A)(DB:pM K mg "bills_in_order" (top 17) tB)(DC:pM K mg "credits_in_order" (top 18) tC)(i9:tB≠tC)(hnd:A.iH≠A.tooMuch)(KB:K.In base)(BM:BMain mg base)(Yj: ∃c,(c,tB)∈cps)(hcC: ∃c,(c,tC)∈cps):mf P w K mg base sU 13 f fd ["_law_script"] (LD K cps):=by
 have zH:eO P w K mg base "answers" 12 ["deeds"] (tQ A tB tC):=IQ T G DB DC i9 hnd KB BM;have Fl:eO P w K mg base "settings" 12 ["deeds"] (qH A tB tC):=Fg T G DB DC i9 hnd KB BM;have DH:=DD (P:=P) (w:=w) (base:=base) T;have Bx:=Bt (P:=P) (w:=w) (base:=base) T;have mK:=Bn (P:=P) (w:=w) (base:=base) T;have oW:=IV (P:=P) (w:=w) (base:=base) T;have lB:=pH (P:=P) (w:=w) (base:=base) T;have yH:=yo (P:=P) (w:=w) (base:=base) T;have jE:=pB (P:=P) (w:=w) (base:=base) T;have oH:=uw (P:=P) (w:=w) (base:=base) T;have xp:=xn (P:=P) (w:=w) (base:=base) T;refine F.ok (k:=12) LK (fun vs H Q E h=>?_) (fun cV A' outer s H vs Q E hr h=>?_)
 ·obtain⟨a,ns,rfl,_⟩:=h;rfl
 ·obtain⟨a,ns,rfl,hS,hz,hO,k⟩:=h;have jv:kG H tB:=let⟨c,hc⟩:=Yj; LC (hO _ hc)
  have jl:lh H tC:=let⟨c,hc⟩:=hcC; LC (hO _ hc)
  have nd:=LK.nd;have hu:=jy hr;refine⟨_,(ah (sv 1 nd (jf RZ (pv 0) (jG ai) (jG (aO cS ai (fc DH hr (aa (pv 0) (aa ai (aa ai ao))))))))
(ah (sv 2 nd (fc Bx hr (aa (pv 1) ao)))
(ah (jU (jf LI (fc jE hr (aa (pv 2) ao)) (jG ai) mi) (gT (bR (gn 3 nd) (bR (gn 4 nd) fP))))
(ah (sv 5 nd (aO gr (gR (tn:=["_law_step"]) (cn:=[]) (cj:=[]) rfl zW (rD (pv 3)) (fun _ _ _ _=>(eo (i:=0) (show(["_law_step"]:List Str).Nodup by decide +kernel) rfl (Or.inl rfl))) (fun _ _ _ _=>(nL (aY (Rt (K:=K) rfl) (ix (jH (K:=K) rfl) (ix (jH (K:=K) rfl) (pv 0) ai (fun _ _=>rfl)) ai (fun _ _=>rfl)) (bK (aa aK (aa aK ao))) (by rfl)))) (fun _ _ _ _=>(ix (jH (K:=K) rfl) (pv 0) ai (fun _ _=>rfl)))) (bK (aa ai ao))))
(ah (sv 6 nd (xl (pv 5) (aO bZ (aO iw (fc oW hr (aa (pv 0) (aa ai ao))) ai) (fk (sQ rfl) (by rfl) T.Kw boot_max (aa ai (aa (aO eQ (lz T.dk (pv 5)) ai) ao))))))
(iz (bP (aY cU (aO bZ (fc oW hr (aa (pv 0) (aa ai ao))) ai) ai (a8 _))
(ah (sv 6 nd (aO cS (lz T.dk (pv 2)) ai))
(ah (sv 2 nd (aO gr (pv 2) (fc xp hr (aa (pv 4) (aa (aO cS ai (aO bZ (aO iw (fc oW hr (aa (pv 0) (aa ai ao))) ai) ai)) ao)))))
(av (jU (jf LI (fc jE hr (aa (pv 2) ao)) (jG ai) mi) (gT (bR (gn 3 nd) (bR (gn 4 nd) fP)))))))
bh)
(ah (jU (fc oH hr (aa (pv 3) (aa (pv 4) (aa (lz T.dk (pv 2)) (aa (cg (aa aK (aa (pv 6) ao))) ao))))) (gT (bR (gn 7 nd) (bR (gn 8 nd) (bR (gn 9 nd) fP)))))
(ah (sv 10 nd vF)
(ah (dX bC rfl (rD (pv 8)) (gn 11 nd)
(av (zU hu (pv 10) (xt (pv 11) ai) (xt (pv 11) ai) rfl)))
(ah (jX (i:=12) nd rfl (Or.inl rfl) (tn:=["_law_k"]) (cn:=["_law_kept"]) (cj:=[10]) rfl (iy (zX:=[(".0",.local),("_law_k",.local),("_law_kept",.cell)])) (hJ rfl T.kX (aa (lz T.dk (pv 2)) ao)) (fun _ _ _ _=>(eo (i:=0) (show(["_law_k","_law_kept"]:List Str).Nodup by decide +kernel) rfl (Or.inl rfl))) (fun _ _ _ _=>mm) (fun _ _ _ _=>(JR hu (pv 1) (pv 0) (cg (aa aK (aa aK (aa ai ao)))) ⟨rfl,rfl,rfl,rfl⟩)))
(ah (sv 13 nd (aO gr (pv 2) (bK (aa (cg (aa aK (aa (pv 6) ao))) ao))))
(ah (sv 14 nd (bK ao))
(ah (sv 15 nd (bK ao))
(ah (dX bC rfl (rD (fc lB hr (aa (pv 1) ao))) (gn 16 nd)
(av (dX bC rfl (rD (bK (aa (aO eQ (aO bZ (fc oW hr (aa (pv 0) (aa ai ao))) ai) ai) (aa (aO iY ai ai) ao)))) (gn 17 nd)
(ah (sv 14 nd (aO gr (pv 14) (bK (aa (cg (aa aK (aa (pv 16) (aa (pv 17) ao)))) (aa (cg (aa aK (aa (pv 16) (aa (pv 17) ao)))) ao)))))
(av (dX bC rfl (rD (bK (aa ai (aa ai ao)))) (gn 18 nd)
(av (bM (qv (pv 15) (fc yH hr (aa (pv 9) (aa (pv 16) (aa (pv 17) (aa (pv 18) ao))))))))))))))
(ah (sv 19 nd (fc zH hr (aa (aO gr (pv 13) (pv 14)) ao)))
(ah (bP (PW.pt (pw_or (jT (gf (uO T.c8 T.nS Fn (pv 19)))) (pw_or1 (aY qU (lz T.dk (pv 19)) (aO cS (lz T.dk (pv 13)) (lz T.dk (pv 14))) (a8 _)))))
(av (a6 mP))
bh)
(ah (bP (jT (gf (fc mK hr (aa (jf RZ (pv 19) (jG (lz T.dk (pv 2))) mi) (aa (aO gr (bK (aa (pv 7) ao)) (pv 15)) ao)))))
(av (a6 mP))
bh)
(ah (dX bC rfl (rD (bK (aa (pv 13) (aa (pv 12) ao)))) (gn 20 nd)
(av (bP (jT (gf (fc mK hr (aa (fc Fl hr (aa (fZ mj (by rfl) T.nS Fn (aa (pv 20) ao)) ao)) (aa (cF hu (pv 9) aK (fun _ _=>rfl)) ao)))))
(av (a6 mP))
bh)))
(ah (sv 21 nd (fc zH hr (aa (aO gr (pv 12) (pv 14)) ao)))
(av (a6 (qg (uO T.c8 T.nS Fn (pv 21)) (nE (fc mK hr (aa (jf RZ (pv 21) (jG (lz T.dk (pv 2))) mi) (aa (pv 15) ao)))))))))))))))))))))))))),?_⟩
  refine⟨_,rfl,_,rfl,_,rfl,a,_,24,140,rfl,hS,(by rw[ae]; exact hz),_,_,rfl,rfl,_,rfl,a,_,rfl,hS,fun pc nc=>?_⟩;obtain⟨cs,ecs⟩:=NV ns (some 2) (some (2 + 24));have rC:cs.length<=24:=by
   have h:=NU (ns.map V.int) 2 26 (by decide);have e:qj (ns.map V.int) (some ((2:Nat):Int)) (some ((26:Nat):Int))=cs.map V.int:=ecs;rw[e,ae] at h;exact h
  rw[ecs];have s1:=ay.new (o:= .lst (cs.map V.int)) nc;have WR:upd H pc (.lst (cs.map V.int)) pc=some (.lst (cs.map V.int)):=af;generalize upd H pc (.lst (cs.map V.int))=H1 at s1 WR;refine⟨_,rfl,pc,cs,rfl,bD.of WR,(by lia),fun pa ds ms H2 s2 Ji IP GG b9=>?_⟩;refine⟨_,rfl,pa,ds,ms,rfl,Ji,IP,(by lia),b9,fun t v ps sd us g H3 s3 ht kQ L6 Ro LG BF hG=>⟨_,rfl,t,v,_,rfl,cy.of ht,rfl,rfl,fun t2 n2=>⟨t2,_,rfl,cy.of af,rfl,_,_,rfl,_,_,rfl,rfl,?_⟩⟩⟩;have hg:=(Bw.new s2 s3 Ji IP (by lia) b9 kQ L6 Ro LG BF hG).same (ay.new (o:= .tup [V.ref ps,.ref sd]) n2);generalize upd H3 t2 (.tup [V.ref ps,.ref sd])=H4 at hg;clear s2 s3 ht kQ L6 Ro LG BF hG Ji IP b9 n2 us g;have hg':=hg;obtain⟨ms,us,g,s4,ZY,Zs,ZA,ZZ,OI,R5,yA,hf4,na4,np4,U4⟩:=hg;have N0:=aM R5;have K7:=U4.len;refine⟨_,rfl,ps,rfl,⟨_,bD.of OI⟩,?_⟩;refine eu (K:=K) (a:=ps) (xs:=us) (fun D i σ H'=>H4 D=none/\ ∃(v:Option V) (xs:List Int),σ=[v]/\ay H4 H'/\H' D=some (.lst (xs.map V.int))/\xs.length<=i) (fun D hD=>⟨hD,none,[],rfl,ay.new hD,af,aD _⟩) (fun D i σ H' _ ⟨_,_,_,_,t3,_⟩=>bD.of (t3 _ _ OI)) ?_ ?_
  ·rintro D i x σ H' hx ⟨hD,v,xs,rfl,t3,K3,Je⟩;have hi:=(ak.mp hx).1;obtain⟨v',hv,p,pd,rfl,h1,h2,ht⟩:=bL R5 (ag (show i < _ by lia));rw[hx] at hv;obtain rfl:x= .ref p:=aF hv;generalize (cM ds eL.new 0).2.steps[i]=st at h1 h2 ht;obtain⟨r,Ub⟩:=rW (.inl ht);rw[Ub] at h2;refine⟨_,rfl,p,_,_,.ref pd,rfl,rfl,cy.of (t3 _ _ h1),rfl,pd,_,_,.str (bc.word st.2),rfl,rfl,cy.of (t3 _ _ h2),Gx _ _,(by show 2<=sizeLine; decide),fun q nq=>⟨q,_,rfl,.inl (bD.of af),rfl,rfl,_,rfl,cE (fun _=>?_) (fun _=>?_)⟩⟩
   ·have u:=t3.trans (ay.new (o:= .lst [V.str "set",.str "sweep"]) nq);have uT:upd H' q (.lst [V.str "set",.str "sweep"]) D=_:=ay.new nq _ _ K3;refine⟨_,rfl,p,_,_,.int st.1,rfl,rfl,cy.of (u _ _ h1),rfl,_,uT,a9 (by rw[ae]; lia),hD,_,xs ++ [st.1],rfl,u.cW hD,?_,?_⟩
    ·rw[af,aL];rfl
    ·rw[ax];exact Nat.succ_le_succ Je
   ·exact⟨hD,_,xs,rfl,t3.trans (ay.new nq),ay.new nq _ _ K3,lI Je⟩
  rintro D σ H5 nD ⟨_,v5,xs,rfl,t5,Wk,Je⟩;refine⟨(by show 1<=sizeLine; decide),fun q1 n1=>⟨D,q1,_,_,rfl,rfl,ay.new n1 _ _ Wk,af,?_,fun p5 n5=>?_⟩⟩
  ·rw[ae];exact cq (a9 (show xs.length + 1<=1000 by lia))
  have u5:=t5.trans ((ay.new (o:= .lst [V.int 0]) n1).trans (ay.new (o:= .lst (xs.map V.int ++ [V.int 0])) n5));have Lu:upd (upd H5 q1 (.lst [V.int 0])) p5 (.lst (xs.map V.int ++ [V.int 0])) p5=some (.lst ((xs ++ [0]).map V.int)):=by rw[af,aL]; rfl
  generalize upd (upd H5 q1 (.lst [V.int 0])) p5 (.lst (xs.map V.int ++ [V.int 0]))=H6 at u5 Lu;have Z0:=hg'.same u5;have s6:=s4.trans u5;have WS:=(s1.trans s6).seq hS;clear hg' R5 yA OI Zs ZY ZZ na4 np4 hf4 U4 Wk u5 t5 n1 n5 nD s4 Je;refine⟨_,rfl,_,rfl,a,ns,0,rfl,WS,fun i0=>?_⟩;obtain⟨hmx,nm,Oe⟩:=NZ (l:=xs ++ [0]) (by rw[ax]; exact Nat.succ_pos _) (i0 / 3);refine⟨_,_,rfl,rfl,⟨by decide,by decide⟩,_,rfl,p5,_,rfl,.inl (bD.of Lu),_,_,rfl,rfl,_,_,rfl,_,_,rfl,rfl,hmx,p5,_,_,_,rfl,rfl,bD.of Lu,Oe,?_⟩;clear hmx Oe Lu N0 K7;refine⟨fun σ' H'=> ∃(pa ps sd:Addr) (nm:Int) (ds:List bc),σ'=[some (.ref a),some (.ref pc),some (.ref pa),some (.ref ps),some (.ref sd),some (.ref p5),some (.int nm),none,none,none,none,none,none,none,none,none,none,none,none,none,none,none]/\Bw H1 H' pa ps sd ds,?_,?_⟩
  ·refine⟨_,rfl,a,ns,0,rfl,WS,fun i1=>⟨_,_,rfl,rfl,(by show(0:Int) < 3; decide),rfl,_,rfl,cE (fun _=>?_) (fun _=>⟨_,_,_,_,_,rfl,Z0⟩)⟩⟩;obtain⟨ms,us,g,_,ha,hd,_,b9,_,_,hb,_⟩:=Z0;refine⟨_,rfl,pa,_,rfl,.inl (bD.of ha),_,_,rfl,rfl,?_⟩;refine⟨_,rfl,_,rfl,_,rfl,a,ns,0,rfl,WS,fun i2=>⟨_,_,rfl,rfl,⟨by decide,by decide⟩,_,_,rfl,rfl,(by show(0:Int) < 9; decide),_,_,rfl,rfl,sd,_,g,_,rfl,hb,fun pn dn mn H7 s7 EM hDn Tw Z1=>⟨pa,pn,ms,mn,rfl,rfl,s7 _ _ ha,EM,?_,fun pa2 n2=>?_⟩⟩⟩
   ·have:=bU.length hd;have:=bU.length hDn;exact cq (a9 (by lia))
   have s8:=s7.trans (ay.new (o:= .lst (ms ++ mn)) n2);have hda:=bU.mono (bU.append (hd.mono s7.tk) hDn) (ay.new (o:= .lst (ms ++ mn)) n2).tk;have hla:(ds ++ dn).length<=31:=by rw[ax]; lia
   have VB: ∀d∈ds ++ dn,d.ok:=fun d h=>(bg.mp h).elim (b9 d) (Z1 d);refine⟨_,rfl,pa2,ds ++ dn,_,rfl,af,hda,aR hla (by decide),VB,fun t v ps sd us g H3 s3 ht kQ L6 Ro LG BF hG=>⟨_,rfl,t,v,_,rfl,cy.of ht,rfl,rfl,fun t2 n2=>⟨t2,_,rfl,cy.of af,rfl,_,_,rfl,_,_,rfl,rfl,_,_,_,_,_,rfl,(Bw.new (s6.trans s8) s3 af hda hla VB kQ L6 Ro LG BF hG).same (ay.new n2)⟩⟩⟩
  rintro σ H7 ⟨pa,ps,sd,nm,ds,rfl,ms,us,g,s7,ha,hd,hl,b9,hp,hs,hb,hf,na,np,hG⟩;clear Z0 s6 WS;have BC:=bU.length hd;obtain⟨Sl,sx,Z2⟩:=hG.fC nm (ms.length:Nat);have Z3: ∀st∈(cz (cM ds eL.new 0).2 (ms.length:Nat) (.fC nm)).2.steps,st.2.ok:=fun st h=>by
   rcases DG h with h|h
   ·rcases GI h with h|h
    ·cases h
    ·exact b9 _ h
   ·rw[h];trivial
  have N1:(cM (ds ++ [.fC nm]) eL.new 0).1=(cM ds eL.new 0).1 ++ [.txt sx]/\(cM (ds ++ [.fC nm]) eL.new 0).2=(cz (cM ds eL.new 0).2 (ms.length:Nat) (.fC nm)).2:=by
   rw[oK,← Z2];exact⟨rfl,rfl⟩
  refine⟨_,rfl,_,rfl,_,rfl,pa,_,rfl,.inl (bD.of ha),_,rfl,(by show 2<=sizeLine; decide),fun pu nu=>?_⟩;have u7:=ay.new (o:= .tup [V.str "undo",.int nm]) nu;refine⟨ps,sd,pu,ms.length,_,us,g,.fC nm,rfl,u7 _ _ hp,hs.mono u7.tk,hb.same u7,np,af,.inr ⟨_,rfl⟩,BC▸hG,(by lia),fun t v qz ve f' zp H8 ht hv Nw WT Z4 fr fi np8 nq=>⟨t,_,rfl,cy.of ht,rfl,_,_,rfl,_,_,rfl,_,_,rfl,rfl,?_⟩⟩;rw[Z2] at hv;obtain rfl:v= .str sx:=gg.mp hv;have s8:ay H1 H8:=fr.same (s7.trans u7) hf;have ha8:=fr _ _ na (u7 _ _ ha);have hd8:=bU.mono hd (u7.tk.trans ((hb.same u7).tk fr));generalize hR:(cz (cM ds eL.new 0).2 (ms.length:Nat) (.fC nm)).2=R at Sl Z3 N1 WT Z4;clear hs hb hf na np hG hp ha hd fr fi np8 nq u7 s7 ht hv Z2 nu hR;have Li:kG H8 tB:=bp jv (s1.trans s8);have Lj:lh H8 tC:=bp jl (s1.trans s8);have VC:=(s1.trans s8).seq hS;have VD:=s8 _ _ WR;clear jv jl hS WR s8;have N0:=aM WT;have K7:=Sl.len;refine fun pk Rh=>?_;have t8:=ay.new (o:= .dK []) Rh;refine⟨_,rfl,qz,rfl,⟨_,bD.of (t8 _ _ Nw)⟩,?_⟩;refine eP (K:=K) (a:=qz) (xs:=zp) (fun i σ H'=> ∃(yy:Option V) (bf:List (Key×V)),σ=[some (.ref a),some (.ref pc),some (.ref pa),some (.ref ps),some (.ref sd),some (.ref p5),some (.int nm),some (.str sx),some (.ref qz),some (.ref ve),some (.ref pk),yy,none,none,none,none,none,none,none,none,none,none]/\ay H8 H'/\H' pk=some (.dK bf)/\bf.length<=i/\ ∀k:Int,zG H' (mV k none (R.steps.take i)) (fQ bf (.inl k)))
   ⟨_,[],rfl,t8,af,aD _,fun k=> .no⟩ (fun i σ H' _ ⟨_,_,_,t3,_⟩=>bD.of (t3 _ _ Nw)) ?_ ?_
  ·rintro i x σ H' hx ⟨yy,bf,rfl,t3,Sm,DO,hK⟩;have hi:i < zp.length:=(ak.mp hx).1;have uM:i < R.steps.length:=by lia
   obtain⟨v',hv,p,pd,rfl,h1,h2,ht⟩:=bL WT (ag uM);rw[hx] at hv;obtain rfl:x= .ref p:=aF hv;have ni:=kP uM;generalize R.steps[i]=st at h1 h2 ht ni;have tk:cw H' (upd H' pk (.dK (putK bf (.inl st.1) (.ref pd)))):=fun b xs e=>by
    rw[aB (fun z=>by rw[z,Sm] at e; cases e)];exact e
   refine⟨_,rfl,p,_,_,.ref pd,rfl,rfl,cy.of (t3 _ _ h1),rfl,_,rfl,_,rfl,p,_,_,.int st.1,rfl,rfl,cy.of (t3 _ _ h1),rfl,pk,_,rfl,Ei.k (k:= .inl st.1) Sm (a9 (by lia)),?_⟩;refine⟨_,_,rfl,t3.cW Rh,af,aR (jg _ _ _) (Nat.succ_le_succ DO),fun k=>?_⟩;rw[ni,IW,Ca];by_cases c:st.1=k
   ·rw[a0 c,a0 (by rw[c])];exact .yes _ _ (tk _ _ (t3 _ _ h2)) ht
   ·rw[aQ c,aQ (fun z=>c (by injection z with z; exact z.symm))];exact(hK k).mono tk
  rintro σ H9 ⟨yy,bf,rfl,s9,Sm,_,hK⟩;rw[← N0,bb] at hK;have N2:=s9 _ _ ha8;have zo:=bU.mono hd8 s9.tk;have VE:kG H9 tB:=bp Li s9;have VF:lh H9 tC:=bp Lj s9;have hB9:=Z4.same s9;have VG:=s9.seq VC;have VH:=s9 _ _ VD;clear ha8 hd8 Li Lj Z4 VC VD s9 WT Nw t8 Rh N0 K7;refine⟨_,rfl,pa,_,rfl,.inl (bD.of N2),(ms.length:Int),rfl,by lia,by lia,?_⟩;rw[dB];refine vK (lo:=0) (n:=ms.length) (fun D i σ H'=>H9 D=none/\ ∃(v:Option V) (us:List V),σ=[v,some (.ref pk)]/\ay H9 H'/\H' D=some (.lst us)/\bU H' ((List.range i).map (i8 R.steps)) us) (fun D hD=>⟨hD,none,[],rfl,ay.new hD,af,cJ.mpr rfl⟩) ?_ ?_
  ·rintro D i σ H' hi ⟨hD,v,us,rfl,t3,Ut,hU⟩;rw[iQ];have N0:=bU.length hU;rw[ae,bT] at N0;refine⟨_,rfl,pk,rfl,.inl ⟨_,.inl (t3 _ _ Sm)⟩,_,rfl,(by show 3<=sizeLine; decide),fun q nq=>?_⟩;have u:=ay.new (o:= .tup [V.str "owed",.str "",.int 0]) nq;have tu:=t3.trans u;have hq:upd H' q (.tup [V.str "owed",.str "",.int 0]) q=some (.tup (bc.vs (.ask true "" 0))):=af;have Z5:=u _ _ Ut;have hU4:=bU.mono hU u.tk;generalize upd H' q (.tup [V.str "owed",.str "",.int 0])=H4 at tu hq Z5 hU4;refine⟨_,lu.k (k:= .inl (i:Int)) (tu _ _ Sm),us,Z5,a9 (by lia),hD,_,us ++ [(fQ bf (.inl (i:Int))).getD (.ref q)],rfl,tu.cW hD,af,?_⟩;rw[kK,aL];refine bU.mono (bU.snoc hU4 (d:=i8 R.steps i) ?_) (eZ Z5);unfold i8;have hk:=hK i;generalize mV i none R.steps=o at hk;generalize fQ bf (.inl (i:Int))=vo at hk;cases hk with
   |no=>exact mW hq nofun
   |yes d pd h t=>exact mW (d:=d) (tu _ _ h) fun w y l z=>by rw[z] at t; cases t
  rintro pv σ HA npv ⟨_,v9,mn,rfl,tA,Sn,hN⟩;have Qx:=bU.length hN;rw[ae,bT] at Qx;rw[← BC] at hN;refine⟨_,rfl,_,rfl,(by show 2<=sizeLine; decide),fun q1 n1=>⟨(by show 1<=sizeLine; decide),fun q2 n2=>?_⟩⟩;refine⟨pa,q2,ms,_,rfl,rfl,((ay.new n1).trans (ay.new n2)) _ _ (tA _ _ N2),af,cq (a9 (show ms.length + 1<=1000 by lia)),fun pl WB=>?_⟩;have v3:=ay.new (o:= .lst (ms ++ [V.ref q1])) WB;have v2:=(ay.new n2).trans v3;have v1:=(ay.new n1).trans v2;have DQ:=tA.trans v1;have gQ:=Fj (o:= .lst (ms ++ [V.ref q1])) WB;have Z6:=bU.snoc (bU.mono zo DQ.tk) (d:= .fC nm) (mW (v2 _ _ af) nofun);have LL:=v1 _ _ Sn;have Rv:=bU.mono hN v1.tk;generalize upd (upd (upd HA q1 (.tup [V.str "undo",.int nm])) q2 (.lst [V.ref q1])) pl (.lst (ms ++ [V.ref q1]))=YO at DQ gQ Z6 LL Rv;clear v1 v2 v3 Sn hN n1 n2 WB;refine⟨bu _,fun VI Ox=>⟨bu _,fun pt OF=>?_⟩⟩;have OO:=DQ.trans (ay.new (o:= .lst []) Ox);have N3:upd YO VI (.lst []) VI=some (.lst []):=af;have LM:=ay.new (o:= .lst []) Ox _ _ gQ;have LN:=bU.mono Z6 (ay.new (o:= .lst []) Ox).tk;have LO:=ay.new (o:= .lst []) Ox _ _ LL;have Rx:=bU.mono Rv (ay.new (o:= .lst []) Ox).tk;generalize upd YO VI (.lst [])=OM at OO N3 OF LM LN LO Rx;have w2:=ay.new (o:= .lst []) OF;have xr:upd OM pt (.lst []) pt=some (.lst []):=af;refine⟨_,rfl,pc,cs,rfl,bD.of (w2 _ _ (OO _ _ VH)),fun pn names HB sB EM hnn Qx=>⟨pn,rfl,⟨_,bD.of EM⟩,?_⟩⟩;have wB:=w2.trans sB;have WU: ∀{H':Hp},Frame [pt] HB H'->ay OM H':=fun f b o e=>f _ _ (by simpa using aI e OF) (wB _ _ e);have hT0:Told R pt HB HB VI (iJ []) (iJ []):=⟨[],[],Frame.refl,aI N3 OF,wB _ _ N3,cJ.mpr rfl,sB _ _ xr,.nil⟩;have OG:pn≠pt:=fun z=>by
   rw[z,sB _ _ xr] at EM;cases names with
   |nil=>exact hnn rfl
   |cons x l=>cases EM
  have Ry:=hB9.same OO;have OP:=OO.seq VG;have wf:=Sl.wf (by lia:ds.length<=60);clear N3 xr w2 sB;refine eP (K:=K) (a:=pn) (xs:=names.map V.str) (fun i σ H'=> ∃(DV So OQ:Option V) (pm:Addr) (pr:List (Str×Int)),σ=[some (.ref a),some (.ref pc),some (.ref pa),some (.ref ps),some (.ref sd),some (.ref p5),some (.int nm),some (.str sx),some (.ref qz),some (.ref ve),some (.ref pk),yy,some (.ref pv),some (.ref pl),some (.ref pm),some (.ref pt),DV,So,OQ,none,none,none]/\Told R pt HB H' pm (iJ pr) (iJ pr)/\pr.length=2 * i)
   ⟨_,_,_,VI,[],rfl,hT0,rfl⟩ (fun i σ H' _ ⟨_,_,_,_,_,_,t,_⟩=>bD.of (t.fr _ _ (by simpa using OG) EM)) ?_ ?_
  ·rintro i x σ H' hx ⟨DV,So,OQ,pm,pr,rfl,hT,Gn⟩;rw[aE] at hx;obtain⟨aJ,hw,rfl⟩:=bq.mp hx;have hi:i < names.length:=(ak.mp hw).1;have f1:=hT.fr;refine⟨_,rfl,a,ns,1,rfl,(WU f1).seq OP,fun i1=>⟨_,_,rfl,rfl,(by show(0:Int) < 22; decide),_,_,rfl,rfl,_,_,rfl,rfl,⟨by decide,by decide,by decide⟩,(by show 2<=sizeLine; decide),fun pd Z7=>⟨pd,rfl,⟨_,bD.of af⟩,?_⟩⟩⟩;have hTd:=hT.same (ay.new (o:= .lst ([i1 % 22 - 5,10 ^ (12:Int).toNat].map V.int)) Z7);have fd:=f1.cA (ay.new (o:= .lst ([i1 % 22 - 5,10 ^ (12:Int).toNat].map V.int)) Z7);have ndt:pd≠pt:=by
    obtain⟨_,_,_,_,_,_,ht,_⟩:=hT;exact(aI ht Z7).symm
   have Gk:upd H' pd (.lst ([i1 % 22 - 5,10 ^ (12:Int).toNat].map V.int)) pd=some (.lst ([i1 % 22 - 5,10 ^ (12:Int).toNat].map V.int)):=af;refine eP (K:=K) (a:=pd) (xs:=[i1 % 22 - 5,10 ^ (12:Int).toNat].map V.int) (fun j σ Cg=> ∃(So OQ:Option V) (pm:Addr) (I9:List (Str×Int)),σ=[some (.ref a),some (.ref pc),some (.ref pa),some (.ref ps),some (.ref sd),some (.ref p5),some (.int nm),some (.str sx),some (.ref qz),some (.ref ve),some (.ref pk),yy,some (.ref pv),some (.ref pl),some (.ref pm),some (.ref pt),some (.str aJ),So,OQ,none,none,none]/\Told R pt (upd H' pd _) Cg pm (iJ I9) (iJ I9)/\I9.length=2 * i + j)
    ⟨_,_,pm,pr,rfl,hTd,Gn⟩ (fun j σ Cg _ ⟨_,_,_,_,_,t,_⟩=>bD.of (t.fr _ _ (by simpa using ndt) Gk)) ?_ ?_
   ·rintro j x σ Cg hx ⟨Z8,Z9,pm',I9,rfl,BA,La⟩;rw[aE] at hx;obtain⟨day,TV,rfl⟩:=bq.mp hx;have hj:j < 2:=(ak.mp TV).1;have f3:=BA.fr;obtain⟨mw,us,_,nm',hm,DJ,ht,ha⟩:=BA;have aab:=bU.length DJ;rw[kz] at aab;refine⟨_,rfl,_,rfl,_,rfl,(by show 3<=sizeLine; decide),fun q1 n1=>⟨_,rfl,_,rfl,(by show 3<=sizeLine; decide),fun q2 n2=>⟨(by show 2<=sizeLine; decide),fun q3 n3=>?_⟩⟩⟩;have v3:=(ay.new n1).trans ((ay.new n2).trans (ay.new (o:= .lst [V.ref q1,.ref q2]) n3));refine⟨pm',q3,mw,_,rfl,rfl,v3 _ _ hm,af,cq (a9 (show mw.length + 2<=1000 by lia)),fun q4 n4=>⟨(by show 2<=sizeLine; decide),fun kH L5=>⟨kH,rfl,⟨_,bD.of af⟩,?_⟩⟩⟩;have v5:=ay.new (o:= .lst ([true,false].map fun o=>V.int (if o=true then 1 else 0))) L5;have v4:=(ay.new n4).trans v5;have Sq:=v3.trans v4;have DP:Told R pt _ _ q4 (iJ (I9 ++ [(aJ,day)])) (iJ I9):=⟨_,us,Frame.refl,(aI (v3 _ _ ht) n4).symm,v5 _ _ af,zC I9 (aJ,day)▸bU.append (DJ.mono Sq.tk) (es:=[.ask true aJ day,.ask false aJ day]) (ns:=[.ref q1,.ref q2]) (bw.mpr ⟨_,_,rfl,mW (((ay.new n2).trans ((ay.new n3).trans v4)) _ _ af) nofun,bw.mpr ⟨_,_,rfl,mW (((ay.new n3).trans v4) _ _ af) nofun,cJ.mpr rfl⟩⟩),Sq _ _ ht,ju.kept ha (fun _ _ _ e=>Sq _ _ e) Sq.tk⟩;have F3:=(fd.tr f3).cA Sq;have xG:=Fj (o:= .lst ([true,false].map fun o=>V.int (if o=true then 1 else 0))) L5;have aac:kH≠pt:=(aI (v3.trans (ay.new n4) _ _ ht) L5).symm;refine eP (K:=K) (a:=kH) (xs:=[true,false].map fun o=>V.int (if o=true then 1 else 0)) (fun l σ H3=> ∃(OQ:Option V),σ=[some (.ref a),some (.ref pc),some (.ref pa),some (.ref ps),some (.ref sd),some (.ref p5),some (.int nm),some (.str sx),some (.ref qz),some (.ref ve),some (.ref pk),yy,some (.ref pv),some (.ref pl),some (.ref q4),some (.ref pt),some (.str aJ),some (.int day),OQ,none,none,none]/\Told R pt (upd _ kH _) H3 q4 (iJ (I9 ++ [(aJ,day)])) (iJ I9 ++ ([true,false].take l).map fun o=> .ask o aJ day))
     ⟨_,rfl,(List.append_nil (iJ I9)).symm▸DP⟩ (fun l σ H3 _ ⟨_,_,t⟩=>bD.of (t.fr _ _ (by simpa using aac) xG)) ?_ ?_
    ·rintro l x σ H3 hx ⟨y18,rfl,E2⟩;rw[aE] at hx;obtain⟨o,ho,rfl⟩:=bq.mp hx;have RM:l < [true,false].length:=(ak.mp ho).1;have ae6:l < 2:=RM;have f4:=E2.fr;have aad:=E2;obtain⟨_,us4,_,_,_,_,Rk,ZY⟩:=aad;have N0:=aM ZY;rw[ae,ax,kz,ae,bz] at N0;refine⟨_,rfl,.inl ⟨rfl,_,bD.of Rk⟩,_,rfl,_,rfl,_,rfl,_,rfl,ve,R.bk,f',_,o,aJ,day,rfl,Ry.same (WU (F3.tr f4)),wf,(by lia),fun Da ma H4 t4 nDa hDa hPa=>⟨pt,_,_,rfl,rfl,t4 _ _ Rk,a9 (by lia),_,rfl,?_⟩⟩;rw[kP RM,(ak.mp ho).2,aL,← dR];exact E2.add Rk t4 nDa hDa hPa
    ·rintro σ H3 ⟨y18,rfl,E2⟩;exact⟨_,_,q4,I9 ++ [(aJ,day)],rfl,Told.on (by rw[zC] at E2 ⊢; exact E2) (f3.cA Sq),by rw[ax,La]; rfl⟩
   ·rintro σ Cg ⟨Z8,Z9,pm',I9,rfl,BA,La⟩;exact⟨_,_,_,pm',I9,rfl,BA.on fd,La⟩
  rintro σ HC ⟨DV,So,OQ,pm,pr,rfl,hT,Gn⟩;have sC:=WU hT.fr;rw[ae] at Gn;have jv:kG HC tB:=bp VE (OO.trans sC);have jl:lh HC tC:=bp VF (OO.trans sC);have hB:=Ry.same sC;have Ji:=sC _ _ (OO _ _ N2);have gQ:=sC _ _ LM;have Sn:=sC _ _ LO;have hL:=bU.mono LN sC.tk;have hN:=bU.mono Rx sC.tk;have hLl:=bU.length hL;obtain⟨mw,us,_,_,hm,WV,ht,WW⟩:=hT;have aae:=bU.length WV;rw[kz] at aae;obtain⟨hsz,hpz⟩:=IX wf (by lia) (pr:=pr) (by lia);have VJ: ∀d∈ds ++ [.fC nm],d.ok:=fun d h=>(bg.mp h).elim (b9 d) fun h=>by
   rw[au.mp h];trivial
  have VL: ∀d∈(List.range ds.length).map (i8 R.steps),d.ok:=fun d h=>by
   obtain⟨k,_,rfl⟩:=bF.mp h;unfold i8;cases e:mV k none R.steps with
   |none=>trivial
   |some d=>exact DF (P:=bc.ok) (fun _ h=>by cases h) Z3 d e
  have VM: ∀d∈iJ pr,d.ok:=fun d hd=>by
   obtain⟨y,_,hy⟩:=Jo.mp hd;simp only[List.mem_cons,List.not_mem_nil,or_false] at hy;rcases hy with rfl|rfl <;> exact trivial
  have hnv:=Good.never Sl;have hmd:=Sl.made;clear VE VF Ry hB9 N2 LM LO LN Rx Z6 Rv LL OO sC WU hT0 EM OP VG VH zo Sm hK b9 Z3 DQ tA wB OF Ox Sl wf OG hnn;have rows: ∀x∈[V.ref pl,.ref pv],∃(p:Addr) (dx:List bc) (mx:List V),x= .ref p/\HC p=some (.lst mx)/\bU HC dx mx/\dx.length<=60/\(∀d∈dx,d.ok)/\(cM dx eL.new 0).2=R:=fun x hx=>by
   simp only[List.mem_cons,List.not_mem_nil,or_false] at hx;rcases hx with rfl|rfl
   ·exact⟨pl,_,_,rfl,gQ,hL,by rw[ax]; show _ + 1<=60; lia,VJ,N1.2⟩
   ·exact⟨pv,_,_,rfl,Sn,hN,by rw[ae,bT]; lia,VL,hnv⟩
  have Qz:=jh ds eL.new 0;generalize hAA:(iJ pr).map (fun d=>(cz R 0 d).1)=AA at hsz hpz WW;have hAl:AA.length=2 * pr.length:=by rw[← hAA,ae,kz]
  have VN:(cM (ds ++ [.fC nm] ++ iJ pr) eL.new 0).1=(cM ds eL.new 0).1 ++ .txt sx :: AA:=by
   rw[sy,N1.1,N1.2,hAA,dR];rfl
  have aah:(cM ((List.range ds.length).map (i8 R.steps) ++ iJ pr) eL.new 0).1=(cM ((List.range ds.length).map (i8 R.steps)) eL.new 0).1 ++ AA:=by rw[sy,hnv,hAA]
  refine⟨_,rfl,_,rfl,pl,pm,_,mw,rfl,rfl,gQ,hm,?_,fun ph nh=>?_⟩
  ·exact cq (a9 (by rw[ax]; show ms.length + 1 + _<=1000; lia))
  have u:=ay.new (o:= .lst (ms ++ [V.ref q1] ++ mw)) nh;refine⟨ph,_,_,rfl,af,bU.append (bU.mono hL u.tk) (bU.mono WV u.tk),?_,fun d h=>(bg.mp h).elim (VJ d) (VM d),bp jv u,bp jl u,fun pf fs HD FD VO VP nf DR hA=>?_⟩
  ·rw[ax,ax,kz];show ds.length + 1 + _<=60;lia
  rw[VN] at hA;have kD:=(ay.kt u).trans (LJ FD (bp jv u) (bp jl u));have Nv:=aM hA;rw[ax,Qz,bJ,hAl] at Nv;have WX:Rp HD (.lst (((cM ds eL.new 0).1 ++ .txt sx :: AA).map uZ.dt)) (.ref pf):=gj DR (Ff hA);refine⟨_,rfl,_,_,_,true,rfl,WX.ty,Cj (.lst _),_,rfl,bV ?_⟩;refine⟨_,rfl,pf,_,rfl,.inl (bD.of DR),_,rfl,pl,_,rfl,.inl (bD.of (kD.l gQ)),_,rfl,pm,_,rfl,.inl (bD.of (kD.l hm)),_,_,rfl,rfl,rfl,_,rfl,cE (fun z=>?_) (fun _=>?_)⟩
  ·exfalso;rw[ax] at z;have e:(fs.length:Int)=((ms.length + [V.ref q1].length:Nat):Int) + (mw.length:Int):=by
    have e1:[V.ref q1].length=1:=rfl;lia
   simp[e] at z
  have DT:=k9 ds.length hA;rw[Jp (by lia),List.drop_of_length_le (by lia),L8,← tK fs ds.length (by lia),BC] at DT;refine⟨_,rfl,_,rfl,pa,_,rfl,.inl (bD.of (kD.l Ji)),_,rfl,pf,_,rfl,bD.of DR,fun pg ng=>⟨_,rfl,(by show 1<=sizeLine; decide),fun q2 n2=>?_⟩⟩;have N0:=aM WW;refine⟨_,rfl,q2,pt,_,us,rfl,rfl,af,((ay.new ng).trans (ay.new n2)) _ _ (kD.l ht),cq (a9 (show 1 + us.length<=1000 by lia)),fun p3 n3=>?_⟩;have w3:=ay.new (o:= .lst ([V.str sx] ++ us)) n3;have w2:=(ay.new n2).trans w3;have w1:=(ay.new ng).trans w2;have r1:=Ff (ju.kept DT (fun _ _ _ e=>w1 _ _ e) w1.tk);have r2:=Ff (Paired.cons (show ju _ (fun b=>b≠pt) (.txt sx) (.str sx) from rfl) (ju.kept WW (fun _ _ _ e=>w1 _ _ (kD.l e)) (kD.tk.trans w1.tk)));refine⟨_,.ref pg,.ref p3,rfl,gj (w2 _ _ af) r1,gj af r2,?_,?_,fun HE tE=>⟨_,rfl,bV ?_⟩⟩
  ·show 1 + (1 + Dt.fq (AA.map uZ.dt))<=100000;lia
  ·show(true && Dt.mr (AA.map uZ.dt))=true;rw[hpz];rfl
  have kE:=kD.trans (ay.kt (w1.trans tE));have VQ:kG HE tB:=bp VO (w1.trans tE);have VR:lh HE tC:=bp VP (w1.trans tE);clear r1 r2 w1 w2 w3 DT hA WX Nv kD VO VP FD u nf nh ng n2 n3 tE DR VN;refine⟨_,rfl,_,rfl,(by show 2<=sizeLine; decide),fun q5 n5=>⟨q5,rfl,⟨_,bD.of af⟩,?_⟩⟩;have w5:=ay.new (o:= .lst [V.ref pl,.ref pv]) n5;have hq5:=Fj (o:= .lst [V.ref pl,.ref pv]) n5;refine eP (K:=K) (a:=q5) (xs:=[V.ref pl,.ref pv]) (fun i σ H'=> ∃(x20:Option V),σ=[some (.ref a),some (.ref pc),some (.ref pa),some (.ref ps),some (.ref sd),some (.ref p5),some (.int nm),some (.str sx),some (.ref qz),some (.ref ve),some (.ref pk),yy,some (.ref pv),some (.ref pl),some (.ref pm),some (.ref pt),DV,So,OQ,some (.ref pf),x20,none]/\KT (upd HE q5 _) H'/\kG H' tB/\lh H' tC)
   ⟨_,rfl,ay.kt (ay.refl _),bp VQ w5,bp VR w5⟩ (fun i σ H' _ ⟨_,_,t,_⟩=>bD.of (t.l hq5)) ?_ ?_
  ·rintro i x σ H' hx ⟨x20,rfl,k1,b1,c1⟩;obtain⟨p,dx,mx,rfl,h1,h2,h3,h4,h5⟩:=rows x (fB hx);have k0:=kE.trans ((ay.kt w5).trans k1);refine⟨_,rfl,p,_,rfl,.inl (bD.of (k0.l h1)),fun l nl=>?_⟩;have v1:=ay.new (o:= .lst mx) nl;refine⟨l,dx,_,rfl,af,bU.mono h2 (k0.tk.trans v1.tk),h3,h4,bp b1 v1,bp c1 v1,fun D ud H4 F4 b4 c4 nD hD Dl=>?_⟩;have k4:=(ay.kt v1).trans (LJ F4 (bp b1 v1) (bp c1 v1));have WK:=Rq hB (k0.trans k4);obtain⟨um,m1,m2⟩:=WK.hm;obtain⟨z1,z2⟩:=IZ (ms:=R.bk.made) (by lia);rw[h5] at Dl;exact⟨_,rfl,ve,_,rfl,WK.gM,_,_,_,rfl,gj hD (gy.Oq Dl),gj m1 (gy.Oq m2),z1,z2,fun H5 t5=>⟨_,rfl,bV ⟨_,rfl,k1.trans (k4.trans (ay.kt t5)),bp b4 t5,bp c4 t5⟩⟩⟩
  rintro σ HF ⟨x20,rfl,k1,VS,VT⟩;have kF:=kE.trans ((ay.kt w5).trans k1);have hmF:=kF.l hm;have hvF:=kF.l Sn;have hdF:=bU.mono WV kF.tk;have hNF:=bU.mono hN kF.tk;have aaj:=bU.length hN;rw[ae,bT] at aaj;clear kE VQ VR w5 hq5 k1 n5 rows hB hL hN WV hm Sn gQ;refine⟨_,rfl,_,rfl,pv,pm,_,mw,rfl,rfl,hvF,hmF,cq (a9 (by lia)),fun ph nh=>?_⟩;have u:=ay.new (o:= .lst (mn ++ mw)) nh;refine⟨ph,_,_,rfl,af,bU.append (bU.mono hNF u.tk) (bU.mono hdF u.tk),?_,fun d h=>(bg.mp h).elim (VL d) (VM d),bp VS u,bp VT u,fun pf fs HD FD _ _ nf DR hA=>?_⟩
  ·rw[ax,ae,bT,kz];lia
  rw[aah] at hA;have kD:=kF.trans ((ay.kt u).trans (LJ FD (bp VS u) (bp VT u)));have Nv:=aM hA;have RM:=jh ((List.range ds.length).map (i8 R.steps)) eL.new 0;rw[ae,bT] at RM;rw[ax,RM,hAl] at Nv;have WX:=gj DR (Ff hA);have DT:=k9 ds.length hA;rw[Jp (by lia),List.drop_of_length_le (by lia),L8,← tK fs ds.length (by lia),BC] at DT;refine⟨_,rfl,_,_,_,true,rfl,WX.ty,Cj (.lst _),_,rfl,fH ⟨_,rfl,_,rfl,pa,_,rfl,.inl (bD.of (kD.l Ji)),_,rfl,pf,_,rfl,bD.of DR,fun p3 n3=>?_⟩⟩;have w3:=ay.new (o:= .lst (qj fs (some (ms.length:Int)) none)) n3;refine⟨_,rfl,_,.ref p3,.ref pt,rfl,gj af (Ff (ju.kept DT (fun _ _ _ e=>w3 _ _ e) w3.tk)),gj (w3 _ _ (kD.l ht)) (Ff (ju.kept WW (fun _ _ _ e=>w3 _ _ (kD.l e)) (kD.tk.trans w3.tk))),?_,hpz,fun H' _=>k H'⟩;show 1 + Dt.fq (AA.map uZ.dt)<=100000;lia
section
variable {h:Heap}{x q:Str}{st:Stmt}{f C R:Addr}{oc kV dc pm cd ct:Value}{od an:Option Addr}{sl:Array (Option Value)}
abbrev OR (K:Frag)(f:Addr)(x q:Str)(st:Stmt)(oc:Value)(od an:Option Addr)(kV dc pm cd ct:Value)(sl:Array (Option Value)):Prop:=K.lookup f=some ⟨oc,od,.func (fnOf x q (gG st) (dH st) (aA st) .none kV dc pm an cd ct),sl⟩
def cO (X:K.In h)(G:h.Ns mainGlobals mg)(a:nsIn K mainGlobals x=some (some (.ref f)))(l:OR K f x x st oc od an kV dc pm cd ct sl)(c:codeIn K cd x=true)(k:keepIn K (.ref f)=true):Df K mg x st:=⟨_,_,ql l c k,df X G a⟩
def l4 (a:findIn K (.ref C) x=some (some (.ref f)))(i:PySem.W.isFn K (.ref f)=true)(l:OR K f x q st oc od an kV dc pm cd ct sl)(c:codeIn K cd q=true)(k:keepIn K (.ref f)=true): ∃f fd,gu K x q st f fd/\Meth K C x f:=⟨_,_,ql l c k,a,i,k⟩
def GJ (a:findIn K (.ref C) "__init__"=some (some (.ref f)))(i:PySem.W.isFn K (.ref f)=true)(l:OR K f "__init__" q st oc od an kV dc pm cd ct sl)(c:codeIn K cd q=true)(k:keepIn K (.ref f)=true)(m:makesIn K C=true)(kc:keepIn K (.ref C)=true): ∃f fd,gu K "__init__" q st f fd/\Mk K C f:=⟨_,_,ql l c k,m,a,i,kc⟩
def uD (a:findIn K (.ref C) "__init__"=some (some (.ref f)))(t:typeIn K (.ref f)=some (.type "function"))(l:OR K f "__init__" q st oc od an kV dc pm cd ct sl)(c:codeIn K cd q=true)(k:keepIn K (.ref f)=true): ∃f fd,gu K "__init__" q st f fd/\findIn K (.ref C) "__init__"=some (some (.ref f))/\typeIn K (.ref f)=some (.type "function"):=⟨_,_,ql l c k,a,t⟩
def Rz (r:readsIn K C (.type "type")=true)(s:specialIn K (.ref C) "__getattribute__"=some (some (.builtin "type.__getattribute__")))(a:findCls K (.ref C) (.type "type") "__init__"=some (.val (.ref f)))(l:OR K f "__init__" q st oc od an kV dc pm cd ct sl)(c:codeIn K cd q=true)(k:keepIn K (.ref f)=true): ∃f fd,gu K "__init__" q st f fd/\FX K C f:=⟨_,_,ql l c k,r,s,a,k⟩
def uE {nm:Str}{N:Addr}{bs:List Value}{sn:List Str}{sub:List Value}{ab:Bool}{col:Option Bool}{dd:Option Addr}{k0 k1 k2 k3 k5:Option Value}(o:K.lookup C=some (excClassObj nm q C N bs [.ref R,.type "Exception",.type "BaseException",.type "object"] true sn sub ab col dd k0 k1 k2 k3 k5 "Exception.__new__"))
  (a:findIn K (.ref C) "__setattr__"=some (some (.builtin "object.__setattr__"))) (b:findIn K (.ref C) "__getattribute__"=some (some (.builtin "BaseException.__getattribute__"))) (c:findIn K (.ref C) "__getattr__"=some none) (d:findIn K (.ref C) "text"=some none):gS K C R:=⟨⟨_,_,_,_,_,_,_,_,_,_,_,_,_,_,_,o,.inr rfl⟩,a,b,c,d⟩
def RA {nm:Str}{N:Addr}{bs:List Value}{sn:List Str}{sub:List Value}{ab:Bool}{col:Option Bool}{dd:Option Addr}{k0 k1 k2 k3 k5:Option Value}(o:K.lookup C=some (excClassObj nm q C N bs [.type "Exception",.type "BaseException",.type "object"] true sn sub ab col dd k0 k1 k2 k3 k5 "Exception.__new__"))
  (a:findIn K (.ref C) "__setattr__"=some (some (.builtin "object.__setattr__"))) (b:findIn K (.ref C) "__getattribute__"=some (some (.builtin "BaseException.__getattribute__"))) (c:findIn K (.ref C) "__getattr__"=some none) (d:findIn K (.ref C) "text"=some none):gS K C C:=⟨⟨_,_,_,_,_,_,_,_,_,_,_,_,_,_,_,o,.inl ⟨rfl,rfl⟩⟩,a,b,c,d⟩
def OS {c tb:Addr}(X:K.In h)(G:h.Ns mainGlobals mg)(a:nsIn K mainGlobals x=some (some (.ref f)))(l:OR K f x x st oc od an kV dc pm (.ref c) ct sl)(cd:codeIn K (.ref c) x=true)(k:keepIn K (.ref f)=true)(hd:codeHdIn K c tb=true)(n:K.lookup tb=none):pM K mg x st tb/\ ∃c,codeHdIn K c tb=true/\K.lookup tb=none:=⟨⟨f,c,oc,od,kV,dc,pm,an,ct,sl,l,cd,k,df X G a,hd⟩,c,hd,n⟩
end
end
def RB {K:Frag}{mg:Str->Option Value}{mL iL fU mM eD kA oM jn kB kC l5 jo oN:Addr}(h1:mg "Refusal"=some (.ref eD))(h2:gS K eD eD)(h3:keepIn K (.ref eD)=true)(h4: ∃f fd,gu K "__init__" "Refusal.__init__" (mem 3 0) f fd/\FX K eD f)(h5:mg "NoCredit"=some (.ref kA))(h6:gS K kA eD)(h7:keepIn K (.ref kA)=true)(h8: ∃f fd,gu K "__init__" "NoCredit.__init__" (mem 4 0) f fd/\findIn K (.ref kA) "__init__"=some (some (.ref f))/\typeIn K (.ref f)=some (.type "function"))(h9:mg "NoBill"=some (.ref oM))(LV:gS K oM eD)(X7:keepIn K (.ref oM)=true)(Wb: ∃f fd,gu K "__init__" "NoBill.__init__" (mem 5 0) f fd/\findIn K (.ref oM) "__init__"=some (some (.ref f))/\typeIn K (.ref f)=some (.type "function"))(h13:mg "NotTheirs"=some (.ref jn))(h14:gS K jn eD)(XI:keepIn K (.ref jn)=true)(h16: ∃f fd,gu K "__init__" "NotTheirs.__init__" (mem 6 0) f fd/\findIn K (.ref jn) "__init__"=some (some (.ref f))/\typeIn K (.ref f)=some (.type "function"))(h17:mg "NoAmount"=some (.ref kB))(h18:gS K kB eD)(h19:keepIn K (.ref kB)=true)(h20: ∃f fd,gu K "__init__" "NoAmount.__init__" (mem 7 0) f fd/\findIn K (.ref kB) "__init__"=some (some (.ref f))/\typeIn K (.ref f)=some (.type "function"))(h21:mg "TooEarly"=some (.ref kC))(h22:gS K kC eD)(h23:keepIn K (.ref kC)=true)(YC: ∃f fd,gu K "__init__" "TooEarly.__init__" (mem 8 0) f fd/\findIn K (.ref kC) "__init__"=some (some (.ref f))/\typeIn K (.ref f)=some (.type "function"))(h25:mg "TooMuch"=some (.ref l5))(h26:gS K l5 eD)(h27:keepIn K (.ref l5)=true)(h28: ∃f fd,gu K "__init__" "TooMuch.__init__" (mem 9 0) f fd/\findIn K (.ref l5) "__init__"=some (some (.ref f))/\typeIn K (.ref f)=some (.type "function"))(h29:mg "NoSetting"=some (.ref jo))(h30:gS K jo eD)(h31:keepIn K (.ref jo)=true)(h32: ∃f fd,gu K "__init__" "NoSetting.__init__" (mem 10 0) f fd/\findIn K (.ref jo) "__init__"=some (some (.ref f))/\typeIn K (.ref f)=some (.type "function"))(h33:mg "Needed"=some (.ref oN))(YD:gS K oN eD)(h35:keepIn K (.ref oN)=true)(h36: ∃f fd,gu K "__init__" "Needed.__init__" (mem 11 0) f fd/\findIn K (.ref oN) "__init__"=some (some (.ref f))/\typeIn K (.ref f)=some (.type "function"))(h37:mg "Bill"=some (.ref mL))(h38:xF K mL)(h39:cf K mL "number")(h40:cf K mL "who")(h41:cf K mL "day")(h42:cf K mL "due")(h43:cf K mL "amount")(h44: ∃f fd,gu K "__init__" "Bill.__init__" (mem 13 0) f fd/\Mk K mL f)(h45:mg "Credit"=some (.ref iL))(h46:xF K iL)(h47:cf K iL "number")(h48:cf K iL "who")(h49:cf K iL "day")(h50:cf K iL "amount")(h51:cf K iL "only")(h52: ∃f fd,gu K "__init__" "Credit.__init__" (mem 14 0) f fd/\Mk K iL f)(h53:mg "Work"=some (.ref fU))(YE:xF K fU)(h55:cf K fU "bills")(h56:cf K fU "all_credits")(h57:cf K fU "lefts")(h58:cf K fU "frees")(h59:cf K fU "made")(h60: ∃f fd,gu K "__init__" "Work.__init__" (mem 25 0) f fd/\Mk K fU f)(h61: ∃f fd,gu K "tell_bill" "Work.tell_bill" (mem 25 1) f fd/\Meth K fU "tell_bill" f)(h62: ∃f fd,gu K "tell_payment" "Work.tell_payment" (mem 25 2) f fd/\Meth K fU "tell_payment" f)(h63: ∃f fd,gu K "tell_note" "Work.tell_note" (mem 25 3) f fd/\Meth K fU "tell_note" f)(DK: ∃f fd,gu K "tell_credit" "Work.tell_credit" (mem 25 4) f fd/\Meth K fU "tell_credit" f)(h65: ∃f fd,gu K "set_by_hand" "Work.set_by_hand" (mem 25 5) f fd/\Meth K fU "set_by_hand" f)(h66: ∃f fd,gu K "sweep" "Work.sweep" (mem 25 6) f fd/\Meth K fU "sweep" f)(h67: ∃f fd,gu K "one_round" "Work.one_round" (mem 25 7) f fd/\Meth K fU "one_round" f)(h68: ∃f fd,gu K "put" "Work.put" (mem 25 8) f fd/\Meth K fU "put" f)(h69: ∃f fd,gu K "credit_at" "Work.credit_at" (mem 25 9) f fd/\Meth K fU "credit_at" f)(h70: ∃f fd,gu K "bill_at" "Work.bill_at" (mem 25 10) f fd/\Meth K fU "bill_at" f)(h71:mg "Book"=some (.ref mM))(h72:xF K mM)(h73:cf K mM "kept")(h74:cf K mM "work")(h75: ∃f fd,gu K "__init__" "Book.__init__" (mem 29 0) f fd/\Mk K mM f)(h76: ∃f fd,gu K "do" "Book.do" (mem 29 1) f fd/\Meth K mM "do" f)(h77: ∃f fd,gu K "undo" "Book.undo" (mem 29 2) f fd/\Meth K mM "undo" f)(h78: ∃f fd,gu K "in_force" "Book.in_force" (mem 29 3) f fd/\Meth K mM "in_force" f):jA K mg ⟨mL,iL,fU,mM,eD,kA,oM,jn,kB,kC,l5,jo,oN⟩:=⟨h1,h2,h3,h4,h5,h6,h7,h8,h9,LV,X7,Wb,h13,h14,XI,h16,h17,h18,h19,h20,h21,h22,h23,YC,h25,h26,h27,h28,h29,h30,h31,h32,h33,YD,h35,h36,h37,h38,h39,h40,h41,h42,h43,h44,h45,h46,h47,h48,h49,h50,h51,h52,h53,YE,h55,h56,h57,h58,h59,h60,h61,h62,h63,DK,h65,h66,h67,h68,h69,h70,h71,h72,h73,h74,h75,h76,h77,h78⟩
def all_mk {l:PySem.W.OpenLaw}{w:World}{K:Frag}{h:Heap}{mg:Str->Option Value}{f fa:Addr}{oc kV dc pm cd ct:Value}{od an:Option Addr}{sl:Array (Option Value)}(X:K.In h)(G:h.Ns mainGlobals mg)(hfa:mg "law"=some (.ref fa)){A:dU}(GP:jA K mg A)(hnd:A.iH≠A.tooMuch)(T:Txt K mg)(DB:pM K mg "bills_in_order" (top 17) 249/\ ∃c,codeHdIn K c 249=true/\K.lookup 249=none)(DC:pM K mg "credits_in_order" (top 18) 254/\ ∃c,codeHdIn K c 254=true/\K.lookup 254=none)(a:nsIn K mainGlobals "law"=some (some (.ref f)))(lk:OR K f "law" "law" (top 68) oc od an kV dc pm cd ct sl)(c:codeIn K cd "law"=true)(k:keepIn K (.ref f)=true):
  ∃(fd:FuncData) (cps:List (Addr×Addr)),(∀cp∈cps,cp.2∈[254,249])/\(∀cp∈cps,codeHdIn K cp.1 cp.2=true/\K.lookup cp.2=none)/\(∀(s:Shared) (u:Value),BindsTo s fd ⟨[u],[]⟩ [("_law_script",u)])/\
   ∀base:Heap,K.In base->base.Ns mainGlobals mg->BMain mg base->mf l.prog w K mg base sU 13 fa fd ["_law_script"] (LD K cps):=by
 have e:=hfa.symm.trans (df X G a);cases e;obtain⟨DB,cb,b1,b2⟩:=DB;obtain⟨DC,cc,c1,c2⟩:=DC;refine⟨_,[(cb,249),(cc,254)],fun cp hc=>?_,fun cp hc=>?_,fun s v=> .of_eq rfl,fun base KB _ BM=>Ru (ql (st:=top 68) lk c k) T GP DB DC (by decide) hnd KB BM ⟨cb,by simp⟩ ⟨cc,by simp⟩⟩
 ·simp only[List.mem_cons,List.not_mem_nil,or_false] at hc;rcases hc with rfl|rfl <;> simp
 ·simp only[List.mem_cons,List.not_mem_nil,or_false] at hc;rcases hc with rfl|rfl
  ·exact⟨b1,b2⟩
  ·exact⟨c1,c2⟩
end eJ
open PySem PySem.W PyProof.Rows L2
set_option maxRecDepth 100000 in
set_option maxHeartbeats 0 in
theorem PySem.Challenge.cw_spikebook_k07_whole_undone_as_never_holds : PySem.Challenge.rw_spikebook_k07_whole_undone_as_never.Holds := by
 w_on; o_law; k_head; (case hw=>w_witness2)
 k_fill
 refine L2.Ks (n:=63) (k:=13) (ts:=[254,249]) (x:="_law_script") (sp:=fun K cps=>eJ.LD K cps) rfl (by decide) rfl ⟨rfl,by decide,by decide⟩ (fun w h Y=>⟨PySem.W.km_in_of Y,PySem.W.km_tabs_of Y⟩) ?F (fun _ cps _ a ns hl hO hS=>⟨a,ns,rfl,hS,hl,hO,fun _=>rfl⟩)
 case F=>
  intro w mg fa h KX G Tg
  refine' eJ.all_mk KX G Tg (eJ.RB (df KX G ?q1) (eJ.RA ?q2 ?q3 ?q4 ?q5 ?q6) ?q7 (eJ.Rz ?q8 ?q9 ?q10 ?q11 ?q12 ?q13) (df KX G ?q14) (eJ.uE ?q15 ?q16 ?q17 ?q18 ?q19) ?q20 (eJ.uD ?q21 ?q22 ?q23 ?q24 ?q25) (df KX G ?q26) (eJ.uE ?q27 ?q28 ?q29 ?q30 ?q31) ?q32 (eJ.uD ?q33 ?q34 ?q35 ?q36 ?q37) (df KX G ?q38) (eJ.uE ?q39 ?q40 ?q41 ?q42 ?q43) ?q44 (eJ.uD ?q45 ?q46 ?q47 ?q48 ?q49) (df KX G ?q50) (eJ.uE ?q51 ?q52 ?q53 ?q54 ?q55) ?q56 (eJ.uD ?q57 ?q58 ?q59 ?q60 ?q61) (df KX G ?q62) (eJ.uE ?q63 ?q64 ?q65 ?q66 ?q67) ?q68 (eJ.uD ?q69 ?q70 ?q71 ?q72 ?q73) (df KX G ?q74) (eJ.uE ?q75 ?q76 ?q77 ?q78 ?q79) ?q80 (eJ.uD ?q81 ?q82 ?q83 ?q84 ?q85) (df KX G ?q86) (eJ.uE ?q87 ?q88 ?q89 ?q90 ?q91) ?q92 (eJ.uD ?q93 ?q94 ?q95 ?q96 ?q97) (df KX G ?q98) (eJ.uE ?q99 ?q100 ?q101 ?q102 ?q103) ?q104 (eJ.uD ?q105 ?q106 ?q107 ?q108 ?q109) (df KX G ?q110) ⟨?q111,?q112,?q113,?q114⟩ ?q115 ?q116 ?q117 ?q118 ?q119 (eJ.GJ ?q120 ?q121 ?q122 ?q123 ?q124 ?q125 ?q126) (df KX G ?q127) ⟨?q128,?q129,?q130,?q131⟩ ?q132 ?q133 ?q134 ?q135 ?q136 (eJ.GJ ?q137 ?q138 ?q139 ?q140 ?q141 ?q142 ?q143) (df KX G ?q144) ⟨?q145,?q146,?q147,?q148⟩ ?q149 ?q150 ?q151 ?q152 ?q153 (eJ.GJ ?q154 ?q155 ?q156 ?q157 ?q158 ?q159 ?q160) (eJ.l4 ?q161 ?q162 ?q163 ?q164 ?q165) (eJ.l4 ?q166 ?q167 ?q168 ?q169 ?q170) (eJ.l4 ?q171 ?q172 ?q173 ?q174 ?q175) (eJ.l4 ?q176 ?q177 ?q178 ?q179 ?q180) (eJ.l4 ?q181 ?q182 ?q183 ?q184 ?q185) (eJ.l4 ?q186 ?q187 ?q188 ?q189 ?q190) (eJ.l4 ?q191 ?q192 ?q193 ?q194 ?q195) (eJ.l4 ?q196 ?q197 ?q198 ?q199 ?q200) (eJ.l4 ?q201 ?q202 ?q203 ?q204 ?q205) (eJ.l4 ?q206 ?q207 ?q208 ?q209 ?q210) (df KX G ?q211) ⟨?q212,?q213,?q214,?q215⟩ ?q216 ?q217 (eJ.GJ ?q218 ?q219 ?q220 ?q221 ?q222 ?q223 ?q224) (eJ.l4 ?q225 ?q226 ?q227 ?q228 ?q229) (eJ.l4 ?q230 ?q231 ?q232 ?q233 ?q234) (eJ.l4 ?q235 ?q236 ?q237 ?q238 ?q239)) ?hnd ⟨eJ.cO KX G ?q240 ?q241 ?q242 ?q243,eJ.cO KX G ?q244 ?q245 ?q246 ?q247,eJ.cO KX G ?q248 ?q249 ?q250 ?q251,eJ.cO KX G ?q252 ?q253 ?q254 ?q255,eJ.cO KX G ?q256 ?q257 ?q258 ?q259,eJ.cO KX G ?q260 ?q261 ?q262 ?q263,eJ.cO KX G ?q264 ?q265 ?q266 ?q267,eJ.cO KX G ?q268 ?q269 ?q270 ?q271,eJ.cO KX G ?q272 ?q273 ?q274 ?q275,eJ.cO KX G ?q276 ?q277 ?q278 ?q279,eJ.cO KX G ?q280 ?q281 ?q282 ?q283,eJ.cO KX G ?q284 ?q285 ?q286 ?q287,eJ.cO KX G ?q288 ?q289 ?q290 ?q291,eJ.cO KX G ?q292 ?q293 ?q294 ?q295,eJ.cO KX G ?q296 ?q297 ?q298 ?q299,eJ.cO KX G ?q300 ?q301 ?q302 ?q303,eJ.cO KX G ?q304 ?q305 ?q306 ?q307,eJ.cO KX G ?q308 ?q309 ?q310 ?q311,eJ.cO KX G ?q312 ?q313 ?q314 ?q315,eJ.cO KX G ?q316 ?q317 ?q318 ?q319,eJ.cO KX G ?q320 ?q321 ?q322 ?q323,eJ.cO KX G ?q324 ?q325 ?q326 ?q327,eJ.cO KX G ?q328 ?q329 ?q330 ?q331,eJ.cO KX G ?q332 ?q333 ?q334 ?q335,eJ.cO KX G ?q336 ?q337 ?q338 ?q339,eJ.cO KX G ?q340 ?q341 ?q342 ?q343,eJ.cO KX G ?q344 ?q345 ?q346 ?q347,eJ.cO KX G ?q348 ?q349 ?q350 ?q351,eJ.cO KX G ?q352 ?q353 ?q354 ?q355,eJ.cO KX G ?q356 ?q357 ?q358 ?q359,eJ.cO KX G ?q360 ?q361 ?q362 ?q363,eJ.cO KX G ?q364 ?q365 ?q366 ?q367,eJ.cO KX G ?q368 ?q369 ?q370 ?q371,eJ.cO KX G ?q372 ?q373 ?q374 ?q375,eJ.cO KX G ?q376 ?q377 ?q378 ?q379,eJ.cO KX G ?q380 ?q381 ?q382 ?q383,eJ.cO KX G ?q384 ?q385 ?q386 ?q387,eJ.cO KX G ?q388 ?q389 ?q390 ?q391,eJ.cO KX G ?q392 ?q393 ?q394 ?q395,eJ.cO KX G ?q396 ?q397 ?q398 ?q399,eJ.cO KX G ?q400 ?q401 ?q402 ?q403,eJ.cO KX G ?q404 ?q405 ?q406 ?q407,eJ.cO KX G ?q408 ?q409 ?q410 ?q411,eJ.cO KX G ?q412 ?q413 ?q414 ?q415,eJ.cO KX G ?q416 ?q417 ?q418 ?q419,eJ.cO KX G ?q420 ?q421 ?q422 ?q423,eJ.cO KX G ?q424 ?q425 ?q426 ?q427,eJ.cO KX G ?q428 ?q429 ?q430 ?q431,bX KX G ?q432,bX KX G ?q433,bX KX G ?q434,bX KX G ?q435,bX KX G ?q436,bX KX G ?q437,bX KX G ?q438,bX KX G ?q439,bX KX G ?q440,bX KX G ?q441,bX KX G ?q442,bX KX G ?q443,bX KX G ?q444,bX KX G ?q445,bX KX G ?q446⟩ (eJ.OS KX G ?q447 ?q448 ?q449 ?q450 ?u1 ?u2) (eJ.OS KX G ?q451 ?q452 ?q453 ?q454 ?u3 ?u4) ?q455 ?q456 ?q457 ?q458
  case q1|q2|q3|q4|q5|q6|q7|q8|q9|q10|q11|q12|q13|q14|q15|q16|q17|q18|q19|q20|q21|q22|q23|q24|q25|q26|q27|q28|q29|q30|q31|q32|q33|q34|q35|q36|q37|q38|q39|q40|q41|q42|q43|q44|q45|q46|q47|q48|q49|q50|q51|q52|q53|q54|q55|q56|q57|q58|q59|q60|q61|q62|q63|q64|q65|q66|q67|q68|q69|q70|q71|q72|q73|q74|q75|q76|q77|q78|q79|q80|q81|q82|q83|q84|q85|q86|q87|q88|q89|q90|q91|q92|q93|q94|q95|q96|q97|q98|q99|q100|q101|q102|q103|q104|q105|q106|q107|q108|q109|q110|q111|q112|q113|q114|q115|q116|q117|q118|q119|q120|q121|q122|q123|q124|q125|q126|q127|q128|q129|q130|q131|q132|q133|q134|q135|q136|q137|q138|q139|q140|q141|q142|q143|q144|q145|q146|q147|q148|q149|q150|q151|q152|q153|q154|q155|q156|q157|q158|q159|q160|q161|q162|q163|q164|q165|q166|q167|q168|q169|q170|q171|q172|q173|q174|q175|q176|q177|q178|q179|q180|q181|q182|q183|q184|q185|q186|q187|q188|q189|q190|q191|q192|q193|q194|q195|q196|q197|q198|q199|q200|q201|q202|q203|q204|q205|q206|q207|q208|q209|q210|q211|q212|q213|q214|q215|q216|q217|q218|q219|q220|q221|q222|q223|q224|q225|q226|q227|q228|q229|q230|q231|q232|q233|q234|q235|q236|q237|q238|q239|q240|q241|q242|q243|q244|q245|q246|q247|q248|q249|q250|q251|q252|q253|q254|q255|q256|q257|q258|q259|q260|q261|q262|q263|q264|q265|q266|q267|q268|q269|q270|q271|q272|q273|q274|q275|q276|q277|q278|q279|q280|q281|q282|q283|q284|q285|q286|q287|q288|q289|q290|q291|q292|q293|q294|q295|q296|q297|q298|q299|q300|q301|q302|q303|q304|q305|q306|q307|q308|q309|q310|q311|q312|q313|q314|q315|q316|q317|q318|q319|q320|q321|q322|q323|q324|q325|q326|q327|q328|q329|q330|q331|q332|q333|q334|q335|q336|q337|q338|q339|q340|q341|q342|q343|q344|q345|q346|q347|q348|q349|q350|q351|q352|q353|q354|q355|q356|q357|q358|q359|q360|q361|q362|q363|q364|q365|q366|q367|q368|q369|q370|q371|q372|q373|q374|q375|q376|q377|q378|q379|q380|q381|q382|q383|q384|q385|q386|q387|q388|q389|q390|q391|q392|q393|q394|q395|q396|q397|q398|q399|q400|q401|q402|q403|q404|q405|q406|q407|q408|q409|q410|q411|q412|q413|q414|q415|q416|q417|q418|q419|q420|q421|q422|q423|q424|q425|q426|q427|q428|q429|q430|q431|q432|q433|q434|q435|q436|q437|q438|q439|q440|q441|q442|q443|q444|q445|q446|q447|q448|q449|q450|q451|q452|q453|q454|q455|q456|q457|q458=>((try unfold eJ.OR); (try unfold L2.cf); k_is)
  (case hnd=>decide)
  (case u1=>kernel_rfl)
  (case u2=>kernel_rfl)
  (case u3=>kernel_rfl)
  (case u4=>kernel_rfl)
