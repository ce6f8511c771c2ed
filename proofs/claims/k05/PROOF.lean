import PyProof.Rows.All
import Wide.All
import OpenK.AllK
import Wide.FinOn
import Lean
import PyProof.EqAt
import PyProof.EqKinds
import PyProof.TupleCall
import PySem.Str
import PyProof.StationsW
import PyProof.PassesOwn
import PyProof.RulesAs
import PyProof.ExcClass2
import PyProof.InstStore
import PyProof.ExcArgs
import PyProof.ExcClass
import PyProof.InstStoreFacts
import PyProof.ExcBaseAll.Exception
import PyProof.ExcAttrAll.Exception
import PyProof.DictValues
import PyProof.DictWalks
import PySem.Challenge.RW_spikebook_k05_whole_nothing_lost
set_option Elab.async false
set_option linter.all false
set_option maxRecDepth 100000
set_option maxHeartbeats 4000000
def ae:=@List.length_map
def af:=@List.getElem?_eq_getElem
def aj:=@List.getD_eq_getElem?_getD
def ak:=@List.getElem?_eq_some_iff
def ao:=@List.mem_singleton
def aw:=@List.mem_cons
def ay:=@PySem.Heap.get?_push_of_some
def az:=@PySem.wpAny_bind
def aB:=@List.getElem?_map
def aD:=@Option.some.inj
def aG:=@decide_eq_true
def aH:=@List.length_append
def aI:=@Nat.le_refl
def aJ:=@List.map_append
def aL:=@PySem.Paired.length
def aM:=@of_decide_eq_true
def aN:=@PySem.Heap.lt_size
def aO:=@if_neg
def aR:=@Bool.false_ne_true
def aS:=@List.mem_cons_of_mem
def aY:=@List.take_length
def aZ:=@if_pos
def a6:=@Nat.le_trans
def a7:=@List.length_filter_le
def a8:=@Nat.ne_of_lt
def ba:=@decide_eq_false
def bb:=@List.length_take
def bc:=@List.mem_cons_self
def bo:=@Nat.lt_of_lt_of_le
def bp:=@Nat.zero_le
def bq:=@List.mem_append
def br:=@Option.map_eq_some_iff
def bu:=@PySem.PassesOwn.never
def bz:=@List.mem_append_right
def bA:=@PySem.wpAny_loadPart_at
def bC:=@List.size_toArray
def bF:=@PySem.wpAny_pure
def bG:=@List.mem_map
def bH:=@List.length_cons
def bM:=@List.map_cons
def bN:=@List.getElem_mem
def bO:=@PySem.Heap.get?_push_size
def bS:=@List.filter_cons_of_pos
def bU:=@List.append_nil
def bY:=@PySem.W.mg_none_of
def ck:=@PySem.mem_of_lookup
def cm:=@PySem.wpAny_mono
def cw:=@Int.eq_ofNat_of_zero_le
def cy:=@PySem.Paired.snoc
def cL:=@List.sum_cons
def cW:=@List.mem_range
def cX:=@PySem.wpAny_isSubtype_exc
def cZ:=@List.mem_append_left
def c9:=@congrArg
def de:=@PySem.W.mg_of
def di:=@Nat.le_of_lt
def dj:=@List.replicate_succ
def dz:=@Int.toNat_natCast
def dA:=@List.length_range
def dD:=@List.map_map
def dM:=@List.mem_filter
def dP:=@Nat.le_succ
def dS:=@PySem.wpAny_passesOwn
def dU:=@List.append_assoc
def eo:=@PySem.W.kia_one
def eu:=@List.nodup_cons
def ez:=@PySem.W.kia_tup
def eA:=@List.filter_cons_of_neg
def eB:=@PyProof.Rows.boot_isinstance
def eL:=@PySem.wpAny_Call_Name_kw
def eY:=@List.length_set
def eZ:=@List.foldl_cons
def fe:=@PySem.sizeLine_eq
def fq:=@List.pairwise_cons
def fv:=@Int.le_refl
def fO:=@List.map_congr_left
def fV:=@PySem.wpAny_truthy_bool
def fW:=@List.getElem?_append_right
def gf:=@Nat.lt_succ_self
def gj:=@List.filter_append
def gI:=@List.mem_of_getElem?
def gK:=@Nat.not_lt_zero
def gX:=@PyProof.Rows.take_snoc
def gZ:=@Int.zero_add
def g6:=@beq_eq_false_iff_ne
def ig:=@Bool.and_false
def iz:=@List.filter_filter
def iB:=@PySem.wpAny_holding
def iC:=@PySem.wpAny_standAt
def iP:=@Nat.le_of_eq
def iQ:=@List.length_replicate
def iW:=@Nat.lt_irrefl
def iX:=@PySem.Calls.callWith_builtin
def iY:=@List.flatten_cons
def iZ:=@Nat.lt_succ_of_lt
def i6:=@List.filter_congr
def jw:=@PySem.wpAny_execs_nil
def jB:=@List.nodup_range
def jC:=@decide_eq_decide
def kB:=@PySem.W.callWith_K
def kC:=@Int.emod_nonneg
def lp:=@List.getElem?_set_self
def lq:=@PySem.W.cellsFrom_some
def lX:=@Int.le_trans
def mG:=@List.length_drop
def mM:=@List.getElem?_set_ne
def mN:=@PySem.Heap.get?_update_other
def mP:=@PySem.Heap.get?_push_ne
def oa:=@PySem.Heap.size_push
def ou:=@PyProof.Rows.callWith_type1
def ow:=@Bool.eq_iff_iff
def ox:=@List.of_mem_zip
def oy:=@Option.map_some
def oz:=@Array.length_toList
def oA:=@List.sum_append
def oB:=@List.range_succ
def pC:=@PySem.Heap.size_update
def ql:=@Nat.ne_of_gt
def qm:=@Nat.lt_of_le_of_lt
def qo:=@Int.emod_lt_of_pos
def qt:=@List.getElem?_eq_none_iff
def qu:=@Bool.false_and
def qv:=@Nat.mul_le_mul
def rR:=@List.any_eq_false
def rT:=@PySem.W.kitx_list
def rV:=@PySem.W.kitx_dict
def rW:=@List.pairwise_map
def rX:=@List.foldl_append
def rY:=@PySem.Heap.SameBut.update
def rZ:=@Array.size_setIfInBounds
def tQ:=@PySem.wpAny_newFunctionEnv_cells
def tR:=@List.any_cons
def tS:=@List.map_id
def ug:=@Bool.and_eq_true
def uh:=@PySem.tupleKind_room_in1
def wA:=@PyProof.Rows.listUpdate_at
def wB:=@Ne.symm
def wC:=@PySem.W.methodCall_KW
def wD:=@List.map_nil
def wF:=@Nat.succ_mul
def wG:=@List.length_nil
def wH:=@List.getElem?_eq_none
def xT:=@Nat.not_lt
def yU:=@List.getElem?_of_mem
def AX:=@List.take_succ
def A5:=@PySem.W.plainGet_of
def A6:=@PySem.W.callWith_K0
def A7:=@List.toList_toArray
def Dn:=@PySem.codeAny_mono
def Dp:=@PySem.Heap.get?_update_self
def EF:=@PySem.wpAny_call
def FX:=@beq_iff_eq
def FY:=@PySem.Calls.evalArgs_plain
def FZ:=@Option.isSome_map
def F6:=@List.take_add_one
def F9:=@Classical.not_not
def Ga:=@Nat.le_succ_of_le
def Gb:=@PySem.codeAny_call_builtin
def IA:=@PySem.Heap.get?_update_ne
def IB:=@PySem.wpAny_field
def Le:=@Array.getD_eq_getD_getElem?
def Lf:=@Array.Perm.refl
def Lg:=@PySem.wpAny_newList
def Lh:=@List.filter_map
def M3:=@PyProof.Rows.get?_update_seq
def NQ:=@PySem.plainObj_wpAny_Assign_Attribute
def NR:=@List.Perm.refl
def NS:=@List.mem_of_find?_eq_some
def NT:=@List.getElem?_append_left
def NU:=@PySem.F.excBase_Exception
def NV:=@List.drop_eq_getElem_cons
def NW:=@PyProof.Rows.boot_int
def QC:=@Option.isSome_iff_exists
def QD:=@PySem.F.slot_dict_values
open PySem.W (Frag findIn keepIn typeIn fnOf nsIn codeIn codeHdIn mg_of mg_none_of specialIn readsIn findCls makesIn hasDictIn plainGet plainOver)
namespace PySem.W.Fast
def tw13898608588507150910:=0
def tw7968876205184608793:=0
def tw5962608537928016392:=0
def tw9003325551022284633:=0
def tw17809628302376435915:=0
def tw6154484249102325140:=0
def tw13920877801253590112:=0
def tw4720735010777665951:=0
def tw18396585741845314572:=0
def tw4102237826005855224:=0
def tw12494198686627622728:=0
def tw2731868507430054096:=0
def tw1118283620093819726:=0
def tw14205502990062813972:=0
def tw7607769804996705105:=0
def tw15430732304171390282:=0
def tw10007398466123601476:=0
def tw16406029799992214659:=0
def tw17836508720315958772:=0
def tw5833461353845014054:=0
def tw14516463793770886622:=0
def tw6194328723376715228:=0
def tw3972078243511461851:=0
def tw11162832392630752338:=0
def tw14711032019884711676:=0
def tw15952051630442228405:=0
def tw3870111194374891323:=0
def tw8116694935660318475:=0
def tw15594551990037577705:=0
def tw13589266214901287884:=0
def tw2921036693884376786:=0
def tw16096223722616354827:=0
def tw6583325458350519579:=0
def tw10972371903743983945:=0
def tw15868487931226730163:=0
def tw6864031944977360656:=0
def tw13327551066636365046:=0
def tw6503497761341679212:=0
def tw5850302204272565764:=0
def tw12743915690994368602:=0
def tw928641443082021159:=0
def tw17427659086423579956:=0
def tw7490379872402410332:=0
def tw14140146505402620115:=0
def tw2781104809259922440:=0
def tw17047849748605469512:=0
def tw14355677876761385534:=0
def tw11545232244581565019:=0
def tw18055705536791843030:=0
def tw17668702660517738121:=0
def tw13520373486638888682:=0
def tw11987071673356341964:=0
def tw4198714355890738631:=0
def tw3473966805803068796:=0
def tw4317015610681843574:=0
def tw7399479028936668743:=0
def tw9011309122448736747:=0
def tw6726101675724703179:=0
def tw1281759563949136337:=0
def tw7954275095194103691:=0
def tw14652085541189228646:=0
def tw8804281566812529684:=0
def tw8885018383717270893:=0
def tw13096399525026062394:=0
def tw3467616603411751131:=0
def tw16134953076496558296:=0
def tw13401579766800674600:=0
def tw13489307422286042463:=0
def tw4517891147550501525:=0
def tw14657170011251460083:=0
def tw16911921075405660336:=0
def tw7656292853617007641:=0
def tw4436603539535677329:=0
def tw4093551068249609056:=0
def tw12041239689557046348:=0
def tw3196938502674743855:=0
def tw6462972953298716615:=0
def tw6567406467630798562:=0
def tw53108440808935463:=0
def tw4870215495609273207:=0
def tw8335220447437457935:=0
def tw6456871435247618811:=0
def tw5267850601683859045:=0
def tw3016707960096911093:=0
def tw14061045321447725360:=0
def tw16646796399679290101:=0
def tw15886868877105623536:=0
def tw14409647513132796478:=0
def tw15143081263550698212:=0
def tw14971617069334589642:=0
def tw6830677442126151507:=0
def tw10377906109275656025:=0
def tw10671173497934501528:=0
def tw10077351260249541727:=0
def tw9998698100223239644:=0
def tw6207698752535736698:=0
def tw12438916562270008574:=0
def tw13980301462957703209:=0
def tw17531541347592223909:=0
def tw47034908070763053:=0
def tw12581736162047410568:=0
def tw6765775527196485357:=0
def tw3154953835448481764:=0
def tw10748945286116779521:=0
def tw17801499923089100027:=0
def tw6451085177456427481:=0
def tw2705169398851453463:=0
def tw9003856681803458:=0
def tw2851046755579428975:=0
def tw13122975531174099655:=0
def tw13140917085397003241:=0
def tw17063458106821287262:=0
def tw6203814202543238856:=0
def tw12215543845746153587:=0
def tw2923297411503611251:=0
def tw10260443030177362533:=0
def tw10919800211232500287:=0
def tw8699649803704674920:=0
def tw4589627807895684520:=0
def tw4132943125103056118:=0
def tw15937507156083221621:=0
def tw17704177554439253145:=0
def tw9108863732547388940:=0
def tw15812158981805981908:=0
def tw8277832796408471270:=0
def tw6798279973689240854:=0
def tw17992611882819566094:=0
def tw13200071393739576964:=0
def tw3612583267966406879:=0
def tw12752357686978861323:=0
def tw886843683073540281:=0
def tw3635111312941830300:=0
def tw5575572374204393279:=0
def tw331934386988257623:=0
def tw11029892570062993456:=0
def tw1348262801268440221:=0
def tw3409707193800029461:=0
def tw12094031298455442094:=0
def tw4457535477416671818:=0
def tw6813986525752224139:=0
def tw15829469898866195599:=0
def tw9735367875704039282:=0
def tw5239862572979904253:=0
def tw1097788763728066311:=0
def tw11934000691655557316:=0
def tw13914022829154889387:=0
def tw11755030687164839391:=0
def tw12484275337793779276:=0
def tw13898370340091923418:=0
def tw16542607946248593993:=0
def tw919645993904641943:=0
def tw12500663147173171926:=0
def tw17478439411615051534:=0
def tw87570845771460592:=0
def tw6967656543583031400:=0
def tw16686120574936131930:=0
def tw2180589886077539568:=0
def tw7179893188869197496:=0
def tw11961421775644095116:=0
def tw11635064333615238301:=0
def tw13844518580924179615:=0
def tw11793901201648858377:=0
def tw14901057825224458913:=0
def tw17584289205746398747:=0
def tw5852994694387332466:=0
def tw10259517291030855459:=0
def tw14392923495479253929:=0
def tw9659102557232630478:=0
def tw7071245903726848291:=0
def tw12980803404440188335:=0
def tw1385474319090138597:=0
def tw7515519797598901628:=0
def tw4936887355039126566:=0
def tw11295948710489710935:=0
def tw7016329239610127529:=0
def tw14691475240731548475:=0
def tw4018898729043778531:=0
def tw7962744359039913381:=0
def tw924554641632636525:=0
def tw17888416718482589053:=0
def tw11233615637370358483:=0
def tw6372612602035261975:=0
def tw8129973975194050180:=0
def tw3887225798216370906:=0
def tw13324387283177923904:=0
def tw6528310500850538742:=0
def tw16239131750025748304:=0
def tw5170170525306041790:=0
def tw11706989878285570500:=0
def tw1141359165582856285:=0
def tw17855784469980363642:=0
def tw17938777467611011938:=0
def tw13338485372266765307:=0
def tw15110733485949358794:=0
def tw17227740593191062063:=0
def tw11828345766284956184:=0
def tw14047478205280114249:=0
def tw13508315105638606778:=0
def tw236271138765266833:=0
def tw17316336148901495069:=0
def tw10213597762438151931:=0
def tw1105196549586215276:=0
def tw3864890164354136940:=0
def tw1912367256119232751:=0
def tw4614289344034479085:=0
def tw17422478202229795984:=0
def tw16687154337793262059:=0
def tw3568096105306269937:=0
def tw12053335665947721014:=0
def tw14598843815756228389:=0
def tw1085270173320149289:=0
def tw12354305154361760063:=0
def tw16721038480759695859:=0
def tw16543166825525659565:=0
def tw6037082507257665500:=0
def tw13087400360978142982:=0
def tw2534541598596319704:=0
def tw11911970459712820880:=0
def tw4849332925470884293:=0
def tw9598854447886589661:=0
def tw16368309251017824171:=0
def tw8491985247140032527:=0
def tw1121573012430451211:=0
def tw14972982402226448019:=0
def tw17032409447223364766:=0
def tw2641460421118469130:=0
def tw16950163440306743607:=0
def tw10643257079831915584:=0
def tw11811188166860739757:=0
def tw7235238507708609678:=0
def tw8431492373148980166:=0
def tw17324668928413846399:=0
def tw452658264806500521:=0
def tw16878619519123894037:=0
def tw17581417230131429748:=0
end PySem.W.Fast
namespace L2
open PySem PySem.Spec PyProof.Rows
abbrev Key:=Sum Int Str
def xU:Key->Value->Bool
 | .inl k,v=>Value.isInt k v
 | .inr x,v=>Value.isStrOf x v
def V0 (w:World):Key->Int
 | .inl k=>hashInt k
 | .inr x=>hashStr w x
theorem fz: ∀{k:Key} {v:Value},xU k v=true->(∃i t,k=Sum.inl i/\v=Value.int i t)∨(∃x t,k=Sum.inr x/\v=Value.str x t)
 | .inl i,v,h=>by
  obtain⟨t,e⟩:=Value.isInt_shape (k:=i) (v:=v) h
  exact .inl ⟨i,t,rfl,e⟩
 | .inr x,v,h=>by
  obtain⟨t,e⟩:=Value.isStrOf_shape (x:=x) (v:=v) h
  exact .inr ⟨x,t,rfl,e⟩
theorem Gd (i:Int)(t:Tok):xU (.inl i) (.int i t)=true:=by simp[xU,Value.isInt]
theorem Ge (x:Str)(t:Tok):xU (.inr x) (.str x t)=true:=by simp[xU,Value.isStrOf]
theorem NX (a b:Int):decide ((Sum.inl a:Key)=Sum.inl b)=(a == b):=by
 by_cases e:a=b
 ·subst e; simp
 ·have h: ¬ (Sum.inl a:Key)=Sum.inl b:=fun q=>e (Sum.inl.inj q)
  rw[ba h]
  exact(g6.mpr e).symm
theorem NY (a b:Str):decide ((Sum.inr a:Key)=Sum.inr b)=decide (a=b):=by
 by_cases e:a=b
 ·subst e; simp
 ·have h: ¬ (Sum.inr a:Key)=Sum.inr b:=fun q=>e (Sum.inr.inj q)
  rw[ba h,ba e]
theorem NZ (a:Int)(b:Str):decide ((Sum.inl a:Key)=Sum.inr b)=false:=ba (fun q=>nomatch q)
theorem N0 (a:Str)(b:Int):decide ((Sum.inr a:Key)=Sum.inl b)=false:=ba (fun q=>nomatch q)
def d8 (prog:Program)(w:World):PySem.KeyKind prog w Key where
 is:=xU
 hash:=V0 w
 inj:=fun v a b ha hb=>by
  rcases fz ha with⟨i,t,rfl,rfl⟩|⟨x,t,rfl,rfl⟩
  ·rcases fz hb with⟨j,u,rfl,e⟩|⟨y,u,rfl,e⟩
   ·injection e with e1 _; rw[e1]
   ·exact nomatch e
  ·rcases fz hb with⟨j,u,rfl,e⟩|⟨y,u,rfl,e⟩
   ·exact nomatch e
   ·injection e with e1 _; rw[e1]
 byValue:=fun k v h=>by
  rcases fz h with⟨i,t,rfl,rfl⟩|⟨x,t,rfl,rfl⟩ <;> rfl
 pyHash:=fun hv h=>by
  rcases fz hv with⟨i,t,rfl,rfl⟩|⟨x,t,rfl,rfl⟩
  ·exact wpAny_pyHash_int h
  ·exact wpAny_pyHash_str h
 eqBool:=fun hu hv h=>by
  rcases fz hu with⟨i,t,rfl,rfl⟩|⟨x,t,rfl,rfl⟩
  ·rcases fz hv with⟨j,u,rfl,rfl⟩|⟨y,u,rfl,rfl⟩
   ·rw[NX] at h; exact wpAny_eqBool_int h
   ·rw[NZ] at h; exact SeqAt.EqAt.int_str i t y u _ _ _ _ h
  ·rcases fz hv with⟨j,u,rfl,rfl⟩|⟨y,u,rfl,rfl⟩
   ·rw[N0] at h; exact SeqAt.EqAt.str_int x t j u _ _ _ _ h
   ·rw[NY] at h; exact wpAny_eqBool_str h
 «strs»:=fun k x t v h=>by
  rcases fz h with⟨i,u,rfl,e⟩|⟨y,u,rfl,e⟩
  ·exact nomatch e
  ·injection e with e1 _
   subst e1
   cases v <;> rfl
theorem A8 (prog:Program)(w:World)(i:Int)(t:Tok):(d8 prog w).is (.inl i) (.int i t)=true:=Gd i t
theorem A9 (prog:Program)(w:World)(x:Str)(t:Tok):(d8 prog w).is (.inr x) (.str x t)=true:=Ge x t
inductive V where
 |eD|bl (b:Bool)|int (i:Int)|str (x:Str)|Gf (b:Array UInt8)|Li (b:UInt64)|ref (a:Addr)|ty (n:String)
 deriving DecidableEq
def RelV:V->Value->Prop
 | .eD,u=>u=Value.none
 | .bl b,u=>u=Value.bool b
 | .int i,u=> ∃t,u=Value.int i t
 | .str x,u=> ∃t,u=Value.str x t
 | .Gf b,u=> ∃t,u=Value.bytes b t
 | .Li b,u=> ∃t,u=Value.float b t
 | .ref a,u=>u=Value.ref a
 | .ty n,u=>u=Value.type n
abbrev Vals:List V->List Value->Prop:=Paired RelV
theorem Vals.length {xs:List V}{us:List Value}(r:Vals xs us):xs.length=us.length:=aL r
theorem Vals.get: ∀{xs:List V} {us:List Value} {i:Nat} {x:V},Vals xs us->xs[i]? =some x-> ∃u,us[i]? =some u/\RelV x u
 |_,_,_,_,.nil,e=>by simp at e
 |_,_,0,_,.cons r _,e=>by simp at e; subst e; exact⟨_,rfl,r⟩
 |_,_,i + 1,x,.cons _ t,e=>by
  obtain⟨u,h1,h2⟩:=Vals.get (i:=i) (x:=x) t (by simpa using e)
  exact⟨u,by simpa using h1,h2⟩
theorem Vals.set {x:V}{u:Value}(r:RelV x u): ∀{xs:List V} {us:List Value} (i:Nat),Vals xs us->Vals (xs.set i x) (us.set i u)
 |_,_,_,.nil=> .nil
 |_,_,0,.cons _ t=> .cons r t
 |_,_,i + 1,.cons q t=> .cons q (Vals.set r i t)
theorem Vals.append: ∀{xs ys:List V} {us ws:List Value},Vals xs us->Vals ys ws->Vals (xs ++ ys) (us ++ ws)
 |_,_,_,_,.nil,s=>s
 |_,_,_,_,.cons r t,s=> .cons r (Vals.append t s)
theorem Vals.take: ∀{xs:List V} {us:List Value} (n:Nat),Vals xs us->Vals (xs.take n) (us.take n)
 |_,_,0,_=> .nil
 |_,_,_ + 1,.nil=> .nil
 |_,_,n + 1,.cons r t=> .cons r (Vals.take n t)
theorem Vals.drop: ∀{xs:List V} {us:List Value} (n:Nat),Vals xs us->Vals (xs.drop n) (us.drop n)
 |_,_,0,r=>r
 |_,_,_ + 1,.nil=> .nil
 |_,_,n + 1,.cons _ t=>Vals.drop n t
theorem Vals.none_of: ∀{xs:List V} {us:List Value} {i:Nat},Vals xs us->xs[i]? =none->us[i]? =none:=fun{xs us i} r e=>by
 have h1:=r.length
 have h2:xs.length<=i:=qt.mp e
 exact qt.mpr (by lia)
def lx:Option V->Option Value->Prop
 |some v,some u=>RelV v u
 |none,none=>True
 |_,_=>False
def KV {κ:Type}:List (κ×V)->List (κ×Value)->Prop:=Paired fun(p:κ×V) (q:κ×Value)=>p.1=q.1/\RelV p.2 q.2
def kV:Key->V
 | .inl i=> .int i
 | .inr x=> .str x
inductive HO where
 |lst (xs:List V)
 |tup (xs:List V)
 |dK (bg:List (Key×V))|dT (bg:List (List Key×V))
 |set (S:Int->Bool) (n:Nat)
 |ins (C dx:Addr) (fs:List (Str×V))
 |own (x:Addr)
 |xd (fs:List (Str×V))
 |met (f x:Addr)
 |V3 (lo hi:Int)
 |Dc (o:Obj) (u:HO)
 |mO (ps:Array Value)
 |ext (φ:Heap->Prop)
abbrev Hp:=Addr->Option HO
def upd (H:Hp)(a:Addr)(o:HO):Hp:=fun b=>if b=a then some o else H b
theorem ag {H:Hp}{a:Addr}{o:HO}:upd H a o a=some o:=by unfold upd; rw[if_pos rfl]
theorem aA {H:Hp}{a b:Addr}{o:HO}(h:b≠a):upd H a o b=H b:=by unfold upd; rw[if_neg h]
theorem mx {H:Hp}{a b:Addr}{o u:HO}(h:H a=some o)(h':H b=some u)(d:o≠u):a≠b:=by
 intro e; subst e; rw[h] at h'; exact d (aD h')
theorem aK {H:Hp}{a b:Addr}{o:HO}(h:H a=some o)(h':H b=none):a≠b:=by
 intro e; subst e; rw[h] at h'; cases h'
section
variable (P:Program)(w:World)
def dE (H:Hp)(h:Heap)(a:Addr):HO->Prop
 | .lst xs=>xs.length<=sizeLine/\ ∃(b0:List Value) (n:Nat),Vals xs b0/\h.get? a=some {cls:= .type "list",data:= .seq b0.toArray n}
 | .tup xs=>xs.length<=sizeLine/\ ∃b0:List Value,Vals xs b0/\IsTup h a b0.toArray
 | .dK bg=>bg.length<=sizeLine/\(a == sysModules)=false/\ ∃vs,KV bg vs/\h.DictOf (d8 P w) a vs
 | .dT bg=>bg.length<=sizeLine/\(a == sysModules)=false/\ ∃xs:List (List Key×Addr×Value),
   Paired (fun(p:List Key×V) (q:List Key×Addr×Value)=>p.1=q.1/\H q.2.1=some (.tup (p.1.map kV))/\RelV p.2 q.2.2) bg xs/\
   ∃o es ep,h.get? a=some o/\o.ExactDict/\o.data= .dict es ep/\es.toList=xs.map (entryOfKey (tupleKind (d8 P w)))/\(xs.map (·.1)).Nodup
 | .set S n=>h.SetOf (intKind P w) a S n
 | .ins C dx fs=>H dx=some (.own a)/\fs.length<=1000/\dx≠a/\h.get? a=some (PySem.W.instObj C dx)/\
   ∃mA,h.Ns1 dx mA/\(∀f,lx (fs.lookup f) (mA f))/\PySem.Within mA (fs.map (·.1))
 | .own _=> ∃o,h.get? a=some o
 | .xd fs=> ∃mA,h.Ns1 a mA/\ ∀f,lx (fs.lookup f) (mA f)
 | .V3 lo hi=> ∃t u v,h.get? a=some {cls:= .type "range",data:= .fields #[.int lo t,.int hi u,.int 1 v]}
 | .Dc o u=>h.get? a=some o/\dE H h a u
 | .mO ps=>h.get? a=some {cls:= .none,data:= .fields ps}
 | .met f x=>h.get? a=some (PySem.W.methodObj (.ref f) (.ref x))
 | .ext φ=>φ h/\(∃o,h.get? a=some o)/\ ∀h1 h2:Heap,φ h1->(∀o,h1.get? a=some o->h2.get? a=some o)->φ h2
def oC (H:Hp)(h:Heap):Prop:= ∀a o,H a=some o->dE P w H h a o
end
section
variable {P:Program}{w:World}{H H':Hp}{h h':Heap}{a:Addr}{o:HO}
theorem dE.lt (x:dE P w H h a o):a < h.objs.size:=by
 cases o with
 |lst xs=>obtain⟨_,_,_,_,e⟩:=x; exact aN e
 |tup xs=>obtain⟨_,_,_,p⟩:=x; exact p.lt
 |dK bg=>obtain⟨_,_,_,_,o,_,_,e,_⟩:=x; exact aN e
 |dT bg=>obtain⟨_,_,_,_,o,_,_,e,_⟩:=x; exact aN e
 |set S n=>obtain⟨o,_,_,_,e,_⟩:=x; exact aN e
 |ins C dx fs=>obtain⟨_,_,_,e,_⟩:=x; exact aN e
 |own y=>obtain⟨_,e⟩:=x; exact aN e
 |xd fs=>obtain⟨_,⟨_,_,_,e,_⟩,_⟩:=x; exact aN e
 |V3 lo hi=>obtain⟨_,_,_,e⟩:=x; exact aN e
 |Dc ob u=>obtain⟨e,_⟩:=x; exact aN e
 |mO ps=>exact aN (show h.get? a=some _ from x)
 |met f y=>exact aN (show h.get? a=some _ from x)
 |ext φ=>obtain⟨_,⟨_,e⟩,_⟩:=x; exact aN e
theorem Paired.iD {α β:Type}{F G:α->β->Prop}: ∀{l₁:List α} {l₂:List β},Paired F l₁ l₂->(∀a b,F a b->G a b)->Paired G l₁ l₂
 |_,_,.nil,_=> .nil
 |_,_,.cons r t,f=> .cons (f _ _ r) (Paired.iD t f)
theorem dE.tT (x:dE P w H h a o)(k: ∀b u,(b=a∨H b=some (.own a))->h.get? b=some u->h'.get? b=some u)
  (ho: ∀b,H b=some (.own a)->H' b=some (.own a)) (ht: ∀b xs,H b=some (.tup xs)->H' b=some (.tup xs)):dE P w H' h' a o:=by
 induction o with
 |lst xs=>obtain⟨z,b0,n,r,e⟩:=x; exact⟨z,b0,n,r,k _ _ (.inl rfl) e⟩
 |tup xs=>obtain⟨z,b0,r,ob,e,c⟩:=x; exact⟨z,b0,r,ob,k _ _ (.inl rfl) e,c⟩
 |dK bg=>obtain⟨z,y,vs,r,ob,es,ep,e,c⟩:=x; exact⟨z,y,vs,r,ob,es,ep,k _ _ (.inl rfl) e,c⟩
 |dT bg=>
  obtain⟨z,y,xs,r,ob,es,ep,e,c⟩:=x
  exact⟨z,y,xs,Paired.iD r fun p q z=>⟨z.1,ht _ _ z.2.1,z.2.2⟩,ob,es,ep,k _ _ (.inl rfl) e,c⟩
 |set S n=>obtain⟨ob,es,ep,t,e,c⟩:=x; exact⟨ob,es,ep,t,k _ _ (.inl rfl) e,c⟩
 |ins C dx fs=>
  obtain⟨d,z,ne,e,mA,⟨od,es,ep,e2,c⟩,r⟩:=x
  exact⟨ho _ d,z,ne,k _ _ (.inl rfl) e,mA,⟨od,es,ep,k _ _ (.inr d) e2,c⟩,r⟩
 |own y=>obtain⟨ob,e⟩:=x; exact⟨ob,k _ _ (.inl rfl) e⟩
 |xd fs=>obtain⟨mA,⟨od,es,ep,e,c⟩,r⟩:=x; exact⟨mA,⟨od,es,ep,k _ _ (.inl rfl) e,c⟩,r⟩
 |V3 lo hi=>obtain⟨t,u,v,e⟩:=x; exact⟨t,u,v,k _ _ (.inl rfl) e⟩
 |Dc ob u ih=>obtain⟨e,q⟩:=x; exact⟨k _ _ (.inl rfl) e,ih q⟩
 |mO ps=>
  have e:h.get? a=some {cls:= .none,data:= .fields ps}:=x
  show h'.get? a=some {cls:= .none,data:= .fields ps}
  exact k a _ (.inl rfl) e
 |met f y=>
  have e:h.get? a=some (PySem.W.methodObj (.ref f) (.ref y)):=x
  show h'.get? a=some (PySem.W.methodObj (.ref f) (.ref y))
  exact k a _ (.inl rfl) e
 |ext φ=>obtain⟨p,⟨o,e⟩,st⟩:=x; exact⟨st _ _ p fun o q=>k _ _ (.inl rfl) q,⟨o,k _ _ (.inl rfl) e⟩,st⟩
theorem oC.lt (x:oC P w H h)(e:H a=some o):a < h.objs.size:=(x a o e).lt
theorem oC.fresh (x:oC P w H h)(e:h.objs.size<=a):H a=none:=by
 cases q:H a with
 |none=>rfl
 |some u=>exact absurd (bo (x.lt q) e) (iW _)
theorem oC.kept (x:oC P w H h)(k: ∀b u,h.get? b=some u->h'.get? b=some u):oC P w H h':=fun a o e=>
 (x a o e).tT (fun b u _ q=>k b u q) (fun _ q=>q) fun _ _ q=>q
theorem oC.laid (x:oC P w H h)(k: ∀b u,h.get? b=some u->h'.get? b=some u)(hp:h.objs.size<=a)(new:dE P w (upd H a o) h' a o):oC P w (upd H a o) h':=fun b u e=>by
 have hn:=x.fresh hp
 by_cases hb:b=a
 ·subst hb; rw[ag] at e; cases e; exact new
 ·rw[aA hb] at e
  exact(x b u e).tT (fun c v _ q=>k c v q) (fun c q=>by rw[aA (aK q hn)]; exact q) fun c xs q=>by rw[aA (aK q hn)]; exact q
end
def Rd (H:Hp)(a:Addr)(u:HO):Prop:=H a=some u∨ ∃o,H a=some (.Dc o u)
theorem Rd.ok {P:Program}{w:World}{H:Hp}{h:Heap}{a:Addr}{u:HO}(r:Rd H a u)(x:oC P w H h):dE P w H h a u:=by
 rcases r with r|⟨o,r⟩
 ·exact x a u r
 ·obtain⟨_,q⟩:=x a _ r
  exact q
def Rl:Option HO->Prop
 |some (.lst _)=>True
 |some (.dK _)=>True
 |some (.dT _)=>True
 |some (.set _ _)=>True
 |some (.ins _ _ _)=>True
 |some (.ext _)=>True
 |_=>False
section
variable {P:Program}{w:World}{H:Hp}{h h':Heap}{x e:Addr}{o':HO}
theorem oC.write (ok:oC P w H h)(mu:Rl (H x))(he:e=x∨H e=some (.own x))(k: ∀b u,b≠e->h.get? b=some u->h'.get? b=some u)(QE: ∃u,h'.get? e=some u)
  (new:dE P w (upd H x o') h' x o'):oC P w (upd H x o') h':=fun b u q=>by
 have Rm: ∀c y,H c=some (.own y)->c≠x:=fun c y r z=>by subst z; rw[r] at mu; exact mu
 have V4: ∀c xs,H c=some (.tup xs)->c≠x:=fun c xs r z=>by subst z; rw[r] at mu; exact mu
 by_cases hb:b=x
 ·subst hb; rw[ag] at q; cases q; exact new
 ·rw[aA hb] at q
  by_cases N1:b=e
  ·have q':H b=some (.own x):=by
    rcases he with z|z
    ·exact absurd (N1.trans z) hb
    ·rw[N1]; exact z
   rw[q] at q'; cases q'
   obtain⟨v,hv⟩:=QE
   exact⟨v,by rw[N1]; exact hv⟩
  ·refine(ok b u q).tT (fun c v hc r=>k c v ?_ r) (fun c r=>by rw[aA (Rm c b r)]; exact r) fun c xs r=>by rw[aA (V4 c xs r)]; exact r
   rcases hc with rfl|hc
   ·exact N1
   ·rintro rfl
    rcases he with z|z
    ·exact Rm c b hc z
    ·rw[hc] at z; cases z; exact hb rfl
end
structure Un (fs ex:List Addr)(H H':Hp)(h h':Heap):Prop where
 keep: ∀b o,h.get? b=some o->H b=none->b∉fs->b∉ex->h'.get? b=some o
 slot: ∀b o,h.get? b=some o->H b=none->b∈fs->b∉ex-> ∃sl,h'.get? b=some {o with slots:=sl}
 free: ∀b o,h.get? b=some o->H b=none->b∉ex->H' b=none
 there: ∀b o,h.get? b=some o->b∉ex-> ∃o',h'.get? b=some o'
 qw: ∀b xs,H b=some (.tup xs)->H' b=some (.tup xs)
 pE: ∀b o u,H b=some (.Dc o u)->H' b=some (.Dc o u)
 pF: ∀b ps,H b=some (.mO ps)-> ∃more,H' b=some (.mO (ps ++ more))
section
variable {fs fs' ex ex':List Addr}{H H1 H2:Hp}{h h1 h2 h':Heap}{a x e:Addr}{o:HO}
theorem Un.any (u:Un fs ex H H1 h h1){b:Addr}{ob:Obj}(q:h.get? b=some ob)(n:H b=none)(hx:b∉ex): ∃sl,h1.get? b=some {ob with slots:=sl}:=by
 by_cases hb:b∈fs
 ·exact u.slot b ob q n hb hx
 ·exact⟨ob.slots,u.keep b ob q n hb hx⟩
theorem Un.kept (k: ∀b u,h.get? b=some u->h'.get? b=some u):Un fs ex H H h h':=
 ⟨fun b ob q _ _ _=>k b ob q,fun b ob q _ _ _=>⟨ob.slots,k b ob q⟩,fun _ _ _ n _=>n,fun b ob q _=>⟨ob,k b ob q⟩,fun _ _ q=>q,fun _ _ _ q=>q,fun _ ps q=>⟨#[],by rw[q]; simp⟩⟩
theorem Un.refl:Un fs ex H H h h:=Un.kept fun _ _ q=>q
theorem Un.laid (k: ∀b u,h.get? b=some u->h'.get? b=some u)(hp:h.objs.size<=a)(hn:H a=none):Un fs ex H (upd H a o) h h' where
 keep:=fun b u q _ _ _=>k b u q
 slot:=fun b u q _ _ _=>⟨u.slots,k b u q⟩
 free:=fun b u q n _=>by rw[aA (a8 (bo (aN q) hp))]; exact n
 there:=fun b u q _=>⟨u,k b u q⟩
 qw:=fun b xs q=>by rw[aA (aK q hn)]; exact q
 pE:=fun b u xs q=>by rw[aA (aK q hn)]; exact q
 pF:=fun b ps q=>⟨#[],by rw[aA (aK q hn),q]; simp⟩
theorem Un.write (mu:Rl (H x))(he:e=x∨H e=some (.own x))(k: ∀b u,b≠e->h.get? b=some u->h'.get? b=some u)(QE: ∃u,h'.get? e=some u):Un fs ex H (upd H x o) h h':=by
 have hx: ∀b,H b=none->b≠x:=fun b n z=>by subst z; rw[n] at mu; exact mu
 have hb: ∀b,H b=none->b≠e:=fun b n z=>by
  subst z
  rcases he with r|r
  ·exact hx b n r
  ·rw[n] at r; cases r
 have hm: ∀b u,H b=some u-> ¬ Rl (some u)->b≠x:=fun b u q nm z=>by subst z; rw[q] at mu; exact nm mu
 refine⟨fun b u q n _ _=>k b u (hb b n) q,fun b u q n _ _=>⟨u.slots,k b u (hb b n) q⟩,fun b u q n _=>by rw[aA (hx b n)]; exact n,fun b u q _=>?_,
  fun b xs q=>by rw[aA (hm b _ q fun z=>z)]; exact q,fun b u xs q=>by rw[aA (hm b _ q fun z=>z)]; exact q,fun b ps q=>⟨#[],by rw[aA (hm b _ q fun z=>z),q]; simp⟩⟩
 by_cases N1:b=e
 ·subst N1; exact QE
 ·exact⟨u,k b u N1 q⟩
end
def U2 (h:Heap)(H:Hp):List Addr:=(List.range h.objs.size).filter fun a=>(H a).isSome
def wI (h:Heap)(H:Hp):Heap:=PySem.W.hideAll h (U2 h H)
theorem Gg (h:Heap)(H:Hp):(wI h H).objs.size=h.objs.size:=PySem.W.hideAll_size _ _
theorem IC {h:Heap}{H:Hp}{b:Addr}{o:Obj}(e:h.get? b=some o)(n:H b=none):(wI h H).get? b=some o:=
 PySem.W.hideAll_get _ e fun hm=>by
  have q:(H b).isSome=true:=(dM.mp hm).2
  rw[n] at q; simp at q
theorem Lj {h:Heap}{H:Hp}{b:Addr}{o:Obj}(e:(wI h H).get? b=some o):h.get? b=some o/\H b=none:=by
 have e':h.get? b=some o:=PySem.W.of_hideAll (U2 h H) e
 refine⟨e',?_⟩
 cases q:H b with
 |none=>rfl
 |some x=>
  have hm:b∈U2 h H:=List.mem_filter.mpr ⟨List.mem_range.mpr (Heap.lt_size e'),by simp[q]⟩
  have z:(wI h H).get? b=none:=PySem.W.hideAll_none (U2 h H) hm
  rw[z] at e; cases e
structure Mod (K:Frag)(mg:Str->Option Value)(base:Heap):Prop where
 Lk:K.In base
 glob:base.Ns mainGlobals mg
 blt: ∃mb,base.Ns builtinsNs mb/\ ∀x:Str,x≠"__name__"->mb x=bootBuiltins x
 nolimit:base.NoLimit
structure Cx where
 prog:Program
 w:World
 K:Frag
 mg:Str->Option Value
 base:Heap
 A:Around
 N:List Str
 s₀:Shared
 H₀:Hp
 env:Env
 outer:List Env
 stack:List Env
 ex:List Addr
 fn:Str->Bool
 calm:Bool
 pn:List (Addr×Obj)
 xe:Value->Shared->Prop
def Dq (l:List Env):List Addr:=l.filterMap (·.frame)
abbrev Cx.fs (X:Cx):List Addr:=Dq X.outer
def Rn (sc:Scope)(x:Str):Prop:=sc.names.lookup x=some .local∨sc.names.lookup x=some .cell∨sc.names.lookup x=some .free
def Loc (sc:Scope)(x:Str):Prop:=sc.names.lookup x=some .local∨sc.names.lookup x=some .cell
def Look (env:Env)(h:Heap)(m:Str->Option Value)(x:Str)(u:Value):Prop:=
 (env.kindOf x=some .local/\m x=some u)∨((env.kindOf x=some .cell∨env.kindOf x=some .free)/\ ∃c,env.cells.lookup x=some c/\h.IsCell c (some u))
structure Cx.Ok (X:Cx):Prop where
 mod:Mod X.K X.mg X.base
 kind:X.env.scope.kind= .function
 glob:X.env.globals=mainGlobals
 blt:X.env.builtins=builtinsNs
 above:X.s₀.heap.objs.size<=X.env.locals
 inj: ∀x y c,X.env.cells.lookup x=some c->X.env.cells.lookup y=some c->x=y
 has: ∀x,(X.env.kindOf x=some .cell∨X.env.kindOf x=some .free)-> ∃c,X.env.cells.lookup x=some c
 KU: ∀x c,X.fn x=true->X.env.cells.lookup x=some c->X.s₀.heap.objs.size<=c
 hd:X.calm=true->X.A.handled=none
 frames:X.A.frames=some X.stack
 Il:X.stack=X.outer∨(X.stack=X.env :: X.outer/\X.env.frame=some X.env.locals)
 Ll: ∀b∈X.ex,b≠X.env.locals/\ ∀x c,X.env.cells.lookup x=some c->c≠b
 bs: ∀b o,X.base.get? b=some o->X.s₀.heap.get? b=some o/\X.H₀ b=none
 Ba:X.base.objs.size<=X.s₀.heap.objs.size
 wJ: ∀b o,X.base.get? b=some o->b∉X.ex
 wK: ∀b∈X.ex,b∉X.fs
 lY:X.s₀.heap.FunFrames X.base X.outer
 EG: ∀b∈X.fs,X.H₀ b=none
structure Inv (X:Cx)(pins:List (Addr×Obj))(σ:List (Option V))(H:Hp)(s:Shared):Prop where
 ok:X.Ok
 os:s.os=X.s₀.os
 bare:AllBare s.gens
 base:Un X.fs X.ex X.H₀ H X.s₀.heap s.heap
 loc: ∃m,s.heap.Ns X.env.locals m/\ ∀(i:Nat) (x:Str) (v:V),X.N[i]? =some x->σ[i]? =some (some v)->Rn X.env.scope x-> ∃u,RelV v u/\Look X.env s.heap m x u
 cell: ∀x c,X.env.cells.lookup x=some c-> ∃v,s.heap.IsCell c v
 free:H X.env.locals=none
 iS: ∀x c,X.env.cells.lookup x=some c->H c=none
 pin: ∀p∈X.pn ++ pins,s.heap.get? p.1=some p.2/\H p.1=none/\p.1≠X.env.locals/\p.1∉X.fs/\ ∀v,p.2.data≠ .cell v
 cz:oC X.prog X.w H s.heap
 len:σ.length=X.N.length
section
variable {X:Cx}{pins:List (Addr×Obj)}{σ:List (Option V)}{H H':Hp}{s:Shared}{h':Heap}
theorem Cx.Ok.V5 (ok:X.Ok){b:Addr}{o:Obj}(e:X.base.get? b=some o):b∉X.fs:=fun hb=>by
 have:=(ok.lY.mem hb).1
 rw[e] at this; cases this
theorem Inv.bs (I:Inv X pins σ H s): ∀b o,X.base.get? b=some o->s.heap.get? b=some o/\H b=none:=fun b o e=>
 ⟨I.base.keep b o (I.ok.bs b o e).1 (I.ok.bs b o e).2 (I.ok.V5 e) (I.ok.wJ b o e),I.base.free b o (I.ok.bs b o e).1 (I.ok.bs b o e).2 (I.ok.wJ b o e)⟩
theorem Inv.bk (I:Inv X pins σ H s): ∀b o,X.base.get? b=some o->s.heap.get? b=some o:=fun b o e=>(I.bs b o e).1
theorem Inv.mod (I:Inv X pins σ H s):Mod X.K X.mg X.base:=I.ok.mod
theorem Inv.gY (I:Inv X pins σ H s):X.K.In s.heap:=I.ok.mod.Lk.keeps I.bk
theorem Inv.nolimit (I:Inv X pins σ H s):s.heap.NoLimit:=I.ok.mod.nolimit.keeps I.bk
theorem Inv.fr (I:Inv X pins σ H s): ∃m,Fr X.base X.env.locals s.heap m:=
 let⟨m,hn,_⟩:=I.loc
 ⟨m,hn,I.bk,a6 I.ok.Ba I.ok.above⟩
theorem Inv.lt (I:Inv X pins σ H s):X.env.locals < s.heap.objs.size:=let⟨_,hn,_⟩:=I.loc; hn.lt
theorem Inv.sz (I:Inv X pins σ H s):X.s₀.heap.objs.size<=s.heap.objs.size:=a6 I.ok.above (di I.lt)
theorem Inv.Gh (I:Inv X pins σ H s){a:Addr}(h:s.heap.objs.size<=a):a∉X.fs:=fun hb=>by
 obtain⟨_,o,ho,_⟩:=I.ok.lY.mem hb
 exact absurd (bo (aN ho) (a6 I.sz h)) (iW _)
theorem Inv.M4 (I:Inv X pins σ H s): ∀x c,X.env.cells.lookup x=some c->c≠X.env.locals:=fun x c e z=>by
 obtain⟨v,o,ho,hd⟩:=I.cell x c e
 obtain⟨m,⟨o',es,ep,Lm,Io,_⟩,_⟩:=I.loc
 rw[z,Lm] at ho; cases ho; rw[Io] at hd; cases hd
theorem Inv.lY (I:Inv X pins σ H s):s.heap.FunFrames X.base X.outer:=by
 have all: ∀(l:List Env),(∀b∈Dq l,b∈X.fs)->X.s₀.heap.FunFrames X.base l->s.heap.FunFrames X.base l:=by
  intro l
  induction l with
  |nil=>intro _ _; trivial
  |cons env r ih=>
   intro hs hl
   obtain⟨hk,⟨L,o,hf,hn,ho,hd⟩,hr⟩:=hl
   have hL:L∈X.fs:=hs L (by unfold Dq; rw[List.filterMap_cons,hf]; exact List.mem_cons_self)
   obtain⟨sl,e⟩:=I.base.slot L o ho (I.ok.EG L hL) hL fun z=>I.ok.wK L z hL
   exact⟨hk,⟨L,_,hf,hn,e,hd⟩,ih (fun b hb=>hs b (by unfold Dq; rw[List.filterMap_cons,hf]; exact List.mem_cons_of_mem _ hb)) hr⟩
 exact all X.outer (fun _ hb=>hb) I.ok.lY
theorem Inv.stack (I:Inv X pins σ H s):s.heap.FunFrames X.base X.stack:=by
 rcases I.ok.Il with e|⟨e,hf⟩
 ·rw[e]; exact I.lY
 ·rw[e]
  obtain⟨m,hn,_⟩:=I.loc
  refine .cons (by rw[I.ok.kind]; decide) hf hn ?_ I.lY
  exact Heap.get?_none_of_le (a6 I.ok.Ba I.ok.above)
theorem Inv.uH (I:Inv X pins σ H s): ∀b∈Dq X.stack,b∈X.env.locals :: X.fs:=fun b hb=>by
 rcases I.ok.Il with e|⟨e,hf⟩
 ·rw[e] at hb; exact aS _ hb
 ·rw[e] at hb
  unfold Dq at hb
  rw[List.filterMap_cons,hf] at hb
  exact hb
theorem Inv.qx (I:Inv X pins σ H s): ∀b∈Dq X.stack,H b=none:=fun b hb=>by
 rcases aw.mp (I.uH b hb) with e|hb
 ·rw[e]; exact I.free
 ·obtain⟨_,o,ho,_⟩:=I.ok.lY.mem hb
  exact I.base.free b o ho (I.ok.EG b hb) fun z=>I.ok.wK b z hb
theorem Inv.step {g':Array GenState}{t':Nat}{d':Drawn}{ch:List Addr}(I:Inv X pins σ H s)
  (Bb: ∀b∈ch,(b∈X.ex∨X.s₀.heap.objs.size<=b)/\b≠X.env.locals/\(∀x c,X.env.cells.lookup x=some c->c≠b)/\ ∀p∈X.pn ++ pins,p.1≠b)
  (keep: ∀b o,b≠X.env.locals->b∉X.fs->b∉ch->s.heap.get? b=some o->H b=none->h'.get? b=some o)
  (slot: ∀b o,b≠X.env.locals->b∈X.fs->b∉ch->s.heap.get? b=some o->H b=none-> ∃sl,h'.get? b=some {o with slots:=sl}) (free: ∀b o,b∉ch->s.heap.get? b=some o->H b=none->H' b=none)
  (there: ∀b o,b∉ch->s.heap.get? b=some o-> ∃o',h'.get? b=some o')
  (qw: ∀b xs,H b=some (.tup xs)->H' b=some (.tup xs)) (pE: ∀b o u,H b=some (.Dc o u)->H' b=some (.Dc o u)) (pF: ∀b ps,H b=some (.mO ps)-> ∃more,H' b=some (.mO (ps ++ more)))
  (ns: ∀m,s.heap.Ns X.env.locals m->h'.Ns X.env.locals m) (cz:oC X.prog X.w H' h') (hg:AllBare g'):
  Inv X pins σ H' {s with heap:=h',gens:=g',drawn:=d',toks:=t'}:=by
 have Zg: ∀b o,X.s₀.heap.get? b=some o->b≠X.env.locals:=fun b o e=>a8 (bo (aN e) I.ok.above)
 have U3: ∀b o,X.s₀.heap.get? b=some o->b∉X.ex->b∉ch:=fun b o e hx hb=>by
  rcases(Bb b hb).1 with z|z
  ·exact hx z
  ·exact absurd (bo (aN e) z) (iW _)
 have cellK: ∀x c,X.env.cells.lookup x=some c-> ∀v,s.heap.IsCell c v->h'.IsCell c v:=fun x c e v ⟨o,ho,hd⟩=>by
  have Ro:c∉ch:=fun z=>(Bb c z).2.2.1 x c e rfl
  by_cases hc:c∈X.fs
  ·obtain⟨sl,q⟩:=slot c o (I.M4 x c e) hc Ro ho (I.iS x c e)
   exact⟨_,q,hd⟩
  ·exact⟨o,keep c o (I.M4 x c e) hc Ro ho (I.iS x c e),hd⟩
 refine⟨I.ok,I.os,hg,⟨fun b o e n hb hx=>?_,fun b o e n hb hx=>?_,fun b o e n hx=>?_,fun b o e hx=>?_,fun b xs e=>qw b xs (I.base.qw b xs e),fun b o xs e=>pE b o xs (I.base.pE b o xs e),fun b ps e=>?_⟩,?_,fun x c e=>?_,?_,fun x c e=>?_,fun p hp=>?_,cz,I.len⟩
 ·exact keep b o (Zg b o e) hb (U3 b o e hx) (I.base.keep b o e n hb hx) (I.base.free b o e n hx)
 ·obtain⟨sl,e1⟩:=I.base.slot b o e n hb hx
  obtain⟨sl',e2⟩:=slot b _ (Zg b o e) hb (U3 b o e hx) e1 (I.base.free b o e n hx)
  exact⟨sl',e2⟩
 ·obtain⟨o',e1⟩:=I.base.there b o e hx
  exact free b o' (U3 b o e hx) e1 (I.base.free b o e n hx)
 ·obtain⟨o',e1⟩:=I.base.there b o e hx
  exact there b o' (U3 b o e hx) e1
 ·obtain⟨m1,e1⟩:=I.base.pF b ps e
  obtain⟨m2,e2⟩:=pF b _ e1
  exact⟨m1 ++ m2,by rw[e2,Array.append_assoc]⟩
 ·obtain⟨m,hn,hl⟩:=I.loc
  refine⟨m,ns m hn,fun i x v e1 e2 e3=>?_⟩
  obtain⟨u,r,l⟩:=hl i x v e1 e2 e3
  refine⟨u,r,?_⟩
  rcases l with l|⟨k,c,e,z⟩
  ·exact .inl l
  ·exact .inr ⟨k,c,e,cellK x c e _ z⟩
 ·obtain⟨v,z⟩:=I.cell x c e
  exact⟨v,cellK x c e v z⟩
 ·obtain⟨m,⟨o,_,_,ho,_⟩,_⟩:=I.loc
  exact free _ o (fun z=>(Bb _ z).2.1 rfl) ho I.free
 ·obtain⟨v,o,ho,hd⟩:=I.cell x c e
  exact free c o (fun z=>(Bb c z).2.2.1 x c e rfl) ho (I.iS x c e)
 ·obtain⟨e,n,ne,nf,d⟩:=I.pin p hp
  have Ro:p.1∉ch:=fun z=>(Bb p.1 z).2.2.2 p hp rfl
  exact⟨keep p.1 p.2 ne nf Ro e n,free p.1 p.2 Ro e n,ne,nf,d⟩
theorem Inv.un {t':Nat}(I:Inv X pins σ H s)(u:Un X.fs [] H H' s.heap h')(cz:oC X.prog X.w H' h'):Inv X pins σ H' {s with heap:=h',toks:=t'}:=by
 obtain⟨m,⟨o,es,ep,ho,r⟩,_⟩:=id I.loc
 obtain⟨sl,hL⟩:=u.any ho I.free (by simp)
 exact I.step (g':=s.gens) (d':=s.drawn) (ch:=[]) (fun _ z=>nomatch z) (fun b o _ hb _ e n=>u.keep b o e n hb (by simp)) (fun b o _ hb _ e n=>u.slot b o e n hb (by simp)) (fun b o _ e n=>u.free b o e n (by simp)) (fun b o _ e=>u.there b o e (by simp)) u.qw u.pE u.pF (fun m' hm=>by
  obtain⟨o',V6,V7,Lm,r'⟩:=hm
  rw[ho] at Lm; cases Lm
  exact⟨_,V6,V7,hL,r'⟩) cz I.bare
theorem Inv.call {g':Array GenState}{t':Nat}{d':Drawn}{ch:List Addr}(I:Inv X pins σ H s)(u:Un (Dq X.stack) ch H H' s.heap h')(cz:oC X.prog X.w H' h')(hg:AllBare g')
  (Bb: ∀b∈ch,(b∈X.ex∨X.s₀.heap.objs.size<=b)/\b≠X.env.locals/\(∀x c,X.env.cells.lookup x=some c->c≠b)/\ ∀p∈X.pn ++ pins,p.1≠b):
  Inv X pins σ H' {s with heap:=h',gens:=g',drawn:=d',toks:=t'}:=by
 obtain⟨m,⟨o,es,ep,ho,r⟩,_⟩:=id I.loc
 obtain⟨sl,hL⟩:=u.any ho I.free fun z=>(Bb _ z).2.1 rfl
 exact I.step (ch:=ch) Bb (fun b o hL hb hc e n=>u.keep b o e n (fun z=>(aw.mp (I.uH b z)).elim hL hb) hc) (fun b o _ _ hc e n=>u.any e n hc) (fun b o hc e n=>u.free b o e n hc) (fun b o hc e=>u.there b o e hc) u.qw u.pE u.pF (fun m' hm=>by
  obtain⟨o',V6,V7,Lm,r'⟩:=hm
  rw[ho] at Lm; cases Lm
  exact⟨_,V6,V7,hL,r'⟩) cz hg
theorem Inv.turned {t':Nat}{it:Addr}(I:Inv X pins σ H s)(k: ∀b o,b≠it->s.heap.get? b=some o->h'.get? b=some o)(hn:H it=none)(hL:it≠X.env.locals)
  (h1:it∈X.ex∨X.s₀.heap.objs.size<=it) (h2: ∀x c,X.env.cells.lookup x=some c->c≠it) (h3: ∀p∈X.pn ++ pins,p.1≠it):Inv X pins σ H {s with heap:=h',toks:=t'}:=by
 have Rq: ∀b u,H b=some u->b≠it:=fun b u e z=>by rw[z,hn] at e; cases e
 refine I.step (g':=s.gens) (d':=s.drawn) (ch:=[it]) (fun b hb=>?_) (fun b o _ _ hc e _=>k b o (fun z=>hc (by simp[z])) e) (fun b o _ _ hc e _=>⟨o.slots,k b o (fun z=>hc (by simp[z])) e⟩) (fun _ _ _ _ n=>n)
  (fun b o hc e=>⟨o,k b o (fun z=>hc (by simp[z])) e⟩) (fun _ _ e=>e) (fun _ _ _ e=>e) (fun b ps e=>⟨#[],by rw[e]; simp⟩) (fun m hm=>?_) (fun b u e=>?_) I.bare
 ·have e:b=it:=by simpa using hb
  subst e
  exact⟨h1,hL,h2,h3⟩
 ·obtain⟨o,es,ep,ho,r⟩:=hm
  exact⟨o,es,ep,k _ o (wB hL) ho,r⟩
 ·refine(I.cz b u e).tT (fun c v hc q=>k c v ?_ q) (fun _ q=>q) fun _ _ q=>q
  rcases hc with z|z
  ·rw[z]; exact Rq b u e
  ·exact Rq c _ z
theorem Inv.tok (I:Inv X pins σ H s)(t:Nat):Inv X pins σ H {s with toks:=t}:=I.un (h':=s.heap) (t':=t) Un.refl I.cz
theorem Inv.kept {t':Nat}(I:Inv X pins σ H s)(k: ∀b u,s.heap.get? b=some u->h'.get? b=some u):Inv X pins σ H {s with heap:=h',toks:=t'}:=I.un (Un.kept k) (I.cz.kept k)
theorem Inv.laid {a:Addr}{o:HO}{t':Nat}(I:Inv X pins σ H s)(k: ∀b u,s.heap.get? b=some u->h'.get? b=some u)(hp:s.heap.objs.size<=a)(new:dE X.prog X.w (upd H a o) h' a o):
  Inv X pins σ (upd H a o) {s with heap:=h',toks:=t'}:=I.un (Un.laid k hp (I.cz.fresh hp)) (I.cz.laid k hp new)
theorem Inv.write {x e:Addr}{o:HO}{t':Nat}(I:Inv X pins σ H s)(mu:Rl (H x))(he:e=x∨H e=some (.own x))(k: ∀b u,b≠e->s.heap.get? b=some u->h'.get? b=some u)(QE: ∃u,h'.get? e=some u)
  (new:dE X.prog X.w (upd H x o) h' x o):Inv X pins σ (upd H x o) {s with heap:=h',toks:=t'}:=I.un (Un.write mu he k QE) (I.cz.write mu he k QE new)
theorem Inv.ui {Bc:List (Addr×Obj)}(I:Inv X pins σ H s)(h: ∀p∈Bc,s.heap.get? p.1=some p.2/\H p.1=none/\p.1≠X.env.locals/\p.1∉X.fs/\ ∀v,p.2.data≠ .cell v):Inv X Bc σ H s:=
 ⟨I.ok,I.os,I.bare,I.base,I.loc,I.cell,I.free,I.iS,fun p hp=>(bq.mp hp).elim (fun z=>I.pin p (cZ _ z)) (h p),I.cz,I.len⟩
theorem Bd {N:List Str}(hN:N.Nodup){i j:Nat}{x:Str}(a:N[i]? =some x)(b:N[j]? =some x):i=j:=by
 obtain⟨h1,e1⟩:=ak.mp a
 obtain⟨h2,e2⟩:=ak.mp b
 exact(List.getElem_inj hN).mp (e1.trans e2.symm)
theorem xV {M:Model}{A:Around}{E:Value->Shared->Prop}{i:Nat}{x:Str}{v:V}{u:Value}{Q:Unit->Shared->Prop}(I:Inv X pins σ H s)(hN:X.N.Nodup)(hi:X.N[i]? =some x)(hx:Loc X.env.scope x)(r:RelV v u)
  (h: ∀s',Inv X pins (σ.set i (some v)) H s'->(∃a,Heap.SameBut a s.heap s'.heap/\(a=X.env.locals∨X.env.cells.lookup x=some a))->Q () s') (hf:X.fn x=true∨X.env.scope.names.lookup x=some .local:=by first|exact .inl rfl|exact .inr rfl|assumption):wpAny M A (storeName X.env x u) Q E s:=by
 obtain⟨m,hn,hl⟩:=id I.loc
 have N2:(X.env.scope.kind == .class || (X.env.scope.kind == .module && X.env.locals != X.env.globals))=false:=by rw[I.ok.kind]; rfl
 have Zh:i < σ.length:=by rw[I.len]; exact(ak.mp hi).1
 have M4:=I.M4
 have tracked: ∀{a:Addr} {h':Heap},(∃o,s.heap.get? a=some o/\H a=none)->Heap.SameBut a s.heap h'->oC X.prog X.w H h':=fun{a h'} ha hs b ob e=>by
  obtain⟨_,_,xW⟩:=ha
  refine(I.cz b ob e).tT (fun c w' hc q=>(hs.2 c ?_).trans q) (fun _ q=>q) fun _ _ q=>q
  rintro rfl
  rcases hc with rfl|hc
  ·rw[xW] at e; cases e
  ·rw[xW] at hc; cases hc
 rcases hx with hk|hk
 ·refine wpAny_storeName_local hk hn (fun h' V8 hs=>?_) N2
  obtain⟨oL,_,_,N3,_⟩:=id hn
  refine h _ ⟨I.ok,I.os,I.bare,⟨fun b o e n hb hx=>?_,fun b o e n hb hx=>?_,I.base.free,fun b o e hx=>?_,I.base.qw,I.base.pE,I.base.pF⟩,⟨_,V8,fun j y v' e1 e2 e3=>?_⟩,fun y c e=>?_,I.free,I.iS,fun p hp=>?_,tracked ⟨oL,N3,I.free⟩ hs,by simpa using I.len⟩ ⟨_,hs,.inl rfl⟩
  ·exact(hs.2 b (a8 (bo (aN e) I.ok.above))).trans (I.base.keep b o e n hb hx)
  ·obtain⟨sl,e1⟩:=I.base.slot b o e n hb hx
   exact⟨sl,(hs.2 b (a8 (bo (aN e) I.ok.above))).trans e1⟩
  ·obtain⟨o',e1⟩:=I.base.there b o e hx
   exact⟨o',(hs.2 b (a8 (bo (aN e) I.ok.above))).trans e1⟩
  ·by_cases hj:j=i
   ·subst hj
    rw[hi] at e1; cases e1
    rw[lp Zh] at e2
    cases e2
    exact⟨u,r,.inl ⟨hk,by simp⟩⟩
   ·rw[mM (wB hj)] at e2
    obtain⟨u',r',q⟩:=hl j y v' e1 e2 e3
    refine⟨u',r',?_⟩
    rcases q with⟨k,e⟩|⟨k,c,e,z⟩
    ·refine .inl ⟨k,?_⟩
     have:y≠x:=fun e=>hj (Bd hN e1 (e▸hi))
     simp[this,e]
    ·exact .inr ⟨k,c,e,z.sameBut hs (M4 y c e)⟩
  ·obtain⟨w',z⟩:=I.cell y c e
   exact⟨w',z.sameBut hs (M4 y c e)⟩
  ·obtain⟨e,n,ne,nf,d⟩:=I.pin p hp
   exact⟨(hs.2 p.1 ne).trans e,n,ne,nf,d⟩
 ·have Ln:X.fn x=true:=by
   rcases hf with z|z
   ·exact z
   ·rw[z] at hk; cases hk
  obtain⟨c,hc⟩:=I.ok.has x (.inl hk)
  obtain⟨w',z⟩:=I.cell x c hc
  refine wpAny_storeName_cell I.ok.kind hk hc z (fun h' N4 hs=>?_)
  obtain⟨oc,QF,V9⟩:=id z
  refine h {s with heap:=h'} ⟨I.ok,I.os,I.bare,⟨fun b o e n hb hx=>?_,fun b o e n hb hx=>?_,I.base.free,fun b o e hx=>?_,I.base.qw,I.base.pE,I.base.pF⟩,⟨m,hn.sameBut hs (Ne.symm (M4 x c hc)),fun j y v' e1 e2 e3=>?_⟩,fun y c' e=>?_,I.free,I.iS,fun p hp=>?_,tracked ⟨oc,QF,I.iS x c hc⟩ hs,by simpa using I.len⟩ ⟨c,hs,.inr hc⟩
  ·exact(hs.2 b (a8 (bo (aN e) (I.ok.KU x c Ln hc)))).trans (I.base.keep b o e n hb hx)
  ·obtain⟨sl,e1⟩:=I.base.slot b o e n hb hx
   exact⟨sl,(hs.2 b (a8 (bo (aN e) (I.ok.KU x c Ln hc)))).trans e1⟩
  ·obtain⟨o',e1⟩:=I.base.there b o e hx
   exact⟨o',(hs.2 b (a8 (bo (aN e) (I.ok.KU x c Ln hc)))).trans e1⟩
  ·by_cases hj:j=i
   ·subst hj
    rw[hi] at e1; cases e1
    rw[lp Zh] at e2
    cases e2
    exact⟨u,r,.inr ⟨.inl hk,c,hc,N4⟩⟩
   ·rw[mM (wB hj)] at e2
    obtain⟨u',r',q⟩:=hl j y v' e1 e2 e3
    refine⟨u',r',?_⟩
    rcases q with q|⟨k,c',e,z'⟩
    ·exact .inl q
    ·refine .inr ⟨k,c',e,z'.sameBut hs ?_⟩
     rintro rfl
     exact hj (Bd hN e1 (I.ok.inj _ _ _ e hc▸hi))
  ·by_cases U4:c'=c
   ·subst U4; exact⟨_,N4⟩
   ·obtain⟨w2,z2⟩:=I.cell y c' e
    exact⟨w2,z2.sameBut hs U4⟩
  ·obtain⟨e,n,ne,nf,d⟩:=I.pin p hp
   refine⟨(hs.2 p.1 ?_).trans e,n,ne,nf,d⟩
   intro q
   rw[q,QF] at e
   have q':oc=p.2:=aD e
   exact d w' (by rw[← q']; exact V9)
theorem uI {M:Model}{A:Around}{E:Value->Shared->Prop}{i:Nat}{x:Str}{v:V}{u:Value}{Q:Unit->Shared->Prop}(I:Inv X pins σ H s)(hN:X.N.Nodup)(hi:X.N[i]? =some x)(hx:Loc X.env.scope x)(r:RelV v u)
  (h: ∀s',Inv X pins (σ.set i (some v)) H s'->Q () s') (hf:X.fn x=true∨X.env.scope.names.lookup x=some .local:=by first|exact .inl rfl|exact .inr rfl|assumption):wpAny M A (storeName X.env x u) Q E s:=
 xV I hN hi hx r (fun s' I' _=>h s' I') hf
theorem Inv.EH {s':Shared}{ch:List Addr}(I:Inv X pins σ H s)(ho:s'.os=s.os)(u:Un (Dq X.stack) ch H H' s.heap s'.heap)(cz:oC X.prog X.w H' s'.heap)(hg:AllBare s'.gens)
  (Bb: ∀b∈ch,(b∈X.ex∨X.s₀.heap.objs.size<=b)/\b≠X.env.locals/\(∀x c,X.env.cells.lookup x=some c->c≠b)/\ ∀p∈X.pn ++ pins,p.1≠b):Inv X pins σ H' s':=by
 obtain⟨h',g',d',t',o'⟩:=s'
 have e:o'=s.os:=ho
 subst e
 exact I.call (g':=g') (t':=t') (d':=d') u cz hg Bb
end
abbrev XK:=Value->Option Addr->Hp->Prop
abbrev St:=List (Option V)
abbrev VK:=V->Hp->Prop
abbrev TE:=St->Hp->VK->Prop
abbrev TT:=St->Hp->(Bool->Hp->Prop)->Prop
abbrev TA:=St->Hp->(List V->Hp->Prop)->Prop
structure Ends where
 nx:St->Hp->Prop
 rt:VK
 bk:St->Hp->Prop:=fun _ _=>False
 ct:St->Hp->Prop:=fun _ _=>False
abbrev TS:=Ends->St->Hp->Prop
def EP (X:Cx)(pins:List (Addr×Obj))(σ:St)(Q:VK)(u:Value)(s':Shared):Prop:= ∃v H',Inv X pins σ H' s'/\RelV v u/\Q v H'
def TP (X:Cx)(pins:List (Addr×Obj))(σ:St)(Q:Bool->Hp->Prop)(b:Bool)(s':Shared):Prop:= ∃H',Inv X pins σ H' s'/\Q b H'
def AP (X:Cx)(pins:List (Addr×Obj))(σ:St)(Q:List V->Hp->Prop)(us:List Value)(s':Shared):Prop:= ∃vs H',Inv X pins σ H' s'/\Vals vs us/\Q vs H'
def SP (X:Cx)(pins:List (Addr×Obj))(D:Ends)(f:Flow)(s':Shared):Prop:=
 match f with
 | .next=> ∃σ' H',Inv X pins σ' H' s'/\D.nx σ' H'
 | .brk=> ∃σ' H',Inv X pins σ' H' s'/\D.bk σ' H'
 | .cont=> ∃σ' H',Inv X pins σ' H' s'/\D.ct σ' H'
 | .ret u=> ∃v σ' H',Inv X pins σ' H' s'/\RelV v u/\D.rt v H'
def PE (X:Cx)(e:Expr)(t:TE):Prop:=
 ∀(pins:List (Addr×Obj)) (s:Shared) (σ:St) (H:Hp) (Q:VK),Inv X pins σ H s->t σ H Q->wpAny (model X.prog X.w) X.A (eval e X.env) (EP X pins σ Q) X.xe s
def PT (X:Cx)(e:Expr)(t:TT):Prop:=
 ∀(pins:List (Addr×Obj)) (s:Shared) (σ:St) (H:Hp) (Q:Bool->Hp->Prop),Inv X pins σ H s->t σ H Q->wpAny (model X.prog X.w) X.A (isTrue e X.env (eval e X.env)) (TP X pins σ Q) X.xe s
def PW (X:Cx)(e:Expr)(t:TT):Prop:=
 ∀(whole:Sem Value) (pins:List (Addr×Obj)) (s:Shared) (σ:St) (H:Hp) (Q:Bool->Hp->Prop),Inv X pins σ H s->t σ H Q->wpAny (model X.prog X.w) X.A (isTrue e X.env whole) (TP X pins σ Q) X.xe s
theorem PW.pt {X:Cx}{e:Expr}{t:TT}(h:PW X e t):PT X e t:=h _
def PA (X:Cx)(es:List Expr)(t:TA):Prop:=
 ∀(pos:Pos) (pins:List (Addr×Obj)) (s:Shared) (σ:St) (H:Hp) (Q:List V->Hp->Prop),Inv X pins σ H s->t σ H Q->wpAny (model X.prog X.w) X.A (spliced (backTo pos (starEach es X.env))) (AP X pins σ Q) X.xe s
def PS (X:Cx)(st:Stmt)(t:TS):Prop:=
 ∀(pins:List (Addr×Obj)) (s:Shared) (σ:St) (H:Hp) (D:Ends),Inv X pins σ H s->t D σ H->wpAny (model X.prog X.w) X.A (exec st X.env) (SP X pins D) X.xe s
def oQ (X:Cx)(st:List Stmt)(t:TS):Prop:=
 ∀(pins:List (Addr×Obj)) (s:Shared) (σ:St) (H:Hp) (D:Ends),Inv X pins σ H s->t D σ H->wpAny (model X.prog X.w) X.A (execs st X.env) (SP X pins D) X.xe s
theorem ee {α:Type}{t:Sem α}{Q Q':α->Shared->Prop}{M:Model}{A:Around}{E:Value->Shared->Prop}{s:Shared}(h:wpAny M A t Q E s)(hQ: ∀a s,Q a s->Q' a s):wpAny M A t Q' E s:=cm h hQ fun _ _ x=>x
section
variable {X:Cx}
inductive Zi (o:Option (Option V))(k:V->Prop):Prop
 |mk (v:V)(h:o=some (some v))(q:k v):Zi o k
def Rt (i:Nat):TE:=fun σ H Q=>Zi σ[i]? fun v=>Q v H
def tC (v:V):TE:=fun _ H Q=>Q v H
theorem Dr {i:Nat}{x:Str}{pos:Pos}(hN:X.N[i]? =some x)(hv:Rn X.env.scope x)(hd:(x == ("__debug__":Str))=false:=by decide)(rP:(x == ("__classdict__":Str))=false:=by decide):PE X (.Name x pos) (Rt i):=by
 intro pins s σ H Q I h
 obtain⟨v,e,h⟩:=h
 obtain⟨m,hn,hl⟩:=I.loc
 obtain⟨u,r,l⟩:=hl i x v hN e hv
 have fin:EP X pins σ Q u s:=⟨v,H,I,r,h⟩
 rcases l with⟨hk,hm⟩|⟨hk,c,hc,my⟩
 ·exact wpAny_Name (wpAny_loadName_local I.ok.kind hk hn hm fin) hd
 ·rcases hk with hk|hk
  ·exact wpAny_Name (wpAny_loadName_cell I.ok.kind hk hc my fin) hd
  ·exact wpAny_Name (wpAny_loadName_free I.ok.kind hk hc my fin rP) hd
theorem ai {i j pos}:PE X (.Constant (.int i) j pos) (tC (.int i)):=fun _ _ _ H _ I h=>wpAny_Constant_int ⟨.int i,H,I.tok _,⟨_,rfl⟩,h⟩
theorem kH {b j pos}:PE X (.Constant (.bool b) j pos) (tC (.bl b)):=fun _ _ _ H _ I h=>Constant_bool ⟨.bl b,H,I,rfl,h⟩
theorem Du {j pos}:PE X (.Constant .none j pos) (tC .eD):=fun _ _ _ H _ I h=>Constant_none ⟨.eD,H,I,rfl,h⟩
theorem aV {x j pos}:PE X (.Constant (.str x) j pos) (tC (.str x)):=fun _ _ _ H _ I h=>Calls.Constant_str ⟨.str x,H,I.tok _,⟨_,rfl⟩,h⟩
def Gl (X:Cx)(x:Str):Prop:=X.env.kindOf x=some .globalImplicit
theorem jG {E:Value->Shared->Prop}{pins:List (Addr×Obj)}{s:Shared}{σ:St}{H:Hp}{x:Str}{u:Value}{pos:Pos}{Q:Value->Shared->Prop}(I:Inv X pins σ H s)(hg:Gl X x)(hm:X.mg x=some u)(h:Q u s)
  (hd:(x == ("__debug__":Str))=false:=by decide):wpAny (model X.prog X.w) X.A (eval (.Name x pos) X.env) Q E s:=
 Calls.Name_function_global I.ok.kind hg (Calls.loadGlobal_global (by rw[I.ok.glob]; exact I.mod.glob.keeps I.bk) hm h) hd
theorem pG {E:Value->Shared->Prop}{pins:List (Addr×Obj)}{s:Shared}{σ:St}{H:Hp}{x:Str}{u:Value}{pos:Pos}{Q:Value->Shared->Prop}(I:Inv X pins σ H s)(hg:Gl X x)(hm:X.mg x=none)(hv:bootBuiltins x=some u)(h:Q u s)
  (hn:x≠"__name__":=by decide) (hd:(x == ("__debug__":Str))=false:=by decide):wpAny (model X.prog X.w) X.A (eval (.Name x pos) X.env) Q E s:=by
 obtain⟨mb,h1,h2⟩:=I.mod.blt
 exact Calls.Name_function_global I.ok.kind hg (Calls.loadGlobal_builtin (by rw[I.ok.glob]; exact I.mod.glob.keeps I.bk) hm (by rw[I.ok.blt]; exact h1.keeps I.bk) ((h2 x hn).trans hv) h) hd
theorem EI {x:Str}{v:V}{u:Value}{pos:Pos}(hg:Gl X x)(hm:X.mg x=some u)(r:RelV v u)(hd:(x == ("__debug__":Str))=false:=by decide):PE X (.Name x pos) (tC v):=
 fun _ _ _ H _ I h=>jG I hg hm ⟨v,H,I,r,h⟩ hd
theorem gN {x:Str}{v:V}{u:Value}{pos:Pos}(hg:Gl X x)(hm:X.mg x=none)(hv:bootBuiltins x=some u)(r:RelV v u)(hn:x≠"__name__":=by decide)(hd:(x == ("__debug__":Str))=false:=by decide):PE X (.Name x pos) (tC v):=
 fun _ _ _ H _ I h=>pG I hg hm hv ⟨v,H,I,r,h⟩ hn hd
variable {a b:Expr}{ta tb:TE}{pos:Pos}
def PC (X:Cx)(op:CmpOp)(a b:Expr)(t:TE):Prop:=
 ∀(pins:List (Addr×Obj)) (s:Shared) (σ:St) (H:Hp) (Q:VK),Inv X pins σ H s->t σ H Q->
  wpAny (model X.prog X.w) X.A (eval a X.env) (fun v s₁=>wpAny (model X.prog X.w) X.A (eval b X.env) (fun u s₂=>wpAny (model X.prog X.w) X.A (compareOp op v u) (EP X pins σ Q) X.xe s₂) X.xe s₁) X.xe s
theorem Be (b:Expr){op:CmpOp}(h:op≠ .In)(h2:op≠ .NotIn):behindInMarks op b=false:=by
 have e1:(op == CmpOp.In)=false:=by cases op <;> first|rfl|exact absurd rfl h
 have e2:(op == CmpOp.NotIn)=false:=by cases op <;> first|rfl|exact absurd rfl h2
 cases b <;> simp[behindInMarks,e1,e2]
def Wa (ta:TE):TE:=fun σ H Q=>ta σ H fun x H1=>Q (.bl (decide (x= .eD))) H1
def Ru (ta:TE):TE:=fun σ H Q=>ta σ H fun x H1=>Q (.bl (!decide (x= .eD))) H1
theorem RelV.Bf {x:V}{v:Value}(r:RelV x v):(v == Value.none)=decide (x= .eD):=by
 cases x with
 |eD=>cases r; rfl
 |bl _=>cases r; rfl
 |int _=>obtain⟨t,rfl⟩:=r; rfl
 |str _=>obtain⟨t,rfl⟩:=r; rfl
 |Gf _=>obtain⟨t,rfl⟩:=r; rfl
 |Li _=>obtain⟨t,rfl⟩:=r; rfl
 |ref _=>cases r; rfl
 |ty _=>cases r; rfl
theorem ID {j pos'}(ha:PE X a ta):PC X .Is a (.Constant .none j pos') (Wa ta):=by
 intro pins s σ H Q I h
 refine ee (ha pins s σ H _ I h) fun v s1 ⟨x,H1,I1,r1,q1⟩=>?_
 exact Constant_none (is_none_gen ⟨.bl _,H1,I1,by rw[r1.Bf]; rfl,q1⟩)
theorem Lo {j pos'}(ha:PE X a ta):PC X .IsNot a (.Constant .none j pos') (Ru ta):=by
 intro pins s σ H Q I h
 refine ee (ha pins s σ H _ I h) fun v s1 ⟨x,H1,I1,r1,q1⟩=>?_
 exact Constant_none (isnot_none_gen ⟨.bl _,H1,I1,by rw[r1.Bf]; rfl,q1⟩)
def tB (t:TE):TT:=fun σ H Q=>t σ H fun x H1=> ∃c,x= .bl c/\Q c H1
theorem N5 {op:CmpOp}{t:TE}(h:PC X op a b t)(h1:behindInMarks op b=false:=by first|exact Be _ (by decide) (by decide)|rfl):PE X (.Compare a [op] [b] pos) t:=fun pins s σ H Q I hw=>wpAny_Compare1 (h pins s σ H Q I hw) h1
theorem yV {op:CmpOp}{t:TE}(h:PC X op a b t)(h1:behindInMarks op b=false:=by first|exact Be _ (by decide) (by decide)|rfl):PT X (.Compare a [op] [b] pos) (tB t):=by
 intro pins s σ H Q I hw
 refine wpAny_isTrue_Compare1 (ee (h pins s σ H _ I hw) fun v s1 h1=>ee h1 fun u s2 h2=>ee h2 fun c s3 ⟨x,H1,I1,r1,q1⟩=>?_) h1
 obtain⟨d,rfl,q⟩:=q1
 cases r1
 exact fV ⟨H1,I1,q⟩
theorem gp {e:Expr}{t:TE}(h:PE X e t)(he: ∀whole,isTrue e X.env whole=(do let v ← whole; standAt e.pos; holding [v] (truthy v)):=by intro _; rfl):PT X e (tB t):=by
 intro pins s σ H Q I hw
 refine isTrue_plain (ee (h pins s σ H _ I hw) fun v s1 ⟨x,H1,I1,r1,q1⟩=>?_) (he _)
 obtain⟨d,rfl,q⟩:=q1
 cases r1
 exact fV ⟨H1,I1,q⟩
variable {tA U5:TT}{rest:List Expr}
def Wb (t u:TT):TT:=fun σ H Q=>t σ H fun c H1=>if c=true then u σ H1 Q else Q false H1
def tOr (t u:TT):TT:=fun σ H Q=>t σ H fun c H1=>if c=true then Q true H1 else u σ H1 Q
def Wc (t:TT):TT:=fun σ H Q=>t σ H fun c H1=>Q (!c) H1
theorem pw_and1 (ha:PT X a tA):PW X (.BoolOp .And [a] pos) tA:=by
 intro wh pins s σ H Q I h
 refine isTrue_and (ee (ha pins s σ H Q I h) fun c s1 e=>?_)
 cases c with
 |true=>exact isTrue_and_nil e
 |false=>exact e
theorem pw_or1 (ha:PT X a tA):PW X (.BoolOp .Or [a] pos) tA:=by
 intro wh pins s σ H Q I h
 refine isTrue_or (ee (ha pins s σ H Q I h) fun c s1 e=>?_)
 cases c with
 |false=>exact isTrue_or_nil e
 |true=>exact e
theorem pw_and (ha:PT X a tA)(hb:PW X (.BoolOp .And (b :: rest) pos) U5):PW X (.BoolOp .And (a :: b :: rest) pos) (Wb tA U5):=by
 intro wh pins s σ H Q I h
 refine isTrue_and (ee (ha pins s σ H _ I h) fun c s1 ⟨H1,I1,q1⟩=>?_)
 cases c with
 |true=>exact hb wh pins s1 σ H1 Q I1 q1
 |false=>exact⟨H1,I1,q1⟩
theorem pw_or (ha:PT X a tA)(hb:PW X (.BoolOp .Or (b :: rest) pos) U5):PW X (.BoolOp .Or (a :: b :: rest) pos) (tOr tA U5):=by
 intro wh pins s σ H Q I h
 refine isTrue_or (ee (ha pins s σ H _ I h) fun c s1 ⟨H1,I1,q1⟩=>?_)
 cases c with
 |true=>exact⟨H1,I1,q1⟩
 |false=>exact hb wh pins s1 σ H1 Q I1 q1
theorem jS (ha:PT X a tA):PT X (.UnaryOp .Not a pos) (Wc tA):=by
 intro pins s σ H Q I h
 exact isTrue_not (ha pins s σ H (fun c H1=>Q (!c) H1) I h)
def Rv (ta tb:TE):TE:=fun σ H Q=>ta σ H fun x H1=> ∃c,x= .bl c/\if c=true then tb σ H1 Q else Q (.bl false) H1
def Wd (ta tb:TE):TE:=fun σ H Q=>ta σ H fun x H1=> ∃c,x= .bl c/\if c=true then Q (.bl true) H1 else tb σ H1 Q
def Rx (ta:TE):TE:=fun σ H Q=>ta σ H fun x H1=> ∃c,x= .bl c/\Q (.bl (!c)) H1
theorem lZ {op}{t:TE}(h:PE X a t):PE X (.BoolOp op [a] pos) t:=fun pins s σ H Q I hw=>BoolOp_one (h pins s σ H Q I hw)
theorem mQ (ha:PE X a ta)(hb:PE X (.BoolOp .And (b :: rest) pos) tb):PE X (.BoolOp .And (a :: b :: rest) pos) (Rv ta tb):=by
 intro pins s σ H Q I h
 refine BoolOp_and (ee (ha pins s σ H _ I h) fun v s1 ⟨x,H1,I1,r1,q1⟩=>?_)
 obtain⟨c,rfl,q1⟩:=q1
 cases r1
 refine fV ?_
 cases c with
 |true=>exact hb pins s1 σ H1 Q I1 q1
 |false=>exact⟨.bl false,H1,I1,rfl,q1⟩
theorem Ry (ha:PE X a ta)(hb:PE X (.BoolOp .Or (b :: rest) pos) tb):PE X (.BoolOp .Or (a :: b :: rest) pos) (Wd ta tb):=by
 intro pins s σ H Q I h
 refine BoolOp_or (ee (ha pins s σ H _ I h) fun v s1 ⟨x,H1,I1,r1,q1⟩=>?_)
 obtain⟨c,rfl,q1⟩:=q1
 cases r1
 refine fV ?_
 cases c with
 |false=>exact hb pins s1 σ H1 Q I1 q1
 |true=>exact⟨.bl true,H1,I1,rfl,q1⟩
theorem N6 (ha:PE X a ta):PE X (.UnaryOp .Not a pos) (Rx ta):=by
 intro pins s σ H Q I h
 refine UnaryOp_ (ee (ha pins s σ H _ I h) fun v s1 ⟨x,H1,I1,r1,q1⟩=>?_)
 obtain⟨c,rfl,q1⟩:=q1
 cases r1
 exact not_of (fV ⟨.bl (!c),H1,I1,rfl,q1⟩)
end
def bw (K:Frag)(H:Hp)(a:Addr)(xs:List V):Prop:=
 Rd H a (.lst xs)∨
  ∃(o:Obj) (b0:Array Value) (n:Nat),K.lookup a=some o/\o.cls= .type "list"/\o.dict=none/\o.data= .seq b0 n/\b0.size<=sizeLine/\Vals xs b0.toList
def cB (K:Frag)(H:Hp)(a:Addr)(xs:List V):Prop:=
 Rd H a (.tup xs)∨
  ∃(o:Obj) (b0:Array Value) (n:Nat),K.lookup a=some o/\o.cls= .type "tuple"/\o.data= .seq b0 n/\b0.size<=sizeLine/\Vals xs b0.toList
def We:Value->Option V
 | .none=>some .eD
 | .bool b=>some (.bl b)
 | .int i _=>some (.int i)
 | .str x _=>some (.str x)
 | .bytes b _=>some (.Gf b)
 | .float b _=>some (.Li b)
 | .ref a=>some (.ref a)
 | .type n=>some (.ty n)
 |_=>none
theorem RelV.abs {x:V}{u:Value}(r:RelV x u):We u=some x:=by
 cases x with
 |eD=>cases r; rfl
 |bl _=>cases r; rfl
 |int _=>obtain⟨t,rfl⟩:=r; rfl
 |str _=>obtain⟨t,rfl⟩:=r; rfl
 |Gf _=>obtain⟨t,rfl⟩:=r; rfl
 |Li _=>obtain⟨t,rfl⟩:=r; rfl
 |ref _=>cases r; rfl
 |ty _=>cases r; rfl
theorem RelV.inj {x y:V}{u:Value}(r:RelV x u)(q:RelV y u):x=y:=aD (r.abs.symm.trans q.abs)
theorem Vals.inj: ∀{xs ys:List V} {us:List Value},Vals xs us->Vals ys us->xs=ys
 |_,_,_,.nil,.nil=>rfl
 |_,_,_,.cons r t,.cons r' t'=>by rw[r.inj r',Vals.inj t t']
section
variable {X:Cx}{pins:List (Addr×Obj)}{σ:St}{H:Hp}{s:Shared}{a:Addr}{xs ys:List V}
theorem bw.of {K:Frag}(h:H a=some (.lst xs)):bw K H a xs:= .inl (.inl h)
theorem cB.of {K:Frag}(h:H a=some (.tup xs)):cB K H a xs:= .inl (.inl h)
theorem Inv.list (I:Inv X pins σ H s)(h:bw X.K H a xs): ∃b0:List Value,Vals xs b0/\PlainL s.heap a b0.toArray/\xs.length<=sizeLine:=by
 rcases h with h|⟨o,b0,n,hk,hc,hd,hs,hz,r⟩
 ·obtain⟨z,b0,n,r,e⟩:=h.ok I.cz
  exact⟨b0,r,⟨_,n,e,rfl,rfl,rfl⟩,z⟩
 ·refine⟨b0.toList,r,⟨o,n,I.gY a o hk,hc,hd,by simpa using hs⟩,?_⟩
  have e:=r.length
  simp only[Array.length_toList] at e
  lia
theorem Inv.tuple (I:Inv X pins σ H s)(h:cB X.K H a xs): ∃b0:List Value,Vals xs b0/\IsTup s.heap a b0.toArray/\xs.length<=sizeLine:=by
 rcases h with h|⟨o,b0,n,hk,hc,hs,hz,r⟩
 ·obtain⟨z,b0,r,p⟩:=h.ok I.cz
  exact⟨b0,r,p,z⟩
 ·refine⟨b0.toList,r,⟨o,I.gY a o hk,hc,n,by simpa using hs⟩,?_⟩
  have e:=r.length
  simp only[Array.length_toList] at e
  lia
theorem Inv.Bg (I:Inv X pins σ H s)(h:bw X.K H a xs)(h':bw X.K H a ys):xs=ys:=by
 obtain⟨b0,r,⟨o,n,e,_,_,d⟩,_⟩:=I.list h
 obtain⟨qy,r',⟨o',n',e',_,_,d'⟩,_⟩:=I.list h'
 rw[e] at e'; cases e'
 rw[d] at d'
 injection d' with d1 _
 have:b0=qy:=by simpa using congrArg Array.toList d1
 subst this
 exact r.inj r'
theorem Inv.Gi (I:Inv X pins σ H s)(h:cB X.K H a xs)(h':cB X.K H a ys):xs=ys:=by
 obtain⟨b0,r,⟨o,e,_,n,d⟩,_⟩:=I.tuple h
 obtain⟨qy,r',⟨o',e',_,n',d'⟩,_⟩:=I.tuple h'
 rw[e] at e'; cases e'
 rw[d] at d'
 injection d' with d1 _
 have:b0=qy:=by simpa using congrArg Array.toList d1
 subst this
 exact r.inj r'
end
abbrev Cx.uJ (X:Cx)(E:Value->Shared->Prop):Cx:={X with xe:=E}
abbrev Cx.EJ (X:Cx):Cx:=X.uJ fun _ _=>False
theorem Cx.Ok.uJ {X:Cx}(ok:X.Ok)(E:Value->Shared->Prop):(X.uJ E).Ok:=
 ⟨ok.mod,ok.kind,ok.glob,ok.blt,ok.above,ok.inj,ok.has,ok.KU,ok.hd,ok.frames,ok.Il,ok.Ll,ok.bs,ok.Ba,ok.wJ,ok.wK,ok.lY,ok.EG⟩
theorem Cx.Ok.mR {X:Cx}{E:Value->Shared->Prop}(ok:(X.uJ E).Ok):X.Ok:=
 ⟨ok.mod,ok.kind,ok.glob,ok.blt,ok.above,ok.inj,ok.has,ok.KU,ok.hd,ok.frames,ok.Il,ok.Ll,ok.bs,ok.Ba,ok.wJ,ok.wK,ok.lY,ok.EG⟩
section
variable {X:Cx}{pins:List (Addr×Obj)}{σ:St}{H:Hp}{s:Shared}{E:Value->Shared->Prop}
theorem Inv.uJ (I:Inv X pins σ H s)(E:Value->Shared->Prop):Inv (X.uJ E) pins σ H s:=⟨I.ok.uJ E,I.os,I.bare,I.base,I.loc,I.cell,I.free,I.iS,I.pin,I.cz,I.len⟩
theorem Inv.mR (I:Inv (X.uJ E) pins σ H s):Inv X pins σ H s:=⟨I.ok.mR,I.os,I.bare,I.base,I.loc,I.cell,I.free,I.iS,I.pin,I.cz,I.len⟩
theorem SP.mR {D:Ends}{f:Flow}{s':Shared}(h:SP (X.uJ E) pins D f s'):SP X pins D f s':=by
 cases f with
 |next=>obtain⟨σ',H',I,q⟩:=h; exact⟨σ',H',I.mR,q⟩
 |brk=>obtain⟨σ',H',I,q⟩:=h; exact⟨σ',H',I.mR,q⟩
 |cont=>obtain⟨σ',H',I,q⟩:=h; exact⟨σ',H',I.mR,q⟩
 |ret u=>obtain⟨v,σ',H',I,r,q⟩:=h; exact⟨v,σ',H',I.mR,r,q⟩
theorem oQ.EJ {st:List Stmt}{t:TS}(h:oQ X.EJ st t):oQ X st t:=fun pins s σ H D I hw=>
 cm (h pins s σ H D (I.uJ _) hw) (fun _ _ q=>q.mR) fun _ _ z=>False.elim z
end
section
variable {X:Cx}{st:Stmt}{rest:List Stmt}{t u:TS}{e:Expr}{te:TE}{pos:Pos}
def Rz:TS:=fun D σ H=>D.nx σ H
def Wf (t u:TS):TS:=fun D σ H=>t {D with nx:=u D} σ H
theorem bh:oQ X [] Rz:=fun _ _ σ H _ I h=>jw ⟨σ,H,I,h⟩
theorem ah (h1:PS X st t)(h2:oQ X rest u):oQ X (st :: rest) (Wf t u):=by
 intro pins s σ H D I h
 refine wpAny_execs_cons (ee (h1 pins s σ H {D with nx:=u D} I h) fun f s1 q=>?_)
 cases f with
 |next=>
  obtain⟨σ',H',I',q⟩:=q
  exact h2 pins s1 σ' H' D I' q
 |ret v=>exact q
 |brk=>exact q
 |cont=>exact q
theorem au (h1:PS X st t):oQ X [st] t:=by
 intro pins s σ H D I h
 refine wpAny_execs_cons (ee (h1 pins s σ H D I h) fun f s1 q=>?_)
 cases f with
 |next=>exact jw q
 |ret v=>exact q
 |brk=>exact q
 |cont=>exact q
theorem Inv.quiet {pins:List (Addr×Obj)}{σ:St}{H:Hp}{s:Shared}(I:Inv X pins σ H s):interactive X.env=false:=by simp[interactive,I.ok.kind]
def RA (te:TE):TS:=fun D σ H=>te σ H fun _ H1=>D.nx σ H1
theorem bK (he:PE X e te)(hs:swapsWith e none pos.line X.env=pure false:=by rfl):PS X (.Expr e pos) (RA te):=by
 intro pins s σ H D I h
 exact wpAny_Expr_any (ee (he pins s σ H _ I h) fun v s1 ⟨x,H1,I1,r1,q1⟩=>⟨σ,H1,I1,q1⟩) I.quiet hs
def Wg (te:TE):TS:=fun D σ H=>te σ H D.rt
theorem a9 (he:PE X e te):PS X (.Return (some e) pos) (Wg te):=by
 intro pins s σ H D I h
 exact wpAny_Return_some (ee (he pins s σ H _ I h) fun v s1 ⟨x,H1,I1,r1,q1⟩=>⟨x,σ,H1,I1,r1,q1⟩)
def Wh (c:TT)(t u:TS):TS:=fun D σ H=>c σ H fun b H1=>if b=true then t D σ H1 else u D σ H1
theorem bP {c:Expr}{a b:List Stmt}{tc:TT}(hc:PT X c tc)(ha:oQ X a t)(hb:oQ X b u):PS X (.If c a b pos) (Wh tc t u):=by
 intro pins s σ H D I h
 refine wpAny_If (ee (hc pins s σ H _ I h) fun d s1 ⟨H1,I1,q1⟩=>?_)
 cases d with
 |true=>exact ha pins s1 σ H1 D I1 q1
 |false=>exact hb pins s1 σ H1 D I1 q1
end
abbrev TG:=V->St->Hp->(St->Hp->Prop)->Prop
abbrev M5:=List V->St->Hp->(St->Hp->Prop)->Prop
def PG (X:Cx)(target:Expr)(t:TG):Prop:=
 ∀(pins:List (Addr×Obj)) (s:Shared) (σ:St) (H:Hp) (v:V) (u:Value) (Q:St->Hp->Prop),Inv X pins σ H s->RelV v u->t v σ H Q->
  wpAny (model X.prog X.w) X.A (assign target X.env u) (fun _ s'=> ∃σ' H',Inv X pins σ' H' s'/\Q σ' H') X.xe s
def KW (X:Cx)(ts:List Expr)(t:M5):Prop:=
 ∀(pins:List (Addr×Obj)) (s:Shared) (σ:St) (H:Hp) (vs:List V) (us:List Value) (Q:St->Hp->Prop),Inv X pins σ H s->Vals vs us->t vs σ H Q->
  wpAny (model X.prog X.w) X.A (assignInOrder ((assignEach ts X.env).map (·.2)) us) (fun _ s'=> ∃σ' H',Inv X pins σ' H' s'/\Q σ' H') X.xe s
abbrev N7:=V->V->V->Hp->(Hp->Prop)->Prop
def RB (X:Cx)(t:N7):Prop:=
 ∀(pins:List (Addr×Obj)) (s:Shared) (σ:St) (H:Hp) (o i v:V) (ov iv u:Value) (Q:Hp->Prop),Inv X pins σ H s->RelV o ov->RelV i iv->RelV v u->t o i v H Q->
  wpAny (model X.prog X.w) X.A (setItem ov iv u) (fun _ s'=> ∃H',Inv X pins σ H' s'/\Q H') X.xe s
section
variable {X:Cx}{pos:Pos}
def Bh (i:Nat):TG:=fun v σ H Q=>Q (σ.set i (some v)) H
theorem eE {i:Nat}{x:Str}(hN:X.N.Nodup)(hi:X.N[i]? =some x)(hx:Loc X.env.scope x)(hf:X.fn x=true∨X.env.scope.names.lookup x=some .local:=by first|exact .inl rfl|exact .inr rfl|assumption):PG X (.Name x pos) (Bh i):=by
 intro pins s σ H v u Q I r h
 exact wpAny_assign_Name (uI I hN hi hx r (fun s' I'=>⟨_,H,I',h⟩) hf)
def Wi:M5:=fun vs σ H Q=>vs=[]/\Q σ H
inductive Zj (vs:List V)(k:V->List V->Prop):Prop
 |mk (v:V)(r:List V)(h:vs=v :: r)(q:k v r):Zj vs k
def RC (t:TG)(u:M5):M5:=fun vs σ H Q=>Zj vs fun v r=>t v σ H fun σ' H'=>u r σ' H' Q
theorem gr:KW X [] Wi:=by
 intro pins s σ H vs us Q I r h
 obtain⟨e,h⟩:=h
 subst e
 cases r
 exact assignInOrder_nil ⟨σ,H,I,h⟩
theorem bX {e:Expr}{es:List Expr}{t:TG}{u:M5}(h1:PG X e t)(h2:KW X es u)
  (hs:(assignEach (e :: es) X.env).map (·.2)=assign e X.env :: (assignEach es X.env).map (·.2):=by rfl):KW X (e :: es) (RC t u):=by
 intro pins s σ H vs us Q I r h
 obtain⟨v,vr,e1,h⟩:=h
 subst e1
 cases r with
 |cons r rr=>
  rw[hs]
  refine assignInOrder_cons (ee (h1 pins s σ H _ _ _ I r h) fun _ s1 ⟨σ1,H1,I1,q1⟩=>?_)
  exact h2 pins s1 σ1 H1 _ _ Q I1 rr q1
inductive Zk (K:Frag)(H:Hp)(n:Nat)(v:V)(k:List V->Prop):Prop
 |mk (a:Addr)(xs:List V)(h1:v= .ref a)(h2:cB K H a xs)(h3:xs.length=n)(q:k xs):Zk K H n v k
def RD (K:Frag)(n:Nat)(t:M5):TG:=fun v σ H Q=>Zk K H n v fun xs=>t xs σ H Q
theorem iE {es:List Expr}{k:Nat}{t:M5}{n:Nat}(hc:X.calm=true)(h:KW X es t)
  (hn:(assignEach es X.env).length=n:=by rfl) (oR:(assignEach es X.env).findIdx? (·.1)=none:=by rfl):PG X (.Tuple es k pos) (RD X.K n t):=by
 intro pins s σ H v u Q I r hw
 obtain⟨a,xs,e1,hq,hl,hw⟩:=hw
 subst e1
 cases r
 obtain⟨b0,rv,ht,hz⟩:=I.tuple hq
 refine assign_Tuple_tuple (I.ok.hd hc) ht (by simp[hn,← hl,rv.length]) oR fun h' hx=>?_
 have I1:Inv X pins σ H {s with heap:=h'}:=I.kept (t':=s.toks) fun b o e=>hx b o (a8 (aN e)) e
 exact h pins _ σ H xs _ Q I1 (by simpa using rv) hw
def Wj (to ti:TE)(t:N7):TG:=fun v σ H Q=>to σ H fun o H1=>ti σ H1 fun i H2=>t o i v H2 fun H3=>Q σ H3
theorem r9 {o i:Expr}{to ti:TE}{t:N7}(ho:PE X o to)(hi:PE X i ti)(hs:RB X t)
  (ha: ∀v,assign (.Subscript o i pos) X.env v=(do
   let ov ← holding [v] (eval o X.env)
   let iv ← holding [v,ov] (eval i X.env)
   standAt pos
   holding [v,ov,iv] (setItem ov iv v)
   release [v,ov,iv] []):=by intro _; rfl):PG X (.Subscript o i pos) (Wj to ti t):=by
 intro pins s σ H v u Q I r h
 rw[ha]
 refine az (iB (ee (ho pins s σ H _ I h) fun ov s1 ⟨x,H1,I1,r1,q1⟩=>?_))
 refine az (iB (ee (hi pins s1 σ H1 _ I1 q1) fun iv s2 ⟨y,H2,I2,r2,q2⟩=>?_))
 refine az (iC (az (iB (ee (hs pins s2 σ H2 x y v ov iv u _ I2 r1 r2 r q2) fun _ s3 ⟨H3,I3,q3⟩=>?_))))
 exact wpAny_release ⟨σ,H3,I3,q3⟩
def Lp (te:TE)(g:TG):TS:=fun D σ H=>te σ H fun x H1=>g x σ H1 D.nx
theorem l0 {tg e:Expr}{te:TE}{g:TG}(he:PE X e te)(hg:PG X tg g)(hs:swapsWithSole [tg] e pos.line X.env=pure false:=by rfl)(hw:swappedStores [tg] e X.env=pure none:=by rfl)
  (h1:(assignEach [tg] X.env).map (·.2)=[assign tg X.env]:=by rfl):PS X (.Assign [tg] e pos) (Lp te g):=by
 intro pins s σ H D I h
 refine wpAny_Assign_stores (ee (he pins s σ H _ I h) fun v s1 ⟨x,H1,I1,r1,q1⟩=>?_) hs hw
 rw[h1]
 exact ee (hg pins s1 σ H1 x v _ I1 r1 q1) fun _ s2 q=>q
theorem N8 {i:Nat}{x:Str}{e:Expr}{te:TE}{pos':Pos}(hN:X.N.Nodup)(hi:X.N[i]? =some x)(hx:Loc X.env.scope x)(he:PE X e te)(hs:swapsWith e (some (.Name x pos')) pos.line X.env=pure false:=by rfl)(hf:X.fn x=true∨X.env.scope.names.lookup x=some .local:=by first|exact .inl rfl|exact .inr rfl|assumption):
  PS X (.Assign [.Name x pos'] e pos) (Lp te (Bh i)):=by
 intro pins s σ H D I h
 refine wpAny_Assign_Name (ee (he pins s σ H _ I h) fun v s1 ⟨y,H1,I1,r1,q1⟩=>?_) hs
 exact uI I1 hN hi hx r1 (fun s2 I2=>⟨_,H1,I2,q1⟩) hf
def N9 (c:TT)(tb:TS):TS:=fun D σ H=> ∃W:Nat->St->Hp->Prop,(∃m,W m σ H)/\ ∀m σ H,W m σ H->
 c σ H fun b H1=>if b=true then ∃N:St->Hp->Prop,(∀σ' H',N σ' H'-> ∃m',m' < m/\W m' σ' H')/\tb {D with nx:=N,ct:=N,bk:=D.nx} σ H1 else D.nx σ H1
theorem IE {c:Expr}{body:List Stmt}{tc:TT}{tb:TS}(hp:PassesOwn (model X.prog X.w) X.A X.env X.xe)(hc:PT X c tc)(hb:oQ X body tb):PS X (.While c body [] pos) (N9 tc tb):=by
 intro pins s σ H D I h
 obtain⟨W,⟨m0,w0⟩,turn⟩:=h
 refine wpAny_While (codeAny_whileLoop (fun n s'=> ∃σ' H',Inv X pins σ' H' s'/\W n σ' H') ?_ m0 ⟨σ,H,I,w0⟩)
 rintro n s1 ⟨σ1,H1,I1,w1⟩
 refine dS hp (ee (hc pins s1 σ1 H1 _ I1 (turn n σ1 H1 w1)) fun b s2 ⟨H2,I2,q2⟩=>?_)
 cases b with
 |true=>
  obtain⟨N,hN,q2⟩:=q2
  rw[aZ rfl]
  refine dS hp (ee (hb pins s2 σ1 H2 _ I2 q2) fun f s3 q3=>?_)
  cases f with
  |next=>
   obtain⟨σ3,H3,I3,n3⟩:=q3
   obtain⟨m',hm,w3⟩:=hN σ3 H3 n3
   exact⟨m',hm,σ3,H3,I3,w3⟩
  |cont=>
   obtain⟨σ3,H3,I3,n3⟩:=q3
   obtain⟨m',hm,w3⟩:=hN σ3 H3 n3
   exact⟨m',hm,σ3,H3,I3,w3⟩
  |brk=>exact q3
  |ret v=>exact q3
 |false=>
  rw[aO aR]
  exact jw ⟨σ1,H2,I2,q2⟩
end
structure It where
 go:Nat->Hp->Prop
 QG:Nat->Hp->V->Hp->Prop
 stop:Nat->Hp->Prop
def uK (X:Cx)(pins:List (Addr×Obj))(H:Hp)(b:Addr):Prop:=
 H b=none/\b≠X.env.locals/\b∉X.fs/\(b∈X.ex∨X.s₀.heap.objs.size<=b)/\(∀x c,X.env.cells.lookup x=some c->c≠b)/\ ∀p∈X.pn ++ pins,p.1≠b
theorem Inv.Gj {X:Cx}{pins:List (Addr×Obj)}{σ:St}{H H':Hp}{s:Shared}{b:Addr}(I:Inv X pins σ H s)(hb:s.heap.objs.size<=b)(hn:H' b=none):uK X pins H' b:=by
 refine⟨hn,ql (bo I.lt hb),I.Gh hb,.inr (a6 I.sz hb),fun x c e z=>?_,fun p hp z=>?_⟩
 ·obtain⟨v,q⟩:=I.cell x c e
  exact absurd (bo q.lt (by rw[z]; exact hb)) (iW _)
 ·exact absurd (bo (aN (I.pin p hp).1) (by rw[z]; exact hb)) (iW _)
structure Turn (P:Program)(w:World)(K:Frag)(tg:Expr)(J:It)(fp:List Addr)(it:Addr)(tn:Nat->Heap->Prop):Prop where
 mem:it∈fp
 obj: ∀i h,tn i h-> ∀b∈fp,∃o,h.get? b=some o/\ ∀v,o.data≠ .cell v
 keep: ∀i h h',tn i h->(∀b∈fp,∀o,h.get? b=some o->h'.get? b=some o)->tn i h'
 item: ∀(X:Cx),X.prog=P->X.w=w->X.K=K->X.calm=true-> ∀(i:Nat) (pins:List (Addr×Obj)) (s:Shared) (σ:St) (H:Hp) (E:Value->Shared->Prop),Inv X pins σ H s->(∀b∈fp,uK X pins H b)->tn i s.heap->J.go i H->
  wpAny (model P w) X.A (pyNext (.ref it)) (fun r s1=> ∃u,r=some u/\
   wpAny (model P w) X.A (letOwnedTupleGo tg (.ref it) u) (fun _ s2=> ∃x H',Inv X pins σ H' s2/\RelV x u/\J.QG i H x H'/\tn (i + 1) s2.heap/\ ∀b∈fp,H' b=none) E s1) E s
 done: ∀(X:Cx),X.prog=P->X.w=w->X.K=K->X.calm=true-> ∀(i:Nat) (pins:List (Addr×Obj)) (s:Shared) (σ:St) (H:Hp) (E:Value->Shared->Prop),Inv X pins σ H s->(∀b∈fp,uK X pins H b)->tn i s.heap->J.stop i H->
  wpAny (model P w) X.A (pyNext (.ref it)) (fun r s1=>r=none/\Inv X pins σ H s1) E s
 self: ∀(A:Around) (i:Nat) (s:Shared) (Q:Value->Shared->Prop) (E:Value->Shared->Prop),tn i s.heap->Q (.ref it) s->wpAny (model P w) A (pyIter (.ref it)) Q E s
abbrev TI:=St->Hp->(It->Hp->Prop)->Prop
def Zl (X:Cx)(pins:List (Addr×Obj))(σ:St)(tg:Expr)(R:It->Hp->Prop)(U6:Value)(s2:Shared):Prop:=
 ∃(it:Addr) (fp:List Addr) (tn:Nat->Heap->Prop) (J:It) (H':Hp),U6= .ref it/\Inv X pins σ H' s2/\Turn X.prog X.w X.K tg J fp it tn/\tn 0 s2.heap/\(∀b∈fp,uK X pins H' b)/\R J H'
def PI (X:Cx)(tg iter:Expr)(wi:TI):Prop:=
 ∀(pins:List (Addr×Obj)) (s:Shared) (σ:St) (H:Hp) (R:It->Hp->Prop),Inv X pins σ H s->wi σ H R->
  wpAny (model X.prog X.w) X.A (eval iter X.env) (fun v s1=>wpAny (model X.prog X.w) X.A (pyIter v) (Zl X pins σ tg R) X.xe s1) X.xe s
theorem EK {M:Model}{A:Around}{E:Value->Shared->Prop}{s:Shared}{tg:Expr}{it:Addr}{u:Value}{o:Obj}{n:String}{vs:Array Value}{Q:Unit->Shared->Prop}(ho:s.heap.get? it=some o)(hc:o.cls= .type n)(hd:o.data= .fields vs)
  (hn:["enumerate","zip","dict_itemiterator","dict_reverseitemiterator","odict_iterator","itertools.zip_longest","itertools.pairwise"].contains n=false) (hQ:Q () s):wpAny M A (letOwnedTupleGo tg (.ref it) u) Q E s:=by
 unfold letOwnedTupleGo
 cases tg <;> first
  |exact bF hQ
  |(cases u <;> first
    |exact bF hQ
    |(refine az (wpAny_load ho ?_)
      rw[hc,hd]
      show wpAny M A (if(["enumerate","zip","dict_itemiterator","dict_reverseitemiterator","odict_iterator","itertools.zip_longest","itertools.pairwise"].contains n && vs[0]? == some (rawInt _))=true then _ else _) Q E s
      rw[aO (by intro h; rw[hn,qu] at h; cases h)]
      exact bF hQ))
def QH (K:Frag)(a:Addr):It:=
 ⟨fun i H=> ∃xs x,bw K H a xs/\xs[i]? =some x,fun i H x H'=>H'=H/\ ∀xs,bw K H a xs->xs[i]? =some x,fun i H=> ∃xs,bw K H a xs/\xs.length<=i⟩
def Wk (K:Frag)(a:Addr):It:=
 ⟨fun i H=> ∃xs x,cB K H a xs/\xs[i]? =some x,fun i H x H'=>H'=H/\ ∀xs,cB K H a xs->xs[i]? =some x,fun i H=> ∃xs,cB K H a xs/\xs.length<=i⟩
def M6 (lo:Int)(n:Nat):It:=⟨fun i _=>i < n,fun i H x H'=>H'=H/\x= .int (lo + i),fun i _=>n<=i⟩
theorem Gk {P:Program}{w:World}{K:Frag}{tg:Expr}(a it:Addr):Turn P w K tg (QH K a) [it] it (fun i h=>h.IsListIter it a i) where
 mem:=by simp
 obj:=fun i h st b hb=>by
  have e:b=it:=by simpa using hb
  subst e
  obtain⟨o,e,c,d⟩:=st
  exact⟨o,e,fun v z=>by rw[d] at z; cases z⟩
 keep:=fun i h h' st k=>st.at fun o e=>k it (by simp) o e
 item:=by
  intro X hP hw hK hc i pins s σ H E I hf st hg
  subst hP hw hK
  obtain⟨xs,x,hq,hx⟩:=hg
  obtain⟨b0,rv,p,hz⟩:=I.list hq
  obtain⟨u,hu,ru⟩:=rv.get hx
  obtain⟨f0,f1,f2,f3,f4,f5⟩:=hf it (by simp)
  refine wpAny_pyNext_list_item st p.isList (x:=u) (by simpa using hu) fun h' AY sb=>?_
  have I1:Inv X pins σ H {s with heap:=h'}:=I.turned (t':=s.toks) (fun b o hb e=>(sb.2 b hb).trans e) f0 f1 f3 f4 f5
  obtain⟨o,e,c,d⟩:=id AY
  exact⟨u,rfl,EK (s:={s with heap:=h'}) e c d (by decide) ⟨x,H,I1,ru,⟨rfl,fun ys hy=>by rw[I.Bg hy hq]; exact hx⟩,AY,fun b hb=>(hf b hb).1⟩⟩
 done:=by
  intro X hP hw hK hc i pins s σ H E I hf st hg
  subst hP hw hK
  obtain⟨xs,hq,hx⟩:=hg
  obtain⟨b0,rv,p,hz⟩:=I.list hq
  obtain⟨f0,f1,f2,f3,f4,f5⟩:=hf it (by simp)
  have hl:=rv.length
  exact wpAny_pyNext_list_end (I.ok.hd hc) st p.isList (by simp; lia) fun h' eb=>⟨rfl,I.turned (t':=s.toks) (fun b o hb e=>eb b o hb e) f0 f1 f3 f4 f5⟩
 self:=fun _ _ _ _ _ st h=>wpAny_pyIter_listiter st h
theorem Dv {P:Program}{w:World}{K:Frag}{tg:Expr}(a it:Addr):Turn P w K tg (Wk K a) [it] it (fun i h=>h.IsTupleIter it a i) where
 mem:=by simp
 obj:=fun i h st b hb=>by
  have e:b=it:=by simpa using hb
  subst e
  obtain⟨o,e,c,d⟩:=st
  exact⟨o,e,fun v z=>by rw[d] at z; cases z⟩
 keep:=fun i h h' st k=>st.at fun o e=>k it (by simp) o e
 item:=by
  intro X hP hw hK hc i pins s σ H E I hf st hg
  subst hP hw hK
  obtain⟨xs,x,hq,hx⟩:=hg
  obtain⟨b0,rv,p,hz⟩:=I.tuple hq
  obtain⟨u,hu,ru⟩:=rv.get hx
  obtain⟨f0,f1,f2,f3,f4,f5⟩:=hf it (by simp)
  refine wpAny_pyNext_tuple_item st (show s.heap.IsTuple a b0.toArray from p) (x:=u) (by simpa using hu) fun h' AY sb=>?_
  have I1:Inv X pins σ H {s with heap:=h'}:=I.turned (t':=s.toks) (fun b o hb e=>(sb.2 b hb).trans e) f0 f1 f3 f4 f5
  obtain⟨o,e,c,d⟩:=id AY
  exact⟨u,rfl,EK (s:={s with heap:=h'}) e c d (by decide) ⟨x,H,I1,ru,⟨rfl,fun ys hy=>by rw[I.Gi hy hq]; exact hx⟩,AY,fun b hb=>(hf b hb).1⟩⟩
 done:=by
  intro X hP hw hK hc i pins s σ H E I hf st hg
  subst hP hw hK
  obtain⟨xs,hq,hx⟩:=hg
  obtain⟨b0,rv,p,hz⟩:=I.tuple hq
  obtain⟨f0,f1,f2,f3,f4,f5⟩:=hf it (by simp)
  have hl:=rv.length
  exact wpAny_pyNext_tuple_end (I.ok.hd hc) st (show s.heap.IsTuple a b0.toArray from p) (by simp; lia) fun h' eb=>⟨rfl,I.turned (t':=s.toks) (fun b o hb e=>eb b o hb e) f0 f1 f3 f4 f5⟩
 self:=fun _ _ _ _ _ st h=>wpAny_pyIter_tupleiter st h
theorem Dw {P:Program}{w:World}{K:Frag}{tg:Expr}(it:Addr)(lo:Int)(n:Nat):Turn P w K tg (M6 lo n) [it] it (fun i h=>IsRangeIter h it (lo + (i:Nat) * 1) ((n:Int) - (i:Nat)) 1) where
 mem:=by simp
 obj:=fun i h st b hb=>by
  have e:b=it:=by simpa using hb
  subst e
  exact⟨_,st,fun v z=>by
   have z':Data.fields _ =Data.cell v:=z
   cases z'⟩
 keep:=fun i h h' st k=>k it (by simp) _ st
 item:=by
  intro X hP hw hK hc i pins s σ H E I hf st hg
  subst hP hw hK
  obtain⟨f0,f1,f2,f3,f4,f5⟩:=hf it (by simp)
  have W:=Walks.range (prog:=X.prog) (w:=X.w) (I.ok.hd hc) it lo 1 n
  refine W.item i s _ _ hg st fun v h' tk hv AY kk=>?_
  obtain⟨t,rfl⟩:=hv
  have I1:Inv X pins σ H {s with heap:=h',toks:=tk}:=I.turned (fun b o hb e=>kk b o (by simpa using hb) e) f0 f1 f3 f4 f5
  refine⟨_,rfl,EK (s:={s with heap:=h',toks:=tk}) (n:="range_iterator") AY rfl rfl (by decide) ⟨.int (lo + i),H,I1,⟨t,?_⟩,⟨rfl,rfl⟩,AY,fun b hb=>(hf b hb).1⟩⟩
  rw[Int.mul_one]
 done:=by
  intro X hP hw hK hc i pins s σ H E I hf st hg
  subst hP hw hK
  obtain⟨f0,f1,f2,f3,f4,f5⟩:=hf it (by simp)
  exact wpAny_pyNext_range_end (I.ok.hd hc) st (by have:n<=i:=hg; lia) fun h' eb=>⟨rfl,I.turned (t':=s.toks) (fun b o hb e=>eb b o hb e) f0 f1 f3 f4 f5⟩
 self:=fun _ _ _ _ _ st h=>wpAny_pyIter_rangeiter st h
section
variable {X:Cx}{tg:Expr}
inductive Zm (x:V)(S k:Addr->Prop):Prop
 |mk (a:Addr)(h:x= .ref a)(s:S a)(q:k a):Zm x S k
def RE (K:Frag)(tl:TE):TI:=fun σ H R=>tl σ H fun x H1=>Zm x (fun a=> ∃xs,bw K H1 a xs) fun a=>R (QH K a) H1
def Wl (K:Frag)(tl:TE):TI:=fun σ H R=>tl σ H fun x H1=> ∃a,x= .ref a/\(∃xs,cB K H1 a xs)/\R (Wk K a) H1
theorem cF {l:Expr}{tl:TE}(hl:PE X l tl):PI X tg l (RE X.K tl):=by
 intro pins s σ H R I h
 refine ee (hl pins s σ H _ I h) fun v s1 ⟨x,H1,I1,r1,q1⟩=>?_
 obtain⟨a,e,⟨xs,hq⟩,q⟩:=q1
 subst e
 cases r1
 obtain⟨b0,rv,p,hz⟩:=I1.list hq
 refine wpAny_pyIter_list p.isList ?_
 refine⟨s1.heap.objs.size,[s1.heap.objs.size],_,_,H1,rfl,I1.kept (t':=s1.toks) fun b o e=>ay _ e,Gk a _,⟨_,bO _ rfl,rfl,rfl⟩,fun b hb=>?_,q⟩
 have e:b=s1.heap.objs.size:=by simpa using hb
 subst e
 exact I1.Gj (aI _) (I1.cz.fresh (aI _))
theorem Oa {l:Expr}{tl:TE}(hl:PE X l tl):PI X tg l (Wl X.K tl):=by
 intro pins s σ H R I h
 refine ee (hl pins s σ H _ I h) fun v s1 ⟨x,H1,I1,r1,q1⟩=>?_
 obtain⟨a,e,⟨xs,hq⟩,q⟩:=q1
 subst e
 cases r1
 obtain⟨b0,rv,p,hz⟩:=I1.tuple hq
 refine wpAny_pyIter_tuple (show s1.heap.IsTuple a b0.toArray from p) ?_
 refine⟨s1.heap.objs.size,[s1.heap.objs.size],_,_,H1,rfl,I1.kept (t':=s1.toks) fun b o e=>ay _ e,Dv a _,⟨_,bO _ rfl,rfl,rfl⟩,fun b hb=>?_,q⟩
 have e:b=s1.heap.objs.size:=by simpa using hb
 subst e
 exact I1.Gj (aI _) (I1.cz.fresh (aI _))
theorem IF {pins:List (Addr×Obj)}{σ:St}{H:Hp}{s:Shared}{R:It->Hp->Prop}{E:Value->Shared->Prop}{lo hi:Int}{t u v:Tok}{tk:Nat}(I:Inv X pins σ H s)(h1: -(2 ^ 62)<=lo)(h2:lo < 2 ^ 62)(h3: -(2 ^ 62)<=hi)(h4:hi < 2 ^ 62)
  (q:R (M6 lo (hi - lo).toNat) H):wpAny (model X.prog X.w) X.A (pyIter (.ref s.heap.objs.size)) (Zl X pins σ tg R) E {s with heap:=s.heap.push {cls:= .type "range",data:= .fields #[.int lo t,.int hi u,.int 1 v]},toks:=tk}:=by
 refine wpAny_pyIter_range (IsRange.new ..) (small_one h1 h2 h3 h4) ?_
 have I1:Inv X pins σ H {s with heap:=s.heap.push {cls:= .type "range",data:= .fields #[.int lo t,.int hi u,.int 1 v]},toks:=tk}:=I.kept fun b o e=>ay _ e
 refine⟨(s.heap.push {cls:= .type "range",data:= .fields #[.int lo t,.int hi u,.int 1 v]}).objs.size,[(s.heap.push {cls:= .type "range",data:= .fields #[.int lo t,.int hi u,.int 1 v]}).objs.size],_,_,H,rfl,
  I1.kept (t':=tk) fun b o e=>ay _ e,Dw _ lo (hi - lo).toNat,?_,fun b hb=>?_,q⟩
 ·have e1:lo + ((0:Nat):Int) * 1=lo:=by simp
  have e2:(((hi - lo).toNat:Nat):Int) - ((0:Nat):Int)=Builtin.Range.rangeSize lo hi 1:=by rw[rangeSize_one]; split <;> lia
  show IsRangeIter _ _ (lo + ((0:Nat):Int) * 1) ((((hi - lo).toNat:Nat):Int) - ((0:Nat):Int)) 1
  rw[e1,e2]
  exact bO _ rfl
 ·have e:b=(s.heap.push {cls:= .type "range",data:= .fields #[.int lo t,.int hi u,.int 1 v]}).objs.size:=by simpa using hb
  subst e
  exact I1.Gj (aI _) (I1.cz.fresh (aI _))
def RF (ta:TA):TI:=fun σ H R=>ta σ H fun vs H1=> ∃j:Int,vs=[.int j]/\ -(2 ^ 62)<=j/\j < 2 ^ 62/\R (M6 0 j.toNat) H1
theorem ij {a:Expr}{ta:TA}{p pos:Pos}(hg:Gl X "range")(hm:X.mg "range"=none)(ha:PA X [a] ta)(hs:starEach [a] X.env=[(false,eval a X.env)]:=by rfl):PI X tg (.Call (.Name "range" p) [a] [] pos) (RF ta):=by
 intro pins s σ H R I h
 refine Call_ (pG I hg hm boot_range (ou (ee (ha pos pins s σ H _ I h) fun us s1 ⟨vs,H1,I1,r1,q1⟩=>?_) hs rfl))
 obtain⟨j,e,q1,q2,q⟩:=q1
 subst e
 cases r1 with
 |cons r rr=>
  cases rr
  obtain⟨t,rfl⟩:=r
  exact call_range_1 (IF I1 (by lia) (by lia) q1 q2 (by simpa using q))
def Wm (wi:TI)(g:TG)(tb:TS):TS:=fun D σ H=>wi σ H fun J H1=> ∃W:Nat->Nat->St->Hp->Prop,(∃m,W 0 m σ H1)/\ ∀i m σ H,W i m σ H->
 (J.stop i H/\D.nx σ H)∨(J.go i H/\ ∃N:St->Hp->Prop,(∀σ' H',N σ' H'-> ∃m',m' < m/\W (i + 1) m' σ' H')/\ ∀x H',J.QG i H x H'->g x σ H' fun σ2 H2=>tb {D with nx:=N,ct:=N,bk:=D.nx} σ2 H2)
def pH (fp:List Addr)(h:Heap):List (Addr×Obj):=fp.filterMap fun b=>(h.get? b).map fun o=>(b,o)
theorem jT {fp:List Addr}{h:Heap}{b:Addr}{o:Obj}(hb:b∈fp)(e:h.get? b=some o):(b,o)∈pH fp h:=List.mem_filterMap.mpr ⟨b,hb,by rw[e]; rfl⟩
theorem Gm {fp:List Addr}{h:Heap}{p:Addr×Obj}(hp:p∈pH fp h):p.1∈fp/\h.get? p.1=some p.2:=by
 obtain⟨b,hb,e⟩:=List.mem_filterMap.mp hp
 cases q:h.get? b with
 |none=>rw[q] at e; cases e
 |some o=>
  rw[q] at e
  have e':(b,o)=p:=aD e
  subst e'
  exact⟨hb,q⟩
theorem Inv.pinned {pins:List (Addr×Obj)}{σ:St}{H:Hp}{s:Shared}{fp:List Addr}(I:Inv X pins σ H s)(hf: ∀b∈fp,uK X pins H b)(ho: ∀b∈fp,∃o,s.heap.get? b=some o/\ ∀v,o.data≠ .cell v):Inv X (pins ++ pH fp s.heap) σ H s:=
 I.ui fun p hp=>(bq.mp hp).elim (fun z=>I.pin p (bz _ z)) fun z=>by
  obtain⟨hb,e⟩:=Gm z
  obtain⟨f0,f1,f2,_⟩:=hf p.1 hb
  obtain⟨o,e',d⟩:=ho p.1 hb
  rw[e] at e'; cases e'
  exact⟨e,f0,f1,f2,d⟩
theorem Inv.jm {pins pl:List (Addr×Obj)}{σ:St}{H:Hp}{s:Shared}(I:Inv X (pins ++ pl) σ H s):Inv X pins σ H s:=I.ui fun p hp=>I.pin p (bz _ (cZ _ hp))
theorem dW {iter:Expr}{body:List Stmt}{wi:TI}{g:TG}{tb:TS}{pos:Pos}(hp:PassesOwn (model X.prog X.w) X.A X.env X.xe)(hc:X.calm=true)(hi:PI X tg iter wi)(hg:PG X tg g)(hb:oQ X body tb)
  (hs: ∀x,foldedSetIterable iter X.env x=pure x:=by intro _; rfl):PS X (.For tg iter body [] pos) (Wm wi g tb):=by
 intro pins s σ H D I h
 refine wpAny_For (ee (hi pins s σ H _ I h) fun v s1 h1=>ee h1 fun U6 s2 h2=>?_) hs
 obtain⟨it,fp,tn,J,H2,e,I2,T,M7,f2,W,⟨m0,w0⟩,turn⟩:=h2
 subst e
 have se: ∀{H':Hp},(∀b∈fp,H' b=none)-> ∀b∈fp,uK X pins H' b:=fun hn b hb=>⟨hn b hb,(f2 b hb).2⟩
 refine codeAny_forLoop_any (fun n s'=> ∃i σ' H',Inv X pins σ' H' s'/\tn i s'.heap/\(∀b∈fp,H' b=none)/\W i n σ' H') ?_ m0 ⟨0,σ,H2,I2,M7,fun b hb=>(f2 b hb).1,w0⟩
 rintro n s3 ⟨i,σ3,H3,I3,RG,Lq,w3⟩
 rcases turn i n σ3 H3 w3 with⟨stop,qn⟩|⟨go,N,hN,step⟩
 ·refine dS hp (ee (T.done X rfl rfl rfl hc i pins s3 σ3 H3 X.xe I3 (se Lq) RG stop) fun r s4 ⟨hr,I4⟩=>?_)
  subst hr
  exact jw ⟨σ3,H3,I4,qn⟩
 ·refine dS hp (ee (T.item X rfl rfl rfl hc i pins s3 σ3 H3 X.xe I3 (se Lq) RG go) fun r s4 ⟨u,hr,h4⟩=>?_)
  subst hr
  refine dS hp (ee h4 fun _ s5 ⟨x,H5,I5,r5,y5,Ob,QI⟩=>?_)
  have I5':=I5.pinned (se QI) (T.obj _ _ Ob)
  refine dS hp (ee (hg _ s5 σ3 H5 x u _ I5' r5 (step x H5 y5)) fun _ s6 ⟨σ6,H6,I6,q6⟩=>?_)
  refine dS hp (ee (hb _ s6 σ6 H6 _ I6 q6) fun f s7 q7=>?_)
  have again: ∀{σ7:St} {H7:Hp},Inv X (pins ++ pH fp s5.heap) σ7 H7 s7->N σ7 H7-> ∃m,m < n/\ ∃i σ' H',Inv X pins σ' H' s7/\tn i s7.heap/\(∀b∈fp,H' b=none)/\W i m σ' H':=fun{σ7 H7} I7 n7=>by
   obtain⟨m',hm,w7⟩:=hN σ7 H7 n7
   refine⟨m',hm,i + 1,σ7,H7,I7.jm,T.keep _ _ _ Ob fun b hb o e=>(I7.pin (b,o) (bz _ (bz _ (jT hb e)))).1,fun b hb=>?_,w7⟩
   obtain⟨o,e,d⟩:=T.obj _ _ Ob b hb
   exact(I7.pin (b,o) (bz _ (bz _ (jT hb e)))).2.1
  cases f with
  |next=>obtain⟨σ7,H7,I7,n7⟩:=q7; exact again I7 n7
  |cont=>obtain⟨σ7,H7,I7,n7⟩:=q7; exact again I7 n7
  |brk=>obtain⟨σ7,H7,I7,q7⟩:=q7; exact⟨σ7,H7,I7.jm,q7⟩
  |ret v=>obtain⟨x7,σ7,H7,I7,r7,q7⟩:=q7; exact⟨x7,σ7,H7,I7.jm,r7,q7⟩
end
theorem eQ {K:Frag}{a:Addr}{xs:List V}{g:TG}{tb:TS}{D:Ends}{σ:St}{H:Hp}(Pv:Nat->St->Hp->Prop)(h0:Pv 0 σ H)(hl: ∀i σ H,i<=xs.length->Pv i σ H->bw K H a xs)
  (hs: ∀i x σ H,xs[i]? =some x->Pv i σ H->g x σ H fun σ2 H2=>tb {D with nx:=Pv (i + 1),ct:=Pv (i + 1),bk:=D.nx} σ2 H2) (hd: ∀σ H,Pv xs.length σ H->D.nx σ H):
  ∃W:Nat->Nat->St->Hp->Prop,(∃m,W 0 m σ H)/\ ∀i m σ H,W i m σ H->
   ((QH K a).stop i H/\D.nx σ H)∨((QH K a).go i H/\ ∃N:St->Hp->Prop,(∀σ' H',N σ' H'-> ∃m',m' < m/\W (i + 1) m' σ' H')/\ ∀x H',(QH K a).QG i H x H'->g x σ H' fun σ2 H2=>tb {D with nx:=N,ct:=N,bk:=D.nx} σ2 H2):=by
 refine⟨fun i m σ H=>m=xs.length - i/\i<=xs.length/\Pv i σ H,⟨xs.length,by simp,Nat.zero_le _,h0⟩,?_⟩
 rintro i m σ H ⟨rfl,hi,p⟩
 have q:=hl i σ H hi p
 by_cases i7:i < xs.length
 ·refine .inr ⟨⟨xs,xs[i],q,by simp[i7]⟩,Pv (i + 1),fun σ' H' p'=>⟨xs.length - (i + 1),by lia,rfl,i7,p'⟩,fun x H' y=>?_⟩
  obtain⟨e,y⟩:=y
  subst e
  exact hs i x σ _ (y xs q) p
 ·have e:i=xs.length:=by lia
  subst e
  exact .inl ⟨⟨xs,q,aI _⟩,hd σ H p⟩
theorem i8 {lo:Int}{n:Nat}{g:TG}{tb:TS}{D:Ends}{σ:St}{H:Hp}(Pv:Nat->St->Hp->Prop)(h0:Pv 0 σ H)
  (hs: ∀i σ H,i < n->Pv i σ H->g (.int (lo + i)) σ H fun σ2 H2=>tb {D with nx:=Pv (i + 1),ct:=Pv (i + 1),bk:=D.nx} σ2 H2) (hd: ∀σ H,Pv n σ H->D.nx σ H):
  ∃W:Nat->Nat->St->Hp->Prop,(∃m,W 0 m σ H)/\ ∀i m σ H,W i m σ H->
   ((M6 lo n).stop i H/\D.nx σ H)∨((M6 lo n).go i H/\ ∃N:St->Hp->Prop,(∀σ' H',N σ' H'-> ∃m',m' < m/\W (i + 1) m' σ' H')/\ ∀x H',(M6 lo n).QG i H x H'->g x σ H' fun σ2 H2=>tb {D with nx:=N,ct:=N,bk:=D.nx} σ2 H2):=by
 refine⟨fun i m σ H=>m=n - i/\i<=n/\Pv i σ H,⟨n,by simp,Nat.zero_le _,h0⟩,?_⟩
 rintro i m σ H ⟨rfl,hi,p⟩
 by_cases i7:i < n
 ·refine .inr ⟨i7,Pv (i + 1),fun σ' H' p'=>⟨n - (i + 1),by lia,rfl,i7,p'⟩,fun x H' y=>?_⟩
  obtain⟨e,y⟩:=y
  subst e y
  exact hs i σ _ i7 p
 ·have e:i=n:=by lia
  subst e
  exact .inl ⟨aI _,hd σ H p⟩
abbrev R2:=V->V->Hp->VK->Prop
def oE (X:Cx)(f:Value->Value->Sem Value)(r:R2):Prop:=
 ∀(pins:List (Addr×Obj)) (s:Shared) (σ:St) (H:Hp) (x y:V) (v u:Value) (Q:VK),Inv X pins σ H s->RelV x v->RelV y u->r x y H Q->
  wpAny (model X.prog X.w) X.A (f v u) (EP X pins σ Q) X.xe s
def M8 (X:Cx)(f:Value->Sem Value)(r:V->Hp->VK->Prop):Prop:=
 ∀(pins:List (Addr×Obj)) (s:Shared) (σ:St) (H:Hp) (x:V) (v:Value) (Q:VK),Inv X pins σ H s->RelV x v->r x H Q->
  wpAny (model X.prog X.w) X.A (f v) (EP X pins σ Q) X.xe s
def iT (X:Cx)(f:Value)(r:List V->Hp->VK->Prop):Prop:=
 ∀(pins:List (Addr×Obj)) (s:Shared) (σ:St) (H:Hp) (xs:List V) (us:List Value) (Q:VK),Inv X pins σ H s->Vals xs us->r xs H Q->
  wpAny (model X.prog X.w) X.A (call f us) (EP X pins σ Q) X.xe s
def QJ (r:R2)(ta tb:TE):TE:=fun σ H Q=>ta σ H fun x H1=>tb σ H1 fun y H2=>r x y H2 Q
def tUn (r:V->Hp->VK->Prop)(ta:TE):TE:=fun σ H Q=>ta σ H fun x H1=>r x H1 Q
inductive Zn (x y:V)(C k:Int->Int->Prop):Prop
 |mk (i j:Int)(h1:x= .int i)(h2:y= .int j)(c:C i j)(q:k i j):Zn x y C k
inductive Zo (x y:V)(k:Int->Int->Prop):Prop
 |mk (i j:Int)(h1:x= .int i)(h2:y= .int j)(q:k i j):Zo x y k
def rI (C:Int->Int->Prop)(g:Int->Int->V):R2:=fun x y H Q=>Zn x y C fun i j=>Q (g i j) H
def KY (g:Int->Int->V):R2:=fun x y H Q=>Zo x y fun i j=>Q (g i j) H
def rU (g:Int->V):V->Hp->VK->Prop:=fun x H Q=> ∃i,x= .int i/\Q (g i) H
section
variable {X:Cx}{a b c:Expr}{ta tb tc:TE}{pos:Pos}
theorem Oc (ha:PE X a ta)(hb:PE X b tb){pins:List (Addr×Obj)}{s:Shared}{σ:St}{H:Hp}{R:V->V->Hp->Prop}(I:Inv X pins σ H s)
  (h:ta σ H fun x H1=>tb σ H1 fun y H2=>R x y H2) {Q:Value->Shared->Prop} {f:Value->Value->Sem Value}
  (hf: ∀v u s2 x y H2,Inv X pins σ H2 s2->RelV x v->RelV y u->R x y H2->wpAny (model X.prog X.w) X.A (f v u) Q X.xe s2):
  wpAny (model X.prog X.w) X.A (eval a X.env) (fun v s₁=>wpAny (model X.prog X.w) X.A (eval b X.env) (fun u s₂=>wpAny (model X.prog X.w) X.A (f v u) Q X.xe s₂) X.xe s₁) X.xe s:=by
 refine ee (ha pins s σ H _ I h) fun v s1 ⟨x,H1,I1,r1,q1⟩=>?_
 refine ee (hb pins s1 σ H1 _ I1 q1) fun u s2 ⟨y,H2,I2,r2,q2⟩=>?_
 exact hf v u s2 x y H2 I2 r1 r2 q2
theorem aQ {op:Operator}{r:R2}(ho:oE X (binaryOp op) r)(ha:PE X a ta)(hb:PE X b tb):PE X (.BinOp a op b pos) (QJ r ta tb):=by
 intro pins s σ H Q I h
 exact wpAny_BinOp (Oc ha hb I h fun v u s2 x y H2 I2 rx ry q=>ho pins s2 σ H2 x y v u Q I2 rx ry q)
theorem oS {op:UnaryOp}{r:V->Hp->VK->Prop}(ho:M8 X (unaryOp op) r)(ha:PE X a ta):PE X (.UnaryOp op a pos) (tUn r ta):=by
 intro pins s σ H Q I h
 exact UnaryOp_ (ee (ha pins s σ H _ I h) fun v s1 ⟨x,H1,I1,r1,q1⟩=>ho pins s1 σ H1 x v Q I1 r1 q1)
theorem RH {f:Value->Value->Sem Value}{C:Int->Int->Prop}{g:Int->Int->Int}
  (rule: ∀(i j:Int) (t u:Tok) (s:Shared) (Q:Value->Shared->Prop) (E:Value->Shared->Prop),C i j->Q (.int (g i j) s.toks) {s with toks:=s.toks + 1}->wpAny (model X.prog X.w) X.A (f (.int i t) (.int j u)) Q E s):
  oE X f (rI C fun i j=> .int (g i j)):=by
 intro pins s σ H x y v u Q I rx ry h
 obtain⟨i,j,rfl,rfl,hc,q⟩:=h
 obtain⟨t,rfl⟩:=rx
 obtain⟨t',rfl⟩:=ry
 exact rule i j t t' s _ _ hc ⟨.int (g i j),H,I.tok _,⟨_,rfl⟩,q⟩
theorem RI {f:Value->Value->Sem Value}{g:Int->Int->Int}
  (rule: ∀(i j:Int) (t u:Tok) (s:Shared) (Q:Value->Shared->Prop) (E:Value->Shared->Prop),Q (.int (g i j) s.toks) {s with toks:=s.toks + 1}->wpAny (model X.prog X.w) X.A (f (.int i t) (.int j u)) Q E s):
  oE X f (KY fun i j=> .int (g i j)):=by
 intro pins s σ H x y v u Q I rx ry h
 obtain⟨i,j,rfl,rfl,q⟩:=h
 obtain⟨t,rfl⟩:=rx
 obtain⟨t',rfl⟩:=ry
 exact rule i j t t' s _ _ ⟨.int (g i j),H,I.tok _,⟨_,rfl⟩,q⟩
theorem Lr {f:Value->Value->Sem Value}{g:Int->Int->Bool}
  (rule: ∀(i j:Int) (t u:Tok) (s:Shared) (Q:Value->Shared->Prop) (E:Value->Shared->Prop),Q (.bool (g i j)) s->wpAny (model X.prog X.w) X.A (f (.int i t) (.int j u)) Q E s):
  oE X f (KY fun i j=> .bl (g i j)):=by
 intro pins s σ H x y v u Q I rx ry h
 obtain⟨i,j,rfl,rfl,q⟩:=h
 obtain⟨t,rfl⟩:=rx
 obtain⟨t',rfl⟩:=ry
 exact rule i j t t' s _ _ ⟨.bl (g i j),H,I,rfl,q⟩
def Wn (i j:Int):Prop:=0 < j/\j < 1073741824
def Wo (i j:Int):Prop:=0<=j/\j<=1000000/\i.natAbs < 2 ^ 64
def Od (i j:Int):Prop:=(-(2 ^ 64) < i/\i < 2 ^ 64)∨(-(2 ^ 64) < j/\j < 2 ^ 64)
theorem Od.ok {i j:Int}(h:Od i j):IntMulOk i j:=by
 rcases h with⟨h1,h2⟩|⟨h1,h2⟩
 ·exact .of_left (intBits_le_64 h1 h2)
 ·exact .of_right (intBits_le_64 h1 h2)
theorem cJ:oE X (binaryOp .Add) (KY fun i j=> .int (i + j)):=RI fun _ _ _ _ _ _ _ q=>add_int q
theorem eM:oE X (binaryOp .Sub) (KY fun i j=> .int (i - j)):=RI fun _ _ _ _ _ _ _ q=>sub_int q
theorem jx:oE X (binaryOp .Mult) (rI Od fun i j=> .int (i * j)):=RH fun _ _ _ _ _ _ _ hc q=>mul_int q hc.ok
theorem jH:oE X (binaryOp .FloorDiv) (rI Wn fun i j=> .int (i / j)):=RH fun i j _ _ _ _ _ hc q=>by
 have h1:(0:Int) < j:=hc.1
 have h2:j < 1073741824:=hc.2
 exact floordiv_int (by lia) (by rw[Int.fdiv_eq_ediv_of_nonneg i (by lia)]; exact q) (.inl (PyProof.noPylong_small (by lia)))
theorem b9:oE X (binaryOp .Mod) (rI (fun _ j=>0 < j) fun i j=> .int (i % j)):=RH fun i j _ _ _ _ _ hc q=>by
 have h1:(0:Int) < j:=hc
 exact mod_int' (by lia) (by rw[Int.fmod_eq_emod_of_nonneg i (by lia)]; exact q)
theorem i9:oE X (binaryOp .Pow) (rI Wo fun i j=> .int (i ^ j.toNat)):=RH fun _ _ _ _ _ _ _ hc q=>pow_int_small hc.1 hc.2.1 hc.2.2 q
theorem unI {f:Value->Sem Value}{g:Int->Int}
  (rule: ∀(i:Int) (t:Tok) (s:Shared) (Q:Value->Shared->Prop) (E:Value->Shared->Prop),Q (.int (g i) s.toks) {s with toks:=s.toks + 1}->wpAny (model X.prog X.w) X.A (f (.int i t)) Q E s):
  M8 X f (rU fun i=> .int (g i)):=by
 intro pins s σ H x v Q I rx h
 obtain⟨i,rfl,q⟩:=h
 obtain⟨t,rfl⟩:=rx
 exact rule i t s _ _ ⟨.int (g i),H,I.tok _,⟨_,rfl⟩,q⟩
theorem kZ:M8 X (unaryOp .USub) (rU fun i=> .int (-i)):=unI fun _ _ _ _ _ q=>neg_int q
end
def RJ:V->V->Bool
 | .eD,.eD=>true| .eD,.int _=>true| .int _,.eD=>true| .eD,.bl _=>true| .bl _,.eD=>true| .eD,.str _=>true| .str _,.eD=>true
 | .int _,.int _=>true| .bl _,.bl _=>true| .str _,.str _=>true| .Gf _,.Gf _=>true
 | .int _,.str _=>true| .str _,.int _=>true| .bl _,.str _=>true| .str _,.bl _=>true
 |_,_=>false
def rEq:R2:=fun x y H Q=>RJ x y=true/\Q (.bl (decide (x=y))) H
def rNe:R2:=fun x y H Q=>RJ x y=true/\Q (.bl (!decide (x=y))) H
theorem EL {i j:Int}:decide (V.int i=V.int j)=(i == j):=by
 rw[ow]
 simp
theorem IG {i j:Bool}:decide (V.bl i=V.bl j)=(i == j):=by
 rw[ow]
 simp
theorem EM {i j:Str}:decide (V.str i=V.str j)=(i == j):=by
 rw[ow]
 simp
theorem EN {i j:Array UInt8}:decide (V.Gf i=V.Gf j)=(i.toList == j.toList):=by
 rw[ow]
 cases i
 cases j
 simp
section
variable {X:Cx}{a b c:Expr}{ta tb tc:TE}{pos:Pos}
theorem dC {pins:List (Addr×Obj)}{σ:St}{H:Hp}{s:Shared}{Q:VK}{k k':Bool}(I:Inv X pins σ H s)(q:Q (.bl k) H)(e:k=k'):EP X pins σ Q (.bool k') s:=by
 subst e
 exact⟨.bl k,H,I,rfl,q⟩
theorem cK:oE X (compareOp .Eq) rEq:=by
 intro pins s σ H x y v u Q I rx ry h
 obtain⟨hs,q⟩:=h
 cases x with
 |eD=>
  cases rx
  cases y with
  |eD=>cases ry; exact PySem.EqNone.eq_none_none (dC I q (by simp))
  |bl j=>cases ry; exact PySem.EqNone.eq_none_bool (dC I q (by simp))
  |int j=>obtain⟨t',rfl⟩:=ry; exact PySem.EqNone.eq_none_int (dC I q (by simp))
  |str j=>obtain⟨t',rfl⟩:=ry; exact PySem.EqNone.eq_none_str (dC I q (by simp))
  |_=>exact absurd (show false=true from hs) aR
 |bl i=>
  cases rx
  cases y with
  |eD=>cases ry; exact PySem.EqNone.eq_bool_none (dC I q (by simp))
  |bl j=>cases ry; exact eq_bool (dC I q IG)
  |str j=>obtain⟨t',rfl⟩:=ry; exact PySem.EqMixed.eq_bool_str (dC I q (by simp))
  |_=>exact absurd (show false=true from hs) aR
 |int i=>
  obtain⟨t,rfl⟩:=rx
  cases y with
  |eD=>cases ry; exact PySem.EqNone.eq_int_none (dC I q (by simp))
  |int j=>obtain⟨t',rfl⟩:=ry; exact eq_int (dC I q EL)
  |str j=>obtain⟨t',rfl⟩:=ry; exact PySem.EqMixed.eq_int_str (dC I q (by simp))
  |_=>exact absurd (show false=true from hs) aR
 |str i=>
  obtain⟨t,rfl⟩:=rx
  cases y with
  |eD=>cases ry; exact PySem.EqNone.eq_str_none (dC I q (by simp))
  |bl j=>cases ry; exact PySem.EqMixed.eq_str_bool (dC I q (by simp))
  |int j=>obtain⟨t',rfl⟩:=ry; exact PySem.EqMixed.eq_str_int (dC I q (by simp))
  |str j=>obtain⟨t',rfl⟩:=ry; exact eq_str (dC I q EM)
  |_=>exact absurd (show false=true from hs) aR
 |Gf i=>
  obtain⟨t,rfl⟩:=rx
  cases y with
  |Gf j=>obtain⟨t',rfl⟩:=ry; exact PySem.W.eq_bytes (dC I q EN)
  |_=>exact absurd (show false=true from hs) aR
 |_=>cases y <;> exact absurd (show false=true from hs) aR
theorem oT:oE X (compareOp .NotEq) rNe:=by
 intro pins s σ H x y v u Q I rx ry h
 obtain⟨hs,q⟩:=h
 cases x with
 |eD=>
  cases rx
  cases y with
  |eD=>cases ry; exact PySem.EqNone.ne_none_none (dC I q (by simp))
  |bl j=>cases ry; exact PySem.EqNone.ne_none_bool (dC I q (by simp))
  |int j=>obtain⟨t',rfl⟩:=ry; exact PySem.EqNone.ne_none_int (dC I q (by simp))
  |str j=>obtain⟨t',rfl⟩:=ry; exact PySem.EqNone.ne_none_str (dC I q (by simp))
  |_=>exact absurd (show false=true from hs) aR
 |bl i=>
  cases rx
  cases y with
  |eD=>cases ry; exact PySem.EqNone.ne_bool_none (dC I q (by simp))
  |bl j=>cases ry; exact ne_bool (dC I q (c9 not IG))
  |str j=>obtain⟨t',rfl⟩:=ry; exact PySem.EqMixed.ne_bool_str (dC I q (by simp))
  |_=>exact absurd (show false=true from hs) aR
 |int i=>
  obtain⟨t,rfl⟩:=rx
  cases y with
  |eD=>cases ry; exact PySem.EqNone.ne_int_none (dC I q (by simp))
  |int j=>obtain⟨t',rfl⟩:=ry; exact ne_int (dC I q (c9 not EL))
  |str j=>obtain⟨t',rfl⟩:=ry; exact PySem.EqMixed.ne_int_str (dC I q (by simp))
  |_=>exact absurd (show false=true from hs) aR
 |str i=>
  obtain⟨t,rfl⟩:=rx
  cases y with
  |eD=>cases ry; exact PySem.EqNone.ne_str_none (dC I q (by simp))
  |bl j=>cases ry; exact PySem.EqMixed.ne_str_bool (dC I q (by simp))
  |int j=>obtain⟨t',rfl⟩:=ry; exact PySem.EqMixed.ne_str_int (dC I q (by simp))
  |str j=>obtain⟨t',rfl⟩:=ry; exact ne_str (dC I q (c9 not EM))
  |_=>exact absurd (show false=true from hs) aR
 |Gf i=>
  obtain⟨t,rfl⟩:=rx
  cases y with
  |Gf j=>obtain⟨t',rfl⟩:=ry; exact PySem.W.ne_bytes (dC I q (c9 not EN))
  |_=>exact absurd (show false=true from hs) aR
 |_=>cases y <;> exact absurd (show false=true from hs) aR
theorem jU:oE X (compareOp .Lt) (KY fun i j=> .bl (decide (i < j))):=Lr fun _ _ _ _ _ _ _ q=>lt_int q
theorem oU:oE X (compareOp .LtE) (KY fun i j=> .bl (decide (i<=j))):=Lr fun _ _ _ _ _ _ _ q=>le_int q
theorem jn:oE X (compareOp .Gt) (KY fun i j=> .bl (decide (j < i))):=Lr fun _ _ _ _ _ _ _ q=>gt_int q
theorem IH:oE X (compareOp .GtE) (KY fun i j=> .bl (decide (j<=i))):=Lr fun _ _ _ _ _ _ _ q=>ge_int q
theorem a0 (b:Expr){op:CmpOp}(h:op≠ .In:=by decide)(h2:op≠ .NotIn:=by decide):behindInMarks op b=false:=by
 have e1:(op == CmpOp.In)=false:=by cases op <;> first|rfl|exact absurd rfl h
 have e2:(op == CmpOp.NotIn)=false:=by cases op <;> first|rfl|exact absurd rfl h2
 cases b <;> simp[behindInMarks,e1,e2]
theorem eF {op:CmpOp}{r:R2}(ho:oE X (compareOp op) r)(ha:PE X a ta)(hb:PE X b tb)(hm:behindInMarks op b=false):PE X (.Compare a [op] [b] pos) (QJ r ta tb):=by
 intro pins s σ H Q I h
 exact wpAny_Compare1 (Oc ha hb I h fun v u s2 x y H2 I2 rx ry q=>ho pins s2 σ H2 x y v u Q I2 rx ry q) hm
inductive Zp (x:V)(k:Bool->Prop):Prop
 |mk (b:Bool)(h:x= .bl b)(q:k b):Zp x k
def II (t:TE):TT:=fun σ H Q=>t σ H fun x H'=>Zp x fun b=>Q b H'
theorem aX {op:CmpOp}{r:R2}(ho:oE X (compareOp op) r)(ha:PE X a ta)(hb:PE X b tb)(hm:behindInMarks op b=false):PT X (.Compare a [op] [b] pos) (II (QJ r ta tb)):=by
 intro pins s σ H Q I h
 refine wpAny_isTrue_Compare1 (ee (ha pins s σ H _ I h) fun v s1 ⟨x,H1,I1,r1,q1⟩=>ee (hb pins s1 σ H1 _ I1 q1) fun u s2 ⟨y,H2,I2,r2,q2⟩=>
  ee (ho pins s2 σ H2 x y v u _ I2 r1 r2 q2) fun c s3 ⟨z,H3,I3,r3,k,e,q3⟩=>?_) hm
 subst e
 cases r3
 exact fV ⟨H3,I3,q3⟩
def IJ (r r':R2)(ta tb tc:TE):TE:=fun σ H Q=>ta σ H fun x H1=>tb σ H1 fun y H2=>r x y H2 fun z H3=> ∃k,z= .bl k/\
 (if k=true then tc σ H3 fun w' H4=>r' y w' H4 Q else Q (.bl false) H3)
theorem Bi {op Wq:CmpOp}{r r':R2}(ho:oE X (compareOp op) r)(Lm:oE X (compareOp Wq) r')(ha:PE X a ta)(hb:PE X b tb)(hc:PE X c tc)
  (hm:lastMarks [op,Wq] [b,c]=false:=by with_unfolding_all rfl):PT X (.Compare a [op,Wq] [b,c] pos) (II (IJ r r' ta tb tc)):=by
 intro pins s σ H Q I h
 refine isTrue_chain (ee (ha pins s σ H _ I h) fun v s1 ⟨x,H1,I1,r1,q1⟩=>test_link (ee (hb pins s1 σ H1 _ I1 q1) fun u s2 ⟨y,H2,I2,r2,q2⟩=>
  ee (ho pins s2 σ H2 x y v u _ I2 r1 r2 q2) fun d s3 ⟨z,H3,I3,r3,k,e,q3⟩=>?_)) hm
 subst e
 cases r3
 refine fV ?_
 cases k with
 |false=>
  obtain⟨k',e',q'⟩:=q3
  cases e'
  exact ite_ff ⟨H3,I3,q'⟩
 |true=>
  refine ite_tt (test_last (ee (hc pins s3 σ H3 _ I3 q3) fun w' s4 ⟨z',H4,I4,r4,q4⟩=>ee (Lm pins s4 σ H4 y z' u w' _ I4 r2 r4 q4) fun d' s5 ⟨z2,H5,I5,r5,k2,e2,q5⟩=>?_))
  subst e2
  cases r5
  exact fV ⟨H5,I5,q5⟩
theorem yW:(sizeLine:Nat) < 2 ^ 63:=by rw[fe]; decide
theorem uL:oE X (binaryOp .Add) (fun x y H Q=> ∃i j,x= .str i/\y= .str j/\i.length + j.length<=sizeLine/\Q (.str (i ++ j)) H):=by
 intro pins s σ H x y v u Q I rx ry h
 obtain⟨i,j,rfl,rfl,hz,q⟩:=h
 obtain⟨t,rfl⟩:=rx
 obtain⟨t',rfl⟩:=ry
 exact add_str (fun t' tk=>⟨.str (i ++ j),H,I.tok _,⟨_,rfl⟩,q⟩) hz
theorem vals1 {x:V}{us:List Value}(r:Vals [x] us): ∃u,us=[u]/\RelV x u:=by
 cases r with
 |cons r1 r2=>cases r2; exact⟨_,rfl,r1⟩
theorem vals2 {x y:V}{us:List Value}(r:Vals [x,y] us): ∃u w',us=[u,w']/\RelV x u/\RelV y w':=by
 cases r with
 |cons r1 r2=>
  cases r2 with
  |cons r3 r4=>cases r4; exact⟨_,_,rfl,r1,r3⟩
theorem xX (hc:X.calm=true):iT X (.builtin "max") (fun xs H Q=> ∃i j,xs=[.int i,.int j]/\Q (.int (if j > i then j else i)) H):=by
 intro pins s σ H xs us Q I r h
 obtain⟨i,j,rfl,q⟩:=h
 obtain⟨u,w',rfl,⟨t,rfl⟩,⟨t',rfl⟩⟩:=vals2 r
 refine max_two_ints (I.ok.hd hc) fun h' tk k=>⟨_,H,I.kept k,?_,q⟩
 by_cases hj:j > i
 ·rw[aZ hj,aZ hj]; exact⟨_,rfl⟩
 ·rw[aO hj,aO hj]; exact⟨_,rfl⟩
theorem sf (hc:X.calm=true):iT X (.builtin "min") (fun xs H Q=> ∃i j,xs=[.int i,.int j]/\Q (.int (if j < i then j else i)) H):=by
 intro pins s σ H xs us Q I r h
 obtain⟨i,j,rfl,q⟩:=h
 obtain⟨u,w',rfl,⟨t,rfl⟩,⟨t',rfl⟩⟩:=vals2 r
 refine min_two_ints (I.ok.hd hc) fun h' tk k=>⟨_,H,I.kept k,?_,q⟩
 by_cases hj:j < i
 ·rw[aZ hj,aZ hj]; exact⟨_,rfl⟩
 ·rw[aO hj,aO hj]; exact⟨_,rfl⟩
theorem ja:iT X (.type "int") (fun xs H Q=>(∃i,xs=[.int i]/\Q (.int i) H)∨ ∃k,xs=[.bl k]/\Q (.int (if k then 1 else 0)) H):=by
 intro pins s σ H xs us Q I r h
 rcases h with⟨i,rfl,q⟩|⟨k,rfl,q⟩
 ·obtain⟨u,rfl,t,rfl⟩:=vals1 r
  exact call_int_int ⟨.int i,H,I,⟨_,rfl⟩,q⟩
 ·obtain⟨u,rfl,r1⟩:=vals1 r
  cases r1
  exact call_int_bool ⟨.int (if k then 1 else 0),H,I.tok _,⟨_,rfl⟩,q⟩
end
structure Dx (h:Heap)(x dx C:Addr)(mA:Str->Option Value):Prop where
 obj:h.get? x=some (PySem.W.instObj C dx)
 ns:h.Ns1 dx mA
 ne:dx≠x
theorem Gn {h:Heap}{dx:Addr}{mA:Str->Option Value}(n:h.Ns1 dx mA): ∃od,h.get? dx=some od/\ ∀name,PySem.W.lookIn name od=some (mA name):=by
 obtain⟨o,es,ep,ho,hd,hk,_,hm⟩:=n
 refine⟨o,ho,fun name=>?_⟩
 have e:=hm name
 unfold nsFind findBy at e
 rw[← Array.find?_toList] at e
 unfold PySem.W.lookIn
 rw[hd]
 dsimp only
 split
 ·rename_i y q
  rw[q] at e
  exact c9 some e
 ·rename_i q
  rw[q] at e
  have a:es.toList.any (·.refKey)=false:=by
   rw[rR]
   intro y hy
   obtain⟨z,t,IK⟩:=hk y (Array.mem_toList_iff.mp hy)
   simp[DictEntry.refKey,IK]
  have a': ¬ es.toList.any (·.refKey)=true:=by rw[a]; exact aR
  rw[aO a']
  exact c9 some e
theorem Dx.look {h:Heap}{x dx C:Addr}{mA:Str->Option Value}(I:Dx h x dx C mA): ∃od,PySem.W.InstAt h x (PySem.W.instObj C dx) C (some od)/\ ∀name,PySem.W.lookIn name od=some (mA name):=
 let⟨od,ho,hl⟩:=Gn I.ns
 ⟨od,⟨I.obj,rfl,rfl,ho⟩,hl⟩
section
variable {prog:Program}{w:World}{A:Around}{E:Value->Shared->Prop}{s:Shared}{K:Frag}{x dx C f:Addr}{mA:Str->Option Value}{name:Str}{v:Value}
theorem get_map {expr:Bool}{Q:Value->Shared->Prop}(X:K.In s.heap)(I:Dx s.heap x dx C mA)(hg:plainGet K C name=true)(hh:hasDictIn K C=true)
  (ha:findIn K (.ref C) name=some none) (hv:mA name=some v) (hv':PySem.W.handedIn v=true) (h:Q v {s with toks:=s.toks + 1}):
  wpAny (model prog w) A (getAttr (.ref x) name expr) Q E s:=by
 obtain⟨od,J,hl⟩:=I.look
 exact PySem.W.get_value X J (A5 hg).1 (PySem.W.findObj_own hh ha rfl (by rw[hl,hv])) hv' h
theorem IL {pl:Sem Bool}{Q:Value×List Value->Shared->Prop}(X:K.In s.heap)(I:Dx s.heap x dx C mA)(hg:plainGet K C name=true)
  (hf:findIn K (.ref C) name=some (some (.ref f))) (ht:PySem.W.isFn K (.ref f)=true) (hv:mA name=none) (h:Q (.ref f,[.ref x]) s):
  wpAny (model prog w) A (getMethod (.ref x) name pl) Q E s:=by
 obtain⟨od,J,hl⟩:=I.look
 exact PySem.W.method_fn X J (A5 hg).1 (A5 hg).2 hf (FX.mp ht) (by show(PySem.W.lookIn name od).map (·.isSome)=some false; rw[hl,hv]; rfl) h
theorem Ls {ns:List Str}{Q:Unit->Shared->Prop}(X:K.In s.heap)(I:Dx s.heap x dx C mA)
  (hs:findIn K (.ref C) "__setattr__"=some (some (.builtin "object.__setattr__"))) (hp:plainOver K C=true) (ht:PySem.W.takerIn K C name=some none) (hh:hasDictIn K C=true)
  (hw:PySem.Within mA ns) (hsz:ns.length<=sizeLine)
  (h: ∀h',Dx h' x dx C (fun y=>if y=name then some v else mA y)->Heap.SameBut dx s.heap h'->Q () {s with heap:=h',toks:=s.toks + 2}):
  wpAny (model prog w) A (setAttr (.ref x) name v) Q E s:=by
 obtain⟨od,J,hl⟩:=I.look
 refine PySem.W.set_plain X J hs (PySem.W.osa_open (s:={s with toks:=s.toks + 1}) (r:=none) X J hp ht fun b=>?_)
 obtain⟨cd,hc,Io⟩:=PySem.W.any_some hh
 have hx:s.heap.get? x=some ⟨.ref C,some dx,.plain,#[]⟩:=I.obj
 refine az (bF (az (az (wpAny_loadPart hx (az (PySem.W.Looks.here (s:={s with toks:=s.toks + 1}) (PySem.W.looks_clsIn X hc) ?_))))))
 rw[Io]
 refine bF (a:=some dx) (az (bF (az ?_)))
 refine wpAny_nsSet1 (s:={s with toks:=s.toks + 1}) I.ns fun h' U7 QK=>?_
 obtain⟨oD,esD,epD,Wr,Ws,Wt⟩:=U7.count (PySem.Within.cons name v hw)
 refine az (wpAny_lookBehind Wr (by rw[Ws]; exact pastItsLine_dict (a6 Wt (by rw[bH]; lia))) ?_)
 exact bF (h _ ⟨(QK.2 _ (wB I.ne)).trans I.obj,U7,I.ne⟩ QK)
theorem IM {R:Result->Shared->Prop}{vs:List Value}{kw:List (Str×Value)}(X:K.In s.heap)(hm:makesIn K C=true)
  (hi:findIn K (.ref C) "__init__"=some (some (.ref f))) (hf:typeIn K (.ref f)=some (.type "function"))
  (h:codeAny (model prog w) (A.under (.builtin "type.__call__" ⟨.ref C :: vs,kw⟩)) (.call (.ref f) ⟨.ref (s.heap.objs.size + 1) :: vs,kw⟩) (PySem.W.InitBack (s.heap.objs.size + 1) R)
   {s with heap:=(s.heap.push PySem.W.emptyDict).push (PySem.W.instObj C s.heap.objs.size)}):
  codeAny (model prog w) A (.call (.ref C) ⟨vs,kw⟩) R s:=by
 obtain⟨hh,g,d,t,os⟩:=s
 exact PySem.W.make_core (PySem.W.makes_of X hm) (PySem.W.looks_findIn X hi) (fun self=>PySem.W.bind_fn X self hf) (.inl rfl) h
end
def eK (f:Str)(v:V):List (Str×V)->List (Str×V)
 |[]=>[(f,v)]
 |(g,x) :: r=>if g=f then(g,v) :: r else(g,x) :: eK f v r
theorem sR (f g:Str)(v:V): ∀fs:List (Str×V),(eK f v fs).lookup g=if g=f then some v else fs.lookup g
 |[]=>by
  show List.lookup g [(f,v)]=_
  by_cases h:g=f
  ·have hb:(g == f)=true:=FX.mpr h
   simp only[List.lookup,hb,if_pos h]
  ·have hb:(g == f)=false:=g6.mpr h
   simp only[List.lookup,hb,if_neg h]
 |(k,x) :: r=>by
  have ih:=sR f g v r
  rw[show eK f v ((k,x) :: r)=(if k=f then(k,v) :: r else(k,x) :: eK f v r) from rfl]
  by_cases hk:k=f
  ·rw[aZ hk]
   by_cases h:g=k
   ·have hb:(g == k)=true:=FX.mpr h
    simp only[List.lookup,hb,if_pos (h.trans hk)]
   ·have hb:(g == k)=false:=g6.mpr h
    simp only[List.lookup,hb,if_neg (fun e:g=f=>h (e.trans hk.symm))]
  ·rw[aO hk]
   by_cases h:g=k
   ·have hb:(g == k)=true:=FX.mpr h
    simp only[List.lookup,hb,if_neg (fun e:g=f=>hk (h.symm.trans e))]
   ·have hb:(g == k)=false:=g6.mpr h
    simp only[List.lookup,hb]
    exact ih
theorem sh (f:Str)(v:V): ∀fs:List (Str×V),f∈(eK f v fs).map (·.1)/\ ∀g,g∈fs.map (·.1)->g∈(eK f v fs).map (·.1)
 |[]=>⟨by simp[eK],fun g h=>by simp at h⟩
 |(k,x) :: r=>by
  obtain⟨i1,i2⟩:=sh f v r
  rw[show eK f v ((k,x) :: r)=(if k=f then(k,v) :: r else(k,x) :: eK f v r) from rfl]
  by_cases hk:k=f
  ·rw[aZ hk]
   subst hk
   exact⟨by simp,fun g h=>by simpa using h⟩
  ·rw[aO hk]
   refine⟨?_,fun g h=>?_⟩
   ·rw[bM]
    exact aS _ i1
   ·rw[bM] at h ⊢
    rcases aw.mp h with e|e
    ·exact aw.mpr (.inl e)
    ·exact aS _ (i2 g e)
theorem mS (f:Str)(v:V): ∀fs:List (Str×V),(eK f v fs).length<=fs.length + 1
 |[]=>by simp[eK]
 |(k,x) :: r=>by
  have ih:=mS f v r
  rw[show eK f v ((k,x) :: r)=(if k=f then(k,v) :: r else(k,x) :: eK f v r) from rfl]
  by_cases hk:k=f
  ·rw[aZ hk,bH,bH]; lia
  ·rw[aO hk,bH,bH]; lia
theorem lx.some_of {v:V}{o:Option Value}(r:lx (some v) o): ∃u,o=some u/\RelV v u:=by
 cases o with
 |none=>exact(show False from r).elim
 |some u=>exact⟨u,rfl,r⟩
theorem lx.none_of {o:Option Value}(r:lx none o):o=none:=by
 cases o with
 |none=>rfl
 |some u=>exact(show False from r).elim
theorem Gp {v:V}{u:Value}(r:RelV v u):PySem.W.handedIn u=true:=by
 cases v with
 |eD=>cases(show u=Value.none from r); rfl
 |bl b=>cases(show u=Value.bool b from r); rfl
 |int i=>obtain⟨t,e⟩:=(show ∃t,u=Value.int i t from r); cases e; rfl
 |str x=>obtain⟨t,e⟩:=(show ∃t,u=Value.str x t from r); cases e; rfl
 |Gf b=>obtain⟨t,e⟩:=(show ∃t,u=Value.bytes b t from r); cases e; rfl
 |Li b=>obtain⟨t,e⟩:=(show ∃t,u=Value.float b t from r); cases e; rfl
 |ref a=>cases(show u=Value.ref a from r); rfl
 |ty n=>cases(show u=Value.type n from r); rfl
section
variable {P:Program}{w:World}{H H':Hp}{h h':Heap}{a C dx:Addr}{fs fs':List (Str×V)}
theorem qz (cz:oC P w H h)(e:H a=some (.ins C dx fs)): ∃mA,Dx h a dx C mA/\(∀f,lx (fs.lookup f) (mA f))/\PySem.Within mA (fs.map (·.1))/\fs.length<=1000/\H dx=some (.own a):=by
 obtain⟨d,z,ne,ob,mA,n,r,q⟩:=(show dE P w H h a (.ins C dx fs) from cz a _ e)
 exact⟨mA,⟨ob,n,ne⟩,r,q,z,d⟩
end
structure wL (K:Frag)(C:Addr):Prop where
 pg:plainGet K C Str.empty=true
 hd:hasDictIn K C=true
 po:plainOver K C=true
 sa:findIn K (.ref C) "__setattr__"=some (some (.builtin "object.__setattr__"))
theorem wL.get {K:Frag}{C:Addr}(c:wL K C)(f:Str):plainGet K C f=true:=c.pg
def cf (K:Frag)(C:Addr)(f:Str):Prop:=findIn K (.ref C) f=some none
theorem cf.RK {K:Frag}{C:Addr}{f:Str}(n:cf K C f):PySem.W.takerIn K C f=some none:=by
 unfold PySem.W.takerIn
 rw[show findIn K (.ref C) f=some none from n]
 rfl
structure Meth (K:Frag)(C:Addr)(m:Str)(f:Addr):Prop where
 at_:findIn K (.ref C) m=some (some (.ref f))
 fn:PySem.W.isFn K (.ref f)=true
 kp:keepIn K (.ref f)=true
section
variable {X:Cx}{pins:List (Addr×Obj)}{σ:St}{H:Hp}{s:Shared}{a C dx:Addr}{fs:List (Str×V)}{f:Str}{v:V}{A:Around}{E:Value->Shared->Prop}
theorem Dy {b:Bool}{Q:Value->Shared->Prop}(I:Inv X pins σ H s)(e:H a=some (.ins C dx fs))(c:wL X.K C)(n:cf X.K C f)(l:fs.lookup f=some v)
  (h: ∀u s',Inv X pins σ H s'->RelV v u->Q u s'):wpAny (model X.prog X.w) A (getAttr (.ref a) f b) Q E s:=by
 obtain⟨mA,O,r,_,_,_⟩:=qz I.cz e
 obtain⟨u,hu,ru⟩:=lx.some_of (v:=v) (o:=mA f) (by rw[← l]; exact r f)
 exact get_map I.gY O (c.get f) c.hd n hu (Gp ru) (h u _ (I.tok _) ru)
theorem Dz {m:Str}{g:Addr}{pl:Sem Bool}{Q:Value×List Value->Shared->Prop}(I:Inv X pins σ H s)(e:H a=some (.ins C dx fs))(c:wL X.K C)(k:Meth X.K C m g)(l:fs.lookup m=none)
  (h:Q (.ref g,[.ref a]) s):wpAny (model X.prog X.w) A (getMethod (.ref a) m pl) Q E s:=by
 obtain⟨mA,O,r,_,_,_⟩:=qz I.cz e
 have hn:mA m=none:=lx.none_of (by rw[← l]; exact r m)
 exact IL I.gY O (c.get m) k.at_ k.fn hn h
theorem DA {y:V}{u:Value}{Q:Unit->Shared->Prop}(I:Inv X pins σ H s)(e:H a=some (.ins C dx fs))(c:wL X.K C)(n:cf X.K C f)(hl:fs.length < 1000)(ry:RelV y u)
  (h: ∀s',Inv X pins σ (upd H a (.ins C dx (eK f y fs))) s'->Q () s'):wpAny (model X.prog X.w) A (setAttr (.ref a) f u) Q E s:=by
 obtain⟨mA,O,r,wi,_,ho⟩:=qz I.cz e
 have hz:(fs.map (·.1)).length<=sizeLine:=by rw[ae,fe]; lia
 refine Ls I.gY O c.sa c.po n.RK c.hd wi hz fun h' O' sb=>h _ ?_
 have hd: ∃o,h'.get? dx=some o:=let⟨o,_,_,e',_⟩:=O'.ns; ⟨o,e'⟩
 refine I.write (x:=a) (e:=dx) (by rw[e]; exact True.intro) (.inr ho) (fun b q hb z=>(sb.2 b hb).trans z) hd ?_
 refine⟨by rw[aA O.ne]; exact ho,?_,O.ne,O'.obj,_,O'.ns,fun g=>?_,fun g hg=>?_⟩
 ·have:=mS f y fs; lia
 ·show lx ((eK f y fs).lookup g) (if g=f then some u else mA g)
  rw[sR]
  by_cases q:g=f
  ·rw[aZ q,aZ q]; exact ry
  ·rw[aO q,aO q]; exact r g
 ·by_cases q:g=f
  ·rw[q]; exact(sh f y fs).1
  ·refine(sh f y fs).2 g (wi g fun z=>hg ?_)
   show(if g=f then some u else mA g)=none
   rw[aO q]; exact z
theorem Inv.made (I:Inv X pins σ H s):Inv X pins σ (upd (upd H s.heap.objs.size (.own (s.heap.objs.size + 1))) (s.heap.objs.size + 1) (.ins C s.heap.objs.size []))
  {s with heap:=(s.heap.push PySem.W.emptyDict).push (PySem.W.instObj C s.heap.objs.size)}:=by
 have e1:(s.heap.push PySem.W.emptyDict).get? s.heap.objs.size=some PySem.W.emptyDict:=bO s.heap rfl
 have e2:((s.heap.push PySem.W.emptyDict).push (PySem.W.instObj C s.heap.objs.size)).get? (s.heap.objs.size + 1)=some (PySem.W.instObj C s.heap.objs.size):=by
  have:=bO (s.heap.push PySem.W.emptyDict) (o:=PySem.W.instObj C s.heap.objs.size) rfl
  rwa [oa] at this
 have e3:(s.heap.push PySem.W.emptyDict).Ns s.heap.objs.size (fun _=>none):=⟨PySem.W.emptyDict,#[],_,e1,rfl,(fun e he=>absurd he (by simp)),fun _=>rfl⟩
 have I1:=I.laid (a:=s.heap.objs.size) (o:= .own (s.heap.objs.size + 1)) (h':=s.heap.push PySem.W.emptyDict) (t':=s.toks) (fun b u q=>ay _ q) (aI _) ⟨_,e1⟩
 refine I1.laid (a:=s.heap.objs.size + 1) (o:= .ins C s.heap.objs.size []) (t':=s.toks) (fun b u q=>ay _ q) (iP (oa _ _)) ?_
 have ne:s.heap.objs.size≠s.heap.objs.size + 1:=a8 (gf _)
 refine⟨by rw[aA ne,ag],bp _,ne,e2,fun _=>none,(Heap.Ns1.of_empty e3).at fun o q=>ay _ q,fun _=>True.intro,fun y hy=>absurd rfl hy⟩
theorem EO {prog:Program}{w:World}{env:Env}{e:Expr}{f:Str}{pos:Pos}{s:Shared}{Q:Value->Shared->Prop}(hb:attributeBase e f env (eval e env)=eval e env)
  (h:wpAny (model prog w) A (eval e env) (fun o s₁=>wpAny (model prog w) A (getAttr o f true) Q E s₁) E s):wpAny (model prog w) A (eval (.Attribute e f pos) env) Q E s:=
 Attribute_any_ h (by rw[arm_eval_Attribute,hb])
end
def RL (K:Frag)(ta:TE)(f:Str):TE:=fun σ H Q=>ta σ H fun x H1=> ∃a C dx fs v,x= .ref a/\H1 a=some (.ins C dx fs)/\wL K C/\cf K C f/\fs.lookup f=some v/\Q v H1
def Wu (K:Frag)(ta tv:TE)(f:Str):TS:=fun D σ H=>tv σ H fun y H1=>ta σ H1 fun x H2=> ∃a C dx fs,x= .ref a/\H2 a=some (.ins C dx fs)/\wL K C/\cf K C f/\fs.length < 1000/\
 D.nx σ (upd H2 a (.ins C dx (eK f y fs)))
section
variable {X:Cx}{o e value:Expr}{f:Str}{pos pos' Oe:Pos}{ta tv:TE}
theorem bZ (he:PE X e ta)(hb:attributeBase e f X.env (eval e X.env)=eval e X.env):PE X (.Attribute e f pos) (RL X.K ta f):=by
 intro pins s σ H Q I h
 refine EO hb (ee (he pins s σ H _ I h) fun u s1 ⟨x,H1,I1,rx,a,C,dx,fs,v,ex,ea,c,n,l,q⟩=>?_)
 subst ex
 obtain rfl:u=Value.ref a:=rx
 exact Dy I1 ea c n l fun u' s2 I2 ru=>⟨v,H1,I2,ru,q⟩
theorem fR (ha:PE X o ta)(hv:PE X value tv)(hs:swapsWith value (some (.Attribute o f pos')) pos.line X.env=pure false):PS X (.Assign [.Attribute o f pos'] value pos) (Wu X.K ta tv f):=by
 intro pins s σ H D I h
 refine NQ (ee (hv pins s σ H _ I h) fun u s1 ⟨y,H1,I1,ry,q⟩=>ee (ha pins s1 σ H1 _ I1 q) fun ov s2 ⟨x,H2,I2,rx,a,C,dx,fs,ex,ea,c,n,l,q2⟩=>?_) hs
 subst ex
 obtain rfl:ov=Value.ref a:=rx
 exact DA I2 ea c n l ry fun s3 I3=>⟨σ,_,I3,q2⟩
end
section
variable {X:Cx}{pins:List (Addr×Obj)}{σ:St}{H:Hp}{s:Shared}{A:Around}{E:Value->Shared->Prop}{Q:Value->Shared->Prop}{c:Value}{b:Bool}
inductive mT (K:Frag)(H:Hp):V->Value->Prop where
 |eD:mT K H .eD (.type "NoneType")
 |bl (x:Bool):mT K H (.bl x) (.type "bool")
 |int (i:Int):mT K H (.int i) (.type "int")
 |str (x:Str):mT K H (.str x) (.type "str")
 |Li (x:UInt64):mT K H (.Li x) (.type "float")
 |lst {a:Addr} {xs:List V} (e:H a=some (.lst xs)):mT K H (.ref a) (.type "list")
 |Dc {a:Addr} {o:Obj} {xs:List V} (e:H a=some (.Dc o (.lst xs))):mT K H (.ref a) (.type "list")
 |tup {a:Addr} {xs:List V} (e:H a=some (.tup xs)):mT K H (.ref a) (.type "tuple")
 |dK {a:Addr} {bg:List (Key×V)} (e:H a=some (.dK bg)):mT K H (.ref a) (.type "dict")
 |dT {a:Addr} {bg:List (List Key×V)} (e:H a=some (.dT bg)):mT K H (.ref a) (.type "dict")
 |ins {a C dx:Addr} {fs:List (Str×V)} (e:H a=some (.ins C dx fs)) (cl:wL K C) (ha:findIn K (.ref C) "__class__"=some (some (.builtin "object.__class__")))
   (hn:specialIn K (.builtin "object.__class__") "__get__"=some (some (.builtin "getset_descriptor.__get__"))) (kE:PySem.W.takesIn K (.builtin "object.__class__")=some true)
   (hm:PySem.W.mroIn K C (.type "object")=some true):mT K H (.ref a) (.ref C)
theorem Gq {x:V}{u t:Value}(I:Inv X pins σ H s)(rx:RelV x u)(ty:mT X.K H x t)(e:PySem.W.kitOne X.K t c=some b)(h: ∀tk,Q (.bool b) {s with toks:=tk}):
  wpAny (model X.prog X.w) A (call (.builtin "isinstance") [u,c]) Q E s:=by
 cases ty with
 |eD=>cases(show u=Value.none from rx); exact eo PySem.W.kitx_none I.gY True.intro e (fun z=>nomatch z) h
 |bl y=>cases(show u=Value.bool y from rx); exact eo PySem.W.kitx_bool I.gY True.intro e (fun z=>nomatch z) h
 |int i=>obtain⟨t,q⟩:=(show ∃t,u=Value.int i t from rx); cases q; exact eo PySem.W.kitx_int I.gY True.intro e (fun z=>nomatch z) h
 |str y=>obtain⟨t,q⟩:=(show ∃t,u=Value.str y t from rx); cases q; exact eo PySem.W.kitx_str I.gY True.intro e (fun z=>nomatch z) h
 |Li y=>obtain⟨t,q⟩:=(show ∃t,u=Value.float y t from rx); cases q; exact eo PySem.W.kitx_float I.gY True.intro e (fun z=>nomatch z) h
 | @lst a xs ea=>
  cases(show u=Value.ref a from rx)
  obtain⟨_,_,n,_,h1⟩:=(show dE X.prog X.w H s.heap a (.lst xs) from I.cz a _ ea)
  exact eo rT I.gY ⟨_,h1,rfl⟩ e (fun z=>nomatch z) h
 | @Dc a ob xs ea=>
  cases(show u=Value.ref a from rx)
  obtain⟨_,_,_,n,_,h1⟩:=(show dE X.prog X.w H s.heap a (.Dc ob (.lst xs)) from I.cz a _ ea)
  exact eo rT I.gY ⟨_,h1,rfl⟩ e (fun z=>nomatch z) h
 | @tup a xs ea=>
  cases(show u=Value.ref a from rx)
  obtain⟨_,_,_,p⟩:=(show dE X.prog X.w H s.heap a (.tup xs) from I.cz a _ ea)
  obtain⟨o,h1,h2,_⟩:=p
  exact eo PySem.W.kitx_tuple I.gY ⟨o,h1,h2⟩ e (fun z=>nomatch z) h
 | @dK a bg ea=>
  cases(show u=Value.ref a from rx)
  obtain⟨_,_,vs,_,p⟩:=(show dE X.prog X.w H s.heap a (.dK bg) from I.cz a _ ea)
  obtain⟨o,es,ep,h1,h2,_⟩:=p
  exact eo rV I.gY ⟨o,h1,h2.1⟩ e (fun z=>nomatch z) h
 | @dT a bg ea=>
  cases(show u=Value.ref a from rx)
  obtain⟨_,_,xs,_,o,es,ep,h1,h2,_⟩:=(show dE X.prog X.w H s.heap a (.dT bg) from I.cz a _ ea)
  exact eo rV I.gY ⟨o,h1,h2.1⟩ e (fun z=>nomatch z) h
 | @ins a C dx fs ea cl ha hn kE hm=>
  cases(show u=Value.ref a from rx)
  obtain⟨mA,O,_⟩:=qz I.cz ea
  obtain⟨od,J,_⟩:=O.look
  exact eo (PySem.W.kitx_own (cl.get _) cl.hd ha hn kE hm) I.gY J e (fun z=>nomatch z) h
end
structure ff (k:Nat)(A:Around):Prop where
 hd:A.handled=none
 dp:A.depth + 3 * k + 5 < recursionLimit
 un:A.units + 16 * k + 200 < cLine
theorem ff.mono {j k:Nat}{A:Around}(r:ff k A)(h:j<=k):ff j A:=⟨r.hd,by have:=r.dp; lia,by have:=r.un; lia⟩
theorem ff.deeper {k:Nat}{A:Around}(r:ff (k + 1) A)(env:Env):ff k (A.deeper env):=
 ⟨r.hd,by have:=r.dp; show A.depth + 1 + 3 * k + 5 < _; lia,by have:=r.un; show A.units + 3 + 16 * k + 200 < _; lia⟩
theorem uM {A:Around}{C:Addr}{us:List Value}{kw:List (Str×Value)}:(A.under (.builtin "type.__call__" ⟨.ref C :: us,kw⟩)).depth=A.depth + 1:=by
 first|rfl|simp[Around.under,Code.weight,Code.isCreation,Code.isGuard,Code.isCaller,Code.frames,Code.isFrame,guardIds]
theorem uN {A:Around}{C:Addr}{us:List Value}{kw:List (Str×Value)}:(A.under (.builtin "type.__call__" ⟨.ref C :: us,kw⟩)).units=A.units + 1:=by
 first|rfl|simp[Around.under,Code.cUnits,Code.frames,Code.isFrame]
theorem ff.make {k:Nat}{A:Around}(r:ff (k + 1) A)(C:Addr)(us:List Value)(kw:List (Str×Value)):ff k (A.under (.builtin "type.__call__" ⟨.ref C :: us,kw⟩)):=
 ⟨r.hd,by have:=r.dp; rw[uM]; lia,by have:=r.un; rw[uN]; lia⟩
theorem ff.depth {k:Nat}{A:Around}(r:ff k A):A.depth < recursionLimit:=by have:=r.dp; lia
theorem ff.units {k:Nat}{A:Around}(r:ff k A):A.units + 64 < cLine:=by have:=r.un; lia
def DD:TA:=fun _ H Q=>Q [] H
def IP (ta:TE)(tr:TA):TA:=fun σ H Q=>ta σ H fun x H1=>tr σ H1 fun xs H2=>Q (x :: xs) H2
section
variable {X:Cx}{e:Expr}{es:List Expr}{te:TE}{t:TA}{pos:Pos}
theorem av:PA X [] DD:=fun _ _ _ _ H Q I h=>Calls.spliced_nil ⟨[],H,I,.nil,h⟩
theorem aa (ha:PE X e te)(hr:PA X es t)(hs:starEach (e :: es) X.env=(false,eval e X.env) :: starEach es X.env:=by rfl):PA X (e :: es) (IP te t):=by
 intro pos pins s σ H Q I h
 rw[hs]
 show wpAny _ _ (spliced ((false,eval e X.env) :: backTo pos (starEach es X.env))) _ _ s
 refine Calls.spliced_cons (ee (ha pins s σ H _ I h) fun u s1 ⟨x,H1,I1,r1,q1⟩=>?_)
 exact ee (hr pos pins s1 σ H1 _ I1 q1) fun us s2 ⟨xs,H2,I2,r2,q2⟩=>⟨x :: xs,H2,I2,.cons r1 r2,q2⟩
def Wv (t:TA):TE:=fun σ H Q=>t σ H fun xs H1=>xs.length<=sizeLine/\ ∀p,H1 p=none->Q (.ref p) (upd H1 p (.tup xs))
def Ww (t:TA):TE:=fun σ H Q=>t σ H fun xs H1=>xs.length<=sizeLine/\ ∀p,H1 p=none->Q (.ref p) (upd H1 p (.lst xs))
theorem cQ {x1}(h:PA X es t):PE X (.Tuple es x1 pos) (Wv t):=by
 intro pins s σ H Q I hq
 refine wpAny_Tuple_spliced (ee (h pos pins s σ H _ I hq) fun us s1 ⟨xs,H1,I1,r,z,q⟩=>⟨by rw[← r.length]; exact z,?_⟩)
 have hf:H1 s1.heap.objs.size=none:=I1.cz.fresh (aI _)
 refine⟨.ref s1.heap.objs.size,upd H1 s1.heap.objs.size (.tup xs),I1.laid (t':=s1.toks) (fun b u e=>ay _ e) (aI _) ?_,rfl,q _ hf⟩
 exact⟨z,us,r,⟨_,bO _ rfl,rfl,_,rfl⟩⟩
theorem bQ (h:PA X es t):PE X (.List es pos) (Ww t):=by
 intro pins s σ H Q I hq
 refine wpAny_List_spliced (ee (h pos pins s σ H _ I hq) fun us s1 ⟨xs,H1,I1,r,z,q⟩=>⟨by rw[← r.length]; exact z,?_⟩)
 have hf:H1 s1.heap.objs.size=none:=I1.cz.fresh (aI _)
 refine⟨.ref s1.heap.objs.size,upd H1 s1.heap.objs.size (.lst xs),I1.laid (t':=s1.toks) (fun b u e=>ay _ e) (aI _) ?_,rfl,q _ hf⟩
 exact⟨z,us,0,r,bO _ rfl⟩
end
abbrev Sp:=List V->Hp->VK->XK->Prop
abbrev Gr:=List Env->Hp->Shared->XK->Value->Shared->Prop
structure qA (P:Program)(w:World)(K:Frag)(mg:Str->Option Value)(base:Heap)(A:Around)(outer:List Env)(s:Shared)(H:Hp):Prop where
 frames:A.frames=some outer
 mod:Mod K mg base
 bs: ∀b o,base.get? b=some o->s.heap.get? b=some o/\H b=none
 Ba:base.objs.size<=s.heap.objs.size
 lY:s.heap.FunFrames base outer
 EG: ∀b∈Dq outer,H b=none
 cz:oC P w H s.heap
 bare:AllBare s.gens
def CE (outer:List Env)(P:Program)(w:World)(H:Hp)(s:Shared)(Q:VK)(u:Value)(s':Shared):Prop:=
 ∃v H',s'.os=s.os/\AllBare s'.gens/\Un (Dq outer) [] H H' s.heap s'.heap/\oC P w H' s'.heap/\RelV v u/\Q v H'
def CR (CX:Gr)(outer:List Env)(P:Program)(w:World)(H:Hp)(s:Shared)(Q:VK)(E:XK)(r:Result)(s':Shared):Prop:=
 match r with
 | .ok (.ret u)=>CE outer P w H s Q u s'
 | .ok _=>False
 | .error e=>CX outer H s E e s'
structure l4 (P:Program)(w:World)(K:Frag)(mg:Str->Option Value)(base:Heap)(CX:Gr)(k:Nat)(f:Addr)(fd:FuncData)(ps:List Str)(sp:Sp):Prop where
 len: ∀vs H Q E,sp vs H Q E->vs.length=ps.length
 run: ∀(A:Around) (outer:List Env) (s:Shared) (H:Hp) (args:Args) (us:List Value) (vs:List V) (Q:VK) (E:XK),ff k A->qA P w K mg base A outer s H->BindsTo s fd args (ps.zip us)->Vals vs us->sp vs H Q E->
  codeAny (model P w) A (.call (.ref f) args) (CR CX outer P w H s Q E) s
theorem qA.make {P:Program}{w:World}{K:Frag}{mg:Str->Option Value}{base:Heap}{A:Around}{outer:List Env}{s:Shared}{H:Hp}(e:qA P w K mg base A outer s H)(C:Addr)(us:List Value)(kw:List (Str×Value)):
  qA P w K mg base (A.under (.builtin "type.__call__" ⟨.ref C :: us,kw⟩)) outer s H:=⟨by first|exact e.frames|(simpa[Around.under,Code.envs,Code.isFrame,pushEnvs] using e.frames),e.mod,e.bs,e.Ba,e.lY,e.EG,e.cz,e.bare⟩
theorem qA.in1 {P:Program}{w:World}{K:Frag}{mg:Str->Option Value}{base:Heap}{A:Around}{outer:List Env}{s:Shared}{H:Hp}(e:qA P w K mg base A outer s H):
  qA P w K mg base A.in1 outer s H:=⟨e.frames,e.mod,e.bs,e.Ba,e.lY,e.EG,e.cz,e.bare⟩
section
variable {X:Cx}{pins:List (Addr×Obj)}{σ:St}{H:Hp}{s s':Shared}
theorem Inv.IQ (I:Inv X pins σ H s):qA X.prog X.w X.K X.mg X.base X.A X.stack s H:=
 ⟨I.ok.frames,I.ok.mod,I.bs,a6 I.ok.Ba I.sz,I.stack,I.qx,I.cz,I.bare⟩
theorem Inv.after {Q:VK}{u:Value}(I:Inv X pins σ H s)(h:CE X.stack X.prog X.w H s Q u s'):EP X pins σ Q u s':=by
 obtain⟨v,H',os,bare,un,cz,r,q⟩:=h
 obtain⟨hh,g,d,t,os'⟩:=s'
 obtain rfl:os'=s.os:=os
 exact⟨v,H',I.call (h':=hh) (g':=g) (d':=d) (t':=t) (ch:=[]) un cz bare (fun b z=>absurd z (by simp)),r,q⟩
end
def uO (sp:Sp)(uP:List V)(E:XK)(t:TA):TE:=fun σ H Q=>t σ H fun vs H1=>sp (vs ++ uP) H1 Q E
def M9 (C:Addr)(m:Str)(sp:Sp)(uP:List V)(E:XK)(ta:TE)(t:TA):TE:=fun σ H Q=>ta σ H fun x H1=> ∃a dx fs,x= .ref a/\H1 a=some (.ins C dx fs)/\fs.lookup m=none/\
 t σ H1 fun vs H2=>sp (x :: (vs ++ uP)) H2 Q E
def ER (C:Addr)(sp:Sp)(uP:List V)(E:XK)(t:TA):TE:=fun σ H Q=>t σ H fun vs H1=> ∀x dx,H1 x=none->H1 dx=none->dx≠x->
 sp (.ref x :: (vs ++ uP)) (upd (upd H1 dx (.own x)) x (.ins C dx [])) (fun v H2=>v= .eD/\Q (.ref x) H2) E
def Binds (K:Frag)(fd:FuncData)(ps:List Str)(ds:List Value):Prop:=
 ∀(s:Shared) (us:List Value),K.In s.heap->(us ++ ds).length=ps.length->BindsTo s fd ⟨us,[]⟩ (ps.zip (us ++ ds))
theorem Binds.all {K:Frag}{fd:FuncData}{ps:List Str}(h: ∀us:List Value,us.length=ps.length->bindArgs fd ⟨us,[]⟩=pure (ps.zip us)):Binds K fd ps []:=fun s us _ hl=>by
 rw[bU] at hl ⊢
 exact .of_eq (h us hl)
def Passes (CX:Gr)(X:Cx)(E:XK):Prop:= ∀(pins:List (Addr×Obj)) (σ:St) (H:Hp) (s:Shared) (e:Value) (s':Shared),Inv X pins σ H s->CX X.stack H s E e s'->X.xe e s'
section
variable {X:Cx}{CX:Gr}{k:Nat}{f C:Addr}{fd:FuncData}{ps:List Str}{sp:Sp}{uP:List V}{ds:List Value}{E:XK}{x m:Str}{p pos apos:Pos}{e o:Expr}{es:List Expr}{ta:TE}{t:TA}
theorem yX {pins:List (Addr×Obj)}{σ:St}{H:Hp}{s:Shared}{Q:VK}{us:List Value}{vs:List V}(F:l4 X.prog X.w X.K X.mg X.base CX k f fd ps sp)(hr:ff k X.A)(hb:Binds X.K fd ps ds)(hd:Vals uP ds)(hx:Passes CX X E)
  (I:Inv X pins σ H s) (r:Vals vs us) (h:sp (vs ++ uP) H Q E):wpAny (model X.prog X.w) X.A (call (.ref f) us) (EP X pins σ Q) X.xe s:=by
 have r2:Vals (vs ++ uP) (us ++ ds):=r.append hd
 have hl:(us ++ ds).length=ps.length:=by rw[← r2.length]; exact F.len _ _ _ _ h
 refine EF (Dn (F.run X.A X.stack s H ⟨us,[]⟩ (us ++ ds) (vs ++ uP) Q E hr I.IQ (hb s us I.gY hl) r2 h) fun r s' hq=>?_)
 cases r with
 |error e=>exact hx pins σ H s e s' I hq
 |ok fl=>
  cases fl with
  |ret u=>exact I.after hq
  |next=>exact False.elim hq
  |brk=>exact False.elim hq
  |cont=>exact False.elim hq
theorem ES (F:l4 X.prog X.w X.K X.mg X.base CX k f fd ps sp)(hr:ff k X.A)(hg:Gl X x)(hm:X.mg x=some (.ref f))(hk:keepIn X.K (.ref f)=true)(hb:Binds X.K fd ps ds)(hd:Vals uP ds)(hx:Passes CX X E)
  (ha:PA X (e :: es) t) (qB:(x == ("__debug__":Str))=false:=by decide) (he:starEach (e :: es) X.env=(false,eval e X.env) :: starEach es X.env:=by rfl) (jb:(backTo pos (starEach es X.env)).any (·.1)=false:=by rfl):
  PE X (.Call (.Name x p) (e :: es) [] pos) (uO sp uP E t):=by
 intro pins s σ H Q I h
 refine eL (jG I hg hm ?_ qB)
 refine kB (h₀:=X.base) I.ok.mod.Lk hk (ee (ha pos pins s σ H _ I h) fun us s1 ⟨vs,H1,I1,r,q⟩=>⟨I1.gY,?_⟩) he jb
 exact yX F hr hb hd hx I1 r q
theorem IS (F:l4 X.prog X.w X.K X.mg X.base CX k f fd ps sp)(hr:ff k X.A)(hg:Gl X x)(hm:X.mg x=some (.ref f))(hk:keepIn X.K (.ref f)=true)(hb:Binds X.K fd ps ds)(hd:Vals uP ds)(hx:Passes CX X E)
  (qB:(x == ("__debug__":Str))=false:=by decide):PE X (.Call (.Name x p) [] [] pos) (uO sp uP E DD):=by
 intro pins s σ H Q I h
 refine eL (jG I hg hm ?_ qB)
 exact A6 I.gY hk (yX (us:=[]) F hr hb hd hx I .nil h)
theorem Lu {pl:Sem Bool}(he:PE X o ta)(c:wL X.K C)(hm:Meth X.K C m f)(F:l4 X.prog X.w X.K X.mg X.base CX k f fd ps sp)(hr:ff k X.A)(hb:Binds X.K fd ps ds)(hd:Vals uP ds)(hx:Passes CX X E)(ha:PA X (e :: es) t)
  (oR:starEach (e :: es) X.env=(false,eval e X.env) :: starEach es X.env:=by rfl) (jb:(backTo pos (starEach es X.env)).any (·.1)=false:=by rfl)
  (ht:eval (.Call (.Attribute o m apos) (e :: es) [] pos) X.env=(do
   let ov ← eval o X.env
   standAt apos.atName
   let(f,first) ← holding [ov] (getMethod ov m pl)
   callWith pos f first (backTo pos (starEach (e :: es) X.env)) (backToKw pos (keywordEach [] X.env))):=by rfl):
  PE X (.Call (.Attribute o m apos) (e :: es) [] pos) (M9 C m sp uP E ta t):=by
 intro pins s σ H Q I h
 refine wC (pl:=pl) (ee (he pins s σ H _ I h) fun u s1 ⟨x,H1,I1,rx,a,dx,fs,ex,ea,l,q⟩=>?_) ht
 subst ex
 obtain rfl:u=Value.ref a:=rx
 refine Dz I1 ea c hm l ?_
 refine kB (first:=[.ref a]) (h₀:=X.base) I.ok.mod.Lk hm.kp (ee (ha pos pins s1 σ H1 _ I1 q) fun us s2 ⟨vs,H2,I2,r,q2⟩=>⟨I2.gY,?_⟩) oR jb
 exact yX (us:= .ref a :: us) (vs:= .ref a :: vs) F hr hb hd hx I2 (.cons rfl r) q2
structure Mk (K:Frag)(C f:Addr):Prop where
 makes:makesIn K C=true
 init:findIn K (.ref C) "__init__"=some (some (.ref f))
 fn:PySem.W.isFn K (.ref f)=true
 kp:keepIn K (.ref C)=true
theorem Bj {pins:List (Addr×Obj)}{σ:St}{H:Hp}{s:Shared}{Q:VK}{us:List Value}{vs:List V}(M:Mk X.K C f)(F:l4 X.prog X.w X.K X.mg X.base CX k f fd ps sp)(hr:ff (k + 1) X.A)(hb:Binds X.K fd ps ds)(hd:Vals uP ds)
  (hx:Passes CX X E) (I:Inv X pins σ H s) (r:Vals vs us)
  (h: ∀x dx,H x=none->H dx=none->dx≠x->sp (.ref x :: (vs ++ uP)) (upd (upd H dx (.own x)) x (.ins C dx [])) (fun v H2=>v= .eD/\Q (.ref x) H2) E):
  wpAny (model X.prog X.w) X.A (call (.ref C) us) (EP X pins σ Q) X.xe s:=by
 have hq:=h (s.heap.objs.size + 1) s.heap.objs.size (I.cz.fresh (dP _)) (I.cz.fresh (aI _)) (a8 (gf _))
 have I2:=Inv.made (C:=C) I
 have r2:Vals (V.ref (s.heap.objs.size + 1) :: (vs ++ uP)) (Value.ref (s.heap.objs.size + 1) :: (us ++ ds)):= .cons rfl (r.append hd)
 have hl:(Value.ref (s.heap.objs.size + 1) :: us ++ ds).length=ps.length:=by
  have e:=r2.length
  rw[F.len _ _ _ _ hq] at e
  exact e.symm
 refine EF (IM (f:=f) I.gY M.makes M.init (FX.mp M.fn) (Dn (F.run _ X.stack _ _ ⟨Value.ref (s.heap.objs.size + 1) :: us,[]⟩ (Value.ref (s.heap.objs.size + 1) :: (us ++ ds)) _ _ E (hr.make C us [])
  (I2.IQ.make C us []) (hb _ (Value.ref (s.heap.objs.size + 1) :: us) I2.gY hl) r2 hq) fun r s' sS=>?_))
 cases r with
 |error e=>exact hx pins σ _ _ e s' I2 sS
 |ok fl=>
  cases fl with
  |ret u=>
   obtain⟨v,H',I3,rv,ev,q3⟩:=I2.after sS
   subst ev
   exact⟨rv,⟨V.ref (s.heap.objs.size + 1),H',I3,rfl,q3⟩⟩
  |next=>exact False.elim sS
  |brk=>exact False.elim sS
  |cont=>exact False.elim sS
theorem Lv (M:Mk X.K C f)(F:l4 X.prog X.w X.K X.mg X.base CX k f fd ps sp)(hr:ff (k + 1) X.A)(hg:Gl X x)(hm:X.mg x=some (.ref C))(hb:Binds X.K fd ps ds)(hd:Vals uP ds)(hx:Passes CX X E)
  (ha:PA X (e :: es) t) (qB:(x == ("__debug__":Str))=false:=by decide) (he:starEach (e :: es) X.env=(false,eval e X.env) :: starEach es X.env:=by rfl) (jb:(backTo pos (starEach es X.env)).any (·.1)=false:=by rfl):
  PE X (.Call (.Name x p) (e :: es) [] pos) (ER C sp uP E t):=by
 intro pins s σ H Q I h
 refine eL (jG I hg hm ?_ qB)
 refine kB (h₀:=X.base) I.ok.mod.Lk M.kp (ee (ha pos pins s σ H _ I h) fun us s1 ⟨vs,H1,I1,r,q⟩=>⟨I1.gY,?_⟩) he jb
 exact Bj M F hr hb hd hx I1 r q
theorem IT (M:Mk X.K C f)(F:l4 X.prog X.w X.K X.mg X.base CX k f fd ps sp)(hr:ff (k + 1) X.A)(hg:Gl X x)(hm:X.mg x=some (.ref C))(hb:Binds X.K fd ps ds)(hd:Vals uP ds)(hx:Passes CX X E)
  (qB:(x == ("__debug__":Str))=false:=by decide):PE X (.Call (.Name x p) [] [] pos) (ER C sp uP E DD):=by
 intro pins s σ H Q I h
 refine eL (jG I hg hm ?_ qB)
 exact A6 I.gY M.kp (Bj (us:=[]) M F hr hb hd hx I .nil h)
end
section
variable {X:Cx}{CX:Gr}{k:Nat}{f C:Addr}{fd:FuncData}{ps ks:List Str}{sp:Sp}{E:XK}{x m:Str}{p pos apos RM:Pos}{e o:Expr}{es:List Expr}{kws:List Keyword}{te ta:TE}{t tk:TA}{nm:Option Str}
variable {g:List Value->List Value->List Value}{gV:List V->List V->List V}
end
structure aW (N P:List Str)(sc:Scope):Prop where
 kind:sc.kind= .function:=by rfl
 co:sc.isCoroutine=false:=by rfl
 gen:sc.isGenerator=false:=by rfl
 nd:N.Nodup:=by decide +kernel
 pre:N.take P.length=P:=by rfl
 par: ∀x∈P,sc.names.lookup x=some .local∨sc.names.lookup x=some .cell:=by decide +kernel
 Of: ∀y∈sc.names,y.2≠ .free:=by decide +kernel
theorem xY {kindOf:Str->Option NameKind}{x:Str}: ∀{binds:List (Str×Value)} {m:Str->Option Value},(∀v,(x,v)∉binds)->bindL kindOf binds m x=m x
 |[],_,_=>rfl
 |(n,v) :: r,m,h=>by
  unfold bindL
  rw[xY fun w hw=>h w (aS _ hw)]
  split
  ·have:x≠n:=by rintro rfl; exact h v bc
   simp[this]
  ·rfl
theorem xZ {kindOf:Str->Option NameKind}{x:Str}: ∀{binds:List (Str×Value)} {m:Str->Option Value},(∀v,(x,v)∉binds)->bindC kindOf binds m x=m x
 |[],_,_=>rfl
 |(n,v) :: r,m,h=>by
  unfold bindC
  rw[xZ fun w hw=>h w (aS _ hw)]
  split
  ·rfl
  ·have:x≠n:=by rintro rfl; exact h v bc
   simp[this]
theorem ya {kindOf:Str->Option NameKind}{x:Str}{v:Value}: ∀{P:List Str} {vs:List Value} {i:Nat} {m:Str->Option Value},P.Nodup->P[i]? =some x->vs[i]? =some v->kindOf x=some .local->
  bindL kindOf (P.zip vs) m x=some v
 |[],_,_,_,_,h,_,_=>by simp at h
 |_ :: _,[],_,_,_,_,h,_=>by simp at h
 |p :: P,w :: vs,0,m,nd,h1,h2,hk=>by
  simp at h1 h2; subst h1; subst h2
  show bindL kindOf ((p,w) :: P.zip vs) m p=_
  unfold bindL
  rw[xY fun v hv=>(eu.mp nd).1 (ox hv).1,aZ hk]
  simp
 |p :: P,w :: vs,i + 1,m,nd,h1,h2,hk=>by
  show bindL kindOf ((p,w) :: P.zip vs) m x=_
  unfold bindL
  exact ya (i:=i) (List.nodup_cons.mp nd).2 (by simpa using h1) (by simpa using h2) hk
theorem yb {kindOf:Str->Option NameKind}{x:Str}{v:Value}: ∀{P:List Str} {vs:List Value} {i:Nat} {m:Str->Option Value},P.Nodup->P[i]? =some x->vs[i]? =some v->kindOf x≠some .local->
  bindC kindOf (P.zip vs) m x=some v
 |[],_,_,_,_,h,_,_=>by simp at h
 |_ :: _,[],_,_,_,_,h,_=>by simp at h
 |p :: P,w :: vs,0,m,nd,h1,h2,hk=>by
  simp at h1 h2; subst h1; subst h2
  show bindC kindOf ((p,w) :: P.zip vs) m p=_
  unfold bindC
  rw[xZ fun v hv=>(eu.mp nd).1 (ox hv).1,aO hk]
  simp
 |p :: P,w :: vs,i + 1,m,nd,h1,h2,hk=>by
  show bindC kindOf ((p,w) :: P.zip vs) m x=_
  unfold bindC
  exact yb (i:=i) (List.nodup_cons.mp nd).2 (by simpa using h1) (by simpa using h2) hk
def start (N:List Str)(vs:List V):St:=vs.map some ++ List.replicate (N.length - vs.length) none
def ly (CX:Gr)(P:Program)(w:World)(K:Frag)(mg:Str->Option Value)(base:Heap)(N:List Str)(qual:Str)(scope:Scope)(f:Addr)(cd:Value)(A:Around)(outer:List Env)(s:Shared)(H:Hp)(E:XK):Cx where
 prog:=P
 w:=w
 K:=K
 mg:=mg
 base:=base
 A:=A.deeper (envOfC qual scope s.heap.objs.size f cd)
 N:=N
 s₀:=s
 H₀:=H
 env:=envOfC qual scope s.heap.objs.size f cd
 outer:=outer
 stack:=envOfC qual scope s.heap.objs.size f cd :: outer
 ex:=[]
 calm:=true
 fn:=fun _=>true
 pn:=[]
 xe:=fun e s'=>wpAny (model P w) (A.deeper (envOfC qual scope s.heap.objs.size f cd)) (leaving (envOfC qual scope s.heap.objs.size f cd) e) (fun _ ET=>CX outer H s E e ET) (fun e' ET=>CX outer H s E e' ET) s'
theorem Bl {sc:Scope}{n:Nat}{x:Str}(h:sc.names.lookup x=some .cell): ∃c,(cellsFrom n sc.names []).lookup x=some c:=by
 have q:=lq sc.names n [] (.inl h)
 exact QC.mp q
theorem yc {CX:Gr}{P:Program}{w:World}{K:Frag}{mg:Str->Option Value}{base:Heap}{N ps:List Str}{qual:Str}{scope:Scope}{f:Addr}{cd:Value}{A:Around}{outer:List Env}{s s1:Shared}{H:Hp}{E:XK}{us:List Value}{vs:List V}
  (S:aW N ps scope) (hd:A.handled=none) (e0:qA P w K mg base A outer s H) (hl:vs.length=ps.length) (r:Vals vs us)
  (x:InCallC s s.heap.objs.size (bindL (envOfC qual scope s.heap.objs.size f cd).kindOf (ps.zip us) fun _=>none) (cellsFrom (s.heap.objs.size + 1) scope.names []) (bindC (envOfC qual scope s.heap.objs.size f cd).kindOf (ps.zip us) fun _=>none) s1):
  Inv (ly CX P w K mg base N qual scope f cd A outer s H E) [] (start N vs) H s1:=by
 have jb:ps.length<=N.length:=by have:=c9 List.length S.pre; rw[bb] at this; lia
 obtain⟨h1,tk,rfl,hk⟩:=x.done
 have Wx: ∀b:Addr,b∉(ly CX P w K mg base N qual scope f cd A outer s H E).ex:=fun b z=>absurd (show b∈([]:List Addr) from z) (by simp)
 refine⟨⟨e0.mod,S.kind,rfl,rfl,aI _,fun y z c h1 h2=>?_,fun y hy=>?_,fun y c _ h=>?_,fun _=>hd,Around.frames_deeper e0.frames,.inr ⟨rfl,rfl⟩,fun b z=>absurd z (Wx b),e0.bs,e0.Ba,fun b _ _=>Wx b,fun b z=>absurd z (Wx b),e0.lY,e0.EG⟩,
  rfl,e0.bare,Un.kept hk,⟨_,x.toInCall.ns,fun i y v h1 h2 h3=>?_⟩,fun y c h=>⟨_,x.cell y c h⟩,e0.cz.fresh (Nat.le_refl _),fun y c h=>?_,fun p hp=>absurd (show p∈([]:List (Addr×Obj)) from hp) (by simp),e0.cz.kept hk,?_⟩
 ·exact name_of_addr x.apart (ck h1) (ck h2)
 ·have hy:scope.names.lookup y=some .cell∨scope.names.lookup y=some .free:=hy
  rcases hy with hy|hy
  ·exact Bl hy
  ·exact absurd rfl (S.Of _ (ck hy))
 ·exact di (x.above y c (ck h))
 ·have hi:i < vs.length:=by
   unfold start at h2
   by_cases hi:i < vs.length
   ·exact hi
   ·rw[List.getElem?_append_right (by simpa using hi)] at h2
    rw[List.getElem?_replicate] at h2
    split at h2 <;> cases h2
  have ha:vs[i]? =some v:=by
   unfold start at h2
   rw[List.getElem?_append_left (by simpa using hi),List.getElem?_map] at h2
   cases e:vs[i]? with
   |none=>rw[e] at h2; cases h2
   |some a=>rw[e] at h2; cases h2; rfl
  obtain⟨u,hu,rv⟩:=r.get ha
  have hp:ps[i]? =some y:=by
   rw[← S.pre,List.getElem?_take_of_lt (by lia)]; exact h1
  have Zq:ps.Nodup:=by rw[← S.pre]; exact S.nd.sublist (List.take_sublist _ _)
  refine⟨u,rv,?_⟩
  rcases S.par y (gI hp) with k|k
  ·exact .inl ⟨k,ya Zq hp hu k⟩
  ·obtain⟨c,e⟩:=Bl (n:=s.heap.objs.size + 1) k
   refine .inr ⟨.inl k,c,e,?_⟩
   have q:=x.cell y c e
   rw[yb Zq hp hu (by show scope.names.lookup y≠_; rw[k]; decide)] at q
   exact q
 ·exact e0.cz.fresh (di (x.above y c (ck h)))
 ·unfold start
  show _ =N.length
  rw[aH,ae,iQ]
  lia
theorem IU {CX:Gr}{P:Program}{w:World}{K:Frag}{mg:Str->Option Value}{base:Heap}{k:Nat}{f:Addr}{name qual:Str}{params:Arguments}{body:List Stmt}{scope:Scope}{dV kV doc pm cU ct oc:Value}{an od:Option Addr}
  {Gs:Array (Option Value)} {N ps:List Str} {sp:Sp} (lk:K.lookup f=some ⟨oc,od,.func (fnOf name qual params body scope dV kV doc pm an cU ct),Gs⟩) (rP:codeIn K cU qual=true) (S:aW N ps scope)
  (len: ∀vs H Q E,sp vs H Q E->vs.length=ps.length)
  (fX: ∀(A:Around) (outer:List Env) (s:Shared) (H:Hp) (vs:List V) (Q:VK) (E:XK),ff k (A.deeper (envOfC qual scope s.heap.objs.size f cU))->sp vs H Q E->
   ∃t,oQ (ly CX P w K mg base N qual scope f cU A outer s H E) body t/\t {nx:=fun _ H'=>Q .eD H',rt:=Q} (start N vs) H):
  l4 P w K mg base CX (k + 1) f (fnOf name qual params body scope dV kV doc pm an cU ct) ps sp:=by
 refine⟨len,fun A outer s H args us vs Q E hr e0 hb r yd=>?_⟩
 have hl:=len _ _ _ _ yd
 have KX:K.In s.heap:=e0.mod.Lk.keeps fun b o e=>(e0.bs b o e).1
 have lim:s.heap.NoLimit:=e0.mod.nolimit.keeps fun b o e=>(e0.bs b o e).1
 have mU: ∀y∈ps.zip us,scope.names.lookup y.1=some .local∨(scope.names.lookup y.1=some .cell/\((cellsFrom (s.heap.objs.size + 1) scope.names []).lookup y.1).isSome=true):=fun⟨n,v⟩ hy=>by
  rcases S.par n (ox hy).1 with q|q
  ·exact .inl q
  ·exact .inr ⟨q,lq _ _ _ (.inl q)⟩
 refine codeAny_call_function hr.depth (KX _ _ lk) rfl S.co S.gen rfl (PySem.W.codeRec_of KX rP) (hb _ _ _ _ ?_)
 refine tQ S.kind mU fun env he s1 x=>?_
 subst he
 refine⟨lim.keeps x.toInCall.keep,codeAny_func ?_⟩
 obtain⟨t,ht,hq⟩:=fX A outer s H vs Q E (hr.deeper _) yd
 have I:Inv (ly CX P w K mg base N qual scope f cU A outer s H E) [] (start N vs) H s1:=yc S hr.hd e0 hl r x
 refine cm (ht [] s1 (start N vs) H _ I hq) (fun fl s' hs=>?_) fun e s' hs=>hs
 have fin: ∀{σ':St} {H':Hp} {v:V} {u:Value},Inv (ly CX P w K mg base N qual scope f cU A outer s H E) [] σ' H' s'->RelV v u->Q v H'->CE outer P w H s Q u s':=
  fun{σ' H' v u} J rv q=>⟨v,H',J.os,J.bare,J.base,J.cz,rv,q⟩
 cases fl with
 |ret u=>
  obtain⟨v,σ',H',J,rv,q⟩:=hs
  exact fin J rv q
 |next=>
  obtain⟨σ',H',J,q⟩:=hs
  exact fin (v:=V.eD) (u:=Value.none) J rfl q
 |brk=>
  obtain⟨_,_,_,q⟩:=hs
  exact False.elim q
 |cont=>
  obtain⟨_,_,_,q⟩:=hs
  exact False.elim q
section
variable {X:Cx}{x:Str}{p pos:Pos}{e:Expr}{es:List Expr}{t:TA}{id T:String}{r:List V->Hp->VK->Prop}
def Wy (r:List V->Hp->VK->Prop)(t:TA):TE:=fun σ H Q=>t σ H fun vs H1=>r vs H1 Q
theorem cE (hc:iT X (.builtin id) r)(hg:Gl X x)(hm:X.mg x=none)(hv:bootBuiltins x=some (.builtin id))(ha:PA X (e :: es) t)(hn:x≠"__name__":=by decide)(qB:(x == ("__debug__":Str))=false:=by decide)
  (he:starEach (e :: es) X.env=(false,eval e X.env) :: starEach es X.env:=by rfl) (jb:(backTo pos (starEach es X.env)).any (·.1)=false:=by rfl):PE X (.Call (.Name x p) (e :: es) [] pos) (Wy r t):=by
 intro pins s σ H Q I h
 refine eL (pG I hg hm hv ?_ hn qB)
 exact PyProof.Rows.callWith_builtin1 (ee (ha pos pins s σ H _ I h) fun us s1 ⟨vs,H1,I1,r1,q1⟩=>hc pins s1 σ H1 vs us Q I1 r1 q1) he jb
theorem gg (hc:iT X (.type T) r)(hg:Gl X x)(hm:X.mg x=none)(hv:bootBuiltins x=some (.type T))(ha:PA X (e :: es) t)(hn:x≠"__name__":=by decide)(qB:(x == ("__debug__":Str))=false:=by decide)
  (he:starEach (e :: es) X.env=(false,eval e X.env) :: starEach es X.env:=by rfl) (jb:(backTo pos (starEach es X.env)).any (·.1)=false:=by rfl):PE X (.Call (.Name x p) (e :: es) [] pos) (Wy r t):=by
 intro pins s σ H Q I h
 refine eL (pG I hg hm hv ?_ hn qB)
 exact ou (ee (ha pos pins s σ H _ I h) fun us s1 ⟨vs,H1,I1,r1,q1⟩=>hc pins s1 σ H1 vs us Q I1 r1 q1) he jb
end
end L2
namespace HT
open PySem PyProof.Rows
def lexLt:List Int->List Int->Bool
 |[],[]=>false
 |[],_ :: _=>true
 |_ :: _,[]=>false
 |x :: xs,y :: ys=>if x=y then lexLt xs ys else decide (x < y)
theorem l5 (x y:Int)(xs ys:List Int):lexLt (x :: xs) (y :: ys)=if x=y then lexLt xs ys else decide (x < y):=rfl
section
open PySem.SeqAt
open PySem.AutoSeq1 (wpAny_loadPart')
open PySem.MeetsSeq PySem.MeetsSeq2 PySem.MeetsSeq3
end
section
variable {prog:Program}{w:World}{A:Around}{E:Value->Shared->Prop}{s:Shared}
def Bm (n d:Nat):Option Int->Nat
 |none=>d
 |some v=>if v < 0 then(v + (n:Int)).toNat else min v.toNat n
theorem IV (n d:Nat):Bm n d none=d:=rfl
theorem yY (n d k:Nat):Bm n d (some (k:Int))=min k n:=by
 show(if(k:Int) < 0 then((k:Int) + (n:Int)).toNat else min (k:Int).toNat n)=min k n
 rw[aO (by lia),dz]
end
end HT
namespace L2
open PySem PySem.Spec PyProof.Rows
abbrev TO:=St->Hp->(Option Int->Hp->Prop)->Prop
def PO (X:Cx)(e:Option Expr)(t:TO):Prop:=
 ∀(pins:List (Addr×Obj)) (s:Shared) (σ:St) (H:Hp) (Q:Option Int->Hp->Prop),Inv X pins σ H s->t σ H Q->
  wpAny (model X.prog X.w) X.A (evalPart e X.env) (fun u s'=> ∃o H',Inv X pins σ H' s'/\IsPart u o/\Q o H') X.xe s
def Lw:TO:=fun _ H Q=>Q none H
inductive Zr (x:V)(k:Int->Prop):Prop
 |mk (i:Int)(h:x= .int i)(q:k i):Zr x k
def RN (t:TE):TO:=fun σ H Q=>t σ H fun x H1=>Zr x fun i=>Q (some i) H1
theorem intsAre_of {ns:List Int}: ∀{us:List Value},Vals (ns.map V.int) us->IntsAre us ns:=by
 induction ns with
 |nil=>intro us r; rw[wD] at r; cases r; exact .nil
 |cons n ns ih=>
  intro us r
  rw[bM] at r
  cases r with
  |cons r1 r2=>
   obtain⟨t,e⟩:=r1
   subst e
   exact .cons n t (ih r2)
section
variable {X:Cx}{e:Expr}{te:TE}{lo hi:Option Expr}{tl th:TO}{pos p2:Pos}
theorem yZ:PO X none Lw:=by
 intro pins s σ H Q I h
 rw[evalPart_none]
 exact bF ⟨none,H,I,.none,h⟩
theorem qC (h:PE X e te):PO X (some e) (RN te):=by
 intro pins s σ H Q I hw
 rw[evalPart_some]
 refine ee (h pins s σ H _ I hw) fun u s1 ⟨x,H1,I1,r1,q1⟩=>?_
 obtain⟨i,rfl,q⟩:=q1
 obtain⟨t,rfl⟩:=r1
 exact⟨some i,H1,I1,.int i t,q⟩
def Og (X:Cx)(r:V->Option Int->Option Int->Hp->VK->Prop):Prop:=
 ∀(pins:List (Addr×Obj)) (s:Shared) (σ:St) (H:Hp) (x:V) (v vl vu:Value) (lo hi:Option Int) (sl:Addr) (Q:VK),Inv X pins σ H s->RelV x v->s.heap.IsSliceOf sl vl vu .none->IsPart vl lo->IsPart vu hi->r x lo hi H Q->
  ∃T id,typeLookup (.type T) "__getitem__"=pure (some (.builtin id))/\s.TypeIs v T/\wpAny (model X.prog X.w) X.A (getItem v (.ref sl)) (EP X pins σ Q) X.xe s
def tSl (r:V->Option Int->Option Int->Hp->VK->Prop)(te:TE)(tl th:TO):TE:=fun σ H Q=>te σ H fun x H1=>tl σ H1 fun l H2=>th σ H2 fun u H3=>r x l u H3 Q
theorem qD {r:V->Option Int->Option Int->Hp->VK->Prop}(hr:Og X r)(he:PE X e te)(hl:PO X lo tl)(hu:PO X hi th):PE X (.Subscript e (.Slice lo hi none p2) pos) (tSl r te tl th):=by
 intro pins s σ H Q I h
 refine Subscript_ (ee (he pins s σ H _ I h) fun v s1 ⟨x,H1,I1,r1,q1⟩=>?_)
 refine wpAny_Slice (ee (hl pins s1 σ H1 _ I1 q1) fun vl s2 ⟨l,H2,I2,pl,q2⟩=>ee (hu pins s2 σ H2 _ I2 q2) fun vu s3 ⟨u,H3,I3,pu,q3⟩=>?_)
 rw[evalPart_none]
 refine bF ?_
 have I4:Inv X pins σ H3 {s3 with heap:=s3.heap.push {cls:= .type "slice",data:= .fields #[vl,vu,.none]}}:=I3.kept (t':=s3.toks) fun b ob q=>ay _ q
 obtain⟨T,id,hT,ht,hg⟩:=hr pins {s3 with heap:=s3.heap.push {cls:= .type "slice",data:= .fields #[vl,vu,.none]}} σ H3 x v vl vu l u s3.heap.objs.size Q I4 r1 (Heap.IsSliceOf.new ..) pl pu q3
 show wpAny (model X.prog X.w) X.A (subscriptTail e (.Slice lo hi none p2) v (.ref s3.heap.objs.size)) (EP X pins σ Q) X.xe {s3 with heap:=s3.heap.push {cls:= .type "slice",data:= .fields #[vl,vu,.none]}}
 exact tail_any (ops:=[.ref s3.heap.objs.size,v]) ht hT hg (by with_unfolding_all rfl)
def qE (xs:List V)(lo hi:Option Int):List V:=(xs.drop (HT.Bm xs.length 0 lo)).take (HT.Bm xs.length xs.length hi - HT.Bm xs.length 0 lo)
theorem Bn (xs:List V)(lo hi:Option Int):(qE xs lo hi).length<=xs.length:=by
 unfold qE
 rw[bb,mG]
 lia
end
def Lx (n:Nat)(i:Int):Option Nat:=if 0<=i then(if i < n then some i.toNat else none) else if -(n:Int)<=i then some (i + n).toNat else none
def sj {α:Type}(xs:List α)(i:Int):Option α:=(Lx xs.length i).bind fun j=>xs[j]?
theorem EU {n:Nat}{i:Int}{j:Nat}(h:Lx n i=some j):seqIndex? i n=some j/\j < n/\ -(n:Int)<=i/\i < n:=by
 unfold Lx at h
 by_cases h0:0<=i
 ·rw[aZ h0] at h
  by_cases h1:i < n
  ·rw[aZ h1] at h
   have e:i.toNat=j:=aD h
   exact⟨by rw[seqIndex_of h0 h1,e],by lia,by lia,h1⟩
  ·rw[aO h1] at h; cases h
 ·rw[aO h0] at h
  by_cases h1: -(n:Int)<=i
  ·rw[aZ h1] at h
   have e:(i + n).toNat=j:=aD h
   exact⟨by rw[seqIndex_neg (by lia) h1,e],by lia,h1,by lia⟩
  ·rw[aO h1] at h; cases h
theorem EV {α:Type}{xs:List α}{i:Int}{v:α}(h:sj xs i=some v): ∃j,seqIndex? i xs.length=some j/\xs[j]? =some v/\j < xs.length/\ -(xs.length:Int)<=i/\i < xs.length:=by
 unfold sj at h
 cases e:Lx xs.length i with
 |none=>rw[e] at h; cases h
 |some j=>
  rw[e] at h
  obtain⟨h1,h2,h3,h4⟩:=EU e
  exact⟨j,h1,h,h2,h3,h4⟩
theorem cg {α:Type}{xs:List α}{j:Nat}{v:α}(h:xs[j]? =some v):sj xs (j:Int)=some v:=by
 have hj:j < xs.length:=(ak.mp h).1
 have e:Lx xs.length (j:Int)=some j:=by
  unfold Lx
  rw[if_pos (by lia),if_pos (by lia)]; simp
 unfold sj; rw[e]; exact h
def y0 (b:Expr):Prop:= ∀o i,subscripted b false o i=operate [o,i] (getItem o i)
def IW (X:Cx)(r:R2):Prop:=
 ∀(value slice:Expr) (pins:List (Addr×Obj)) (s:Shared) (σ:St) (H:Hp) (x y:V) (v u:Value) (Q:VK),Inv X pins σ H s->RelV x v->RelV y u->r x y H Q->
  subscripted slice false v u=operate [v,u] (getItem v u)->wpAny (model X.prog X.w) X.A (subscriptTail value slice v u) (EP X pins σ Q) X.xe s
def Zs (X:Cx)(id:String)(r:V->List V->Hp->VK->Prop):Prop:=
 ∀(pins:List (Addr×Obj)) (s:Shared) (σ:St) (H:Hp) (x:V) (xs:List V) (v:Value) (us:List Value) (Q:VK),Inv X pins σ H s->RelV x v->Vals xs us->r x xs H Q->
  wpAny (model X.prog X.w) X.A (call (.builtin id) (v :: us)) (EP X pins σ Q) X.xe s
section
variable {X:Cx}{a b:Expr}{ta tb:TE}{pos:Pos}
theorem iU {r:R2}(hr:IW X r)(ha:PE X a ta)(hb:PE X b tb)(hs:y0 b):PE X (.Subscript a b pos) (QJ r ta tb):=by
 intro pins s σ H Q I h
 exact Subscript_ (Oc ha hb I h fun v u s2 x y H2 I2 rx ry q=>hr a b pins s2 σ H2 x y v u Q I2 rx ry q (hs _ _))
inductive Wz (x y:V)(S:Addr->List V->Prop)(k:V->Prop):Prop
 |mk (p:Addr)(xs:List V)(i:Int)(v:V)(h1:x= .ref p)(h2:y= .int i)(s:S p xs)(a:sj xs i=some v)(q:k v):Wz x y S k
def Oh (K:Frag):R2:=fun x y H Q=>Wz x y (bw K H) fun v=>Q v H
def Oi (K:Frag):R2:=fun x y H Q=>Wz x y (cB K H) fun v=>Q v H
theorem y1:IW X (Oh X.K):=by
 intro value slice pins s σ H x y v u Q I rx ry h hs
 obtain⟨p,xs,i,z,rfl,rfl,hq,he,q⟩:=h
 cases rx
 obtain⟨t,rfl⟩:=ry
 obtain⟨b0,r,pl,hz⟩:=I.list hq
 obtain⟨j,h1,h2,h3,h4,h5⟩:=EV he
 obtain⟨w,ew,Gu⟩:=r.get h2
 have hl:=r.length
 have hn:=yW
 have fin:EP X pins σ Q w s:=⟨z,H,I,Gu,q⟩
 by_cases h0:0<=i
 ·have hj:i.toNat=j:=by
   rw[seqIndex_of h0 h5] at h1
   exact aD h1
  exact item_listR pl.isList h0 (by lia) (by rw[hj]; simpa using ew) fin hs
 ·have hj:(i + (b0.toArray.size:Int)).toNat=j:=by
   rw[seqIndex_neg (by lia) h4] at h1
   rw[bC,← hl]
   exact aD h1
  exact subscriptTail_builtinR (x:=w) pl.isList.typeIs slot_list_getitem.lookup
   (wpAny_getItem_list_neg (Q:=fun r s'=>r=w/\EP X pins σ Q r s') pl.isList (by lia) (by rw[List.size_toArray] <;> lia) (by lia) (by rw[hj]; simpa using ew) ⟨rfl,fin⟩) hs
theorem DE:IW X (Oi X.K):=by
 intro value slice pins s σ H x y v u Q I rx ry h hs
 obtain⟨p,xs,i,z,rfl,rfl,hq,he,q⟩:=h
 cases rx
 obtain⟨t,rfl⟩:=ry
 obtain⟨b0,r,pl,hz⟩:=I.tuple hq
 obtain⟨j,h1,h2,h3,h4,h5⟩:=EV he
 obtain⟨w,ew,Gu⟩:=r.get h2
 have hl:=r.length
 have hn:=yW
 have fin:EP X pins σ Q w s:=⟨z,H,I,Gu,q⟩
 exact subscriptTail_builtinR (x:=w) pl.typeIs slot_tuple_getitem.lookup
  (getItem_tuple (j:=j) (Q:=fun r s'=>r=w/\EP X pins σ Q r s') pl (by lia) (by lia) (by rw[List.size_toArray,← hl]; exact h1) (by simpa using ew) ⟨rfl,fin⟩) hs
theorem DF (b0:List Value)(n j:Nat)(u:Value):Obj.mapSeq (·.setIfInBounds j u) {cls:= .type "list",data:= .seq b0.toArray n}={cls:= .type "list",data:= .seq (b0.set j u).toArray n}:=by
 simp[Obj.mapSeq]
theorem Inv.lst {pins:List (Addr×Obj)}{σ:St}{H:Hp}{s:Shared}{p:Addr}{xs:List V}(I:Inv X pins σ H s)(h:H p=some (.lst xs)):
  ∃(b0:List Value) (n:Nat),Vals xs b0/\s.heap.get? p=some {cls:= .type "list",data:= .seq b0.toArray n}/\xs.length<=sizeLine:=by
 obtain⟨z,b0,n,r,e⟩:=I.cz p _ h
 exact⟨b0,n,r,e,z⟩
theorem Inv.Oj {pins:List (Addr×Obj)}{σ:St}{H:Hp}{s:Shared}{p:Addr}{xs ys:List V}{b0 qy:List Value}{n n':Nat}{f:Obj->Obj}(I:Inv X pins σ H s)(h:H p=some (.lst xs))
  (ho:s.heap.get? p=some {cls:= .type "list",data:= .seq b0.toArray n}) (hf:f {cls:= .type "list",data:= .seq b0.toArray n}={cls:= .type "list",data:= .seq qy.toArray n'}) (r:Vals ys qy) (hz:ys.length<=sizeLine) (t:Nat):
  Inv X pins σ (upd H p (.lst ys)) {s with heap:=s.heap.update p f,toks:=t}:=by
 have e:(s.heap.update p f).get? p=some {cls:= .type "list",data:= .seq qy.toArray n'}:=by
  rw[Dp f ho (by rw[hf] <;> rfl),hf]
 refine I.write (x:=p) (e:=p) (by rw[h]; trivial) (.inl rfl) (fun b u hb q=>(mN _ _ (wB hb)).trans q) ⟨_,e⟩ ?_
 exact⟨hz,qy,n',r,e⟩
def RO:V->V->V->Hp->(Hp->Prop)->Prop:=fun o i v H Q=> ∃p xs k j,o= .ref p/\i= .int k/\H p=some (.lst xs)/\Lx xs.length k=some j/\Q (upd H p (.lst (xs.set j v)))
theorem set_list:RB X RO:=by
 intro pins s σ H o i v ov iv u Q I ro ri rv h
 obtain⟨p,xs,k,j,rfl,rfl,hp,hj,q⟩:=h
 cases ro
 obtain⟨t,rfl⟩:=ri
 obtain⟨b0,n,r,ho,hz⟩:=I.lst hp
 obtain⟨h1,h2,h3,h4⟩:=EU hj
 have hl:=r.length
 have hn:=yW
 have I':Inv X pins σ (upd H p (.lst (xs.set j v))) {s with heap:=s.heap.update p (Obj.mapSeq (·.setIfInBounds j u))}:=
  I.Oj hp ho (DF b0 n j u) (r.set rv j) (by rw[eY]; exact hz) s.toks
 by_cases h0:0<=k
 ·have hk:k.toNat=j:=by
   rw[seqIndex_of h0 h4] at h1
   exact aD h1
  exact PySem.W.ki_setAt ho h0 (by lia) (by rw[bC,← hl]; exact h4) (by rw[hk]; exact⟨_,I',q⟩)
 ·have hk:(k + (b0.toArray.size:Int)).toNat=j:=by
   rw[seqIndex_neg (by lia) h3] at h1
   rw[bC,← hl]
   exact aD h1
  exact PySem.W.ki_setBack ho (by lia) (by rw[bC,← hl]; exact h3) (by lia) (by rw[hk]; exact⟨_,I',q⟩)
theorem y2 (lo hi:Option Int)(n:Nat):(sliceBounds lo hi none n).1=((HT.Bm n 0 lo:Nat):Int)/\(sliceBounds lo hi none n).2.1=((HT.Bm n n hi:Nat):Int)/\(sliceBounds lo hi none n).2.2=1:=by
 refine⟨?_,?_,rfl⟩
 ·cases lo with
  |none=>simp[sliceBounds,HT.Bm]
  |some i=>
   simp only[sliceBounds,HT.Bm,Option.getD_none,show(1:Int) > 0 by decide,if_true]
   by_cases h:i < 0
   ·simp only[h,if_true] <;> lia
   ·simp only[h,if_false] <;> lia
 ·cases hi with
  |none=>simp[sliceBounds,HT.Bm]
  |some i=>
   simp only[sliceBounds,HT.Bm,Option.getD_none,show(1:Int) > 0 by decide,if_true]
   by_cases h:i < 0
   ·simp only[h,if_true] <;> lia
   ·simp only[h,if_false] <;> lia
theorem wM (b0:List Value)(lo hi:Option Int):slicePick b0.toArray lo hi none=((b0.drop (HT.Bm b0.length 0 lo)).take (HT.Bm b0.length b0.length hi - HT.Bm b0.length 0 lo)).toArray:=by
 obtain⟨h1,h2,h3⟩:=y2 lo hi b0.toArray.size
 unfold slicePick
 rw[h1,h2,h3]
 simp only[sliceRange_one,pick_run,List.size_toArray] <;> rfl
def WA (K:Frag):V->Option Int->Option Int->Hp->VK->Prop:=fun x lo hi H Q=> ∃a xs,x= .ref a/\bw K H a xs/\ ∀p,H p=none->Q (.ref p) (upd H p (.lst (qE xs lo hi)))
theorem uj:Og X (WA X.K):=by
 intro pins s σ H x v vl vu lo hi sl Q I rx hs pl pu h
 obtain⟨a,xs,rfl,hx,q⟩:=h
 cases rx
 obtain⟨b0,r,ht,hz⟩:=I.list hx
 have hlen:=r.length
 refine⟨"list",_,slot_list_getitem.lookup,ht.isList.typeIs,?_⟩
 refine wpAny_getItem_list_slice ht.isList hs pl pu .none (by simp) ?_ (by rw[List.size_toArray] <;> lia)
 rw[wM,← hlen]
 refine⟨.ref s.heap.objs.size,_,I.laid (t':=s.toks) (o:= .lst (qE xs lo hi)) (fun b ob q=>ay _ q) (aI _) ?_,rfl,q _ (I.cz.fresh (aI _))⟩
 exact⟨a6 (Bn xs lo hi) hz,_,0,(r.drop (HT.Bm xs.length 0 lo)).take (HT.Bm xs.length xs.length hi - HT.Bm xs.length 0 lo),bO _ rfl⟩
def sT:V->Bool
 | .eD=>true
 | .bl _=>true
 | .int _=>true
 | .str _=>true
 |_=>false
def Ly:V->V->Bool
 | .eD,.eD=>true
 | .bl a,.bl b=>a == b
 | .bl a,.int b=>(if a then 1 else 0) == b
 | .int a,.bl b=>a == (if b then 1 else 0)
 | .int a,.int b=>a == b
 | .str a,.str b=>a == b
 |_,_=>false
theorem Ol {A:Around}{s:Shared}{y x:V}{u v:Value}(ry:RelV y u)(rx:RelV x v)(fy:sT y=true)(fx:sT x=true):SeqAt.EqAt A s u v (Ly y x):=by
 cases y with
 |eD=>
  cases ry
  cases x with
  |eD=>cases rx; exact SeqAt.EqAt.same _
  |bl b=>cases rx; exact SeqAt.EqAt.none_bool b
  |int b=>obtain⟨t,rfl⟩:=rx; exact SeqAt.EqAt.none_int b t
  |str b=>obtain⟨t,rfl⟩:=rx; exact SeqAt.EqAt.none_str b t
  |_=>exact absurd (show false=true from fx) aR
 |bl a=>
  cases ry
  cases x with
  |eD=>cases rx; exact SeqAt.EqAt.bool_none a
  |bl b=>cases rx; exact SeqAt.EqAt.bool_bool a b
  |int b=>obtain⟨t,rfl⟩:=rx; exact SeqAt.EqAt.bool_int a b t
  |str b=>obtain⟨t,rfl⟩:=rx; exact SeqAt.EqAt.bool_str a b t
  |_=>exact absurd (show false=true from fx) aR
 |int a=>
  obtain⟨t',rfl⟩:=ry
  cases x with
  |eD=>cases rx; exact SeqAt.EqAt.int_none a t'
  |bl b=>cases rx; exact SeqAt.EqAt.int_bool a t' b
  |int b=>obtain⟨t,rfl⟩:=rx; exact SeqAt.EqAt.int_int a t' b t
  |str b=>obtain⟨t,rfl⟩:=rx; exact SeqAt.EqAt.int_str a t' b t
  |_=>exact absurd (show false=true from fx) aR
 |str a=>
  obtain⟨t',rfl⟩:=ry
  cases x with
  |eD=>cases rx; exact SeqAt.EqAt.str_none a t'
  |bl b=>cases rx; exact SeqAt.EqAt.str_bool a t' b
  |int b=>obtain⟨t,rfl⟩:=rx; exact SeqAt.EqAt.str_int a t' b t
  |str b=>obtain⟨t,rfl⟩:=rx; exact SeqAt.EqAt.str_str a t' b t
  |_=>exact absurd (show false=true from fx) aR
 |_=>exact absurd (show false=true from fy) aR
def DG (x:V)(u:Value):Bool:=match u with
 | .none=>Ly .eD x
 | .bool b=>Ly (.bl b) x
 | .int i _=>Ly (.int i) x
 | .str z _=>Ly (.str z) x
 |_=>false
theorem IX {x y:V}{u:Value}(r:RelV y u)(f:sT y=true):DG x u=Ly y x:=by
 cases y with
 |eD=>cases r; rfl
 |bl b=>cases r; rfl
 |int i=>obtain⟨t,rfl⟩:=r; rfl
 |str z=>obtain⟨t,rfl⟩:=r; rfl
 |_=>exact absurd (show false=true from f) aR
theorem qF {x:V}: ∀{xs:List V} {us:List Value},Vals xs us->xs.all sT=true->us.any (DG x)=xs.any fun y=>Ly y x
 |_,_,.nil,_=>rfl
 |y :: xs,u :: us,.cons r t,f=>by
  rw[List.all_cons,ug] at f
  rw[tR,tR,IX r f.1,qF t f.2]
theorem mV {A:Around}{s:Shared}{x:V}{v:Value}(rx:RelV x v)(fx:sT x=true): ∀{xs:List V} {us:List Value},Vals xs us->xs.all sT=true-> ∀u∈us,SeqAt.EqAt A s u v (DG x u)
 |_,_,.nil,_=>fun u hu=>by cases hu
 |y :: xs,u :: us,.cons r t,f=>fun u' hu=>by
  rw[List.all_cons,ug] at f
  rcases aw.mp hu with rfl|hu
  ·rw[IX r f.1]; exact Ol r rx f.1 fx
  ·exact mV rx fx t f.2 u' hu
def wN (x:V)(xs:List V):Bool:=xs.any fun y=>Ly y x
def Zt (K:Frag)(neg:Bool):R2:=fun x y H Q=> ∃p xs,y= .ref p/\(bw K H p xs∨cB K H p xs)/\sT x=true/\xs.all sT=true/\Q (.bl (if neg then !wN x xs else wN x xs)) H
theorem og:oE X (compareOp .In) (Zt X.K false):=by
 intro pins s σ H x y v u Q I rx ry h
 obtain⟨p,xs,rfl,hq,fx,fs,q⟩:=h
 cases ry
 rcases hq with hq|hq
 ·obtain⟨b0,r,pl,hz⟩:=I.list hq
  refine SeqAt.in_listAt (DG x) pl.isList (fun w hw=>mV rx fx r fs w (by simpa using hw)) ⟨.bl _,H,I,rfl,?_⟩
  rw[show b0.toArray.any (DG x)=b0.any (DG x) by simp,qF r fs]
  exact q
 ·obtain⟨b0,r,pl,hz⟩:=I.tuple hq
  refine SeqAt.in_tupleAt (DG x) pl (fun w hw=>mV rx fx r fs w (by simpa using hw)) ⟨.bl _,H,I,rfl,?_⟩
  rw[show b0.toArray.any (DG x)=b0.any (DG x) by simp,qF r fs]
  exact q
theorem y3:oE X (compareOp .NotIn) (Zt X.K true):=by
 intro pins s σ H x y v u Q I rx ry h
 obtain⟨p,xs,rfl,hq,fx,fs,q⟩:=h
 cases ry
 rcases hq with hq|hq
 ·obtain⟨b0,r,pl,hz⟩:=I.list hq
  refine SeqAt.notIn_listAt (DG x) pl.isList (fun w hw=>mV rx fx r fs w (by simpa using hw)) ⟨.bl _,H,I,rfl,?_⟩
  rw[show b0.toArray.any (DG x)=b0.any (DG x) by simp,qF r fs]
  exact q
 ·obtain⟨b0,r,pl,hz⟩:=I.tuple hq
  refine SeqAt.notIn_tupleAt (DG x) pl (fun w hw=>mV rx fx r fs w (by simpa using hw)) ⟨.bl _,H,I,rfl,?_⟩
  rw[show b0.toArray.any (DG x)=b0.any (DG x) by simp,qF r fs]
  exact q
theorem y4:iT X (.builtin "len") (fun xs H Q=> ∃p ys,xs=[.ref p]/\(bw X.K H p ys∨cB X.K H p ys)/\Q (.int ys.length) H):=by
 intro pins s σ H xs us Q I r h
 obtain⟨p,ys,rfl,hq,q⟩:=h
 obtain⟨u,rfl,rx⟩:=vals1 r
 cases rx
 have hn:=yW
 rcases hq with hq|hq
 ·obtain⟨b0,r',pl,hz⟩:=I.list hq
  have hlen:=r'.length
  exact Calls.call_len_list pl.isList (by simp only[List.size_toArray] <;> lia) ⟨.int ys.length,H,I.tok _,⟨s.toks + 1,by rw[List.size_toArray,hlen]⟩,q⟩
 ·obtain⟨b0,r',pl,hz⟩:=I.tuple hq
  have hlen:=r'.length
  exact len_tuple pl (by simp only[List.size_toArray] <;> lia) ⟨.int ys.length,H,I.tok _,⟨s.toks + 1,by rw[List.size_toArray,hlen]⟩,q⟩
theorem zd:iT X (.type "list") (fun xs H Q=> ∃p ys,xs=[.ref p]/\(bw X.K H p ys∨cB X.K H p ys)/\ ∀l,H l=none->Q (.ref l) (upd H l (.lst ys))):=by
 intro pins s σ H xs us Q I r h
 obtain⟨p,ys,rfl,hq,q⟩:=h
 obtain⟨u,rfl,rx⟩:=vals1 r
 cases rx
 have fin: ∀(b0:List Value),Vals ys b0->ys.length<=sizeLine-> ∀(h':Heap) (c':Nat),(∀b o',s.heap.get? b=some o'->h'.get? b=some o')->
   h'.get? s.heap.objs.size=some {cls:= .type "list",dict:=none,data:= .seq b0.toArray c',slots:= #[]}->EP X pins σ Q (.ref s.heap.objs.size) {s with heap:=h'}:=fun b0 r' hz h' c' kp e=>
  ⟨.ref s.heap.objs.size,_,I.laid (t':=s.toks) kp (aI _) (show dE X.prog X.w _ h' _ (.lst ys) from⟨hz,b0,c',r',e⟩),rfl,q _ (I.cz.fresh (aI _))⟩
 rcases hq with hq|hq
 ·obtain⟨b0,r',pl,hz⟩:=I.list hq
  have hlen:=r'.length
  obtain⟨o,ho,hc,n,hd⟩:=pl.isList
  exact call_list_seq p (.inl rfl) ho hc hd (fun h' c' kp e=>fin b0 r' hz h' c' kp e) (by simp only[List.size_toArray] <;> lia)
 ·obtain⟨b0,r',pl,hz⟩:=I.tuple hq
  have hlen:=r'.length
  obtain⟨o,ho,hc,n,hd⟩:=pl
  exact call_list_seq p (.inr rfl) ho hc hd (fun h' c' kp e=>fin b0 r' hz h' c' kp e) (by simp only[List.size_toArray] <;> lia)
theorem wO:iT X (.type "tuple") (fun xs H Q=> ∃p ys,xs=[.ref p]/\((bw X.K H p ys/\ ∀l,H l=none->Q (.ref l) (upd H l (.tup ys)))∨(cB X.K H p ys/\Q (.ref p) H))):=by
 intro pins s σ H xs us Q I r h
 obtain⟨p,ys,rfl,h⟩:=h
 obtain⟨u,rfl,rx⟩:=vals1 r
 cases rx
 rcases h with⟨hq,q⟩|⟨hq,q⟩
 ·obtain⟨b0,r',pl,hz⟩:=I.list hq
  have hlen:=r'.length
  refine call_tuple_list pl.isList (fun h' kp=>?_) (by simp only[List.size_toArray] <;> lia)
  have I1:Inv X pins σ H {s with heap:=h'}:=I.kept (t':=s.toks) kp
  have I2:Inv X pins σ (upd H h'.objs.size (.tup ys)) {s with heap:=h'.push {cls:= .type "tuple",data:= .seq b0.toArray}}:=
   I1.laid (t':=s.toks) (fun b o e=>ay _ e) (aI _) (show dE X.prog X.w _ _ _ (.tup ys) from⟨hz,b0,r',IsTup.new _ _⟩)
  exact⟨.ref h'.objs.size,_,I2,rfl,q _ (I1.cz.fresh (aI _))⟩
 ·obtain⟨b0,r',pl,hz⟩:=I.tuple hq
  exact call_tuple_same pl ⟨.ref p,H,I,rfl,q⟩
def WB (K:Frag)(T:String)(x:V)(H:Hp):Prop:=match x with
 | .str _=>T="str"
 | .int _=>T="int"
 | .ref p=>(T="list"/\ ∃xs,bw K H p xs)∨(T="tuple"/\ ∃o,K.lookup p=some o/\o.cls= .type "tuple"/\o.dict=none)∨
   (T="dict"/\((∃bg,H p=some (.dK bg))∨ ∃bg,H p=some (.dT bg)))∨(T="set"/\ ∃S n,H p=some (.set S n))
 |_=>False
theorem IZ {pins:List (Addr×Obj)}{σ:St}{H:Hp}{s:Shared}{T:String}{x:V}{v:Value}(I:Inv X pins σ H s)(r:RelV x v)(ty:WB X.K T x H):
  s.TypeIs v T/\ ∀a,v= .ref a-> ∃ob,s.heap.get? a=some ob/\ob.dict=none:=by
 cases x with
 |str z=>
  obtain⟨t,rfl⟩:=r
  cases(show T="str" from ty)
  exact⟨typeIs_str s z t,fun _ e=>nomatch e⟩
 |int i=>
  obtain⟨t,rfl⟩:=r
  cases(show T="int" from ty)
  exact⟨typeIs_int s i t,fun _ e=>nomatch e⟩
 |ref p=>
  cases r
  rcases ty with⟨rfl,xs,hq⟩|⟨rfl,o,hk,hc,hd⟩|⟨rfl,hk⟩|⟨rfl,S,n,hk⟩
  ·obtain⟨b0,_,pl,_⟩:=I.list hq
   refine⟨pl.isList.typeIs,fun a e=>?_⟩
   cases e
   obtain⟨o,n,e,c,hd,_⟩:=pl
   exact⟨o,e,hd⟩
  ·refine⟨⟨o,I.gY p o hk,hc⟩,fun a e=>?_⟩
   cases e
   exact⟨o,I.gY _ o hk,hd⟩
  ·have z: ∃o,s.heap.get? p=some o/\o.ExactDict:=by
    rcases hk with⟨bg,hk⟩|⟨bg,hk⟩
    ·obtain⟨_,_,_,_,o,_,_,e,ex,_⟩:=I.cz p _ hk
     exact⟨o,e,ex⟩
    ·obtain⟨_,_,_,_,o,_,_,e,ex,_⟩:=I.cz p _ hk
     exact⟨o,e,ex⟩
   obtain⟨o,e,ex⟩:=z
   refine⟨⟨o,e,ex.1⟩,fun a e2=>?_⟩
   cases e2
   exact⟨o,e,ex.2.1⟩
  ·obtain⟨o,_,_,_,e,ex,_⟩:=I.cz p _ hk
   refine⟨⟨o,e,ex.1⟩,fun a e2=>?_⟩
   cases e2
   exact⟨o,e,ex.2.1⟩
 |_=>exact False.elim ty
def WC (K:Frag)(T:String)(r:V->List V->Hp->VK->Prop)(to:TE):TE:=fun σ H Q=>to σ H fun x H1=>WB K T x H1/\r x [] H1 Q
def Zu (K:Frag)(T:String)(r:V->List V->Hp->VK->Prop)(to:TE)(t:TA):TE:=fun σ H Q=>to σ H fun x H1=>WB K T x H1/\t σ H1 fun xs H2=>r x xs H2 Q
variable {o e:Expr}{es:List Expr}{to:TE}{t:TA}{name:Str}{apos gO:Pos}{T id:String}{r:V->List V->Hp->VK->Prop}
theorem Om (pa:PlainAttrs T)(slot:Slot T name id)(U8:typeOf (.builtin id)=pure (.type "method_descriptor"))(hm:Zs X id r)(ho:PE X o to)
  (qG:attributeBase o name X.env (eval o X.env)=eval o X.env:=by rfl) (uQ:(apos.endLine == gO.line)=true:=by rfl):PE X (.Call (.Attribute o name apos) [] [] gO) (WC X.K T r to):=by
 intro pins s σ H Q I h
 refine wpAny_Call_method0_late qG uQ (ee (ho pins s σ H _ I h) fun v s1 ⟨x,H1,I1,r1,ty,q1⟩=>?_)
 obtain⟨h1,h2⟩:=IZ I1 r1 ty
 exact⟨T,id,pa,slot,U8,h1,h2,iX rfl (PySem.evalArgs_none (hm pins s1 σ H1 x [] v [] Q I1 r1 .nil q1))⟩
theorem RP (pa:PlainAttrs T)(slot:Slot T name id)(U8:typeOf (.builtin id)=pure (.type "method_descriptor"))(hm:Zs X id r)(ho:PE X o to)(ha:PA X (e :: es) t)
  (qG:attributeBase o name X.env (eval o X.env)=eval o X.env:=by rfl)
  (Oo:((backTo gO (starEach (e :: es) X.env)).all (fun x=> !x.1) && (backToKw gO (keywordEach [] X.env)).all (fun x=>x.1.isSome)
   && decide ((e :: es).length + ([]:List Keyword).length + (if([]:List Keyword).isEmpty then 0 else 1) < 30))=true:=by rfl)
  (uQ:(apos.endLine == gO.line)=true:=by rfl) (hs:starEach (e :: es) X.env=(false,eval e X.env) :: starEach es X.env:=by rfl) (uR:(backTo gO (starEach es X.env)).any (·.1)=false:=by rfl):
  PE X (.Call (.Attribute o name apos) (e :: es) [] gO) (Zu X.K T r to t):=by
 intro pins s σ H Q I h
 refine wpAny_Call_method_late qG Oo uQ rfl (ee (ho pins s σ H _ I h) fun v s1 ⟨x,H1,I1,r1,ty,q1⟩=>?_)
 obtain⟨h1,h2⟩:=IZ I1 r1 ty
 refine⟨T,id,pa,slot,U8,h1,h2,?_⟩
 have hA:=ha gO pins s1 σ H1 _ I1 q1
 rw[hs] at hA ⊢
 refine iX (by show(false || (backTo gO (starEach es X.env)).any (·.1))=false; rw[uR] <;> rfl) (FY ?_)
 exact ee hA fun us s2 ⟨vs,H2,I2,r2,q2⟩=>hm pins s2 σ H2 x vs v us Q I2 r1 r2 q2
end
def Zv (X:Cx)(id:String)(r:V->List V->Hp->VK->Prop):Prop:=
 ∀(pins:List (Addr×Obj)) (s:Shared) (σ:St) (H:Hp) (x:V) (xs:List V) (v:Value) (us:List Value) (Q:VK),Inv X pins σ H s->RelV x v->Vals xs us->r x xs H Q->
  wpAny (model X.prog X.w) X.A (call (.builtin id) (v :: us)) (EP X pins σ Q) X.xe s
theorem Vals.one: ∀{x:V} {us:List Value},Vals [x] us-> ∃u,us=[u]/\RelV x u
 |_,_,.cons r .nil=>⟨_,rfl,r⟩
theorem Vals.zero: ∀{us:List Value},Vals [] us->us=[]
 |_,.nil=>rfl
theorem Vals.dropLast {xs:List V}{us:List Value}(h:Vals xs us):Vals xs.dropLast us.dropLast:=by
 induction h with
 |nil=>exact .nil
 |cons r t ih=>
  cases t with
  |nil=>exact .nil
  |cons q t'=>exact .cons r ih
theorem Vals.rep {xs:List V}{us:List Value}(h:Vals xs us): ∀k:Nat,Vals (List.replicate k xs).flatten (List.replicate k us).flatten
 |0=> .nil
 |k + 1=>by
  rw[dj,dj,iY,iY]
  exact Vals.append h (Vals.rep h k)
theorem DH {α:Type}(l:List α):l.eraseIdx (l.length - 1)=l.dropLast:=by
 induction l with
 |nil=>rfl
 |cons a r ih=>
  cases r with
  |nil=>rfl
  |cons b r=>
   have e:(a :: b :: r).length - 1=((b :: r).length - 1) + 1:=by
    have h1:(a :: b :: r).length=r.length + 2:=rfl
    have h2:(b :: r).length=r.length + 1:=rfl
    lia
   rw[e,List.eraseIdx_cons_succ,ih]
   all_goals rfl
theorem foldl_rep (b0:List Value): ∀(k:Nat) (acc:List Value),
  List.foldl (fun x1 x2=>x1 ++ x2) acc.toArray (List.replicate k b0.toArray)=(acc ++ (List.replicate k b0).flatten).toArray
 |0,acc=>by simp
 |k + 1,acc=>by
  have e:acc.toArray ++ b0.toArray=(acc ++ b0).toArray:=by simp
  have e2:(acc ++ b0) ++ (List.replicate k b0).flatten=acc ++ (List.replicate (k + 1) b0).flatten:=by
   rw[dj,iY,dU]
  rw[← e2,← foldl_rep b0 k (acc ++ b0),← e,dj,eZ]
section
variable {X:Cx}{pins:List (Addr×Obj)}{σ:St}{H:Hp}{s:Shared}{l b:Addr}{xs ys zs:List V}
theorem Inv.RQ {b0 qy:List Value}{n:Nat}{f:Array Value->Array Value}{t':Nat}(I:Inv X pins σ H s)(hH:H l=some (.lst xs))
  (e:s.heap.get? l=some {cls:= .type "list",data:= .seq b0.toArray n}) (hf:f b0.toArray=qy.toArray) (hv:Vals ys qy) (hz:ys.length<=sizeLine):
  Inv X pins σ (upd H l (.lst ys)) {s with heap:=s.heap.update l (Obj.mapSeq f),toks:=t'}:=by
 have q:=PySem.IsL.update e f
 rw[hf] at q
 refine I.write (x:=l) (e:=l) (by rw[hH]; exact trivial) (.inl rfl) (fun b' u hb hu=>(mN s.heap (Obj.mapSeq f) (wB hb)).trans hu) ⟨_,q⟩ ?_
 exact⟨hz,qy,_,hv,q⟩
theorem Inv.Oq {b0:List Value}{t':Nat}(I:Inv X pins σ H s)(hv:Vals ys b0)(hz:ys.length<=sizeLine):
  Inv X pins σ (upd H s.heap.objs.size (.lst ys)) {s with heap:=s.heap.push {cls:= .type "list",data:= .seq b0.toArray},toks:=t'}:=
 I.laid (fun _ _ q=>ay _ q) (aI _) ⟨hz,b0,0,hv,bO _ rfl⟩
theorem Inv.fresh (I:Inv X pins σ H s):H s.heap.objs.size=none:=I.cz.fresh (aI _)
theorem Inv.I9 (I:Inv X pins σ H s)(hH:H l=some (.lst xs)):xs.length<=sizeLine/\ ∃(b0:List Value) (n:Nat),Vals xs b0/\xs.length=b0.length/\s.heap.get? l=some {cls:= .type "list",data:= .seq b0.toArray n}:=by
 obtain⟨z,b0,n,r,e⟩:=I.cz l _ hH
 exact⟨z,b0,n,r,r.length,e⟩
theorem Ja {n:Nat}(h:n<=sizeLine):Builtin.List.listTooLong n=false:=by
 unfold Builtin.List.listTooLong
 exact ba (by lia)
end
section
variable {X:Cx}
inductive WD (x:V)(vs:List V)(H:Hp)(k:Addr->List V->V->Prop):Prop
 |mk (l:Addr)(xs:List V)(y:V)(h1:x= .ref l)(h2:vs=[y])(h3:H l=some (.lst xs))(h4:xs.length < sizeLine)(q:k l xs y):WD x vs H k
def EW:V->List V->Hp->VK->Prop:=fun x vs H Q=>WD x vs H fun l xs y=>Q .eD (upd H l (.lst (xs ++ [y])))
theorem ye:Zv X "list.append" EW:=by
 intro pins s σ H x vs v us Q I rx rv h
 obtain⟨l,xs,y,rfl,rfl,hH,hz,q⟩:=h
 cases rx
 obtain⟨u,rfl,ru⟩:=rv.one
 obtain⟨z,b0,n,r,hl,e⟩:=I.I9 hH
 refine call_meets F.slot_list_append ⟨_,e,rfl⟩ F.entry_list_append (F.args_list_append_2 _ _) (PySem.list_append l b0.toArray n u (by rw[bC]; lia)) ⟨e,?_⟩
 refine⟨.eD,_,I.RQ (qy:=b0 ++ [u]) hH e (by simp) (r.append (.cons ru .nil)) ?_,rfl,q⟩
 rw[aH,List.length_singleton]
 lia
def WE:V->List V->Hp->VK->Prop:=fun x vs H Q=> ∃l xs y,x= .ref l/\vs=[]/\H l=some (.lst xs)/\xs[xs.length - 1]? =some y/\Q y (upd H l (.lst xs.dropLast))
theorem Ot:Zv X "list.pop" WE:=by
 intro pins s σ H x vs v us Q I rx rv h
 obtain⟨l,xs,y,rfl,rfl,hH,hy,q⟩:=h
 cases rx
 have RS:=rv.zero
 subst RS
 obtain⟨z,b0,n,r,hl,e⟩:=I.I9 hH
 obtain⟨u,hu,ru⟩:=r.get hy
 have hy':b0.toArray[b0.toArray.size - 1]? =some u:=by
  show b0.toArray[b0.length - 1]? =some u
  rw[← Array.getElem?_toList,← hl]
  exact hu
 refine call_meets F.slot_list_pop ⟨_,e,rfl⟩ F.entry_list_pop (F.args_list_pop_1 _) (MeetsSeq.list_pop_last l b0.toArray n u hy' (by rw[bC]; lia)) ⟨e,?_⟩
 refine⟨y,_,I.RQ (qy:=b0.dropLast) hH e ?_ r.dropLast ?_,ru,q⟩
 ·show b0.toArray.eraseIdxIfInBounds (b0.toArray.size - 1)=b0.dropLast.toArray
  rw[bC,List.eraseIdxIfInBounds_toArray,DH]
 ·rw[List.length_dropLast]
  lia
def RT:R2:=fun x y H Q=> ∃l b xs zs,x= .ref l/\y= .ref b/\H l=some (.lst xs)/\H b=some (.lst zs)/\xs.length + zs.length<=sizeLine/\ ∀p,H p=none->Q (.ref p) (upd H p (.lst (xs ++ zs)))
theorem l6:oE X (binaryOp .Add) RT:=by
 intro pins s σ H x y v u Q I rx ry h
 obtain⟨l,b,xs,zs,rfl,rfl,hH,hB,hz,q⟩:=h
 cases rx
 cases ry
 obtain⟨z,b0,n,r,hl,e⟩:=I.I9 hH
 obtain⟨z2,Gv,n2,r2,WG,e2⟩:=I.I9 hB
 refine PySem.P.add_list e e2 ?_ (by rw[bC,bC]; lia)
 have ea:b0.toArray ++ Gv.toArray=(b0 ++ Gv).toArray:=by simp
 rw[ea]
 exact⟨.ref _,_,I.Oq (t':=s.toks) (r.append r2) (by rw[aH]; lia),rfl,q _ I.fresh⟩
def RU:R2:=fun x y H Q=> ∃l k xs,x= .ref l/\y= .int k/\H l=some (.lst xs)/\ -(2 ^ 63)<=k/\k < 2 ^ 63/\xs.length * k.toNat<=sizeLine/\
 ∀p,H p=none->Q (.ref p) (upd H p (.lst (List.replicate k.toNat xs).flatten))
theorem len_rep {α:Type}(xs:List α)(k:Nat):(List.replicate k xs).flatten.length=k * xs.length:=by
 induction k with
 |zero=>simp
 |succ k ih=>rw[dj,iY,aH,ih,wF,Nat.add_comm]
theorem DI:oE X (binaryOp .Mult) RU:=by
 intro pins s σ H x y v u Q I rx ry h
 obtain⟨l,k,xs,rfl,rfl,hH,h1,h2,hz,q⟩:=h
 cases rx
 obtain⟨t,rfl⟩:=ry
 obtain⟨z,b0,n,r,hl,e⟩:=I.I9 hH
 have hlen:b0.toArray.size * k.toNat<=sizeLine:=by rw[bC,← hl]; exact hz
 have WH: ¬ b0.toArray.size * k.toNat > (2 ^ 63 - 1) / 8:=by
  have:(sizeLine:Nat)<=(2 ^ 63 - 1) / 8:=by decide
  lia
 have WI: ¬ (!Builtin.List.listFitsIndex k)=true:=by
  rw[fitsIndex_both h1 h2]
  exact aR
 have RV: ¬ Builtin.List.listTooLong (b0.toArray.size * k.toNat)=true:=by
  rw[Ja hlen]
  exact aR
 have WJ:List.foldl (fun x1 x2=>x1 ++ x2) #[] (List.replicate (if b0.toArray.isEmpty=true then 0 else k.toNat) b0.toArray)=(List.replicate k.toNat b0).flatten.toArray:=by
  have f0: ∀m:Nat,List.foldl (fun x1 x2=>x1 ++ x2) #[] (List.replicate m b0.toArray)=(List.replicate m b0).flatten.toArray:=fun m=>by
   have:=foldl_rep b0 m []
   rw[List.nil_append] at this
   exact this
  rw[f0]
  cases b0 with
  |nil=>simp
  |cons a r'=>rw[if_neg (by simp)]
 refine wpAny_binaryOp_repeat_ref (T:="list") (U:="int") (by decide) ⟨_,e,rfl⟩ (fun s'=>typeIs_int s' k t) noFill_list_mul F.fills_int_mul F.slot_int_rmul repeat_list F.slot_int_index.lookup
  (call_meets F.slot_int_rmul (typeIs_int s k t) F.entry_int_rmul (F.args_int_rmul_2 _ _) (int___rmul___int_list k t l b0.toArray n)
   ⟨e,rfl,⟨_,e,rfl⟩,call_meets F.slot_list_mul ⟨_,e,rfl⟩ F.entry_list_mul (F.args_list_mul_2 _ _) (AutoListH.list___mul___list_int_3 l b0.toArray n k t WI WH RV) ⟨e,?_⟩⟩)
 rw[WJ]
 exact⟨.ref _,_,I.Oq (t':=s.toks) (r.rep k.toNat) (by rw[len_rep,Nat.mul_comm]; exact hz),rfl,q _ I.fresh⟩
end
section
variable {prog:Program}{w:World}{A:Around}{E:Value->Shared->Prop}{s:Shared}
end
section
variable {X:Cx}
end
section
variable {κ:Type}[DecidableEq κ]
def gv (bg:List (κ×V))(k:κ):Option V:=(bg.find? fun kv=>decide (kv.1=k)).map (·.2)
def putK (bg:List (κ×V))(k:κ)(v:V):List (κ×V):=
 if(bg.any fun kv=>decide (kv.1=k))=true then bg.map (fun kv=>if kv.1=k then(kv.1,v) else kv) else bg ++ [(k,v)]
def lz (bg:List (κ×V))(k:κ):List (κ×V):=bg.filter fun kv=>decide (kv.1≠k)
theorem fI {p:κ×V}{r:List (κ×V)}{k:κ}(e:p.1=k):gv (p :: r) k=some p.2:=by simp[gv,List.find?_cons,e]
theorem fA {p:κ×V}{r:List (κ×V)}{k:κ}(e: ¬ p.1=k):gv (p :: r) k=gv r k:=by simp[gv,List.find?_cons,e]
theorem mW (k:κ): ∀bg:List (κ×V),(bg.any fun kv=>decide (kv.1=k))=(gv bg k).isSome
 |[]=>rfl
 |p :: r=>by
  rw[tR]
  by_cases e:p.1=k
  ·simp only[fI e,decide_eq_true e,Bool.true_or,Option.isSome_some]
  ·rw[fA e,ba e,Bool.false_or]; exact mW k r
theorem Bo (k j:κ)(y:V): ∀bg:List (κ×V),gv (bg.map fun kv=>if kv.1=k then(kv.1,y) else kv) j=(gv bg j).map fun x=>if j=k then y else x
 |[]=>rfl
 |p :: r=>by
  have ih:=Bo k j y r
  rw[bM]
  by_cases h:p.1=k
  ·rw[aZ h]
   by_cases e:p.1=j
   ·rw[fI (p:=(p.1,y)) e,fI e,oy,aZ (e.symm.trans h)]
   ·rw[fA (p:=(p.1,y)) e,fA e,ih]
  ·rw[aO h]
   by_cases e:p.1=j
   ·rw[fI (p:=p) e,fI e,oy,aO (fun z=>h (e.trans z))]
   ·rw[fA (p:=p) e,fA e,ih]
theorem yf (k j:κ)(y:V): ∀bg:List (κ×V),gv bg k=none->gv (bg ++ [(k,y)]) j=if j=k then some y else gv bg j
 |[],_=>by
  by_cases e:k=j
  ·rw[aZ e.symm]; exact fI (p:=(k,y)) e
  ·rw[aO (fun z=>e z.symm)]; exact fA (p:=(k,y)) e
 |p :: r,hn=>by
  rw[List.cons_append]
  have hk: ¬ p.1=k:=fun z=>by rw[fI z] at hn; cases hn
  rw[fA hk] at hn
  have ih:=yf k j y r hn
  by_cases e:p.1=j
  ·rw[fI e,fI e,aO (fun z=>hk (e.trans z))]
  ·rw[fA e,fA e,ih]
theorem Jb (bg:List (κ×V))(k j:κ)(y:V):gv (putK bg k y) j=if j=k then some y else gv bg j:=by
 unfold putK
 by_cases a:(bg.any fun kv=>decide (kv.1=k))=true
 ·rw[aZ a,Bo]
  rw[mW] at a
  by_cases e:j=k
  ·obtain⟨x,hx⟩:=QC.mp a
   rw[aZ e,e,hx,oy,aZ rfl]
  ·rw[aO e]
   cases gv bg j with
   |none=>rfl
   |some x=>rw[oy,aO e]
 ·rw[aO a]
  refine yf k j y bg ?_
  rw[mW] at a
  cases q:gv bg k with
  |none=>rfl
  |some x=>rw[q] at a; exact(a rfl).elim
theorem kI (bg:List (κ×V))(k:κ)(v:V):(putK bg k v).length<=bg.length + 1:=by
 unfold putK
 split
 ·rw[ae]; lia
 ·rw[aH,bH,wG]; lia
theorem Jc {bg:List (κ×V)}{k:κ}(v:V)(h:gv bg k=none):putK bg k v=bg ++ [(k,v)]:=by
 unfold putK
 rw[mW,h]
 exact aO (by decide)
theorem lx.lA {o:Option V}{u:Option Value}(r:lx o u):o.isSome=u.isSome:=by
 cases o with
 |none=>cases u with
  |none=>rfl
  |some _=>exact(show False from r).elim
 |some _=>cases u with
  |none=>exact(show False from r).elim
  |some _=>rfl
theorem KV.val {bg:List (κ×V)}{vs:List (κ×Value)}(r:KV bg vs)(k:κ):lx (gv bg k) (valueAt vs k):=by
 unfold KV at r
 induction r with
 |nil=>exact True.intro
 | @cons p q ps qs h t ih=>
  obtain⟨h1,h2⟩:=h
  by_cases e:p.1=k
  ·have e':q.1=k:=h1.symm.trans e
   have b:valueAt (q :: qs) k=some q.2:=by simp[valueAt,List.find?_cons,e']
   rw[fI e,b]; exact h2
  ·have e': ¬ q.1=k:=fun z=>e (h1.trans z)
   have b:valueAt (q :: qs) k=valueAt qs k:=by simp[valueAt,List.find?_cons,e']
   rw[fA e,b]; exact ih
theorem KV.any {bg:List (κ×V)}{vs:List (κ×Value)}(r:KV bg vs)(k:κ):(bg.any fun kv=>decide (kv.1=k))=vs.any fun kv=>decide (kv.1=k):=by
 unfold KV at r
 induction r with
 |nil=>rfl
 |cons h t ih=>rw[tR,tR,ih,h.1]
theorem KV.Ou {bg:List (κ×V)}{vs:List (κ×Value)}(r:KV bg vs)(k:κ){y:V}{u:Value}(ry:RelV y u):
  KV (bg.map fun kv=>if kv.1=k then(kv.1,y) else kv) (vs.map fun kv=>if kv.1=k then(kv.1,u) else kv):=by
 unfold KV at r ⊢
 induction r with
 |nil=>exact .nil
 | @cons p q ps qs h t ih=>
  rw[bM,bM]
  refine .cons ?_ ih
  obtain⟨h1,h2⟩:=h
  by_cases e:p.1=k
  ·rw[aZ e,aZ (h1.symm.trans e)]; exact⟨h1,ry⟩
  ·rw[aO e,aO (fun z=>e (h1.trans z))]; exact⟨h1,h2⟩
theorem KV.put {bg:List (κ×V)}{vs:List (κ×Value)}(r:KV bg vs)(k:κ){y:V}{u:Value}(ry:RelV y u):KV (putK bg k y) (stored vs k u):=by
 unfold putK stored
 rw[r.any k]
 by_cases e:(vs.any fun kv=>decide (kv.1=k))=true
 ·rw[aZ e,aZ e]; exact r.Ou k ry
 ·rw[aO e,aO e]; exact cy r ⟨rfl,ry⟩
theorem KV.drop {bg:List (κ×V)}{vs:List (κ×Value)}(r:KV bg vs)(k:κ):KV (lz bg k) (without vs k):=by
 unfold KV at r ⊢
 unfold lz without
 induction r with
 |nil=>exact .nil
 | @cons p q ps qs h t ih=>
  obtain⟨h1,h2⟩:=h
  rw[List.filter_cons,List.filter_cons]
  by_cases e:p.1=k
  ·have a: ¬ decide (p.1≠k)=true:=by simp[e]
   have b: ¬ decide (q.1≠k)=true:=by simp[h1.symm.trans e]
   rw[aO a,aO b]; exact ih
  ·have e': ¬ q.1=k:=fun z=>e (h1.trans z)
   have a:decide (p.1≠k)=true:=by simp[e]
   have b:decide (q.1≠k)=true:=by simp[e']
   rw[aZ a,aZ b]; exact .cons ⟨h1,h2⟩ ih
theorem KV.length {bg:List (κ×V)}{vs:List (κ×Value)}(r:KV bg vs):bg.length=vs.length:=aL r
theorem Jd (bg:List (κ×V))(k:κ):(lz bg k).length<=bg.length:=a7 _ _
end
theorem uS {P:Program}{w:World}{k:Key}{u:Value}(r:RelV (kV k) u):(d8 P w).is k u=true:=by
 cases k with
 |inl i=>obtain⟨t,e⟩:=(show ∃t,u=Value.int i t from r); subst e; exact A8 P w i t
 |inr x=>obtain⟨t,e⟩:=(show ∃t,u=Value.str x t from r); subst e; exact A9 P w x t
theorem yg {P:Program}{w:World}: ∀{ks:List Key} {us:List Value},Vals (ks.map kV) us->ItemsAre (d8 P w) ks us
 |[],_,r=>by rw[wD] at r; cases r; exact .nil
 |k :: ks,_,r=>by
  rw[bM] at r
  cases r with
  |cons h t=>exact .cons (uS h) (yg t)
abbrev KT (H:Hp):List (List Key×V)->List (List Key×Addr×Value)->Prop:=Paired fun p q=>p.1=q.1/\H q.2.1=some (.tup (p.1.map kV))/\RelV p.2 q.2.2
theorem KT.val {H:Hp}{bg:List (List Key×V)}{xs:List (List Key×Addr×Value)}(r:KT H bg xs)(k:List Key):lx (gv bg k) ((atKey xs k).map (·.2)):=by
 induction r with
 |nil=>exact True.intro
 | @cons p q ps qs h t ih=>
  obtain⟨h1,_,h2⟩:=h
  by_cases e:p.1=k
  ·have e':q.1=k:=h1.symm.trans e
   have b:atKey (q :: qs) k=some q.2:=by simp[atKey,List.find?_cons,e']
   rw[fI e,b]; exact h2
  ·have e': ¬ q.1=k:=fun z=>e (h1.trans z)
   have b:atKey (q :: qs) k=atKey qs k:=by simp[atKey,List.find?_cons,e']
   rw[fA e,b]; exact ih
theorem KT.Ou {H:Hp}{bg:List (List Key×V)}{xs:List (List Key×Addr×Value)}(r:KT H bg xs)(k:List Key){y:V}{u:Value}(ry:RelV y u):
  KT H (bg.map fun kv=>if kv.1=k then(kv.1,y) else kv) (xs.map (putAt k u)):=by
 induction r with
 |nil=>exact .nil
 | @cons p q ps qs h t ih=>
  rw[bM,bM]
  refine .cons ?_ ih
  obtain⟨h1,h2,h3⟩:=h
  unfold putAt
  by_cases e:p.1=k
  ·rw[aZ e,aZ (h1.symm.trans e)]; exact⟨h1,h2,ry⟩
  ·rw[aO e,aO (fun z=>e (h1.trans z))]; exact⟨h1,h2,h3⟩
theorem KT.put {H:Hp}{bg:List (List Key×V)}{xs:List (List Key×Addr×Value)}(r:KT H bg xs)(k:List Key){b:Addr}{y:V}{u:Value}(hb:H b=some (.tup (k.map kV)))(ry:RelV y u):
  KT H (putK bg k y) (storedH xs k b u):=by
 have e:(bg.any fun kv=>decide (kv.1=k))=(atKey xs k).isSome:=by
  rw[mW,(r.val k).lA,FZ]
 unfold putK storedH
 rw[e]
 by_cases q:(atKey xs k).isSome=true
 ·rw[aZ q,aZ q]; exact r.Ou k ry
 ·rw[aO q,aO q]; exact cy r ⟨rfl,hb,ry⟩
theorem KT.keeps {H H':Hp}{bg:List (List Key×V)}{xs:List (List Key×Addr×Value)}(r:KT H bg xs)(ht: ∀b ys,H b=some (.tup ys)->H' b=some (.tup ys)):KT H' bg xs:=
 Paired.iD r fun _ _ z=>⟨z.1,ht _ _ z.2.1,z.2.2⟩
section
variable {P:Program}{w:World}{H:Hp}{h:Heap}{a:Addr}
theorem Na {u:HO}(ok:oC P w H h)(e:Rd H a u):dE P w H h a u:=e.ok ok
theorem uT {bg:List (Key×V)}(ok:oC P w H h)(e:Rd H a (.dK bg)):bg.length<=sizeLine/\(a == sysModules)=false/\ ∃vs,KV bg vs/\h.DictOf (d8 P w) a vs:=
 show dE P w H h a (.dK bg) from Na ok e
theorem EY {bg:List (Key×V)}(ok:oC P w H h)(e:H a=some (.dK bg)):bg.length<=sizeLine/\(a == sysModules)=false/\ ∃vs,KV bg vs/\h.DictOf (d8 P w) a vs:=uT ok (.inl e)
theorem uU {ks:List Key}(ok:oC P w H h)(e:H a=some (.tup (ks.map kV))):(tupleKind (d8 P w)).is h ks a:=by
 obtain⟨_,b0,r,o,h1,h2,n,h3⟩:=(show dE P w H h a (.tup (ks.map kV)) from ok a _ e)
 exact⟨o,b0.toArray,n,h1,h2,h3,by simpa using yg r⟩
theorem yh {bg:List (List Key×V)}(ok:oC P w H h)(e:Rd H a (.dT bg)):bg.length<=sizeLine/\(a == sysModules)=false/\
  ∃xs,KT H bg xs/\h.DictOfH (tupleKind (d8 P w)) a xs:=by
 obtain⟨z,y,xs,r,o,es,ep,h1,h2,h3,h4,h5⟩:=(show dE P w H h a (.dT bg) from Na ok e)
 refine⟨z,y,xs,r,o,es,ep,h1,h2,h3,h4,fun x hx=>?_,h5⟩
 have all: ∀{l:List (List Key×V)} {m:List (List Key×Addr×Value)},KT H l m-> ∀x∈m,(tupleKind (d8 P w)).is h x.1 x.2.1:=by
  intro l m q
  induction q with
  |nil=>intro x hx; exact nomatch hx
  | @cons p q ps qs hq t ih=>
   intro x hx
   rcases aw.mp hx with e|hx
   ·subst e
    exact uU ok (by rw[← hq.1]; exact hq.2.1)
   ·exact ih x hx
 exact all r x hx
theorem RW {bg:List (List Key×V)}(ok:oC P w H h)(e:H a=some (.dT bg)):bg.length<=sizeLine/\(a == sysModules)=false/\
  ∃xs,KT H bg xs/\h.DictOfH (tupleKind (d8 P w)) a xs:=yh ok (.inl e)
end
def mH (H:Hp)(a:Addr)(y:V)(r:Option V):Prop:=
 (∃bg k,Rd H a (.dK bg)/\y=kV k/\r=gv bg k)∨ ∃bg k b,Rd H a (.dT bg)/\y= .ref b/\H b=some (.tup (k.map kV))/\r=gv bg k
def Gw (H:Hp)(a:Addr)(y v:V)(H':Hp):Prop:=
 (∃bg k,H a=some (.dK bg)/\y=kV k/\bg.length < sizeLine/\H'=upd H a (.dK (putK bg k v)))∨
 ∃bg k b,H a=some (.dT bg)/\y= .ref b/\H b=some (.tup (k.map kV))/\bg.length < sizeLine/\H'=upd H a (.dT (putK bg k v))
theorem mH.k {H:Hp}{a:Addr}{bg:List (Key×V)}{k:Key}(e:H a=some (.dK bg)):mH H a (kV k) (gv bg k):= .inl ⟨bg,k,.inl e,rfl,rfl⟩
theorem Gw.k {H:Hp}{a:Addr}{bg:List (Key×V)}{k:Key}{v:V}(e:H a=some (.dK bg))(hl:bg.length < sizeLine):Gw H a (kV k) v (upd H a (.dK (putK bg k v))):= .inl ⟨bg,k,e,rfl,hl,rfl⟩
section
variable {X:Cx}{pins:List (Addr×Obj)}{σ:St}{H:Hp}{s:Shared}{a:Addr}{y v:V}{u r:Value}{o:Option V}{A:Around}{E:Value->Shared->Prop}
theorem Inv.big (I:Inv X pins σ H s):sysModules < s.heap.objs.size:=by
 have h:mainGlobals < s.heap.objs.size:=(I.mod.glob.keeps I.bk).lt
 exact Nat.lt_trans (by decide) h
theorem Gx {Q:Value->Shared->Prop}(hu:A.units + 1 < cLine)(I:Inv X pins σ H s)(g:mH H a y (some v))(ry:RelV y u)(h: ∀w' s',Inv X pins σ H s'->RelV v w'->Q w' s'):
  wpAny (model X.prog X.w) A (getItem (.ref a) u) Q E s:=by
 rcases g with⟨bg,k,e,ey,l⟩|⟨bg,k,b,e,ey,eb,l⟩
 ·subst ey
  obtain⟨z,hd,vs,rel,dd⟩:=uT I.cz e
  obtain⟨w',hw,Gu⟩:=lx.some_of (v:=v) (o:=valueAt vs k) (by rw[l]; exact rel.val k)
  exact wpAny_getItem_of (uS ry) dd.mapOf hw (h w' _ (I.tok _) Gu)
 ·subst ey
  cases(show u=Value.ref b from ry)
  obtain⟨z,hd,xs,rel,dd⟩:=yh I.cz e
  obtain⟨w',hw,Gu⟩:=lx.some_of (v:=v) (o:=(atKey xs k).map (·.2)) (by rw[l]; exact rel.val k)
  obtain⟨p,hp,tU⟩:=br.mp hw
  refine wpAny_getItem_heap (uh hu) (uU I.cz eb) dd hp ?_
  rw[tU]
  exact h w' _ (I.tok _) Gu
theorem WK {Q:Value->Shared->Prop}(hu:A.units + 1 < cLine)(I:Inv X pins σ H s)(g:mH H a y o)(ry:RelV y u)(h: ∀s',Inv X pins σ H s'->Q (.bool o.isSome) s'):
  wpAny (model X.prog X.w) A (compareOp .In u (.ref a)) Q E s:=by
 rcases g with⟨bg,k,e,ey,l⟩|⟨bg,k,b,e,ey,eb,l⟩
 ·subst ey
  obtain⟨z,hd,vs,rel,dd⟩:=uT I.cz e
  refine wpAny_in_of (uS ry) hd dd.mapOf ?_
  rw[← (rel.val k).lA,← l]
  exact h _ (I.tok _)
 ·subst ey
  cases(show u=Value.ref b from ry)
  obtain⟨z,hd,xs,rel,dd⟩:=yh I.cz e
  refine wpAny_in_heap (uh hu) (uU I.cz eb) hd dd ?_
  have q:=(rel.val k).lA
  rw[FZ] at q
  rw[← q,← l]
  exact h _ (I.tok _)
theorem Lz {Q:Value->Shared->Prop}(hu:A.units + 1 < cLine)(I:Inv X pins σ H s)(g:mH H a y o)(ry:RelV y u)(h: ∀s',Inv X pins σ H s'->Q (.bool (!o.isSome)) s'):
  wpAny (model X.prog X.w) A (compareOp .NotIn u (.ref a)) Q E s:=by
 rcases g with⟨bg,k,e,ey,l⟩|⟨bg,k,b,e,ey,eb,l⟩
 ·subst ey
  obtain⟨z,hd,vs,rel,dd⟩:=uT I.cz e
  refine wpAny_notIn_of (uS ry) hd dd.mapOf ?_
  rw[← (rel.val k).lA,← l]
  exact h _ (I.tok _)
 ·subst ey
  cases(show u=Value.ref b from ry)
  obtain⟨z,hd,xs,rel,dd⟩:=yh I.cz e
  refine wpAny_notIn_heap (uh hu) (uU I.cz eb) hd dd ?_
  have q:=(rel.val k).lA
  rw[FZ] at q
  rw[← q,← l]
  exact h _ (I.tok _)
theorem uk {h':Heap}{t':Nat}{ob:HO}(I:Inv X pins σ H s)(mu:Rl (H a))(hs:Heap.SameBut a s.heap h')(he: ∃q,h'.get? a=some q)(new:dE X.prog X.w (upd H a ob) h' a ob):
  Inv X pins σ (upd H a ob) {s with heap:=h',toks:=t'}:=
 I.write (x:=a) (e:=a) mu (.inl rfl) (fun b q hb z=>(hs.2 b hb).trans z) he new
theorem ze {P:Program}{w:World}{H':Hp}{h':Heap}{bg:List (Key×V)}{vs:List (Key×Value)}(z:bg.length<=sizeLine)(hd:(a == sysModules)=false)(rel:KV bg vs)(dd:h'.DictOf (d8 P w) a vs):
  dE P w H' h' a (.dK bg):=⟨z,hd,vs,rel,dd⟩
theorem Gy {H':Hp}{Q:Unit->Shared->Prop}(hu:A.units + 1 < cLine)(I:Inv X pins σ H s)(g:Gw H a y v H')(ry:RelV y u)(rv:RelV v r)(h: ∀s',Inv X pins σ H' s'->Q () s'):
  wpAny (model X.prog X.w) A (setItem (.ref a) u r) Q E s:=by
 rcases g with⟨bg,k,e,ey,l,eH⟩|⟨bg,k,b,e,ey,eb,l,eH⟩
 ·subst ey eH
  obtain⟨z,hd,vs,rel,dd⟩:=EY I.cz e
  have hz:vs.length<=sizeLine:=by rw[← rel.length]; exact z
  have hl:(putK bg k v).length<=sizeLine:=by have:=kI bg k v; lia
  refine wpAny_setItem_pairs (hsz:=hz) (uS ry) dd fun h' EZ hs=>h _ ?_
  have he: ∃q,h'.get? a=some q:=let⟨q,_,_,hq,_⟩:=EZ; ⟨q,hq⟩
  exact uk I (by rw[e]; exact True.intro) hs he (ze hl hd (rel.put k rv) EZ)
 ·subst ey eH
  cases(show u=Value.ref b from ry)
  obtain⟨z,hd,xs,rel,dd⟩:=RW I.cz e
  have hz:xs.length<=sizeLine:=by rw[← aL rel]; exact z
  have hl:(putK bg k v).length<=sizeLine:=by have:=kI bg k v; lia
  refine wpAny_setItem_heap (hsz:=hz) (uh hu) (uU I.cz eb) dd fun h' EZ hs=>h _ ?_
  obtain⟨q,es,ep,hq,h2,h3,h4,_,h5⟩:=EZ
  refine uk I (by rw[e]; exact True.intro) hs ⟨q,hq⟩ ⟨hl,hd,_,(rel.put k eb rv).keeps fun c ys ec=>?_,q,es,ep,hq,h2,h3,h4,h5⟩
  rw[aA (mx ec e (fun z=>nomatch z))]
  exact ec
end
section
variable {X:Cx}{pins:List (Addr×Obj)}{σ:St}{H:Hp}{s:Shared}{a:Addr}{bg:List (Key×V)}{k:Key}{u:Value}{A:Around}{E:Value->Shared->Prop}
theorem RX {v:V}{more:List Value}{Q:Value->Shared->Prop}(I:Inv X pins σ H s)(e:H a=some (.dK bg))(ry:RelV (kV k) u)(l:gv bg k=some v)(hm:more=[]∨ ∃x,more=[x])
  (h: ∀w' s',Inv X pins σ (upd H a (.dK (lz bg k))) s'->RelV v w'->Q w' s'):wpAny (model X.prog X.w) A (call (.builtin "dict.pop") (.ref a :: u :: more)) Q E s:=by
 obtain⟨z,hd,vs,rel,dd⟩:=EY I.cz e
 obtain⟨w',hw,Gu⟩:=lx.some_of (v:=v) (o:=valueAt vs k) (by rw[← l]; exact rel.val k)
 have hp:(keyPart u).isSome=true:=by
  cases k with
  |inl i=>obtain⟨t,q⟩:=(show ∃t,u=Value.int i t from ry); subst q; rfl
  |inr x=>obtain⟨t,q⟩:=(show ∃t,u=Value.str x t from ry); subst q; rfl
 have ha:argsOk "dict.pop" ⟨.ref a :: u :: more,[]⟩:=by
  rcases hm with q|⟨x,q⟩
  ·subst q; exact PySem.F.args_dict_pop_2 _ _
  ·subst q; exact PySem.F.args_dict_pop_3 _ _ _
 refine call_meetsIn PySem.F.slot_dict_pop dd.typeIs PySem.F.entry_dict_pop ha (meets_dict_pop_there (d8 X.prog X.w) a (uS ry) more hm hp)
  ⟨vs,w',dd,by rw[← rel.length]; exact z,hw,fun h' EZ hs=>h w' _ ?_ Gu⟩
 have he: ∃q,h'.get? a=some q:=let⟨q,_,_,hq,_⟩:=EZ; ⟨q,hq⟩
 exact uk I (by rw[e]; exact True.intro) hs he (ze (a6 (Jd bg k) z) hd (rel.drop k) EZ)
end
def RY (i:Expr):Prop:= ∀ov iv,subscripted i false ov iv=operate [ov,iv] (getItem ov iv)
theorem LA {prog:Program}{w:World}{A:Around}{E:Value->Shared->Prop}{s:Shared}{env:Env}{value slice:Expr}{pos:Pos}{T id:String}{Q:Value->Shared->Prop}
  (hl:typeLookup (.type T) "__getitem__"=pure (some (.builtin id))) (hs:RY slice)
  (h:wpAny (model prog w) A (eval value env) (fun o s₁=>wpAny (model prog w) A (eval slice env) (fun i s₂=>s₂.TypeIs o T/\wpAny (model prog w) A (getItem o i) Q E s₂) E s₁) E s):
  wpAny (model prog w) A (eval (.Subscript value slice pos) env) Q E s:=by
 refine Subscript_ (cm h (fun o s₁ h₁=>cm h₁ (fun i s₂ h₂=>?_) fun _ _ x=>x) fun _ _ x=>x)
 obtain⟨hT,h₂⟩:=h₂
 unfold subscriptTail
 refine az ?_
 rw[getitemInPython_of_ne hT.not_modules]
 refine az (wpAny_specialOf hT hl ?_)
 have fin:wpAny (model prog w) A (subscripted slice false o i) (fun r s₃=>wpAny (model prog w) A (letTemporaryGo value o r >>=fun _=>pure r) Q E s₃) E s₂:=by
  rw[hs o i]
  exact wpAny_operating (cm h₂ (fun r s₃ h₃=>az (wpAny_letTemporaryGo (bF h₃))) fun _ _ x=>x)
 first
  |exact bF (az fin)
  |exact az (bF (az fin))
  |exact az fin
theorem Bp {X:Cx}{pins:List (Addr×Obj)}{σ:St}{H:Hp}{s:Shared}{a:Addr}{y:V}{o:Option V}(I:Inv X pins σ H s)(g:mH H a y o):s.TypeIs (.ref a) "dict":=by
 rcases g with⟨bg,k,e,_,_⟩|⟨bg,k,b,e,_,_,_⟩
 ·obtain⟨_,_,vs,_,dd⟩:=uT I.cz e
  exact dd.typeIs
 ·obtain⟨_,_,xs,_,dd⟩:=yh I.cz e
  exact dd.typeIs
def RZ (td ty:TE):TE:=fun σ H Q=>td σ H fun x H1=>ty σ H1 fun y H2=> ∃a v,x= .ref a/\mH H2 a y (some v)/\Q v H2
def WL (ty td:TE):TE:=fun σ H Q=>ty σ H fun y H1=>td σ H1 fun x H2=> ∃a o,x= .ref a/\mH H2 a y o/\Q (.bl o.isSome) H2
def LB (ty td:TE):TE:=fun σ H Q=>ty σ H fun y H1=>td σ H1 fun x H2=> ∃a o,x= .ref a/\mH H2 a y o/\Q (.bl (!o.isSome)) H2
def R0 (td ty tv:TE):TS:=fun D σ H=>tv σ H fun v H1=>td σ H1 fun x H2=>ty σ H2 fun y H3=> ∃a H4,x= .ref a/\Gw H3 a y v H4/\D.nx σ H4
section
variable {X:Cx}{o i e value:Expr}{pos pos' Oe:Pos}{td ty tv:TE}
theorem cD (hu:X.A.units + 1 < cLine)(ho:PE X o td)(hi:PE X i ty)(hs:RY i):PE X (.Subscript o i pos) (RZ td ty):=by
 intro pins s σ H Q I h
 refine LA PySem.F.slot_dict_getitem.lookup hs (ee (ho pins s σ H _ I h) fun u s1 ⟨x,H1,I1,rx,q1⟩=>ee (hi pins s1 σ H1 _ I1 q1) fun iv s2 ⟨y,H2,I2,ry,a,v,ex,g,q2⟩=>?_)
 subst ex
 obtain rfl:u=Value.ref a:=rx
 exact⟨Bp I2 g,Gx hu I2 g ry fun w' s3 I3 Gu=>⟨v,H2,I3,Gu,q2⟩⟩
theorem Ov (hu:X.A.units + 1 < cLine)(hi:PE X i ty)(ho:PE X o td):PC X .In i o (WL ty td):=by
 intro pins s σ H Q I h
 refine ee (hi pins s σ H _ I h) fun iv s1 ⟨y,H1,I1,ry,q1⟩=>ee (ho pins s1 σ H1 _ I1 q1) fun u s2 ⟨x,H2,I2,rx,a,ov,ex,g,q2⟩=>?_
 subst ex
 obtain rfl:u=Value.ref a:=rx
 exact WK hu I2 g ry fun s3 I3=>⟨.bl ov.isSome,H2,I3,rfl,q2⟩
theorem Gz (hu:X.A.units + 1 < cLine)(hi:PE X i ty)(ho:PE X o td):PC X .NotIn i o (LB ty td):=by
 intro pins s σ H Q I h
 refine ee (hi pins s σ H _ I h) fun iv s1 ⟨y,H1,I1,ry,q1⟩=>ee (ho pins s1 σ H1 _ I1 q1) fun u s2 ⟨x,H2,I2,rx,a,ov,ex,g,q2⟩=>?_
 subst ex
 obtain rfl:u=Value.ref a:=rx
 exact Lz hu I2 g ry fun s3 I3=>⟨.bl (!ov.isSome),H2,I3,rfl,q2⟩
theorem E1 (hu:X.A.units + 1 < cLine)(ho:PE X o td)(hi:PE X i ty)(hv:PE X value tv)(hs:swapsWith value (some (.Subscript o i pos')) pos.line X.env=pure false):
  PS X (.Assign [.Subscript o i pos'] value pos) (R0 td ty tv):=by
 intro pins s σ H D I h
 refine wpAny_Assign_Subscript (ee (hv pins s σ H _ I h) fun r s1 ⟨v,H1,I1,rv,q1⟩=>ee (ho pins s1 σ H1 _ I1 q1) fun u s2 ⟨x,H2,I2,rx,q2⟩=>ee (hi pins s2 σ H2 _ I2 q2) fun iv s3 ⟨y,H3,I3,ry,a,H4,ex,g,q3⟩=>?_) hs
 subst ex
 obtain rfl:u=Value.ref a:=rx
 exact Gy hu I3 g ry rv fun s4 I4=>⟨σ,H4,I4,q3⟩
end
theorem Bq {P:Program}{w:World}{H:Hp}(h:Heap)(hb:sysModules < h.objs.size):dE P w H (h.push {cls:= .type "dict",data:= .dict #[]}) h.objs.size (.dK []):=
 ⟨bp _,g6.mpr (wB (a8 hb)),[],.nil,Heap.DictOf.new h⟩
def Ow:TE:=fun _ H Q=> ∀p,H p=none->Q (.ref p) (upd H p (.dK []))
section
variable {X:Cx}{pos:Pos}
theorem Br:PE X (.Dict [] [] pos) Ow:=fun pins s σ H Q I h=>
 wpAny_Dict_empty ⟨.ref s.heap.objs.size,_,I.laid (a:=s.heap.objs.size) (o:= .dK []) (t':=s.toks) (fun _ _ q=>ay _ q) (aI _) (Bq s.heap I.big),rfl,h _ (I.cz.fresh (aI _))⟩
end
def DJ:List (TE×TE)->St->Hp->(List (V×V)->Hp->Prop)->Prop
 |[],_,H,Q=>Q [] H
 |(tk,tv) :: r,σ,H,Q=>tk σ H fun x H1=>tv σ H1 fun y H2=>DJ r σ H2 fun ps H3=>Q ((x,y) :: ps) H3
abbrev VV:List (V×V)->List (Value×Value)->Prop:=Paired fun p q=>RelV p.1 q.1/\RelV p.2 q.2
def LC (X:Cx)(pos:Pos)(keys:List (Option Expr))(values:List Expr)(LD:List (TE×TE)):Prop:=
 ∀(pins:List (Addr×Obj)) (s:Shared) (σ:St) (H:Hp) (Q:List (V×V)->Hp->Prop),Inv X pins σ H s->DJ LD σ H Q->
  wpAny (model X.prog X.w) X.A (evalPairs (pairTrees keys values X.env pos)) (fun vs s'=> ∃ps H',Inv X pins σ H' s'/\VV ps vs/\Q ps H') X.xe s
theorem LF {X:Cx}{pos:Pos}:LC X pos [] [] []:=fun pins s σ H Q I h=>pairTrees_nil_walk ⟨[],H,I,.nil,h⟩
theorem uV {X:Cx}{pos:Pos}{k v:Expr}{ks:List (Option Expr)}{vs:List Expr}{tk tv:TE}{LD:List (TE×TE)}(hk:PE X k tk)(hv:PE X v tv)(hr:LC X pos ks vs LD):
  LC X pos (some k :: ks) (v :: vs) ((tk,tv) :: LD):=fun pins s σ H Q I h=>
 pairTrees_cons_walk (ee (hk pins s σ H _ I h) fun u s1 ⟨x,H1,I1,rx,q1⟩=>ee (hv pins s1 σ H1 _ I1 q1) fun w2 s2 ⟨y,H2,I2,ry,q2⟩=>
  ee (hr pins s2 σ H2 _ I2 q2) fun ws s3 ⟨ps,H3,I3,rel,q3⟩=>⟨(x,y) :: ps,H3,I3,.cons ⟨rx,ry⟩ rel,q3⟩)
def pI (bg more:List (Key×V)):List (Key×V):=more.foldl (fun acc kv=>putK acc kv.1 kv.2) bg
theorem KV.merge: ∀{more:List (Key×V)} {rs:List (Key×Value)} {bg:List (Key×V)} {vs:List (Key×Value)},KV more rs->KV bg vs->KV (pI bg more) (merged vs rs):=by
 intro more rs bg vs r
 unfold KV at r
 induction r generalizing bg vs with
 |nil=>intro q; exact q
 | @cons p q ps qs h t ih=>
  intro r0
  have e:KV (putK bg p.1 p.2) (stored vs q.1 q.2):=by
   have:=r0.put p.1 h.2
   rw[← h.1]; exact this
  exact ih e
theorem oV: ∀(more bg:List (Key×V)),(pI bg more).length<=bg.length + more.length
 |[],bg=>by show bg.length<=bg.length + 0; lia
 |p :: r,bg=>by
  have h1:=oV r (putK bg p.1 p.2)
  have h2:=kI bg p.1 p.2
  show(pI (putK bg p.1 p.2) r).length<=_
  rw[bH]; lia
theorem uW {P:Program}{w:World}: ∀{bg:List (Key×V)} {ws:List (Value×Value)},VV (bg.map fun kv=>(kV kv.1,kv.2)) ws-> ∃rs,Carries (d8 P w) ws rs/\KV bg rs
 |[],_,r=>by rw[wD] at r; cases r; exact⟨[],True.intro,.nil⟩
 |p :: bg,_,r=>by
  rw[bM] at r
  cases r with
  | @cons a b as bs h t=>
   obtain⟨rs,c,q⟩:=uW (P:=P) (w:=w) t
   obtain⟨b1,b2⟩:=b
   exact⟨(p.1,b2) :: rs,⟨uS h.1,rfl,c⟩,.cons ⟨rfl,h.2⟩ q⟩
def R3 (LD:List (TE×TE)):TE:=fun σ H Q=> ∀p,H p=none->DJ LD σ (upd H p (.dK [])) fun ps H2=>H2 p=some (.dK [])/\ ∃bg:List (Key×V),ps=bg.map (fun kv=>(kV kv.1,kv.2))/\bg.length<=15/\Q (.ref p) (upd H2 p (.dK (pI [] bg)))
theorem LG {X:Cx}{pos:Pos}{keys:List (Option Expr)}{values:List Expr}{LD:List (TE×TE)}(h:LC X pos keys values LD)(Ox:keys.all (·.isSome)=true)(hl:keys.length=values.length)(h0:keys≠[])
  (WM:keys.length<=15):PE X (.Dict keys values pos) (R3 LD):=by
 intro pins s σ H Q I q
 have hn:=I.cz.fresh (aI s.heap.objs.size)
 have I1:=I.laid (a:=s.heap.objs.size) (o:= .dK []) (h':=s.heap.push {cls:= .type "dict",data:= .dict #[]}) (t':=s.toks) (fun _ _ q=>ay _ q) (aI _) (Bq s.heap I.big)
 refine wpAny_Dict_walk (knd:=d8 X.prog X.w) Ox hl h0 WM (ee (h pins _ σ _ _ I1 (q _ hn)) fun ws s2 ⟨ps,H2,I2,rel,e,bg,ep,lk,q2⟩=>?_)
 subst ep
 obtain⟨rs,c,rk⟩:=uW (P:=X.prog) (w:=X.w) rel
 obtain⟨z,hd,R4,r0,dd⟩:=EY I2.cz e
 cases r0
 refine⟨rs,c,dd,fun h' EZ hs=>⟨.ref s.heap.objs.size,_,?_,rfl,q2⟩⟩
 have hz:(pI [] bg).length<=sizeLine:=by
  have h1:=oV bg []
  rw[wG] at h1
  rw[fe]; lia
 have he: ∃q,h'.get? s.heap.objs.size=some q:=let⟨q,_,_,hq,_⟩:=EZ; ⟨q,hq⟩
 exact uk I2 (by rw[e]; exact True.intro) hs he (ze hz hd (rk.merge .nil) EZ)
structure M1 (X:Cx)(o:Expr)(m:Str)(apos:Pos)(e:Expr)(gO:Pos):Prop where
 base:attributeBase o m X.env (eval o X.env)=eval o X.env
 few:((backTo gO (starEach [e] X.env)).all (fun x=> !x.1) && (backToKw gO (keywordEach [] X.env)).all (fun x=>x.1.isSome)
  && decide (([e]:List Expr).length + ([]:List Keyword).length + (if([]:List Keyword).isEmpty then 0 else 1) < 30))=true
 line:(apos.endLine == gO.line)=true
 trees:backTo gO (starEach [e] X.env)=[(false,eval e X.env)]
def Zw (H:Hp)(a:Addr):Prop:=(∃bg,Rd H a (.dK bg))∨ ∃bg,Rd H a (.dT bg)
theorem Oy {X:Cx}{pins:List (Addr×Obj)}{σ:St}{H:Hp}{s:Shared}{a:Addr}(I:Inv X pins σ H s)(d:Zw H a):
  s.TypeIs (.ref a) "dict"/\(∀b,Value.ref a= .ref b-> ∃ob,s.heap.get? b=some ob/\ob.dict=none)/\(a == sysModules)=false:=by
 rcases d with⟨bg,e⟩|⟨bg,e⟩
 ·obtain⟨_,hd,vs,_,dd⟩:=uT I.cz e
  refine⟨dd.typeIs,fun b q=>?_,hd⟩
  cases q
  obtain⟨ob,_,_,h1,h2,_⟩:=dd
  exact⟨ob,h1,h2.2.1⟩
 ·obtain⟨_,hd,xs,_,dd⟩:=yh I.cz e
  refine⟨dd.typeIs,fun b q=>?_,hd⟩
  cases q
  obtain⟨ob,_,_,h1,h2,_⟩:=dd
  exact⟨ob,h1,h2.2.1⟩
section
variable {X:Cx}{pins:List (Addr×Obj)}{σ:St}{H:Hp}{s:Shared}{a:Addr}{y d:V}{u r:Value}{o:Option V}{A:Around}{E:Value->Shared->Prop}
end
def Oz (td ty:TE):TE:=fun σ H Q=>td σ H fun x H1=> ∃a,x= .ref a/\Zw H1 a/\ty σ H1 fun y H2=> ∃bg k v,H2 a=some (.dK bg)/\y=kV k/\gv bg k=some v/\Q v (upd H2 a (.dK (lz bg k)))
section
variable {X:Cx}{o e f:Expr}{apos gO:Pos}{td ty tx:TE}
theorem Je (ho:PE X o td)(he:PE X e ty)(m:M1 X o "pop" apos e gO):PE X (.Call (.Attribute o "pop" apos) [e] [] gO) (Oz td ty):=by
 intro pins s σ H Q I h
 refine wpAny_Call_method m.base m.few m.line PySem.F.plainAttrs_dict PySem.F.slot_dict_pop PySem.F.type_dict_pop (ee (ho pins s σ H _ I h) fun u s1 ⟨x,H1,I1,rx,a,ex,d,q1⟩=>?_)
 subst ex
 obtain rfl:u=Value.ref a:=rx
 obtain⟨t1,t2,_⟩:=Oy I1 d
 refine⟨t1,t2,?_⟩
 rw[m.trees]
 refine iX rfl (FY (Calls.spliced_cons (ee (he pins s1 σ H1 _ I1 q1) fun iv s2 ⟨y,H2,I2,ry,bg,k,v,ea,ey,l,q2⟩=>Calls.spliced_nil ?_)))
 subst ey
 exact RX I2 ea ry l (.inl rfl) fun w' s3 I3 Gu=>⟨v,_,I3,Gu,q2⟩
end
section
variable {X:Cx}{pins:List (Addr×Obj)}{σ:St}{H:Hp}{s:Shared}{a:Addr}{bg:List (Key×V)}{A:Around}{E:Value->Shared->Prop}
theorem Jf {Q:Value->Shared->Prop}(I:Inv X pins σ H s)(e:Rd H a (.dK bg))(h: ∀p s',H p=none->Inv X pins σ (upd H p (.dK bg)) s'->Q (.ref p) s'):wpAny (model X.prog X.w) A (call (.type "dict") [.ref a]) Q E s:=by
 obtain⟨z,hd,vs,rel,dd⟩:=uT I.cz e
 refine kt_call_dict hd dd (by rw[← rel.length]; exact z) fun h' EZ hs=>?_
 refine h _ _ (I.cz.fresh (aI _)) (I.laid (a:=s.heap.objs.size) (o:= .dK bg) (t':=s.toks) (fun b q hq=>?_) (aI _) (ze z (g6.mpr (wB (a8 I.big))) rel EZ))
 exact(hs.2 b (a8 (aN hq))).trans (ay _ hq)
end
section
variable {X:Cx}{pins:List (Addr×Obj)}{σ:St}{H:Hp}{s:Shared}{a:Addr}{y:V}{u:Value}{A:Around}{E:Value->Shared->Prop}
end
end L2
namespace Zx
open PySem PySem.W PySem.Calls PyProof.Rows
theorem tV {P:Params}{h:Heap}: ∀(ns:List Int) (vs:List Value),WellAll P h vs (ns.map WData.int)->IntsAre vs ns:=by
 intro ns
 induction ns with
 |nil=>
  intro vs w
  rw[wD] at w
  cases w
  exact .nil
 |cons n ns ih=>
  intro vs w
  rw[bM] at w
  cases w with
  |cons a b=>
   cases a
   exact .cons _ _ (ih _ b)
theorem GA {l:OpenLaw}{n:Nat}(hn:l.most=some n){P:Params}{h:Heap}{args:List WData}{vals:List Value}
  (LH:l.row.toRowW.claim.pre args=true) (DK:WellAll P h vals args):
  ∃a vs ns,vals=[Value.ref a]/\args=[WData.list (ns.map WData.int)]/\h.get? a=some {cls:= .type "list",data:= .seq vs.toArray}/\IntsAre vs ns/\ns.length<=n:=by
 have hsh:WShape.hasAll [] args [.list .int]=true:=(pre_splitW LH).1
 have hc:l.pre.holds [] {args:=args}=true:=(pre_splitW LH).2
 obtain⟨d,r,rfl,h1,h2⟩:=hasAllW_cons hsh
 obtain rfl:=hasAllW_nil h2
 obtain⟨xs,rfl,h3⟩:=hasW_list h1
 obtain⟨ns,rfl⟩:=items_int h3
 have hlen:ns.length<=n:=by
  unfold OpenLaw.pre at hc
  have h4:(WTm.not (.lt (.lit (.int (n:Int))) (.len (.arg 0)))).holds [] {args:=[.list (ns.map .int)]}=true:=by
   have h4:=(holds_andW hc).1
   rw[hn] at h4
   exact h4
  have h5:=condW_of h4 (w_not (w_lt w_lit (w_len_list (w_arg rfl))))
  rw[ae] at h5
  refine Nat.le_of_not_lt fun q=>?_
  have q':(n:Int) < ((ns.length:Nat):Int):=by lia
  first
   |(rw[aG q'] at h5; exact absurd h5 (by decide))
   |(simp at h5; lia)
 cases DK with
 |cons w1 w2=>
  cases w2
  cases w1 with
  |list ho Ox=>exact⟨_,_,ns,rfl,rfl,ho,tV ns _ Ox,hlen⟩
theorem GB (l:OpenLaw)(args:List WData):l.row.toRowW.claim.post args (.bool true) args=true:=
 postW_of (r:=l.row.toRowW) (X:=(true == true))
  (show WShape.has [] (.bool true) .bool=true by first|rfl|decide|simp[WShape.has,WShape.arms,WShape.armsAll])
  (show(WTm.eq .res (.lit (.bool true))).value [] {args:=args,res:=some (.bool true),after:=args}=some (.bool (true == true)) from w_eq_bool (w_res rfl) w_lit) rfl
theorem Bs {l:OpenLaw}{n:Nat}{q:Program}{loose:List Str}{XP:(Str->Option Value)->Heap->Prop}{YP:World->Heap->Prop}{d:DefRec}
  (hn:l.most=some n) (WN:d.params.defaults=[])
  (call: ∀(w:World) (s₀ s₁:Shared) (mg mb:Str->Option Value) (fa:Addr) (o:Obj) (pm cd doc:Value) (a:Addr) (vs:List Value) (ns:List Int),
   Ground q loose [] XP w s₀ mg mb s₁.heap->YP w s₁.heap->
   s₁.heap.get? fa=some o->o.data= .func (docDef d.name d.params d.body d.scope pm cd doc)->s₁.heap.CodeRec cd d.name->mg d.name=some (.ref fa)->
   s₁.heap.get? a=some {cls:= .type "list",data:= .seq vs.toArray}->IntsAre vs ns->ns.length<=n->s₁.gens= #[]->
   codeAny (model l.prog w) callerA (.call (.ref fa) ⟨[.ref a],[]⟩) (fun r s'=>r= .ok (.ret (.bool true))/\OldK s₁.heap s'.heap/\s'.os=s₁.os/\AllBare s'.gens) s₁):
  WalkO q loose XP YP l.row.toRowW d [] (fun f vs=>PySem.call f vs):=by
 intro w s₀ s₁ mg mb G Y fa o pm cd doc dV kV ho hd rP hD R5 hg args vals as LH abq Zy DK hlo
 obtain rfl:dV= .none:=Dflts.none hD WN
 obtain rfl:kV= .none:=Dflts.noKw hD
 obtain⟨a,vs,ns,rfl,rfl,OA,hints,hlen⟩:=GA hn LH DK
 refine enter_call (Dn (call w s₀ s₁ mg mb fa o pm cd doc a vs ns G Y ho (fd_plain hd) rP R5 OA hints hlen hg) fun r s' hq=>?_)
 obtain⟨rfl,h2,h3,h4⟩:=hq
 exact⟨.inl ⟨.bool true,.bool true,[],rfl,fun _=>rfl,.bool true,GB l _,fun _=>⟨List.Pairwise.nil,fun _ hm=>(nomatch hm)⟩⟩,h2,h3,h4⟩
section
variable {prog:Program}{w:World}{A:Around}{E:Value->Shared->Prop}{s:Shared}{K:Frag}
end
end Zx
namespace L2
open PySem PySem.Spec PyProof.Rows
theorem yi: ∀{vs:List Value} {ns:List Int},IntsAre vs ns->Vals (ns.map V.int) vs
 |_,_,.nil=> .nil
 |_,_,.cons n t h=> .cons ⟨t,rfl⟩ (yi h)
def gP (s:Stmt):Arguments:=match s with
 | .FunctionDef _ a _ _ _ _ _ _ _ _=>a
 |_=>{posonlyargs:=[],args:=[],vararg:=none,kwonlyargs:=[],kw_defaults:=[],kwarg:=none,defaults:=[]}
def dF (s:Stmt):List Stmt:=match s with
 | .FunctionDef _ _ b _ _ _ _ _ _ _=>b
 |_=>[]
def ax (s:Stmt):Scope:=match s with
 | .FunctionDef _ _ _ _ _ _ sc _ _ _=>sc
 |_=>{kind:= .function,names:=[],isGenerator:=false,isCoroutine:=false}
abbrev sk:Gr:=fun _ _ _ _ _ _=>False
abbrev E0:XK:=fun _ _ _=>False
theorem mX {X:Cx}:Passes sk X E0:=fun _ _ _ _ _ _ _ h=>h.elim
structure gx (K:Frag)(x qual:Str)(st:Stmt)(f:Addr)(fd:FuncData):Prop where
 ex: ∃(oc:Value) (od:Option Addr) (kV doc pm:Value) (an:Option Addr) (cU ct:Value) (Gs:Array (Option Value)),
  fd=fnOf x qual (gP st) (dF st) (ax st) .none kV doc pm an cU ct/\K.lookup f=some ⟨oc,od,.func fd,Gs⟩/\codeIn K cU qual=true
 kp:keepIn K (.ref f)=true
section
variable {P:Program}{w:World}{K:Frag}{mg:Str->Option Value}{base:Heap}
theorem gx.ok {x qual:Str}{st:Stmt}{f:Addr}{fd:FuncData}{N ps:List Str}{k:Nat}{sp:Sp}(F:gx K x qual st f fd)(S:aW N ps (ax st))(len: ∀vs H Q E,sp vs H Q E->vs.length=ps.length)
  (fX: ∀(cU:Value) (A:Around) (outer:List Env) (s:Shared) (H:Hp) (vs:List V) (Q:VK) (E:XK),ff k (A.deeper (envOfC qual (ax st) s.heap.objs.size f cU))->sp vs H Q E->
   ∃t,oQ (ly sk P w K mg base N qual (ax st) f cU A outer s H E).EJ (dF st) t/\t {nx:=fun _ H'=>Q .eD H',rt:=Q} (start N vs) H):l4 P w K mg base sk (k + 1) f fd ps sp:=by
 obtain⟨oc,od,kV,doc,pm,an,cU,ct,Gs,rfl,lk,rP⟩:=F.ex
 refine IU lk rP S len fun A outer s H vs Q E hr yd=>?_
 obtain⟨t,h,q⟩:=fX cU A outer s H vs Q E hr yd
 exact⟨t,h.EJ,q⟩
theorem gx.binds {x qual:Str}{st:Stmt}{f:Addr}{fd:FuncData}{ps:List Str}(F:gx K x qual st f fd)
  (h: ∀(kV doc pm:Value) (an:Option Addr) (cU ct:Value) (us:List Value),us.length=ps.length->bindArgs (fnOf x qual (gP st) (dF st) (ax st) .none kV doc pm an cU ct) ⟨us,[]⟩=pure (ps.zip us)):Binds K fd ps []:=by
 obtain⟨oc,od,kV,doc,pm,an,cU,ct,Gs,rfl,lk,rP⟩:=F.ex
 exact .all (h kV doc pm an cU ct)
theorem pJ {x qual:Str}{st:Stmt}{f:Addr}{oc:Value}{od an:Option Addr}{Gs:Array (Option Value)}{kV doc pm cU ct:Value}(l:K.lookup f=some ⟨oc,od,.func (fnOf x qual (gP st) (dF st) (ax st) .none kV doc pm an cU ct),Gs⟩)
  (c:codeIn K cU qual=true) (k:keepIn K (.ref f)=true):gx K x qual st f (fnOf x qual (gP st) (dF st) (ax st) .none kV doc pm an cU ct):=⟨⟨oc,od,kV,doc,pm,an,cU,ct,Gs,rfl,l,c⟩,k⟩
end
theorem jV {A:Around}{k:Nat}(hr:ff k A):A.units + 1 < cLine:=qm (Nat.add_le_add_left (by decide:1<=64) _) hr.units
theorem bf {n:Nat}(h:n<=1000):n < sizeLine:=qm h (by decide)
section
variable {X:Cx}
theorem pv (i:Nat){x:Str}{pos:Pos}(hN:X.N[i]? =some x:=by rfl)(hv:Rn X.env.scope x:=by first|exact Or.inl rfl|exact Or.inr (Or.inl rfl)|exact Or.inr (Or.inr rfl))(hd:(x == ("__debug__":Str))=false:=by decide)
  (rP:(x == ("__classdict__":Str))=false:=by decide):PE X (.Name x pos) (Rt i):=Dr hN hv hd rP
end
theorem bV {A B:Prop}(h:B):if false=true then A else B:=by
 rw[aO aR]
 exact h
theorem fJ {A B:Prop}(h:A):if true=true then A else B:=by
 rw[aZ rfl]
 exact h
theorem cv {c A B:Prop}[Decidable c](h1:c->A)(h2: ¬ c->B):if c then A else B:=by
 by_cases h:c
 ·rw[aZ h]
  exact h1 h
 ·rw[aO h]
  exact h2 h
theorem Bt {c A B:Prop}[Decidable c](hc:c)(h:B):if(!decide c)=true then A else B:=by
 rw[aG hc]
 exact bV h
def aE (H H':Hp):Prop:= ∀b o,H b=some o->H' b=some o
theorem aE.refl (H:Hp):aE H H:=fun _ _ h=>h
theorem aE.trans {H H1 H2:Hp}(a:aE H H1)(b:aE H1 H2):aE H H2:=fun c o h=>b c o (a c o h)
theorem aE.free {H H':Hp}(e:aE H H'){l:Addr}(h:H' l=Option.none):H l=Option.none:=by
 cases q:H l with
 |none=>rfl
 |some o=>
  rw[e l o q] at h
  cases h
theorem aE.seq {K:Frag}{H H':Hp}{a:Addr}{xs:List V}(e:aE H H')(h:bw K H a xs):bw K H' a xs:=by
 rcases h with(h|⟨o,h⟩)|h
 ·exact .inl (.inl (e _ _ h))
 ·exact .inl (.inr ⟨o,e _ _ h⟩)
 ·exact .inr h
section
variable {X:Cx}
end
section
variable {κ:Type}[DecidableEq κ]
end
theorem GC {prog:Program}{w:World}{A:Around}{R:Result->Shared->Prop}{s:Shared}{elt target iter:Expr}{ifs:List Expr}{scope:Scope}{pos:Pos}{it acc:Value}{env:Env}(I:Nat->Shared->Prop)
  (turn: ∀n s,I n s->wpAny (model prog w) A (pyNext it) (fun r s₁=>match r with
   |none=>R (.ok .next) s₁
   |some v=>wpAny (model prog w) A (letOwnedTupleGo target it v) (fun _ Zz=>wpAny (model prog w) A (assign target env v) (fun _ s₂=>
     wpAny (model prog w) A (forIn ifs true fun c r=>if r=true then do let ok ← isTrue c env (eval c env); pure (ForInStep.yield ok) else pure (ForInStep.yield r)) (fun ok s₃=>
      if ok=true then wpAny (model prog w) A (eval elt env) (fun x s₄=>
       wpAny (model prog w) A (call (.builtin "list.append") [acc,x]) (fun _ s₅=> ∃m,m < n/\I m s₅) (fun _ _=>False) s₄) (fun _ _=>False) s₃
      else ∃m,m < n/\I m s₃) (fun _ _=>False) s₂) (fun _ _=>False) Zz) (fun _ _=>False) s₁) (fun _ _=>False) s)
  (n:Nat) (h:I n s):
  codeAny (model prog w) A (.compLoop (.ListComp elt [⟨target,iter,ifs,0⟩] scope pos) 0 it acc env) R s:=by
 refine codeAny_loop rfl I (fun n s hI=>?_) n h
 show wpAny _ A ((compTurn (.ListComp elt [⟨target,iter,ifs,0⟩] scope pos) 0 it acc env).onRaise (fun x=>do noteFrame x env; theTreesLotGoes x)) _ _ s
 refine wpAny_noted ?_
 rw[compTurn_list]
 refine az (iC (az (cm (turn n s hI) (fun r s₁ h₁=>?_) fun _ _ h'=>h'.elim)))
 cases r with
 |none=>exact bF h₁
 |some v=>
  refine az (cm h₁ (fun _ Zz h₁'=>?_) fun _ _ h'=>h'.elim)
  refine az (cm h₁' (fun _ s₂ h₂=>az (cm h₂ (fun ok s₃ h₃=>?_) fun _ _ h'=>h'.elim)) fun _ _ h'=>h'.elim)
  cases ok with
  |false=>exact bF ⟨rfl,h₃⟩
  |true=>
   exact az (az (cm h₃ (fun x s₄ h₄=>az (cm h₄ (fun _ s₅ h₅=>bF (bF ⟨rfl,h₅⟩)) fun _ _ h'=>h'.elim)) fun _ _ h'=>h'.elim))
def Bu (X:Cx)(N:List Str)(scope:Scope)(cl:List (Str×Addr))(C:Addr)(s3:Shared)(H3:Hp)(fp:List Addr):Cx:=
 {X with N:=N,s₀:=s3,H₀:=H3,env:=compEnvC scope cl C X.env,outer:=X.stack,stack:=X.stack,ex:=fp,fn:=fun _=>false,pn:=[],xe:=fun _ _=>False}
def KZ (X:Cx)(ifs:List Expr)(t:TT):Prop:=
 ∀(pins:List (Addr×Obj)) (s:Shared) (σ:St) (H:Hp) (Q:Bool->Hp->Prop),Inv X pins σ H s->t σ H Q->
  wpAny (model X.prog X.w) X.A (forIn ifs true fun c r=>if r=true then do let ok ← isTrue c X.env (eval c X.env); pure (ForInStep.yield ok) else pure (ForInStep.yield r)) (TP X pins σ Q) X.xe s
def WO:TT:=fun _ H Q=>Q true H
theorem k4 {X:Cx}:KZ X [] WO:=fun pins s σ H Q I h=>wpAny_tests_nil ⟨H,I,h⟩
theorem pK {X:Cx}{c:Expr}{t:TT}(h:PT X c t):KZ X [c] t:=fun pins s σ H Q I hw=>wpAny_tests_one (h pins s σ H Q I hw)
def yj (J:It)(g:TG)(tc:TT)(te:TE)(σ0:St)(H2:Hp)(Q:VK):Prop:=
 ∀D,H2 D=none-> ∃W:Nat->Nat->St->Hp->Prop,(∃m,W 0 m σ0 (upd H2 D (.lst [])))/\ ∀i m σ' H',W i m σ' H'->
  (J.stop i H'/\Q (.ref D) H')∨(J.go i H'/\ ∃N:St->Hp->Prop,(∀LI zf,N LI zf-> ∃m',m' < m/\W (i + 1) m' LI zf)/\
   ∀x zf,J.QG i H' x zf->g x σ' zf fun σ2 H2=>tc σ2 H2 fun ok H3=>if ok=true then te σ2 H3 fun y H4=> ∃ys,H4 D=some (.lst ys)/\ys.length < sizeLine/\N σ2 (upd H4 D (.lst (ys ++ [y]))) else N σ2 H3)
structure sm (X:Cx)(scope:Scope)(cl:List (Str×Addr))(cn:List Str)(cj:List Nat):Prop where
 GD:closureFor scope X.env=pure cl
 cell: ∀y∈scope.names,y.2≠ .cell
 kind:scope.kind= .function
 names: ∀x∈scope.names,x.2= .local->scope.names.lookup x.1=some .local
 sub: ∀x c,cl.lookup x=some c->X.env.cells.lookup x=some c
 all: ∀x,((relabel scope X.env).names.lookup x=some .cell∨(relabel scope X.env).names.lookup x=some .free)-> ∃c,cl.lookup x=some c
 ZA:Paired (fun x j=>X.N[j]? =some x/\(X.env.kindOf x=some .cell∨X.env.kindOf x=some .free)/\((relabel scope X.env).names.lookup x=some .cell∨(relabel scope X.env).names.lookup x=some .free)) cn cj
theorem bB {α β:Type}{F:α->β->Prop}: ∀{l₁:List α} {l₂:List β} {i:Nat} {a:α},Paired F l₁ l₂->l₁[i]? =some a-> ∃b,l₂[i]? =some b/\F a b
 |_,_,_,_,.nil,e=>by simp at e
 |_,_,0,_,.cons r _,e=>by simp at e; subst e; exact⟨_,rfl,r⟩
 |_,_,i + 1,a,.cons _ t,e=>by
  obtain⟨b,h1,h2⟩:=bB (i:=i) (a:=a) t (by simpa using e)
  exact⟨b,by simpa using h1,h2⟩
def uX (tn:List Str)(cj:List Nat)(σ:St):St:=tn.map (fun _=>none) ++ cj.map fun j=>(σ[j]?).join
theorem uY {X:Cx}{pins:List (Addr×Obj)}{σ:St}{H2:Hp}{s2:Shared}{elt tg iter:Expr}{ifs:List Expr}{scope:Scope}{pos:Pos}{cl:List (Str×Addr)}{tn cn:List Str}{cj:List Nat}{g:TG}{tc:TT}{te:TE}
  {it:Addr} {fp:List Addr} {OB:Nat->Heap->Prop} {J:It} {RR:Value->Addr->Result->Shared->Prop} {E:Value->Shared->Prop} {Q:VK}
  (yk:X.calm=true) (S:sm X scope cl cn cj)
  (hg: ∀C s3 H3 fp,PG (Bu X (tn ++ cn) scope cl C s3 H3 fp) tg g) (hc: ∀C s3 H3 fp,KZ (Bu X (tn ++ cn) scope cl C s3 H3 fp) ifs tc) (he: ∀C s3 H3 fp,PE (Bu X (tn ++ cn) scope cl C s3 H3 fp) elt te)
  (I2:Inv X pins σ H2 s2) (T:Turn X.prog X.w X.K tg J fp it OB) (M7:OB 0 s2.heap) (f2: ∀b∈fp,uK X pins H2 b)
  (hw:yj J g tc te (uX tn cj σ) H2 Q)
  (hRR: ∀D C (s':Shared) H' m',Inv X pins σ H' s'->uK X pins H' C->s'.heap.Ns C m'->Q (.ref D) H'->RR (.ref D) C (.ok .next) s'):
  wpAny (model X.prog X.w) X.A (newList []) (fun acc s₃=>wpAny (model X.prog X.w) X.A (newFunctionEnv scope X.env.globals cl [] X.env.qual none .none (some X.env)) (fun R6 s₄=>
   codeAny (model X.prog X.w) X.A (.compStart (.ListComp elt [⟨tg,iter,ifs,0⟩] scope pos) 0 (.ref it) acc {R6 with scope:=relabel scope X.env}) (RR acc R6.locals) s₄) E s₃) E s2:=by
 have hD0:H2 s2.heap.objs.size=none:=I2.cz.fresh (aI _)
 obtain⟨W,⟨m0,w0⟩,turn⟩:=hw _ hD0
 refine wpAny_newObj_type (wpAny_newFunctionEnv S.cell (by intro y hy; simp at hy) (fun h₁ OC OD=>?_) S.kind)
 dsimp only at OC OD ⊢
 have I3:Inv X pins σ (upd H2 s2.heap.objs.size (.lst [])) {s2 with heap:=s2.heap.push {cls:= .type "list",dict:=none,data:= .seq ([]:List Value).toArray}}:=I2.Oq (t':=s2.toks) (ys:=[]) (b0:=[]) .nil (bp _)
 generalize U9:s2.heap.push {cls:= .type "list",dict:=none,data:= .seq ([]:List Value).toArray}=HH at OC OD I3 ⊢
 have hC:HH.objs.size=s2.heap.objs.size + 1:=by rw[← U9,oa]
 have old: ∀b o,HH.get? b=some o->h₁.get? b=some o:=fun b o e=>OD.extBut b o (a8 (aN e)) (ay _ e)
 have WQ: ∀b o,s2.heap.get? b=some o->HH.get? b=some o:=fun b o e=>U9▸ay _ e
 have R7: ∀b∈fp,b < s2.heap.objs.size:=fun b hb=>by
  obtain⟨o,e,_⟩:=T.obj 0 _ M7 b hb
  exact aN e
 have Va:(Bu X (tn ++ cn) scope cl HH.objs.size {s2 with heap:=HH} (upd H2 s2.heap.objs.size (.lst [])) fp).Ok:=by
  refine⟨I3.ok.mod,S.kind,I3.ok.glob,I3.ok.blt,aI _,fun x y c h1 h2=>I3.ok.inj x y c (S.sub x c h1) (S.sub y c h2),fun x hx=>S.all x hx,fun x c z=>absurd z aR,I3.ok.hd,I3.ok.frames,.inl rfl,fun b hb=>⟨?_,fun x c e z=>?_⟩,I3.bs,?_,fun b o e hb=>?_,fun b hb z=>?_,I3.stack,I3.qx⟩
  ·show b≠HH.objs.size
   rw[hC]
   exact a8 (iZ (R7 b hb))
  ·exact(f2 b hb).2.2.2.2.1 x c (S.sub x c e) z
  ·exact a6 I3.ok.Ba I3.sz
  ·rcases(f2 b hb).2.2.2.1 with z|z
   ·exact I3.ok.wJ b o e z
   ·have h1:b < X.base.objs.size:=aN e
    exact absurd (bo h1 (a6 I3.ok.Ba z)) (iW _)
  ·rcases aw.mp (I3.uH b z) with z|z
   ·exact(f2 b hb).2.1 z
   ·exact(f2 b hb).2.2.1 z
 have IY:Inv (Bu X (tn ++ cn) scope cl HH.objs.size {s2 with heap:=HH} (upd H2 s2.heap.objs.size (.lst [])) fp) [] (uX tn cj σ) (upd H2 s2.heap.objs.size (.lst [])) {s2 with heap:=h₁,toks:=s2.toks + ([]:List (Str×Value)).length}:=by
  refine⟨Va,rfl,I3.bare,Un.kept old,⟨_,OC,fun i x v e1 e2 e3=>?_⟩,fun x c e=>?_,?_,fun x c e=>I3.iS x c (S.sub x c e),fun p hp=>absurd hp (by intro z; exact nomatch z),I3.cz.kept old,?_⟩
  ·have ZC:(tn ++ cn)[i]? =some x:=e1
   by_cases hi:i < tn.length
   ·unfold uX at e2
    rw[List.getElem?_append_left (by simpa using hi),List.getElem?_map] at e2
    cases h:tn[i]? with
    |none=>rw[h] at e2; cases e2
    |some _=>rw[h] at e2; cases e2
   ·rw[fW (by lia)] at ZC
    obtain⟨j,hj,hN,hk,Nb⟩:=bB S.ZA ZC
    unfold uX at e2
    rw[List.getElem?_append_right (by simpa using hi),List.getElem?_map] at e2
    simp only[List.length_map,hj,Option.map_some] at e2
    have R8:σ[j]? =some (some v):=by
     cases h:σ[j]? with
     |none=>rw[h] at e2; cases e2
     |some q=>
      rw[h] at e2
      have R8:q=some v:=aD e2
      rw[R8]
    obtain⟨m,hn,hl⟩:=I3.loc
    have hv:Rn X.env.scope x:=by
     rcases hk with hk|hk
     ·exact .inr (.inl hk)
     ·exact .inr (.inr hk)
    obtain⟨u,r,l⟩:=hl j x v hN R8 hv
    refine⟨u,r,?_⟩
    rcases l with⟨k,_⟩|⟨_,c,hc,my⟩
    ·rcases hk with hk|hk <;> (rw[k] at hk; cases hk)
    ·obtain⟨c',N4⟩:=S.all x Nb
     have:=S.sub x c' N4
     rw[hc] at this
     cases this
     obtain⟨o,ho,hd⟩:=my
     exact .inr ⟨Nb,c,N4,⟨o,old _ _ ho,hd⟩⟩
  ·obtain⟨v,o,ho,hd⟩:=I3.cell x c (S.sub x c e)
   exact⟨v,o,old _ _ ho,hd⟩
  ·exact I3.cz.fresh (aI _)
  ·show(uX tn cj σ).length=(tn ++ cn).length
   unfold uX
   rw[aH,aH,ae,ae,S.ZA.length]
 have ZD:OB 0 h₁:=T.keep 0 _ _ M7 fun b _ o e=>old b o (WQ b o e)
 have se: ∀{H':Hp},(∀b∈fp,H' b=none)-> ∀b∈fp,uK (Bu X (tn ++ cn) scope cl HH.objs.size {s2 with heap:=HH} (upd H2 s2.heap.objs.size (.lst [])) fp) [] H' b:=fun hn b hb=>
  ⟨hn b hb,(Va.Ll b hb).1,Va.wK b hb,.inl hb,(Va.Ll b hb).2,fun p hp=>absurd hp (by intro z; exact nomatch z)⟩
 have fp1: ∀b∈fp,upd H2 s2.heap.objs.size (.lst []) b=none:=fun b hb=>by
  rw[aA (a8 (R7 b hb))]
  exact(f2 b hb).1
 have loop:codeAny (model X.prog X.w) X.A (.compLoop (.ListComp elt [⟨tg,iter,ifs,0⟩] scope pos) 0 (.ref it) (.ref s2.heap.objs.size) (compEnvC scope cl HH.objs.size X.env))
    (RR (.ref s2.heap.objs.size) HH.objs.size) {s2 with heap:=h₁,toks:=s2.toks + ([]:List (Str×Value)).length}:=by
  refine GC (fun n s'=> ∃i σ' H',Inv (Bu X (tn ++ cn) scope cl HH.objs.size {s2 with heap:=HH} (upd H2 s2.heap.objs.size (.lst [])) fp) [] σ' H' s'/\OB i s'.heap/\(∀b∈fp,H' b=none)/\W i n σ' H') ?_ m0 ⟨0,_,_,IY,ZD,fp1,w0⟩
  rintro n s3 ⟨i,σ3,H3,J3,RG,Lq,w3⟩
  rcases turn i n σ3 H3 w3 with⟨stop,qn⟩|⟨go,N,hN,step⟩
  ·refine ee (T.done (Bu X (tn ++ cn) scope cl HH.objs.size {s2 with heap:=HH} (upd H2 s2.heap.objs.size (.lst [])) fp) rfl rfl rfl yk i [] s3 σ3 H3 _ J3 (se Lq) RG stop) fun r s4 ⟨hr,J4⟩=>?_
   subst hr
   obtain⟨m',V8,_⟩:=J4.loc
   exact hRR _ _ s4 H3 m' (I3.EH (ch:=fp) J4.os J4.base J4.cz J4.bare fun b hb=>⟨(f2 b hb).2.2.2.1,(f2 b hb).2.1,(f2 b hb).2.2.2.2.1,(f2 b hb).2.2.2.2.2⟩) (I3.Gj (aI _) J4.free) V8 qn
  ·refine ee (T.item (Bu X (tn ++ cn) scope cl HH.objs.size {s2 with heap:=HH} (upd H2 s2.heap.objs.size (.lst [])) fp) rfl rfl rfl yk i [] s3 σ3 H3 _ J3 (se Lq) RG go) fun r s4 ⟨u,hr,h4⟩=>?_
   subst hr
   refine ee h4 fun _ s5 ⟨x,H5,J5,r5,y5,Ob,QI⟩=>?_
   have J5':=J5.pinned (se QI) (T.obj _ _ Ob)
   refine ee (hg _ _ _ _ _ s5 σ3 H5 x u _ J5' r5 (step x H5 y5)) fun _ s6 ⟨σ6,H6,J6,q6⟩=>?_
   have again: ∀{s7:Shared} {σ7:St} {H7:Hp},Inv (Bu X (tn ++ cn) scope cl HH.objs.size {s2 with heap:=HH} (upd H2 s2.heap.objs.size (.lst [])) fp) ([] ++ pH fp s5.heap) σ7 H7 s7->N σ7 H7->
     ∃m,m < n/\ ∃i σ' H',Inv (Bu X (tn ++ cn) scope cl HH.objs.size {s2 with heap:=HH} (upd H2 s2.heap.objs.size (.lst [])) fp) [] σ' H' s7/\OB i s7.heap/\(∀b∈fp,H' b=none)/\W i m σ' H':=fun{s7 σ7 H7} I7 n7=>by
    obtain⟨m',hm,w7⟩:=hN σ7 H7 n7
    refine⟨m',hm,i + 1,σ7,H7,I7.jm,T.keep _ _ _ Ob fun b hb o e=>(I7.pin (b,o) (bz _ (bz _ (jT hb e)))).1,fun b hb=>?_,w7⟩
    obtain⟨o,e,d⟩:=T.obj _ _ Ob b hb
    exact(I7.pin (b,o) (bz _ (bz _ (jT hb e)))).2.1
   refine ee (hc _ _ _ _ _ s6 σ6 H6 _ J6 q6) fun ok s7 ⟨H7,J7,q7⟩=>?_
   cases ok with
   |false=>exact again J7 q7
   |true=>
    refine ee (he _ _ _ _ _ s7 σ6 H7 _ J7 q7) fun y s8 ⟨yv,H8,J8,r8,ys,hD,hz,q8⟩=>?_
    refine ee (ye _ s8 σ6 H8 (.ref s2.heap.objs.size) [yv] (.ref s2.heap.objs.size) [y] (fun _ H'=>N σ6 H') J8 rfl (.cons r8 .nil) ⟨_,ys,yv,rfl,rfl,hD,hz,q8⟩) fun _ s9 ⟨_,H9,J9,_,q9⟩=>?_
    exact again J9 q9
 exact codeAny_compStart_list loop (T.self _ 0 _ _ _ ZD loop)
def Nc (wi:TI)(tn:List Str)(cj:List Nat)(g:TG)(tc:TT)(te:TE):TE:=fun σ H Q=>wi σ H fun J H2=>yj J g tc te (uX tn cj σ) H2 Q
theorem gy {X:Cx}{elt tg iter:Expr}{ifs:List Expr}{scope:Scope}{pos:Pos}{cl:List (Str×Addr)}{tn cn:List Str}{cj:List Nat}{wi:TI}{g:TG}{tc:TT}{te:TE}
  (yk:X.calm=true) (S:sm X scope cl cn cj) (hi:PI X tg iter wi)
  (hg: ∀C s3 H3 fp,PG (Bu X (tn ++ cn) scope cl C s3 H3 fp) tg g) (hc: ∀C s3 H3 fp,KZ (Bu X (tn ++ cn) scope cl C s3 H3 fp) ifs tc) (he: ∀C s3 H3 fp,PE (Bu X (tn ++ cn) scope cl C s3 H3 fp) elt te)
  (hs: ∀x,foldedSetIterable iter X.env x=pure x:=by intro _; rfl):
  PE X (.ListComp elt [⟨tg,iter,ifs,0⟩] scope pos) (Nc wi tn cj g tc te):=by
 intro pins s σ H Q I h
 rw[eval_ListComp]
 refine wpAny_comprehension_free (use:=none) rfl hs S.GD S.kind S.names (ee (hi pins s σ H _ I h) fun v s1 h1=>ee h1 fun U6 s2 h2=>?_)
 obtain⟨it,fp,OB,J,H2,e,I2,T,M7,f2,hw⟩:=h2
 subst e
 refine uY (RR:=fun acc C=>compPost (model X.prog X.w) X.A X.xe none (EP X pins σ Q) acc C) yk S hg hc he I2 T M7 f2 hw ?_
 intro D C s' H' m' I' GF hn q
 exact⟨m',hn,fun h' LJ=>⟨.ref D,H',I'.turned (t':=s'.toks) (fun b o hb e=>(LJ.2 b hb).trans e) GF.1 GF.2.1 GF.2.2.2.1 GF.2.2.2.2.1 GF.2.2.2.2.2,rfl,q⟩⟩
theorem lB {X:Cx}{i:Nat}{y:Str}{py R9:Pos}{elt tg iter:Expr}{ifs:List Expr}{scope:Scope}{pos:Pos}{cl:List (Str×Addr)}{tn cn:List Str}{cj:List Nat}{wi:TI}{g:TG}{tc:TT}{te:TE}
  (hN:X.N.Nodup) (hy:X.N[i]? =some y) (hx:Loc X.env.scope y)
  (yk:X.calm=true) (S:sm X scope cl cn cj) (hi:PI X tg iter wi)
  (hg: ∀C s3 H3 fp,PG (Bu X (tn ++ cn) scope cl C s3 H3 fp) tg g) (hc: ∀C s3 H3 fp,KZ (Bu X (tn ++ cn) scope cl C s3 H3 fp) ifs tc) (he: ∀C s3 H3 fp,PE (Bu X (tn ++ cn) scope cl C s3 H3 fp) elt te)
  (WR:swapsWith (.ListComp elt [⟨tg,iter,ifs,0⟩] scope pos) (some (.Name y py)) R9.line X.env=pure true:=by rfl)
  (hs: ∀x,foldedSetIterable iter X.env x=pure x:=by intro _; rfl)
  (hf:X.fn y=true∨X.env.scope.names.lookup y=some .local:=by first|exact .inl rfl|exact .inr rfl|assumption):
  PS X (.Assign [.Name y py] (.ListComp elt [⟨tg,iter,ifs,0⟩] scope pos) R9) (Lp (Nc wi tn cj g tc te) (Bh i)):=by
 intro pins s σ H D I h
 rw[exec_Assign_Name_used _ _ _ _ WR]
 refine az (iC (az ?_))
 show wpAny _ X.A (do let _ ← comprehension (.ListComp elt [⟨tg,iter,ifs,0⟩] scope pos) scope X.env _ (newList []) false (eval iter X.env) (some (assign (.Name y py) X.env))) _ _ s
 refine az (cm (wpAny_comprehension_free (use:=some (assign (.Name y py) X.env)) (Q:=fun _ s'=>SP X pins D .next s') rfl hs S.GD S.kind S.names
  (ee (hi pins s σ H _ I h) fun v s1 h1=>ee h1 fun U6 s2 h2=>?_)) (fun _ s' hq=>bF (bF hq)) fun _ _ e=>e)
 obtain⟨it,fp,OB,J,H2,e,I2,T,M7,f2,hw⟩:=h2
 subst e
 refine uY (RR:=fun acc C=>compPost (model X.prog X.w) X.A X.xe (some (assign (.Name y py) X.env)) (fun _ s'=>SP X pins D .next s') acc C) yk S hg hc he I2 T M7 f2 hw ?_
 intro D' C s' H' m' I' GF hn q
 show wpAny _ X.A (assign (.Name y py) X.env (.ref D')) _ _ _
 refine wpAny_assign_Name (xV I' hN hy hx (v:= .ref D') rfl (fun ET I'' ⟨a,sb,ha⟩=>?_) hf)
 have hCa:C≠a:=by
  rcases ha with rfl|ha
  ·exact GF.2.1
  ·exact fun z=>GF.2.2.2.2.1 y a ha z.symm
 refine⟨m',hn.sameBut sb hCa,fun h3 QL=>⟨_,H',I''.turned (t':=ET.toks) (fun b o hb e=>(QL.2 b hb).trans e) GF.1 GF.2.1 GF.2.2.2.1 GF.2.2.2.2.1 GF.2.2.2.2.2,q⟩⟩
theorem dX {K:Frag}{a:Addr}{xs:List V}{g:TG}{tc:TT}{te:TE}{σ0:St}{H2:Hp}{Q:VK}(Pv:Addr->Nat->St->Hp->Prop)(h0: ∀D,H2 D=none->Pv D 0 σ0 (upd H2 D (.lst [])))
  (hl: ∀D i σ H,i<=xs.length->Pv D i σ H->bw K H a xs)
  (hs: ∀D i x σ H,xs[i]? =some x->Pv D i σ H->g x σ H fun σ2 H2=>tc σ2 H2 fun ok H3=>if ok=true then te σ2 H3 fun y H4=> ∃ys,H4 D=some (.lst ys)/\ys.length < sizeLine/\Pv D (i + 1) σ2 (upd H4 D (.lst (ys ++ [y]))) else Pv D (i + 1) σ2 H3)
  (hd: ∀D σ H,H2 D=none->Pv D xs.length σ H->Q (.ref D) H):yj (QH K a) g tc te σ0 H2 Q:=by
 intro D hD
 refine⟨fun i m σ H=>m=xs.length - i/\i<=xs.length/\Pv D i σ H,⟨xs.length,by simp,Nat.zero_le _,h0 D hD⟩,?_⟩
 rintro i m σ H ⟨rfl,hi,p⟩
 have q:=hl D i σ H hi p
 by_cases i7:i < xs.length
 ·refine .inr ⟨⟨xs,xs[i],q,by simp[i7]⟩,Pv D (i + 1),fun σ' H' p'=>⟨xs.length - (i + 1),by lia,rfl,i7,p'⟩,fun x H' y=>?_⟩
  obtain⟨e,y⟩:=y
  subst e
  exact hs D i x σ _ (y xs q) p
 ·have e:i=xs.length:=by lia
  subst e
  exact .inl ⟨⟨xs,q,aI _⟩,hd D σ H hD p⟩
theorem Jg {K:Frag}{a:Addr}{xs:List V}{g:TG}{tc:TT}{te:TE}{σ0:St}{H2:Hp}{Q:VK}(Pv:Addr->Nat->St->Hp->Prop)(h0: ∀D,H2 D=none->Pv D 0 σ0 (upd H2 D (.lst [])))
  (hl: ∀D i σ H,i<=xs.length->Pv D i σ H->cB K H a xs)
  (hs: ∀D i x σ H,xs[i]? =some x->Pv D i σ H->g x σ H fun σ2 H2=>tc σ2 H2 fun ok H3=>if ok=true then te σ2 H3 fun y H4=> ∃ys,H4 D=some (.lst ys)/\ys.length < sizeLine/\Pv D (i + 1) σ2 (upd H4 D (.lst (ys ++ [y]))) else Pv D (i + 1) σ2 H3)
  (hd: ∀D σ H,H2 D=none->Pv D xs.length σ H->Q (.ref D) H):yj (Wk K a) g tc te σ0 H2 Q:=by
 intro D hD
 refine⟨fun i m σ H=>m=xs.length - i/\i<=xs.length/\Pv D i σ H,⟨xs.length,by simp,Nat.zero_le _,h0 D hD⟩,?_⟩
 rintro i m σ H ⟨rfl,hi,p⟩
 have q:=hl D i σ H hi p
 by_cases i7:i < xs.length
 ·refine .inr ⟨⟨xs,xs[i],q,by simp[i7]⟩,Pv D (i + 1),fun σ' H' p'=>⟨xs.length - (i + 1),by lia,rfl,i7,p'⟩,fun x H' y=>?_⟩
  obtain⟨e,y⟩:=y
  subst e
  exact hs D i x σ _ (y xs q) p
 ·have e:i=xs.length:=by lia
  subst e
  exact .inl ⟨⟨xs,q,aI _⟩,hd D σ H hD p⟩
theorem DM {lo:Int}{n:Nat}{g:TG}{tc:TT}{te:TE}{σ0:St}{H2:Hp}{Q:VK}(Pv:Addr->Nat->St->Hp->Prop)(h0: ∀D,H2 D=none->Pv D 0 σ0 (upd H2 D (.lst [])))
  (hs: ∀D i σ H,i < n->Pv D i σ H->g (.int (lo + i)) σ H fun σ2 H2=>tc σ2 H2 fun ok H3=>if ok=true then te σ2 H3 fun y H4=> ∃ys,H4 D=some (.lst ys)/\ys.length < sizeLine/\Pv D (i + 1) σ2 (upd H4 D (.lst (ys ++ [y]))) else Pv D (i + 1) σ2 H3)
  (hd: ∀D σ H,H2 D=none->Pv D n σ H->Q (.ref D) H):yj (M6 lo n) g tc te σ0 H2 Q:=by
 intro D hD
 refine⟨fun i m σ H=>m=n - i/\i<=n/\Pv D i σ H,⟨n,by simp,Nat.zero_le _,h0 D hD⟩,?_⟩
 rintro i m σ H ⟨rfl,hi,p⟩
 by_cases i7:i < n
 ·refine .inr ⟨i7,Pv D (i + 1),fun σ' H' p'=>⟨n - (i + 1),by lia,rfl,i7,p'⟩,fun x H' y=>?_⟩
  obtain⟨e,y⟩:=y
  subst e y
  exact hs D i σ _ i7 p
 ·have e:i=n:=by lia
  subst e
  exact .inl ⟨aI _,hd D σ H hD p⟩
theorem Inv.DN {X:Cx}{pins:List (Addr×Obj)}{σ:St}{H:Hp}{s:Shared}{h':Heap}{a:Addr}{o:HO}{t':Nat}{ch:List Addr}(I:Inv X pins σ H s)(k: ∀b ob,b∉ch->s.heap.get? b=some ob->h'.get? b=some ob)
  (Bb: ∀b∈ch,uK X pins H b) (hp:s.heap.objs.size<=a) (new:dE X.prog X.w (upd H a o) h' a o):Inv X pins σ (upd H a o) {s with heap:=h',toks:=t'}:=by
 have hn:H a=none:=I.cz.fresh hp
 have Rq: ∀b u,H b=some u->b∉ch:=fun b u e z=>by rw[(Bb b z).1] at e; cases e
 refine I.step (g':=s.gens) (d':=s.drawn) (ch:=ch) (fun b hb=>⟨(Bb b hb).2.2.2.1,(Bb b hb).2.1,(Bb b hb).2.2.2.2.1,(Bb b hb).2.2.2.2.2⟩) (fun b ob _ _ hc e _=>k b ob hc e) (fun b ob _ _ hc e _=>⟨ob.slots,k b ob hc e⟩)
  (fun b ob _ e n=>by rw[aA (a8 (bo (aN e) hp))]; exact n)
  (fun b ob hc e=>⟨ob,k b ob hc e⟩) (fun b xs e=>by rw[aA (aK e hn)]; exact e) (fun b ob u e=>by rw[aA (aK e hn)]; exact e) (fun b ps e=>⟨#[],by rw[aA (aK e hn),e]; simp⟩) (fun m hm=>?_) (fun b u e=>?_) I.bare
 ·obtain⟨ob,es,ep,ho,r⟩:=hm
  exact⟨ob,es,ep,k _ ob (fun z=>(Bb _ z).2.1 rfl) ho,r⟩
 ·by_cases hb:b=a
  ·subst hb
   rw[ag] at e
   cases e
   exact new
  ·rw[aA hb] at e
   refine(I.cz b u e).tT (fun c v hc q=>k c v ?_ q) (fun c q=>by rw[aA (aK q hn)]; exact q) fun c xs q=>by rw[aA (aK q hn)]; exact q
   rcases hc with z|z
   ·rw[z]; exact Rq b u e
   ·exact Rq c _ z
def Sa (K:Frag)(a:Addr):It:=
 ⟨fun i H=> ∃xs x,bw K H a xs/\xs[i]? =some x,fun i H x H'=> ∃p y,H p=none/\x= .ref p/\H'=upd H p (.tup [.int i,y])/\ ∀xs,bw K H a xs->xs[i]? =some y,fun i H=> ∃xs,bw K H a xs/\xs.length<=i⟩
theorem GG {P:Program}{w:World}{K:Frag}{elts:List Expr}{k1}{pos:Pos}(a e it:Addr)(jy:e≠it):Turn P w K (.Tuple elts k1 pos) (Sa K a) [e,it] e (fun i h=>(∃old,IsEnum h e it i old)/\h.IsListIter it a i) where
 mem:=by simp
 obj:=fun i h st b hb=>by
  obtain⟨⟨old,he⟩,hit⟩:=st
  have e1:b=e∨b=it:=by simpa using hb
  rcases e1 with rfl|rfl
  ·exact⟨_,he,fun v z=>by have z':Data.fields _ =Data.cell v:=z; cases z'⟩
  ·obtain⟨o,e,c,d⟩:=hit
   exact⟨o,e,fun v z=>by rw[d] at z; cases z⟩
 keep:=fun i h h' st k=>by
  obtain⟨⟨old,he⟩,hit⟩:=st
  exact⟨⟨old,k e (by simp) _ he⟩,hit.at fun o e=>k it (by simp) o e⟩
 item:=by
  intro X hP hw hK hc i pins s σ H E I hf st hg
  subst hP hw hK
  obtain⟨⟨old,he⟩,hit⟩:=st
  obtain⟨xs,x,hq,hx⟩:=hg
  obtain⟨b0,rv,p,hz⟩:=I.list hq
  obtain⟨u,hu,ru⟩:=rv.get hx
  refine wpAny_pyNext_enum_item he hit p.isList (x:=u) (by simpa using hu) jy fun h' ho WS hT hsz hk=>⟨_,rfl,?_⟩
  refine wpAny_letOwnedTupleGo_enum ho fun h2 he2 QK=>?_
  have i7:e < s.heap.objs.size:=aN he
  have GH:h2.get? s.heap.objs.size=some {cls:= .type "tuple",data:= .seq #[.int i s.toks,u]}:=(QK.2 _ (ql i7)).trans hT
  have hn:H s.heap.objs.size=none:=I.cz.fresh (aI _)
  have I2:Inv X pins σ (upd H s.heap.objs.size (.tup [.int i,x])) {s with heap:=h2,toks:=s.toks + 1}:=by
   refine I.DN (ch:=[e,it]) (fun b ob hb q=>?_) hf (aI _) ⟨by show 2<=sizeLine; decide,[.int i s.toks,u],.cons ⟨_,rfl⟩ (.cons ru .nil),⟨_,GH,rfl,_,rfl⟩⟩
   have tW:b≠e/\b≠it:=⟨fun z=>hb (by simp[z]),fun z=>hb (by simp[z])⟩
   exact(QK.2 b tW.1).trans (hk b ob tW.1 tW.2 q)
  refine⟨.ref s.heap.objs.size,_,I2,rfl,⟨_,x,hn,rfl,rfl,fun ys hy=>by rw[I.Bg hy hq]; exact hx⟩,⟨⟨u,by simpa using he2⟩,WS.at fun o q=>(QK.2 it jy.symm).trans q⟩,fun b hb=>?_⟩
  have Sb:=hf b hb
  rw[aA]
  ·exact Sb.1
  ·have e1:b=e∨b=it:=by simpa using hb
   rcases e1 with rfl|rfl
   ·exact a8 i7
   ·obtain⟨o,q,_⟩:=hit
    exact a8 (aN q)
 done:=by
  intro X hP hw hK hc i pins s σ H E I hf st hg
  subst hP hw hK
  obtain⟨⟨old,he⟩,hit⟩:=st
  obtain⟨xs,hq,hx⟩:=hg
  obtain⟨b0,rv,p,hz⟩:=I.list hq
  obtain⟨f0,f1,f2,f3,f4,f5⟩:=hf it (by simp)
  have hl:=rv.length
  exact wpAny_pyNext_enum_end (I.ok.hd hc) he hit p.isList (by simp; lia) fun h' eb=>⟨rfl,I.turned (t':=s.toks) (fun b o hb e=>eb b o hb e) f0 f1 f3 f4 f5⟩
 self:=fun _ _ _ _ _ st h=>by
  obtain⟨⟨old,he⟩,hit⟩:=st
  exact wpAny_pyIter_enum he h
def Sd (K:Frag)(ta:TA):TI:=fun σ H R=>ta σ H fun vs H1=> ∃a,vs=[.ref a]/\(∃xs,bw K H1 a xs)/\R (Sa K a) H1
theorem qH {X:Cx}{elts:List Expr}{k1}{Oe:Pos}{l:Expr}{ta:TA}{p pos:Pos}(hg:Gl X "enumerate")(hm:X.mg "enumerate"=none)(ha:PA X [l] ta)(hs:starEach [l] X.env=[(false,eval l X.env)]:=by rfl):
  PI X (.Tuple elts k1 Oe) (.Call (.Name "enumerate" p) [l] [] pos) (Sd X.K ta):=by
 intro pins s σ H R I h
 refine Call_ (pG I hg hm boot_enumerate (ou (ee (ha pos pins s σ H _ I h) fun us s1 ⟨vs,H1,I1,r1,q1⟩=>?_) hs rfl))
 obtain⟨a,e,⟨xs,hq⟩,q⟩:=q1
 subst e
 obtain⟨u,rfl,ru⟩:=vals1 r1
 cases ru
 obtain⟨b0,rv,pl,hz⟩:=I1.list hq
 refine call_enumerate_list pl.isList fun h' he hit hsz kp=>?_
 have I2:Inv X pins σ H1 {s1 with heap:=h'}:=I1.kept (t':=s1.toks) kp
 refine wpAny_pyIter_enum he ⟨s1.heap.objs.size + 1,[s1.heap.objs.size + 1,s1.heap.objs.size],_,_,H1,rfl,I2,GG a _ _ (Nat.succ_ne_self _),⟨⟨_,he⟩,hit⟩,fun b hb=>?_,q⟩
 have e1:b=s1.heap.objs.size + 1∨b=s1.heap.objs.size:=by simpa using hb
 have tW:s1.heap.objs.size<=b:=by
  rcases e1 with rfl|rfl
  ·exact dP _
  ·exact aI _
 exact I1.Gj tW (I1.cz.fresh tW)
theorem mY {K:Frag}{a:Addr}{xs:List V}{g:TG}{tb:TS}{D:Ends}{σ:St}{H:Hp}(Pv:Nat->St->Hp->Prop)(h0:Pv 0 σ H)(hl: ∀i σ H,i<=xs.length->Pv i σ H->bw K H a xs)
  (hs: ∀i x p σ H,xs[i]? =some x->H p=none->Pv i σ H->g (.ref p) σ (upd H p (.tup [.int i,x])) fun σ2 H2=>tb {D with nx:=Pv (i + 1),ct:=Pv (i + 1),bk:=D.nx} σ2 H2) (hd: ∀σ H,Pv xs.length σ H->D.nx σ H):
  ∃W:Nat->Nat->St->Hp->Prop,(∃m,W 0 m σ H)/\ ∀i m σ H,W i m σ H->
   ((Sa K a).stop i H/\D.nx σ H)∨((Sa K a).go i H/\ ∃N:St->Hp->Prop,(∀σ' H',N σ' H'-> ∃m',m' < m/\W (i + 1) m' σ' H')/\ ∀x H',(Sa K a).QG i H x H'->g x σ H' fun σ2 H2=>tb {D with nx:=N,ct:=N,bk:=D.nx} σ2 H2):=by
 refine⟨fun i m σ H=>m=xs.length - i/\i<=xs.length/\Pv i σ H,⟨xs.length,by simp,Nat.zero_le _,h0⟩,?_⟩
 rintro i m σ H ⟨rfl,hi,p⟩
 have q:=hl i σ H hi p
 by_cases i7:i < xs.length
 ·refine .inr ⟨⟨xs,xs[i],q,by simp[i7]⟩,Pv (i + 1),fun σ' H' p'=>⟨xs.length - (i + 1),by lia,rfl,i7,p'⟩,fun x H' y=>?_⟩
  obtain⟨pp,y,h1,e1,e2,h2⟩:=y
  subst e1 e2
  exact hs i y pp σ _ (h2 xs q) h1 p
 ·have e:i=xs.length:=by lia
  subst e
  exact .inl ⟨⟨xs,q,aI _⟩,hd σ H p⟩
structure fb (P:Program)(w:World)(K:Frag)(mg:Str->Option Value)(base:Heap)(x:Str)(k:Nat)(ps:List Str)(sp:Sp):Prop where
 ex: ∃(f:Addr) (fd:FuncData),l4 P w K mg base sk k f fd ps sp/\mg x=some (.ref f)/\keepIn K (.ref f)=true/\Binds K fd ps []
section
variable {X:Cx}{x:Str}{k:Nat}{ps:List Str}{sp:Sp}{e:Expr}{es:List Expr}{t:TA}{p pos:Pos}
theorem Se (C:fb X.prog X.w X.K X.mg X.base x k ps sp)(hr:ff k X.A)(hg:Gl X x)(ha:PA X (e :: es) t)(qB:(x == ("__debug__":Str))=false:=by decide)
  (he:starEach (e :: es) X.env=(false,eval e X.env) :: starEach es X.env:=by rfl) (jb:(backTo pos (starEach es X.env)).any (·.1)=false:=by rfl):PE X (.Call (.Name x p) (e :: es) [] pos) (uO sp [] E0 t):=by
 obtain⟨f,fd,F,hm,hk,hb⟩:=C.ex
 exact ES F hr hg hm hk hb .nil mX ha qB he jb
theorem Jh (C:fb X.prog X.w X.K X.mg X.base x k ps sp)(hr:ff k X.A)(hg:Gl X x)(qB:(x == ("__debug__":Str))=false:=by decide):PE X (.Call (.Name x p) [] [] pos) (uO sp [] E0 DD):=by
 obtain⟨f,fd,F,hm,hk,hb⟩:=C.ex
 exact IS F hr hg hm hk hb .nil mX qB
end
structure Df (K:Frag)(mg:Str->Option Value)(x:Str)(st:Stmt):Prop where
 ex: ∃(f:Addr) (fd:FuncData),gx K x x st f fd/\mg x=some (.ref f)
theorem Df.cal {P:Program}{w:World}{K:Frag}{mg:Str->Option Value}{base:Heap}{x:Str}{st:Stmt}{N ps:List Str}{k:Nat}{sp:Sp}(D:Df K mg x st)(S:aW N ps (ax st))
  (hb: ∀(kV doc pm:Value) (an:Option Addr) (cU ct:Value) (us:List Value),us.length=ps.length->bindArgs (fnOf x x (gP st) (dF st) (ax st) .none kV doc pm an cU ct) ⟨us,[]⟩=pure (ps.zip us))
  (len: ∀vs H Q E,sp vs H Q E->vs.length=ps.length)
  (fX: ∀(f:Addr) (cU:Value) (A:Around) (outer:List Env) (s:Shared) (H:Hp) (vs:List V) (Q:VK) (E:XK),ff k (A.deeper (envOfC x (ax st) s.heap.objs.size f cU))->sp vs H Q E->
   ∃t,oQ (ly sk P w K mg base N x (ax st) f cU A outer s H E).EJ (dF st) t/\t {nx:=fun _ H'=>Q .eD H',rt:=Q} (start N vs) H):fb P w K mg base x (k + 1) ps sp:=by
 obtain⟨f,fd,F,hm⟩:=D.ex
 exact⟨f,fd,F.ok S len (fX f),hm,F.kp,F.binds hb⟩
theorem um {X:Cx}{scope:Scope}(xW: ∀y∈scope.names,y.2≠ .free:=by decide +kernel)(my: ∀y∈scope.names,y.2≠ .cell:=by decide +kernel)(mU:scope.kind= .function:=by rfl)(uZ: ∀x∈scope.names,x.2= .local->scope.names.lookup x.1=some .local:=by decide +kernel):sm X scope [] [] []:=by
 have e:(relabel scope X.env).names=scope.names:=map_eq_self (l:=scope.names) (fun x hx=>by
  obtain⟨n,k⟩:=x
  have:(k == NameKind.free)=false:=by simpa using xW _ hx
  simp[this])
 refine⟨closureFor_none xW,my,mU,uZ,fun x c h=>by simp at h,fun x h=>?_,.nil⟩
 rw[e] at h
 rcases h with h|h
 ·exact absurd rfl (my _ (ck h))
 ·exact absurd rfl (xW _ (ck h))
theorem jh {X:Cx}{scope:Scope}{x:Str}{c:Addr}{j:Nat}(GD:closureFor scope X.env=pure [(x,c)]:=by rfl)(my: ∀y∈scope.names,y.2≠ .cell:=by decide +kernel)(mU:scope.kind= .function:=by rfl)(uZ: ∀x∈scope.names,x.2= .local->scope.names.lookup x.1=some .local:=by decide +kernel)
  (hx:X.env.cells.lookup x=some c:=by rfl) (AZ:List (Str×NameKind)) (Sf:(relabel scope X.env).names=AZ:=by rfl) (Bv: ∀y∈AZ,(y.2= .cell∨y.2= .free)->y.1=x:=by decide +kernel) (hN:X.N[j]? =some x:=by rfl) (hk:X.env.kindOf x=some .cell∨X.env.kindOf x=some .free:=by exact Or.inl rfl)
  (Nb:(relabel scope X.env).names.lookup x=some .cell∨(relabel scope X.env).names.lookup x=some .free:=by exact Or.inl rfl):sm X scope [(x,c)] [x] [j]:=by
 refine⟨GD,my,mU,uZ,fun y c' h=>?_,fun y h=>?_,.cons ⟨hN,hk,Nb⟩ .nil⟩
 ·have h':=ck h
  have e:(y,c')=(x,c):=by simpa using h'
  cases e
  exact hx
 ·have e:y=x:=by
   rcases h with h|h
   ·rw[Sf] at h
    exact Bv _ (ck h) (.inl rfl)
   ·rw[Sf] at h
    exact Bv _ (ck h) (.inr rfl)
  subst e
  exact⟨c,by simp[List.lookup_cons]⟩
section
variable {X:Cx}
def Sg (i j:Int):Prop:=Builtin.Int.intBits i<=2 ^ 20/\Builtin.Int.intBits j<=2 ^ 20
theorem LK:oE X (binaryOp .Mult) (rI Sg fun i j=> .int (i * j)):=RH fun _ _ _ _ _ _ _ hc q=>mul_int q (.of_bits hc.1 hc.2)
end
section
variable {prog:Program}{w:World}{A:Around}{E:Value->Shared->Prop}{s:Shared}
end
section
variable {X:Cx}
theorem eR:iT X (.builtin "isinstance") (fun xs H Q=> ∃x c t b,xs=[x,.ty c]/\mT X.K H x t/\PySem.W.kitOne X.K t (.type c)=some b/\Q (.bl b) H):=by
 intro pins s σ H xs us Q I r h
 obtain⟨x,c,t,b,rfl,ty,e,q⟩:=h
 obtain⟨u,u2,rfl,r1,r2⟩:=vals2 r
 obtain rfl:u2=Value.type c:=r2
 exact Gq I r1 ty e fun tk=>⟨.bl b,H,I.tok _,rfl,q⟩
theorem E2: ∀{cs:List String} {us:List Value},Vals (cs.map V.ty) us->us=cs.map Value.type
 |[],_,r=>by rw[wD] at r; cases r; rfl
 |c :: cs,_,r=>by
  rw[bM] at r
  cases r with
  |cons r1 r2=>
   have e1:_ =Value.type c:=r1
   rw[e1,E2 r2,bM]
theorem DO {pins:List (Addr×Obj)}{σ:St}{H:Hp}{s:Shared}{A:Around}{E:Value->Shared->Prop}{Q:Value->Shared->Prop}{x:V}{u t:Value}{tp:Addr}{cs:List String}{b:Bool}(I:Inv X pins σ H s)(rx:RelV x u)(ty:mT X.K H x t)
  (hp:H tp=some (.tup (cs.map V.ty))) (e:PySem.W.kitAny X.K t (cs.map Value.type)=some b) (h: ∀tk,Q (.bool b) {s with toks:=tk}):
  wpAny (model X.prog X.w) A (call (.builtin "isinstance") [u,.ref tp]) Q E s:=by
 obtain⟨_,b0,rv,⟨cl,dd,dt,sl⟩,hg,hc,n,hd⟩:=(show dE X.prog X.w H s.heap tp (.tup (cs.map V.ty)) from I.cz tp _ hp)
 have ei:=E2 rv
 subst ei
 simp only at hc hd
 subst hc hd
 cases ty with
 |eD=>cases(show u=Value.none from rx); exact ez PySem.W.kitx_none I.gY True.intro hg e (fun z=>nomatch z) h
 |bl y=>cases(show u=Value.bool y from rx); exact ez PySem.W.kitx_bool I.gY True.intro hg e (fun z=>nomatch z) h
 |int i=>obtain⟨t,q⟩:=(show ∃t,u=Value.int i t from rx); cases q; exact ez PySem.W.kitx_int I.gY True.intro hg e (fun z=>nomatch z) h
 |str y=>obtain⟨t,q⟩:=(show ∃t,u=Value.str y t from rx); cases q; exact ez PySem.W.kitx_str I.gY True.intro hg e (fun z=>nomatch z) h
 |Li y=>obtain⟨t,q⟩:=(show ∃t,u=Value.float y t from rx); cases q; exact ez PySem.W.kitx_float I.gY True.intro hg e (fun z=>nomatch z) h
 | @lst a xs ea=>
  cases(show u=Value.ref a from rx)
  obtain⟨_,_,n,_,h1⟩:=(show dE X.prog X.w H s.heap a (.lst xs) from I.cz a _ ea)
  exact ez rT I.gY ⟨_,h1,rfl⟩ hg e (fun z=>nomatch z) h
 | @Dc a ob xs ea=>
  cases(show u=Value.ref a from rx)
  obtain⟨_,_,_,n,_,h1⟩:=(show dE X.prog X.w H s.heap a (.Dc ob (.lst xs)) from I.cz a _ ea)
  exact ez rT I.gY ⟨_,h1,rfl⟩ hg e (fun z=>nomatch z) h
 | @tup a xs ea=>
  cases(show u=Value.ref a from rx)
  obtain⟨_,_,_,p⟩:=(show dE X.prog X.w H s.heap a (.tup xs) from I.cz a _ ea)
  obtain⟨o,h1,h2,_⟩:=p
  exact ez PySem.W.kitx_tuple I.gY ⟨o,h1,h2⟩ hg e (fun z=>nomatch z) h
 | @dK a bg ea=>
  cases(show u=Value.ref a from rx)
  obtain⟨_,_,vs,_,p⟩:=(show dE X.prog X.w H s.heap a (.dK bg) from I.cz a _ ea)
  obtain⟨o,es,ep,h1,h2,_⟩:=p
  exact ez rV I.gY ⟨o,h1,h2.1⟩ hg e (fun z=>nomatch z) h
 | @dT a bg ea=>
  cases(show u=Value.ref a from rx)
  obtain⟨_,_,xs,_,o,es,ep,h1,h2,_⟩:=(show dE X.prog X.w H s.heap a (.dT bg) from I.cz a _ ea)
  exact ez rV I.gY ⟨o,h1,h2.1⟩ hg e (fun z=>nomatch z) h
 | @ins a C dx fs ea cl ha hn kE hm=>
  cases(show u=Value.ref a from rx)
  obtain⟨mA,O,_⟩:=qz I.cz ea
  obtain⟨od,J,_⟩:=O.look
  exact ez (PySem.W.kitx_own (cl.get _) cl.hd ha hn kE hm) I.gY J hg e (fun z=>nomatch z) h
theorem DP:iT X (.builtin "isinstance") (fun xs H Q=> ∃(x:V) (tp:Addr) (cs:List String) (t:Value) (b:Bool),xs=[x,.ref tp]/\H tp=some (.tup (cs.map V.ty))/\mT X.K H x t/\PySem.W.kitAny X.K t (cs.map Value.type)=some b/\Q (.bl b) H):=by
 intro pins s σ H xs us Q I r h
 obtain⟨x,tp,cs,t,b,rfl,hp,ty,e,q⟩:=h
 obtain⟨u,u2,rfl,r1,r2⟩:=vals2 r
 obtain rfl:u2=Value.ref tp:=r2
 exact DO I r1 ty hp e fun tk=>⟨.bl b,H,I.tok _,rfl,q⟩
def OE (K:Frag):R2:=fun x y H Q=> ∃a b xs,x= .ref a/\y= .ref b/\bw K H a xs/\bw K H b []/\Q (.bl (!xs.isEmpty)) H
theorem Ji {n:Nat}(hu:X.A.units + n < cLine):oE X (compareOp .NotEq) (OE X.K):=by
 intro pins s σ H x y v u Q I rx ry h
 obtain⟨a,b,xs,rfl,rfl,ha,hb,q⟩:=h
 cases rx
 cases ry
 obtain⟨b0,r1,p1,_⟩:=I.list ha
 obtain⟨Gv,r2,p2,_⟩:=I.list hb
 have e2:Gv=[]:=r2.zero
 subst e2
 cases xs with
 |nil=>
  have e1:b0=[]:=r1.zero
  subst e1
  exact SeqAt.RcNeAt.lists (e:=fun _=>true) p1.isList p2.isList rfl (by lia) (fun j h1 _=>absurd h1 (by simp)) X.prog X.w X.xe _ ⟨.bl false,H,I,rfl,q⟩
 |cons z zs=>
  have l1:=r1.length
  exact SeqAt.RcNeAt.lists_lengths p1.isList p2.isList (by simp only[List.size_toArray,← l1]; simp) (by lia) X.prog X.w X.xe _ ⟨.bl true,H,I,rfl,q⟩
def WT (K:Frag):R2:=fun x y H Q=> ∃p xs i v,x= .ref p/\y= .int i/\(bw K H p xs∨cB K H p xs)/\sj xs i=some v/\Q v H
theorem Nd:IW X (WT X.K):=by
 intro value slice pins s σ H x y v u Q I rx ry h hs
 obtain⟨p,xs,i,z,e1,e2,hq|hq,he,q⟩:=h
 ·exact y1 value slice pins s σ H x y v u Q I rx ry ⟨p,xs,i,z,e1,e2,hq,he,q⟩ hs
 ·exact DE value slice pins s σ H x y v u Q I rx ry ⟨p,xs,i,z,e1,e2,hq,he,q⟩ hs
end
theorem aE.new {H:Hp}{p:Addr}{o:HO}(h:H p=none):aE H (upd H p o):=fun b u e=>by rw[aA (aK e h)]; exact e
def WU (t u:TS):TS:=fun D σ H=> ∃M:St->Hp->Prop,t {D with nx:=M} σ H/\ ∀σ' H',M σ' H'->u D σ' H'
theorem ji {X:Cx}{st:Stmt}{rest:List Stmt}{t u:TS}(h1:PS X st t)(h2:oQ X rest u):oQ X (st :: rest) (WU t u):=by
 intro pins s σ H D I ⟨M,h,hM⟩
 refine wpAny_execs_cons (ee (h1 pins s σ H {D with nx:=M} I h) fun f s1 q=>?_)
 cases f with
 |next=>
  obtain⟨σ',H',I',q⟩:=q
  exact h2 pins s1 σ' H' D I' (hM _ _ q)
 |ret v=>exact q
 |brk=>exact q
 |cont=>exact q
section
variable {X:Cx}{K:Frag}
theorem lC (h:X.K=K):IW X (Oh K):=by subst h; exact y1
theorem kJ (h:X.K=K):IW X (Oi K):=by subst h; exact DE
end
inductive Dt where
 |eD|bl (b:Bool)|int (i:Int)|str (x:Str)|tup (ds:List Dt)|lst (ds:List Dt)
mutual
def Rp (H:Hp):Dt->V->Prop
 | .eD,v=>v= .eD
 | .bl b,v=>v= .bl b
 | .int i,v=>v= .int i
 | .str x,v=>v= .str x
 | .tup ds,v=> ∃a xs,v= .ref a/\H a=some (.tup xs)/\il H ds xs
 | .lst ds,v=> ∃a xs,v= .ref a/\H a=some (.lst xs)/\il H ds xs
def il (H:Hp):List Dt->List V->Prop
 |[],vs=>vs=[]
 |d :: ds,vs=> ∃v r,vs=v :: r/\Rp H d v/\il H ds r
end
mutual
def Dt.size:Dt->Nat
 | .tup ds=>1 + Dt.fY ds
 | .lst ds=>1 + Dt.fY ds
 | .eD=>1
 | .bl _=>1
 | .int _=>1
 | .str _=>1
def Dt.fY:List Dt->Nat
 |[]=>0
 |d :: ds=>d.size + Dt.fY ds
end
theorem Dt.size_pos (d:Dt):1<=d.size:=by cases d <;> simp[Dt.size]
theorem Dt.iF (a b:List Dt):Dt.fY (a ++ b)=Dt.fY a + Dt.fY b:=by
 induction a with
 |nil=>simp[Dt.fY]
 |cons d ds ih=>simp[Dt.fY,ih]; lia
theorem Dt.qI (a:List Dt):a.length<=Dt.fY a:=by
 induction a with
 |nil=>simp[Dt.fY]
 |cons d ds ih=>
  have:=d.size_pos
  simp[Dt.fY]; lia
theorem u0 {H:Hp}{v:V}:Rp H .eD v↔v= .eD:=by unfold Rp; exact Iff.rfl
theorem qJ {H:Hp}{v:V}{b:Bool}:Rp H (.bl b) v↔v= .bl b:=by unfold Rp; exact Iff.rfl
theorem dr {H:Hp}{v:V}{i:Int}:Rp H (.int i) v↔v= .int i:=by unfold Rp; exact Iff.rfl
theorem fL {H:Hp}{v:V}{x:Str}:Rp H (.str x) v↔v= .str x:=by unfold Rp; exact Iff.rfl
theorem jW {H:Hp}{v:V}{ds:List Dt}:Rp H (.tup ds) v↔ ∃a xs,v= .ref a/\H a=some (.tup xs)/\il H ds xs:=by unfold Rp; exact Iff.rfl
theorem jX {H:Hp}{v:V}{ds:List Dt}:Rp H (.lst ds) v↔ ∃a xs,v= .ref a/\H a=some (.lst xs)/\il H ds xs:=by unfold Rp; exact Iff.rfl
theorem cM {H:Hp}{vs:List V}:il H [] vs↔vs=[]:=by unfold il; exact Iff.rfl
theorem bI {H:Hp}{d:Dt}{ds:List Dt}{vs:List V}:il H (d :: ds) vs↔ ∃v r,vs=v :: r/\Rp H d v/\il H ds r:=by
 conv=>lhs; unfold il
mutual
theorem Rp.mono {H H':Hp}(s:aE H H'): ∀(d:Dt) {v:V},Rp H d v->Rp H' d v
 | .eD,_,h=>u0.mpr (u0.mp h)
 | .bl _,_,h=>qJ.mpr (qJ.mp h)
 | .int _,_,h=>dr.mpr (dr.mp h)
 | .str _,_,h=>fL.mpr (fL.mp h)
 | .tup ds,_,h=>by
  obtain⟨a,xs,e,h1,h2⟩:=jW.mp h
  exact jW.mpr ⟨a,xs,e,s _ _ h1,il.mono s ds h2⟩
 | .lst ds,_,h=>by
  obtain⟨a,xs,e,h1,h2⟩:=jX.mp h
  exact jX.mpr ⟨a,xs,e,s _ _ h1,il.mono s ds h2⟩
theorem il.mono {H H':Hp}(s:aE H H'): ∀(ds:List Dt) {vs:List V},il H ds vs->il H' ds vs
 |[],_,h=>cM.mpr (cM.mp h)
 |d :: ds,_,h=>by
  obtain⟨v,r,e,h1,h2⟩:=bI.mp h
  exact bI.mpr ⟨v,r,e,Rp.mono s d h1,il.mono s ds h2⟩
end
theorem il.length {H:Hp}: ∀{ds:List Dt} {vs:List V},il H ds vs->ds.length=vs.length
 |[],_,h=>by rw[cM.mp h]; rfl
 |d :: ds,_,h=>by
  obtain⟨v,r,e,_,h2⟩:=bI.mp h
  rw[e,bH,bH,il.length h2]
theorem il.get {H:Hp}: ∀{ds:List Dt} {vs:List V} {i:Nat} {d:Dt},il H ds vs->ds[i]? =some d-> ∃v,vs[i]? =some v/\Rp H d v
 |[],_,_,_,_,e=>by simp at e
 |d :: ds,_,0,_,h,e=>by
  obtain⟨v,r,rfl,h1,_⟩:=bI.mp h
  simp at e; subst e
  exact⟨v,rfl,h1⟩
 |d :: ds,_,i + 1,_,h,e=>by
  obtain⟨v,r,rfl,_,h2⟩:=bI.mp h
  obtain⟨u,h3,h4⟩:=il.get (i:=i) h2 (by simpa using e)
  exact⟨u,by simpa using h3,h4⟩
theorem il.append {H:Hp}: ∀{ds es:List Dt} {vs us:List V},il H ds vs->il H es us->il H (ds ++ es) (vs ++ us)
 |[],_,_,_,h,h'=>by rw[cM.mp h]; exact h'
 |d :: ds,_,_,_,h,h'=>by
  obtain⟨v,r,rfl,h1,h2⟩:=bI.mp h
  exact bI.mpr ⟨v,r ++ _,rfl,h1,il.append h2 h'⟩
theorem il.one {H:Hp}{d:Dt}{v:V}(h:Rp H d v):il H [d] [v]:=bI.mpr ⟨v,[],rfl,h,cM.mpr rfl⟩
theorem il.ints {H:Hp}: ∀(ns:List Int),il H (ns.map Dt.int) (ns.map V.int)
 |[]=>cM.mpr rfl
 |n :: ns=>bI.mpr ⟨_,_,rfl,dr.mpr rfl,il.ints ns⟩
theorem iG {H:Hp}{a:Addr}{xs:List V}{ds:List Dt}(h:H a=some (.lst xs))(r:il H ds xs):Rp H (.lst ds) (.ref a):=jX.mpr ⟨a,xs,rfl,h,r⟩
theorem eT {H:Hp}{a:Addr}{xs:List V}{ds:List Dt}(h:H a=some (.tup xs))(r:il H ds xs):Rp H (.tup ds) (.ref a):=jW.mpr ⟨a,xs,rfl,h,r⟩
def OF:Dt->String
 | .eD=>"NoneType"| .bl _=>"bool"| .int _=>"int"| .str _=>"str"| .tup _=>"tuple"| .lst _=>"list"
theorem Rp.ty {K:Frag}{H:Hp}{d:Dt}{v:V}(h:Rp H d v):mT K H v (.type (OF d)):=by
 cases d with
 |eD=>rw[u0.mp h]; exact .eD
 |bl b=>rw[qJ.mp h]; exact .bl b
 |int i=>rw[dr.mp h]; exact .int i
 |str x=>rw[fL.mp h]; exact .str x
 |tup ds=>obtain⟨a,xs,e,h1,_⟩:=jW.mp h; rw[e]; exact .tup h1
 |lst ds=>obtain⟨a,xs,e,h1,_⟩:=jX.mp h; rw[e]; exact .lst h1
def WV:Dt->Bool| .lst _=>true|_=>false
def WW:Dt->Bool| .tup _=>true|_=>false
def isLT:Dt->Bool| .lst _=>true| .tup _=>true|_=>false
def Vb:Dt->Bool| .str _=>true|_=>false
def isB:Dt->Bool| .bl _=>true|_=>false
def ZE:Dt->Bool| .int _=>true| .bl _=>true|_=>false
def isW:Dt->Bool| .int _=>true|_=>false
theorem E3 {K:Frag}(d:Dt):PySem.W.kitOne K (.type (OF d)) (.type "list")=some (WV d):=by cases d <;> (first|rfl|decide +kernel)
theorem Jj {K:Frag}(d:Dt):PySem.W.kitOne K (.type (OF d)) (.type "tuple")=some (WW d):=by cases d <;> (first|rfl|decide +kernel)
theorem yl {K:Frag}(d:Dt):PySem.W.kitOne K (.type (OF d)) (.type "str")=some (Vb d):=by cases d <;> (first|rfl|decide +kernel)
theorem Nf {K:Frag}(d:Dt):PySem.W.kitOne K (.type (OF d)) (.type "bool")=some (isB d):=by cases d <;> (first|rfl|decide +kernel)
theorem Sh {K:Frag}(d:Dt):PySem.W.kitOne K (.type (OF d)) (.type "int")=some (ZE d):=by cases d <;> (first|rfl|decide +kernel)
theorem OG {K:Frag}(d:Dt):PySem.W.kitAny K (.type (OF d)) [.type "list",.type "tuple"]=some (isLT d):=by
 unfold PySem.W.kitAny
 rw[E3]
 cases d <;> (first|rfl|(show PySem.W.kitAny K _ [.type "tuple"]=_; unfold PySem.W.kitAny; rw[Jj]; rfl))
theorem sU {α β:Type}{F:α->β->Prop}: ∀{l₁:List α} {l₂:List β} {y:β},Paired F l₁ l₂->l₂[l₂.length - 1]? =some y-> ∃l d,l₁=l ++ [d]/\F d y/\Paired F l l₂.dropLast
 |_,_,_,.nil,e=>by simp at e
 |a :: l₁,b :: l₂,y,.cons r t,e=>by
  cases t with
  |nil=>
   simp at e; subst e
   exact⟨[],a,rfl,r,.nil⟩
  |cons r' t'=>
   rename_i a' b' m₁ m₂
   have e':(b' :: m₂)[(b' :: m₂).length - 1]? =some y:=by
    have h1:(b :: b' :: m₂).length - 1=((b' :: m₂).length - 1) + 1:=by simp
    rw[h1] at e
    simpa using e
   obtain⟨l,d,e1,h1,h2⟩:=sU (.cons r' t') e'
   refine⟨a :: l,d,by rw[e1]; rfl,h1,?_⟩
   rw[List.dropLast_cons_of_ne_nil (by simp)]
   exact .cons r h2
def l7 (H H':Hp)(d:Dt)(v:V):Prop:= ∃t u1 u2,v= .ref t/\H' t=some (.tup [u1,u2])/\Rp H d u1/\Rp H d u2
theorem l7.mono {H H' H2:Hp}{d:Dt}{v:V}(h:l7 H H' d v)(k: ∀b xs,H' b=some (.tup xs)->H2 b=some (.tup xs)):l7 H H2 d v:=by
 obtain⟨t,u1,u2,e,h1,h2⟩:=h
 exact⟨t,u1,u2,e,k _ _ h1,h2⟩
theorem Jk {H:Hp}{p:Addr}{o:HO}(h:H p=none): ∀b xs,H b=some (.tup xs)->upd H p o b=some (.tup xs):=fun b xs e=>aE.new h b _ e
theorem dG {H:Hp}{p:Addr}{o:HO}{ys:List V}(h:H p=some (.lst ys)): ∀b xs,H b=some (.tup xs)->upd H p o b=some (.tup xs):=fun b xs e=>by
 rw[aA (mx e h (by intro z; cases z))]; exact e
theorem aE.cY {H0 H:Hp}{p:Addr}{o:HO}(s:aE H0 H)(h:H0 p=none):aE H0 (upd H p o):=fun b u e=>by
 rw[aA (aK e h)]; exact s b u e
def kids:Dt->List Dt
 | .tup ds=>ds
 | .lst ds=>ds
 |_=>[]
theorem E4 {H:Hp}{d:Dt}{v:V}(h:Rp H d v)(hd:isLT d=true): ∃a xs,v= .ref a/\(∀(K:Frag) (H':Hp),aE H H'->bw K H' a xs∨cB K H' a xs)/\il H (kids d) xs:=by
 cases d with
 |tup ds=>
  obtain⟨a,xs,e,h1,h2⟩:=jW.mp h
  exact⟨a,xs,e,fun K H' s=> .inr (cB.of (s _ _ h1)),h2⟩
 |lst ds=>
  obtain⟨a,xs,e,h1,h2⟩:=jX.mp h
  exact⟨a,xs,e,fun K H' s=> .inl (bw.of (s _ _ h1)),h2⟩
 |_=>cases hd
theorem GI {d:Dt}(hd:isLT d=true):d.size=1 + Dt.fY (kids d):=by
 cases d with
 |tup ds=>simp[Dt.size,kids]
 |lst ds=>simp[Dt.size,kids]
 |_=>cases hd
mutual
def Dt.plain:Dt->Bool
 | .int _=>true
 | .str _=>true
 | .tup ds=>Dt.pL ds
 | .lst ds=>Dt.pL ds
 | .eD=>false
 | .bl _=>false
def Dt.pL:List Dt->Bool
 |[]=>true
 |d :: ds=>d.plain && Dt.pL ds
end
theorem Dt.pM {ds:List Dt}:Dt.pL ds=true↔ ∀d∈ds,d.plain=true:=by
 induction ds with
 |nil=>simp[Dt.pL]
 |cons d ds ih=>simp[Dt.pL,ih]
theorem DQ {d:Dt}(h:d.plain=true): ∀c∈kids d,c.plain=true:=by
 cases d with
 |tup ds=>exact Dt.pM.mp (by simpa[Dt.plain,kids] using h)
 |lst ds=>exact Dt.pM.mp (by simpa[Dt.plain,kids] using h)
 |_=>intro c hc; cases hc
theorem tX {ds:List Dt}{i:Nat}{d:Dt}(h:ds[i]? =some d):ds.take (i + 1)=ds.take i ++ [d]:=by rw[F6,h]; rfl
theorem wQ (ds:List Dt)(i:Nat):Dt.fY (ds.take i)<=Dt.fY ds:=by
 have:=Dt.iF (ds.take i) (ds.drop i)
 rw[List.take_append_drop] at this
 lia
theorem jj {n:Nat}(h:n<=1000000):n < sizeLine:=qm h (by rw[fe]; decide)
open PySem.W
def jY {α:Type}(key:Nat->Int)(n:Nat)(Po:α->Prop):KasT α->Prop
 | .ret a=>Po a
 | .ask i j k=>i < n/\j < n/\jY key n Po (k (decide (key i < key j)))
theorem hV {α:Type}{key:Nat->Int}{n:Nat}{Po ZF:α->Prop}(h: ∀a,Po a->ZF a): ∀(t:KasT α),jY key n Po t->jY key n ZF t
 | .ret a,q=>h a q
 | .ask i j k,q=>⟨q.1,q.2.1,hV h _ q.2.2⟩
theorem jc {α β:Type}{key:Nat->Int}{n:Nat}{Po:β->Prop}{f:α->KasT β}: ∀(t:KasT α),jY key n (fun a=>jY key n Po (f a)) t->jY key n Po (t.bind f)
 | .ret a,q=>q
 | .ask i j k,q=>⟨q.1,q.2.1,jc _ q.2.2⟩
theorem u5 {α:Type}{key:Nat->Int}{n:Nat}{Po:α->Prop}{cmp:Nat->Nat->(Bool->Shared->Prop)->Shared->Prop}{s:Shared}{Q:α->Shared->Prop}
  (hc: ∀i j (C:Bool->Shared->Prop),i < n->j < n->C (decide (key i < key j)) s->cmp i j C s) (hq: ∀a,Po a->Q a s): ∀(t:KasT α),jY key n Po t->t.kasWp cmp Q s
 | .ret a,q=>hq a q
 | .ask i j k,q=>hc i j _ q.1 q.2.1 (u5 hc hq _ q.2.2)
def kf (key:Nat->Int)(p:Array Nat)(i:Nat):Int:=key (p.getD i 0)
def qK (n:Nat)(p:Array Nat):Prop:=p.Perm (List.toArray (List.range n))
theorem qK.size {n:Nat}{p:Array Nat}(h:qK n p):p.size=n:=by
 have:=Array.Perm.size_eq h
 simpa using this
theorem qK.lt {n:Nat}{p:Array Nat}(h:qK n p)(h0:0 < n)(i:Nat):p.getD i 0 < n:=by
 by_cases hi:i < p.size
 ·have e:p.getD i 0=p[i]:=by simp[Array.getD,hi]
  rw[e]
  have hm:p[i]∈p:=Array.getElem_mem hi
  have:=(Array.Perm.mem_iff h).mp hm
  simpa using this
 ·have e:p.getD i 0=0:=by simp[Array.getD,hi]
  rw[e]; exact h0
theorem qL {p q:Array Nat}{i j:Nat}(h:p[i]? =q[j]?):p.getD i 0=q.getD j 0:=by
 rw[Le,Le,h]
theorem pN {key:Nat->Int}{p:Array Nat}{i j:Nat}(hj:j<=p.size)(a:Nat):kf key (kas_rev p i j) a=if i<=a/\a < j then kf key p (i + j - 1 - a) else kf key p a:=by
 have:=getElem?_mirror_all (xs:=p) (i:=i) hj a
 by_cases h:i<=a/\a < j
 ·rw[aZ h] at this ⊢
  exact c9 key (qL this)
 ·rw[aO h] at this ⊢
  exact c9 key (qL this)
theorem qK.rev {n:Nat}{p:Array Nat}(h:qK n p)(i j:Nat):qK n (kas_rev p i j):=(mirror_perm p i j _).trans h
theorem Jl {key:Nat->Int}{p:Array Nat}{src d:Nat}(hs:src < p.size)(hd:d<=src)(k:Nat):kf key (bubble p src d) k=if k=src - d then kf key p src else if src - d < k/\k<=src then kf key p (k - 1) else kf key p k:=by
 have:=getElem?_bubble (xs:=p) hs d hd k
 by_cases h:k=src - d
 ·rw[aZ h] at this ⊢
  exact c9 key (qL this)
 ·rw[aO h] at this ⊢
  by_cases h2:src - d < k/\k<=src
  ·rw[aZ h2] at this ⊢
   exact c9 key (qL this)
  ·rw[aO h2] at this ⊢
   exact c9 key (qL this)
def lD (key:Nat->Int)(p:Array Nat)(m:Nat):Prop:= ∀a b,a<=b->b < m->kf key p a<=kf key p b
def Jm (key:Nat->Int)(p:Array Nat)(m:Nat):Prop:= ∀a b,a<=b->b < m->kf key p b<=kf key p a
section
variable {key:Nat->Int}{n:Nat}
theorem Jn {p:Array Nat}(hp:qK n p)(h0:0 < n): ∀(f m:Nat),1<=m->lD key p m->jY key n (fun r=>m<=r/\r<=m + f/\lD key p r/\(r=m + f∨kf key p r < kf key p (r - 1))) (kas_asc p f m)
 |0,m,h1,hs=>⟨aI _,aI _,hs,.inl rfl⟩
 |f + 1,m,h1,hs=>by
  unfold kas_asc
  refine⟨hp.lt h0 _,hp.lt h0 _,?_⟩
  by_cases c:key (p.getD m 0) < key (p.getD (m - 1) 0)
  ·rw[decide_eq_true c]; dsimp only; rw[if_pos rfl]
   exact⟨aI _,by lia,hs,.inr c⟩
  ·rw[decide_eq_false c]; dsimp only; rw[if_neg Bool.false_ne_true]
   have LJ:lD key p (m + 1):=by
    intro a b Iq hb
    by_cases LL:b < m
    ·exact hs a b Iq LL
    ·have e:b=m:=by lia
     subst e
     by_cases OH:a=b
     ·rw[OH]; exact fv _
     ·have h2:=hs a (b - 1) (by lia) (by lia)
      have h3:kf key p (b - 1)<=kf key p b:=by unfold kf; lia
      lia
   refine hV (fun r ⟨q1,q2,q3,q4⟩=>⟨by lia,by lia,q3,?_⟩) _ (Jn hp h0 f (m + 1) (by lia) LJ)
   rcases q4 with q4|q4
   ·exact .inl (by lia)
   ·exact .inr q4
theorem zh (h0:0 < n): ∀(f:Nat) (p:Array Nat) (m q:Nat),qK n p->m + f<=n->q + 1<=m->Jm key p m->(∀a,m - (q + 1)<=a->a < m->kf key p a=kf key p (m - 1))->
  jY key n (fun r=>qK n r.1/\1<=r.2.1/\r.2.1<=n/\r.2.2 + 1<=r.2.1/\Jm key r.1 r.2.1/\ ∀a,r.2.1 - (r.2.2 + 1)<=a->a < r.2.1->kf key r.1 a=kf key r.1 (r.2.1 - 1)) (kas_desc f p m q)
 |0,p,m,q,hp,hm,hq,hs,he=>⟨hp,(by show 1<=m; lia),(by show m<=n; lia),hq,hs,he⟩
 |f + 1,p,m,q,hp,hm,hq,hs,he=>by
  unfold kas_desc
  have dn: ∀{r:Array Nat},(∀a,a < m->kf key r a=kf key p a)->kf key r m=kf key p m->kf key p m<=kf key p (m - 1)->Jm key r (m + 1):=by
   intro r hr Sk c a b Iq hb
   by_cases LL:b < m
   ·rw[hr a (by lia),hr b LL]; exact hs a b Iq LL
   ·have e:b=m:=by lia
    subst e
    by_cases OH:a=b
    ·rw[OH]; exact fv _
    ·rw[Sk,hr a (by lia)]
     have h2:=hs a (b - 1) (by lia) (by lia)
     lia
  refine⟨hp.lt h0 _,hp.lt h0 _,?_⟩
  by_cases c:key (p.getD m 0) < key (p.getD (m - 1) 0)
  ·rw[decide_eq_true c]; dsimp only; rw[if_pos rfl]
   have c':kf key p m<=kf key p (m - 1):=by unfold kf; lia
   have last: ∀{r:Array Nat} (a:Nat),m + 1 - (0 + 1)<=a->a < m + 1->kf key r a=kf key r (m + 1 - 1):=fun{r} a h1 h2=>by
    have e:a=m + 1 - 1:=by lia
    rw[e]
   by_cases ZG:q > 0
   ·rw[aZ ZG]
    have hz:m<=p.size:=by rw[hp.size]; lia
    have hr: ∀a,a < m->kf key (kas_rev p (m - (q + 1)) m) a=kf key p a:=fun a ha=>by
     rw[pN hz]
     split
     ·rename_i h
      rw[he a h.1 h.2,he _ (by lia) (by lia)]
     ·rfl
    have Sk:kf key (kas_rev p (m - (q + 1)) m) m=kf key p m:=by rw[pN hz,aO (by lia)]
    exact zh h0 f _ (m + 1) 0 (hp.rev _ _) (by lia) (by lia) (dn hr Sk c') last
   ·rw[aO ZG]
    exact zh h0 f p (m + 1) 0 hp (by lia) (by lia) (dn (fun _ _=>rfl) rfl c') last
  ·rw[decide_eq_false c]; dsimp only; rw[if_neg Bool.false_ne_true]
   refine⟨hp.lt h0 _,hp.lt h0 _,?_⟩
   by_cases d:key (p.getD (m - 1) 0) < key (p.getD m 0)
   ·rw[decide_eq_true d]; dsimp only; rw[if_pos rfl]
    exact⟨hp,(by show 1<=m; lia),(by show m<=n; lia),hq,hs,he⟩
   ·rw[decide_eq_false d]; dsimp only; rw[if_neg Bool.false_ne_true]
    have e0:kf key p m=kf key p (m - 1):=by unfold kf; lia
    refine zh h0 f p (m + 1) (q + 1) hp (by lia) (by lia) (dn (fun _ _=>rfl) rfl (by lia)) (fun a h1 h2=>?_)
    have e1:m + 1 - 1=m:=by lia
    rw[e1]
    by_cases OH:a=m
    ·rw[OH]
    ·rw[e0]; exact he a (by lia) (by lia)
theorem E5 (h0:0 < n){p:Array Nat}{m:Nat}(hp:qK n p)(h1:1<=m)(hm:m<=n)(hs:Jm key p m):jY key n (fun r=>qK n r.2/\1<=r.1/\r.1<=n/\lD key r.2 r.1) (kas_tail3 m n p):=by
 unfold kas_tail3
 have hz:m<=p.size:=by rw[hp.size]; lia
 have hu:lD key (kas_rev p 0 m) m:=by
  intro a b Iq hb
  rw[pN hz,pN hz,aZ ⟨bp _,by lia⟩,aZ ⟨bp _,hb⟩]
  exact hs _ _ (by lia) (by lia)
 refine jc _ (hV (fun r ⟨q1,q2,q3,_⟩=>?_) _ (Jn (hp.rev 0 m) h0 (n - m) m h1 hu))
 exact⟨hp.rev 0 m,by lia,by lia,q3⟩
theorem u6 (h0:0 < n){p:Array Nat}{m:Nat}(hp:qK n p)(hm:m + 1<=n)(hs:Jm key p (m + 1)):jY key n (fun r=>qK n r.2/\1<=r.1/\r.1<=n/\lD key r.2 r.1) (kas_descPart m n p):=by
 unfold kas_descPart
 refine jc _ (hV (fun r ⟨q1,q2,q3,q4,q5,q6⟩=>?_) _ (zh h0 (n - (m + 1)) p (m + 1) 0 hp (by lia) (by lia) hs fun a h1 h2=>by
  have e:a=m + 1 - 1:=by lia
  rw[e]))
 by_cases hq:r.2.2 > 0
 ·rw[aZ hq]
  have hz:r.2.1<=r.1.size:=by rw[q1.size]; lia
  refine E5 h0 (q1.rev _ _) q2 q3 fun a b Iq hb=>?_
  have hr: ∀a,a < r.2.1->kf key (kas_rev r.1 (r.2.1 - (r.2.2 + 1)) r.2.1) a=kf key r.1 a:=fun a ha=>by
   rw[pN hz]
   split
   ·rename_i h
    rw[q6 a h.1 h.2,q6 _ (by lia) (by lia)]
   ·rfl
  rw[hr a (by lia),hr b hb]
  exact q5 a b Iq hb
 ·rw[aO hq]
  exact E5 h0 q1 q2 q3 q5
theorem LM (h0:0 < n){p:Array Nat}(hp:qK n p):jY key n (fun r=>qK n r.2/\1<=r.1/\r.1<=n/\lD key r.2 r.1) (kas_count n p):=by
 unfold kas_count
 have hs1:lD key p 1:=fun a b Iq hb=>by
  have e:a=b:=by lia
  rw[e]; exact fv _
 refine jc _ (hV (fun m ⟨q1,q2,q3,q4⟩=>?_) _ (Jn hp h0 (n - 1) 1 (aI _) hs1))
 by_cases Sl:(m == n)=true
 ·rw[aZ Sl]
  exact⟨hp,q1,by lia,q3⟩
 ·rw[aO Sl]
  have jy:m≠n:=fun z=>Sl (by simp[z])
  have i7:kf key p m < kf key p (m - 1):=by
   rcases q4 with q4|q4
   ·exact absurd q4 (by lia)
   ·exact q4
  by_cases Vc:m > 1
  ·rw[aZ Vc]
   refine⟨hp.lt h0 _,hp.lt h0 _,?_⟩
   by_cases c:key (p.getD 0 0) < key (p.getD (m - 1) 0)
   ·rw[decide_eq_true c]; dsimp only; rw[if_pos rfl]
    exact⟨hp,q1,by lia,q3⟩
   ·rw[decide_eq_false c]; dsimp only; rw[if_neg Bool.false_ne_true]
    have hz:m<=p.size:=by rw[hp.size]; lia
    have heq: ∀a,a < m->kf key p a=kf key p (m - 1):=fun a ha=>by
     have h1:=q3 0 a (bp _) ha
     have h2:=q3 a (m - 1) (by lia) (by lia)
     have h3:kf key p (m - 1)<=kf key p 0:=by unfold kf; lia
     lia
    have hr: ∀a,a < m->kf key (kas_rev p 0 m) a=kf key p (m - 1):=fun a ha=>by
     rw[pN hz,aZ ⟨bp _,ha⟩]
     exact heq _ (by lia)
    refine u6 h0 (hp.rev _ _) (by lia) fun a b Iq hb=>?_
    by_cases LL:b < m
    ·rw[hr a (by lia),hr b LL]; exact fv _
    ·have e:b=m:=by lia
     subst e
     by_cases OH:a=b
     ·rw[OH]; exact fv _
     ·rw[hr a (by lia),pN hz,aO (by lia)]
      lia
  ·rw[aO Vc]
   have e:m=1:=by lia
   subst e
   refine u6 h0 hp (by lia) fun a b Iq hb=>?_
   by_cases WX:a=b
   ·rw[WX]; exact fv _
   ·have e1:a=0:=by lia
    have e2:b=1:=by lia
    subst e1 e2
    have e3:(1:Nat) - 1=0:=rfl
    rw[e3] at i7
    lia
theorem zi (h0:0 < n){p:Array Nat}{k:Nat}(hp:qK n p)(hs:lD key p k): ∀(f l r:Nat),l<=r->r<=k->r - l<=f->(∀i,i < l->kf key p i<=kf key p k)->(∀i,r<=i->i < k->kf key p k < kf key p i)->
  jY key n (fun m=>m<=k/\(∀i,i < m->kf key p i<=kf key p k)/\ ∀i,m<=i->i < k->kf key p k < kf key p i) (kas_place p k f l r)
 |0,l,r,hlr,Vd,hf,h1,h2=>by
  have e:l=r:=by lia
  subst e
  exact⟨Vd,h1,h2⟩
 |f + 1,l,r,hlr,Vd,hf,h1,h2=>by
  unfold kas_place
  by_cases OI:l≥r
  ·rw[aZ OI]
   have e:l=r:=by lia
   subst e
   exact⟨Vd,h1,h2⟩
  ·rw[aO OI]
   refine⟨hp.lt h0 _,hp.lt h0 _,?_⟩
   by_cases c:key (p.getD k 0) < key (p.getD ((l + r) / 2) 0)
   ·rw[decide_eq_true c]; dsimp only; rw[if_pos rfl]
    refine zi h0 hp hs f l ((l + r) / 2) (by lia) (by lia) (by lia) h1 fun i hi WY=>?_
    have:=hs ((l + r) / 2) i hi WY
    have c':kf key p k < kf key p ((l + r) / 2):=c
    lia
   ·rw[decide_eq_false c]; dsimp only; rw[if_neg Bool.false_ne_true]
    refine zi h0 hp hs f ((l + r) / 2 + 1) r (by lia) Vd (by lia) (fun i hi=>?_) h2
    have:=hs i ((l + r) / 2) (by lia) (by lia)
    have c': ¬ kf key p k < kf key p ((l + r) / 2):=c
    lia
theorem Ng (h0:0 < n): ∀(f:Nat) (p:Array Nat) (k:Nat),qK n p->k + f=n->lD key p k->jY key n (fun r=>qK n r/\lD key r n) (kas_bin f p k)
 |0,p,k,hp,hk,hs=>⟨hp,by rw[← hk]; exact hs⟩
 |f + 1,p,k,hp,hk,hs=>by
  unfold kas_bin
  refine jc _ (hV (fun l ⟨q1,q2,q3⟩=>?_) _ (zi h0 hp hs k 0 k (bp _) (aI _) (by lia) (fun i hi=>absurd hi (gK _)) fun i h1 h2=>by lia))
  have hz:k < p.size:=by rw[hp.size]; lia
  refine Ng h0 f _ (k + 1) ((bubble_perm p k _).trans hp) (by lia) fun a b Iq hb=>?_
  rw[Jl hz (by lia),Jl hz (by lia)]
  have el:k - (k - l)=l:=by lia
  rw[el]
  by_cases ha:a=l
  ·rw[aZ ha]
   by_cases tW:b=l
   ·rw[aZ tW]; exact fv _
   ·rw[aO tW,aZ ⟨by lia,by lia⟩]
    have:=q3 (b - 1) (by lia) (by lia)
    lia
  ·rw[aO ha]
   by_cases ZH:l < a/\a<=k
   ·rw[aZ ZH,aO (by lia),aZ ⟨by lia,by lia⟩]
    exact hs _ _ (by lia) (by lia)
   ·rw[aO ZH]
    have WZ:a < l:=by lia
    by_cases tW:b=l
    ·rw[aZ tW]; exact q2 a WZ
    ·rw[aO tW]
     by_cases Sb:l < b/\b<=k
     ·rw[aZ Sb]
      exact hs _ _ (by lia) (by lia)
     ·rw[aO Sb]
      exact hs _ _ Iq (by lia)
theorem Jo (h0:0 < n):jY key n (fun r=>qK n r/\lD key r n) (kas_sort n):=by
 unfold kas_sort
 refine jc _ (hV (fun r ⟨q1,q2,q3,q4⟩=>?_) _ (LM h0 (Lf _)))
 by_cases h:r.1 < n
 ·rw[aZ h]
  have e:max r.1 1=r.1:=by lia
  rw[e]
  exact Ng h0 _ _ _ q1 (by lia) q4
 ·rw[aO h]
  have e:r.1=n:=by lia
  rw[e] at q4
  exact⟨q1,q4⟩
end
section
variable {prog:Program}{w:World}{A:Around}{E:Value->Shared->Prop}{s:Shared}
theorem zj {a:Addr}{vs:List Value}{n:Nat}{P:PySem.Fin->Shared->Prop}{key:Nat->Int}{κ:SortKind}(ho:s.heap.get? a=some (seqObj "list" vs.toArray n))(Dd:vs.length < 64)
  (hk:2<=vs.length-> ∀(s':Shared) (Q:SortKind->Shared->Prop),(∀b o,b≠a->s.heap.get? b=some o->s'.heap.get? b=some o)->Q κ s'->wpAny (model prog w) A (keyKind' vs.toArray) Q (fun _ _=>False) s')
  (hc: ∀(s':Shared) (i j:Nat) (C:Bool->Shared->Prop),(∀b o,b≠a->s.heap.get? b=some o->s'.heap.get? b=some o)->i < vs.length->j < vs.length->C (decide (key i < key j)) s'->
   wpAny (model prog w) A (keyLt' κ (vs.getD i Value.none) (vs.getD j Value.none)) C (fun _ _=>False) s')
  (h: ∀p:Array Nat,qK vs.length p->lD key p vs.length->P (.done (.ret .none)) {s with heap:=sortedHeap s.heap a vs (p.toList.map fun i=>vs.getD i Value.none).toArray}):
  wpAny (model prog w) A (Builtin.«list.sort» ⟨[.ref a],[]⟩) P E s:=by
 rw[list_sort_plain]
 have ha:a < s.heap.objs.size:=aN ho
 have hl:sizeLine=16777216:=fe
 refine az (listItems_at ho rfl ?_)
 refine az (wA ho rfl ?_ (by rw[bC]; lia) (bp _))
 obtain⟨e1,GJ⟩: ∃e1,(s.heap.update a (Obj.mapSeq fun _=>(#[]:Array Value))).get? a=some (seqObj "list" #[] e1):=⟨_,M3 ho (fun _=> #[])⟩
 refine az (seqEpoch_at GJ rfl ?_)
 refine az (wpAny_newTuple ?_ (by show vs.length<=_; lia))
 refine az (Lg ?_ (bp _))
 refine iB ?_
 have Ve:(((s.heap.update a (Obj.mapSeq fun _=>(#[]:Array Value))).push (seqObj "tuple" vs.toArray 0)).push (seqObj "list" #[] 0)).get? a=some (seqObj "list" #[] e1):=by
  rw[mP _ _ _ (by rw[size_push',pC]; exact a8 (iZ ha)),mP _ _ _ (by rw[pC]; exact a8 ha)]
  exact GJ
 show wpAny (model prog w) A _ P E {s with heap:=((s.heap.update a (Obj.mapSeq fun _=>(#[]:Array Value))).push (seqObj "tuple" vs.toArray 0)).push (seqObj "list" #[] 0)}
 dsimp only
 have keep: ∀b o,b≠a->s.heap.get? b=some o->(((s.heap.update a (Obj.mapSeq fun _=>(#[]:Array Value))).push (seqObj "tuple" vs.toArray 0)).push (seqObj "list" #[] 0)).get? b=some o:=fun b o hb e=>
  ay _ (ay _ ((mN s.heap _ (wB hb)).trans e))
 have hsz:vs.toArray.size=vs.length:=by simp
 by_cases h2:vs.toArray.size < 2
 ·rw[aZ h2,aZ h2]
  refine az (bF ?_)
  rw[StateT.run_pure]
  refine az (bF ?_)
  dsimp only
  have DR:(arrOf (SortSt.mk' general' (vs.toArray.zip vs.toArray) #[] 7 none)).map (·.2)=((List.toArray (List.range vs.length)).toList.map fun i=>vs.getD i Value.none).toArray:=by
   show(vs.toArray.zip vs.toArray).map (·.2)=_
   apply Array.toList_inj.mp
   apply List.ext_getElem?
   intro i
   simp only[Array.toList_map,Array.toList_zip,List.getElem?_map,List.getElem?_zip_eq_some,List.getElem?_range]
   by_cases hi:i < vs.length
   ·simp[hi,List.getElem?_zip_eq_some,List.zip]
   ·simp[hi]
  refine az (seqEpoch_at Ve rfl ?_)
  rw[DR]
  refine wpAny_bind (listUpdate_at Ve rfl ?_ (Nat.zero_le _) (by simp; lia))
  simp only[bne_self_eq_false,Bool.false_eq_true,if_false]
  refine bF (h _ (Lf _) ?_)
  intro i j ZI hj
  have:i=j:=by lia
  subst this; exact fv _
 ·rw[aO h2,aO h2]
  have Sm:2<=vs.length:=by lia
  refine az (cm (hk Sm _ (fun κ' s'=>κ'=κ/\s'={s with heap:=((s.heap.update a (Obj.mapSeq fun _=>(#[]:Array Value))).push (seqObj "tuple" vs.toArray 0)).push (seqObj "list" #[] 0)}) keep ⟨rfl,rfl⟩) (fun κ' s' K0=>?_) fun _ _ x=>x.elim)
  obtain⟨rfl,rfl⟩:=K0
  refine az (cm (kat_run (Q:=fun AY s'=>s'={s with heap:=((s.heap.update a (Obj.mapSeq fun _=>(#[]:Array Value))).push (seqObj "tuple" vs.toArray 0)).push (seqObj "list" #[] 0)}/\ ∃p:Array Nat,p.size=vs.length/\arrOf AY=p.map (kas_item (vs.toArray.zip vs.toArray))/\failedOf AY=none/\qK vs.length p/\lD key p vs.length)
   (G:=fun p s'=>s'={s with heap:=((s.heap.update a (Obj.mapSeq fun _=>(#[]:Array Value))).push (seqObj "tuple" vs.toArray 0)).push (seqObj "list" #[] 0)}/\qK vs.length p/\lD key p vs.length)
   (κ:=κ') rfl Sm Dd (fun p' AY s' a1 a2 a3 a4=>⟨a4.1,p',a1,a2,a3,a4.2⟩) (u5 (fun i j C hi hj q=>hc _ i j C keep hi hj q) (fun p q=>⟨rfl,q⟩) _ (Jo (by lia)))) ?_ fun _ _ e=>e)
  rintro⟨⟨⟩,AY⟩ s' ⟨rfl,p,hp,W0,hf,q1,q2⟩
  dsimp only
  have DR:=kat_snds (ks:=vs) (vs:=vs) rfl W0
  rw[DR]
  refine az (seqEpoch_at Ve rfl ?_)
  refine az (wA Ve rfl ?_ (bp _) (by rw[bC,ae,oz,hp]; lia))
  rw[hf]
  simp only[bne_self_eq_false,Bool.false_eq_true,if_false]
  exact bF (h p q1 q2)
theorem GK {l:Addr}{vs:List Value}{Q:Value->Shared->Prop}{key:Nat->Int}{κ:SortKind}(hl:s.heap.IsList l vs.toArray)(Dd:vs.length < 64)
  (hk:2<=vs.length-> ∀(s':Shared) (Q:SortKind->Shared->Prop),(∀b o,s.heap.get? b=some o->s'.heap.get? b=some o)->Q κ s'->wpAny (model prog w) A.in1.in1 (keyKind' vs.toArray) Q (fun _ _=>False) s')
  (hc: ∀(s':Shared) (i j:Nat) (C:Bool->Shared->Prop),(∀b o,s.heap.get? b=some o->s'.heap.get? b=some o)->i < vs.length->j < vs.length->C (decide (key i < key j)) s'->
   wpAny (model prog w) A.in1.in1 (keyLt' κ (vs.getD i Value.none) (vs.getD j Value.none)) C (fun _ _=>False) s')
  (h: ∀p:Array Nat,qK vs.length p->lD key p vs.length->Q (.ref (s.heap.objs.size + 1)) {s with heap:=sortedAll s.heap vs (p.toList.map fun i=>vs.getD i Value.none).toArray}):
  wpAny (model prog w) A (call (.builtin "sorted") [.ref l]) Q E s:=by
 have Vf:sizeLine=16777216:=fe
 refine Calls.call_function_entry kind_sorted plain_sorted entry_sorted (args_sorted1 _) ?_
 unfold Builtin.«sorted»
 refine az (m:=checkCount "sorted" 1 1 _) (bF ?_)
 refine az (collect_list hl ?_ (by lia))
 refine az (Lg ?_ (by show vs.length<=_; lia))
 have hsz:((s.heap.push (seqObj "list" #[] 0)).update s.heap.objs.size (Obj.mapSeq (· ++ vs.toArray))).objs.size=s.heap.objs.size + 1:=by
  rw[pC,size_push']
 have N3:(((s.heap.push (seqObj "list" #[] 0)).update s.heap.objs.size (Obj.mapSeq (· ++ vs.toArray))).push (seqObj "list" vs.toArray 0)).get? (s.heap.objs.size + 1)=some (seqObj "list" vs.toArray 0):=by
  rw[← hsz]; exact bO _ rfl
 have keep: ∀b o,s.heap.get? b=some o->b≠s.heap.objs.size + 1/\(((s.heap.push (seqObj "list" #[] 0)).update s.heap.objs.size (Obj.mapSeq (· ++ vs.toArray))).push (seqObj "list" vs.toArray 0)).get? b=some o:=fun b o q=>by
  have i7:b < s.heap.objs.size:=aN q
  refine⟨a8 (iZ i7),?_⟩
  rw[mP _ _ _ (by rw[hsz]; exact a8 (iZ i7)),IA _ _ _ _ (a8 i7),mP _ _ _ (a8 i7)]
  exact q
 show wpAny _ _ _ _ _ {s with heap:=((s.heap.push (seqObj "list" #[] 0)).update s.heap.objs.size (Obj.mapSeq (· ++ vs.toArray))).push (seqObj "list" vs.toArray 0)}
 rw[hsz]
 refine az (iB (wpAny_call_entry slot_list_sort ⟨_,N3,rfl⟩ entry_list_sort (zj (key:=key) (κ:=κ) N3 Dd
  (fun h2 s' Q' kp q=>hk h2 s' Q' (fun b o e=>kp b o (keep b o e).1 (keep b o e).2) q) (fun s' i j C kp hi hj q=>hc s' i j C (fun b o e=>kp b o (keep b o e).1 (keep b o e).2) hi hj q) fun p a1 a2=>⟨_,rfl,?_⟩) (args_list_sort _)))
 exact bF ⟨_,rfl,h p a1 a2⟩
theorem mZ {b:Bool}{Q:Bool->Shared->Prop}: ∀{ts us:List Int} {vs ws:List Value} (i:Nat),IntsAre vs ts->IntsAre ws us->Q (HT.lexLt ts us) s->
  KatLex prog w A b (decide (ts.length < us.length)) Q (vs.zip ws) i s
 |_,_,_,_,i,.nil,.nil,q=>q
 |_,_,_,_,i,.nil,.cons _ _ _,q=>by
  show Q (decide _) s
  rw[decide_eq_true (by simp)]; exact q
 |_,_,_,_,i,.cons _ _ _,.nil,q=>by
  show Q (decide _) s
  rw[decide_eq_false (by simp)]; exact q
 |_,_,_,_,i,.cons x t r,.cons y u r',q=>by
  refine kat_cons ?_
  have he:=SeqAt.EqAt.int_int (A:=A) (s:=s) x t y u
  refine he prog w _ _ ?_
  rw[HT.l5] at q
  by_cases e:x=y
  ·rw[aZ e] at q
   have eb:(x == y)=true:=by simp[e]
   rw[eb]
   refine kat_yes ?_
   have hd: ∀(a b:Nat),decide (a + 1 < b + 1)=decide (a < b):=fun a b=>by
    rw[Bool.eq_iff_iff]; simp
   rw[bH,bH,hd]
   exact mZ (i + 1) r r' q
  ·rw[aO e] at q
   have eb:(x == y)=false:=by simpa using e
   rw[eb]
   refine kat_no ?_
   cases hb:(b && i == 0) with
   |true=>exact oneLt_int q
   |false=>exact kat_one _ _ (PyProof.Rows.lt_int q)
end
def gz (H:Hp)(ts:List (List Int))(xs:List V):Prop:=Paired (fun(t:List Int) v=> ∃p,v= .ref p/\H p=some (.tup (t.map V.int))) ts xs
theorem gz.mono {H H':Hp}{ts:List (List Int)}{xs:List V}(h:gz H ts xs)(k: ∀b xs,H b=some (.tup xs)->H' b=some (.tup xs)):gz H' ts xs:=
 Paired.iD h fun _ _ ⟨p,e,q⟩=>⟨p,e,k _ _ q⟩
theorem gz.get {H:Hp}{ts:List (List Int)}{xs:List V}(h:gz H ts xs){i:Nat}(hi:i < ts.length): ∃p,xs.getD i .eD= .ref p/\H p=some (.tup ((ts.getD i []).map V.int)):=by
 have g:ts[i]? =some ts[i]:=af hi
 obtain⟨v,hv,p,e,q⟩:=bB h g
 refine⟨p,?_,?_⟩
 ·rw[aj,hv,e]; rfl
 ·rw[aj,g]; exact q
theorem jM {xs:List V}{us:List Value}(r:Vals xs us)(i:Nat):RelV (xs.getD i .eD) (us.getD i .none):=by
 by_cases hi:i < xs.length
 ·have g:xs[i]? =some xs[i]:=af hi
  obtain⟨u,h1,h2⟩:=r.get g
  rw[aj,aj,g,h1]
  exact h2
 ·have h1:xs[i]? =none:=wH (by lia)
  rw[aj,aj,h1,r.none_of h1]
  rfl
theorem sq {xs:List V}{us:List Value}(r:Vals xs us): ∀l:List Nat,Vals (l.map fun i=>xs.getD i .eD) (l.map fun i=>us.getD i .none)
 |[]=> .nil
 |i :: l=> .cons (jM r i) (sq r l)
theorem ym {H:Hp}{ts:List (List Int)}{xs:List V}(h:gz H ts xs): ∀l:List Nat,(∀i∈l,i < ts.length)->gz H (l.map fun i=>ts.getD i []) (l.map fun i=>xs.getD i .eD)
 |[],_=> .nil
 |i :: l,hl=> .cons (by
   obtain⟨p,e,q⟩:=h.get (hl i bc)
   exact⟨p,e,q⟩) (ym h l fun j hj=>hl j (aS _ hj))
theorem range_getD {α:Type}(ts:List α)(d:α):(List.range ts.length).map (fun i=>ts.getD i d)=ts:=by
 apply List.ext_getElem?
 intro i
 rw[aB]
 by_cases hi:i < ts.length
 ·rw[List.getElem?_range hi,oy,aj,af hi]; rfl
 ·rw[List.getElem?_eq_none (by simpa using hi),List.getElem?_eq_none (by lia)]; rfl
theorem qK.list {n:Nat}{p:Array Nat}(h:qK n p):p.toList.Perm (List.range n):=by
 have:=Array.perm_iff_toList_perm.mp h
 simpa using this
theorem sV {p:Array Nat}{n:Nat}{key:Nat->Int}(hp:p.size=n)(h:lD key p n):p.toList.Pairwise (fun i j=>key i<=key j):=by
 rw[List.pairwise_iff_getElem]
 intro i j hi hj ZI
 have wR:i < p.size:=by simpa using hi
 have Vg:j < p.size:=by simpa using hj
 have:=h i j (by lia) (by lia)
 unfold kf at this
 have e1:p.getD i 0=p.toList[i]:=by simp[Array.getD,wR]
 have e2:p.getD j 0=p.toList[j]:=by simp[Array.getD,Vg]
 rw[e1,e2] at this
 exact this
section
variable {X:Cx}
theorem Inv.tupI {pins:List (Addr×Obj)}{σ:St}{H:Hp}{s:Shared}(I:Inv X pins σ H s){p:Addr}{t:List Int}(h:H p=some (.tup (t.map V.int))):
  ∃(o:Obj) (b0:List Value) (n:Nat),s.heap.get? p=some o/\o.cls= .type "tuple"/\o.data= .seq b0.toArray n/\IntsAre b0 t:=by
 obtain⟨_,b0,rv,o,ho,hc,n,hd⟩:=(show dE X.prog X.w H s.heap p (.tup (t.map V.int)) from I.cz p _ h)
 exact⟨o,b0,n,ho,hc,hd,intsAre_of rv⟩
theorem su {pins:List (Addr×Obj)}{σ:St}{H:Hp}{s:Shared}(I:Inv X pins σ H s){h':Heap}(kp: ∀b o,s.heap.get? b=some o->h'.get? b=some o): ∀{ts:List (List Int)} {xs:List V} {us:List Value},gz H ts xs->Vals xs us->(∀t∈ts,t≠[])->
  ∃fs:List Value,KatTups h' us fs/\fs.length=us.length/\ ∀v∈fs,∃n t,v= .int n t
 |[],_,us,.nil,r,_=>by
  have e:us=[]:=r.zero
  subst e
  exact⟨[],trivial,rfl,fun v hv=>by cases hv⟩
 |t :: ts,_,_,.cons ⟨p,e,q⟩ rest,.cons r1 r2,jy=>by
  subst e
  obtain⟨fs,h1,h2,h3⟩:=su I kp rest r2 fun t ht=>jy t (aS _ ht)
  obtain⟨o,b0,n,ho,hc,hd,hi⟩:=I.tupI q
  have ht:t≠[]:=jy t bc
  cases hi with
  |nil=>exact absurd rfl ht
  |cons z tk wR=>
   cases r1
   refine⟨.int z tk :: fs,⟨⟨p,o,_,n,rfl,kp _ _ ho,hc,hd,by simp⟩,h1⟩,by rw[List.length_cons,List.length_cons,h2],fun v hv=>?_⟩
   rcases aw.mp hv with rfl|hv
   ·exact⟨z,tk,rfl⟩
   ·exact h3 v hv
def OJ (K:Frag):List V->Hp->VK->Prop:=fun vs H Q=> ∃a xs ts,∃key:List Int->Int,vs=[V.ref a]/\bw K H a xs/\xs.length < 64/\gz H ts xs/\(∀t∈ts,t≠[])/\(∀t∈ts,∀u∈ts,HT.lexLt t u=decide (key t < key u))/\
 ∀D ys us,H D=none->gz H us ys->us.Perm ts->us.Pairwise (fun t u=>key t<=key u)->Q (V.ref D) (upd H D (.lst ys))
theorem qM:iT X (.builtin "sorted") (OJ X.K):=by
 intro pins s σ H xs us Q I r h
 obtain⟨a,xs,ts,key,rfl,hq,Dd,hT,jy,IK,q⟩:=h
 obtain⟨u,rfl,ru⟩:=vals1 r
 cases ru
 obtain⟨b0,rv,pl,hz⟩:=I.list hq
 have hl:=rv.length
 have i7:ts.length=xs.length:=hT.length
 refine GK (κ:=tuples' true) (key:=fun i=>key (ts.getD i [])) pl.isList (by lia) (fun h2 s' Q' kp q'=>?_) (fun s' i j C kp hi hj q'=>?_) fun p hp hup=>?_
 ·obtain⟨fs,f1,f2,f3⟩:=su I kp hT rv jy
  refine kat_kind (T:= .type "int") f1 (by lia) (fun v hv=>?_) rfl q'
  obtain⟨n,t,rfl⟩:=f3 v hv
  exact Looks.of_pure rfl
 ·obtain⟨p1,e1,g1⟩:=hT.get (i:=i) (by lia)
  obtain⟨p2,e2,g2⟩:=hT.get (i:=j) (by lia)
  have w1:=jM rv i
  have w2:=jM rv j
  rw[e1] at w1
  rw[e2] at w2
  have w1':b0.getD i Value.none= .ref p1:=w1
  have w2':b0.getD j Value.none= .ref p2:=w2
  rw[w1',w2']
  obtain⟨o1,W6,n1,GJ,hc1,lE,Sn⟩:=I.tupI g1
  obtain⟨o2,Gv,n2,QM,LN,hd2,So⟩:=I.tupI g2
  refine kat_lt (kp _ _ GJ) lE (kp _ _ QM) hd2 ?_
  have l1:=Sn.length
  have l2:=So.length
  have m1:ts.getD i []∈ts:=by rw[aj,af (show i < ts.length by lia)]; exact bN _
  have m2:ts.getD j []∈ts:=by rw[aj,af (show j < ts.length by lia)]; exact bN _
  have k:=mZ (prog:=X.prog) (w:=X.w) (A:=X.A.in1.in1) (b:=true) (Q:=C) (s:=s') 0 Sn So (by rw[IK _ m1 _ m2]; exact q')
  rw[bC,bC,l1,l2]
  exact k
 ·have mI:=hp.size
  have hD:H (s.heap.objs.size + 1)=none:=I.cz.fresh (dP _)
  obtain⟨e,he⟩:=sortedAll_at s.heap b0 (p.toList.map fun i=>b0.getD i Value.none).toArray
  refine⟨.ref (s.heap.objs.size + 1),_,I.laid (t':=s.toks) (a:=s.heap.objs.size + 1) (o:= .lst (p.toList.map fun i=>xs.getD i .eD)) (fun b o q=>sortedAll_old q) (dP _) ⟨?_,_,e,sq rv p.toList,he⟩,rfl,q _ _ (p.toList.map fun i=>ts.getD i []) hD ?_ ?_ ?_⟩
  ·rw[ae,oz,mI]
   exact a6 (iP hl.symm) hz
  ·refine ym hT p.toList fun i hi=>?_
   have:=(hp.list.mem_iff).mp hi
   rw[cW] at this
   lia
  ·have e1:=hp.list.map (fun i=>ts.getD i [])
   rw[← hl,← i7,range_getD] at e1
   exact e1
  ·rw[rW]
   exact sV mI hup
theorem sW (ns:List Int): ∀n,n<=ns.length->preSum (fun i=>ns.getD i 0) n=(ns.take n).sum
 |0,_=>by simp[preSum]
 |n + 1,h=>by
  rw[preSum,sW ns n (by lia),AX,oA,af (by lia),aj,af (by lia)]
  simp
def Sq (K:Frag):List V->Hp->VK->Prop:=fun xs H Q=> ∃(p:Addr) (ns:List Int),xs=[V.ref p]/\bw K H p (ns.map V.int)/\Q (.int ns.sum) H
theorem lF (hc:X.calm=true):iT X (.builtin "sum") (Sq X.K):=by
 intro pins s σ H xs us Q I r h
 obtain⟨p,ns,rfl,hq,q⟩:=h
 obtain⟨u,rfl,ru⟩:=vals1 r
 cases ru
 obtain⟨b0,rv,pl,hz⟩:=I.list hq
 have hI:IntsAre b0 ns:=intsAre_of rv
 have hl:=hI.length
 have hh:=I.ok.hd hc
 have hT:s.heap.IsList p b0.toArray:=pl.isList
 have hp:p < s.heap.objs.size:=by
  obtain⟨o,ho,_⟩:=hT
  exact aN ho
 have W7:p≠s.heap.objs.size:=a8 hp
 refine call_sum_walkG (wpAny_pyIter_list hT ?_)
 refine⟨_,[_,p],[_],_,_,_,fun i=>ns.getD i 0,rfl,Walks.list (A:=X.A.in1) hh _ p W7 b0.toArray,
  ⟨⟨_,Heap.get?_push_size _ rfl,rfl,rfl⟩,hT.push _⟩,fun c hc=>?_,(fun i v hv=>IntsAre.int_at hI i v (by simpa using hv)),fun h' tk t' hk=>?_⟩
 ·show c < (s.heap.push _).objs.size
  rw[oa]
  rcases aw.mp hc with rfl|hc
  ·exact gf _
  ·rcases aw.mp hc with rfl|hc
   ·exact iZ hp
   ·cases hc
 ·refine⟨.int _,H,I.kept (t':=tk) (fun b o e=>hk b o (fun hm=>?_) (ay _ e)),⟨_,rfl⟩,?_⟩
  ·rw[ao] at hm
   exact absurd hm (a8 (aN e))
  ·rw[bC,hl,sW ns ns.length (aI _),aY]
   exact q
theorem yn (a:Array Nat): ∀(n:Nat) (acc:Array Nat),((List.replicate n a).foldl (· ++ ·) acc).size=acc.size + n * a.size
 |0,acc=>by simp
 |n + 1,acc=>by
  rw[dj,eZ,yn a n,Array.size_append,wF]
  lia
def Sr:R2:=fun x y H Q=> ∃(z:Str) (n:Int),x= .str z/\y= .int n/\z.length=1/\0<=n/\n<=1000/\ ∀z':Str,z'.length<=1000->Q (.str z') H
theorem zk:oE X (binaryOp .Mult) Sr:=by
 intro pins s σ H x y v u Q I rx ry h
 obtain⟨z,n,rfl,rfl,hz,h0,h1,q⟩:=h
 obtain⟨t,rfl⟩:=rx
 obtain⟨t',rfl⟩:=ry
 refine P.mul_str ?_ (fun _ _=>?_) (fun _ _=>?_) ?_
 ·rw[ba (by lia),ba (by lia)]; rfl
 ·rw[hz]
  intro LO
  have:(2 ^ 63 - 1:Int) / n≥1:=by
   have hn:0 < n:=by
    by_cases c:0 < n
    ·exact c
    ·have e:n=0:=by lia
     subst e
     simp at LO
     lia
   exact Int.le_ediv_of_mul_le hn (by lia)
  lia
 ·rw[hz]
  unfold Builtin.Str.tooLong
  simp
  rw[fe]
  lia
 ·by_cases c:n < 1
  ·rw[aZ c]
   exact⟨by decide,⟨.str Str.empty,H,I.tok _,⟨_,rfl⟩,q _ (by show 0<=1000; lia)⟩⟩
  ·rw[aO c]
   by_cases c2:(n == 1 || z.length == 0)=true
   ·rw[aZ c2]
    exact⟨.str z,H,I,⟨_,rfl⟩,q _ (by lia)⟩
   ·rw[aO c2]
    have hsz:((List.replicate n.toNat z.cps).foldl (· ++ ·) #[]).size<=1000:=by
     rw[yn]
     have:z.cps.size=1:=hz
     rw[this]
     simp
     lia
    refine⟨?_,⟨.str _,H,I.tok _,⟨_,rfl⟩,q _ hsz⟩⟩
    show _<=_
    refine a6 hsz ?_
    rw[fe]; lia
end
inductive bD where
 |dY (aC:Str) (day A0 dO:Int)
 |qN (aC:Str) (day dO:Int)
 |note (b day dO:Int)
 |set (c b dO:Int)
 |fP (aC:Str)
 |jd (n:Int)
 |ask (aU:Bool) (aC:Str) (day:Int)
 |iH (aC:Str) (day:Int) (dh:List Int)
structure Rw where
 aC:Str
 a:Int
 b:Int
 c:Int
 d:Int
instance:Inhabited Rw:=⟨⟨"",0,0,0,0⟩⟩
structure Bk where
 aF:List Rw
 credits:List Rw
 made:List (Nat×Nat×Int)
def Bk.new:Bk:=⟨[],[],[]⟩
def Bk.cr (S:Bk)(c:Nat):Rw:=S.credits.getD c default
def Bk.bl (S:Bk)(b:Nat):Rw:=S.aF.getD b default
def Bk.dQ (S:Bk)(c b:Nat):Bool:=decide ((S.cr c).aC=(S.bl b).aC) && (decide ((S.cr c).c= -1) || decide ((S.cr c).c=(b:Int)))
def Rw.less (r:Rw)(x:Int):Rw:={r with d:=r.d - x}
def Bk.put (S:Bk)(c b:Nat)(x:Int):Bk:=⟨S.aF.set b ((S.bl b).less x),S.credits.set c ((S.cr c).less x),S.made ++ [(c,b,x)]⟩
def gQ (a b:Int):Int:=if b < a then b else a
def tY (x:Int×Nat):Int:=x.1 * 1000 + (x.2:Int)
def ins (x:Int×Nat):List (Int×Nat)->List (Int×Nat)
 |[]=>[x]
 |y :: l=>if tY x<=tY y then x :: y :: l else y :: ins x l
def eG:List (Int×Nat)->List (Int×Nat)
 |[]=>[]
 |x :: l=>ins x (eG l)
theorem Bw (x y:Int×Nat)(l:List (Int×Nat)):ins x (y :: l)=if tY x<=tY y then x :: y :: l else y :: ins x l:=rfl
theorem va (x:Int×Nat): ∀l,(ins x l).Perm (x :: l)
 |[]=>NR _
 |y :: l=>by
  unfold ins
  split
  ·exact NR _
  ·exact(List.Perm.cons y (va x l)).trans (List.Perm.swap x y l)
theorem cS: ∀l,(eG l).Perm l
 |[]=>NR _
 |x :: l=>(va x (eG l)).trans (List.Perm.cons x (cS l))
theorem Jp (x:Int×Nat): ∀l,l.Pairwise (fun a b=>tY a<=tY b)->(ins x l).Pairwise (fun a b=>tY a<=tY b)
 |[],_=>List.pairwise_singleton _ _
 |y :: l,h=>by
  rw[fq] at h
  unfold ins
  split
  ·rename_i c
   rw[fq]
   refine⟨fun z hz=>?_,fq.mpr h⟩
   rcases aw.mp hz with rfl|hz
   ·exact c
   ·exact lX c (h.1 z hz)
  ·rename_i c
   rw[fq]
   refine⟨fun z hz=>?_,Jp x l h.2⟩
   rcases aw.mp ((va x l).mem_iff.mp hz) with rfl|hz
   ·lia
   ·exact h.1 z hz
theorem vb: ∀l,(eG l).Pairwise (fun a b=>tY a<=tY b)
 |[]=>List.Pairwise.nil
 |x :: l=>Jp x _ (vb l)
theorem GL (x:Int×Nat): ∀l,(∀y∈l,tY x<=tY y)->ins x l=x :: l
 |[],_=>rfl
 |y :: l,h=>by
  unfold ins
  rw[aZ (h y bc)]
theorem vc (p:Int×Nat->Bool)(x:Int×Nat): ∀l,l.Pairwise (fun a b=>tY a<=tY b)->(ins x l).filter p=if p x then ins x (l.filter p) else l.filter p
 |[],_=>by
  unfold ins
  cases h:p x <;> simp[h,ins]
 |y :: l,hs=>by
  rw[fq] at hs
  rw[Bw]
  by_cases c:tY x<=tY y
  ·rw[aZ c]
   cases h:p x
   ·rw[List.filter_cons_of_neg (by simp[h])]
    simp
   ·rw[bS h]
    simp only[if_true]
    rw[GL x]
    intro z hz
    rcases aw.mp (dM.mp hz).1 with rfl|hz'
    ·exact c
    ·exact lX c (hs.1 z hz')
  ·rw[aO c]
   have ih:=vc p x l hs.2
   cases hy:p y
   ·rw[List.filter_cons_of_neg (by simp[hy]),ih,List.filter_cons_of_neg (by simp[hy])]
   ·rw[bS hy,ih,bS hy]
    cases h:p x
    ·simp
    ·simp only[if_true]
     rw[Bw,aO c]
theorem l8 (p:Int×Nat->Bool): ∀l,eG (l.filter p)=(eG l).filter p
 |[]=>rfl
 |x :: l=>by
  show _ =(ins x (eG l)).filter p
  rw[vc p x _ (vb l),← l8 p l]
  cases h:p x
  ·rw[List.filter_cons_of_neg (by simp[h])]
   simp
  ·rw[bS h]
   simp[eG]
def gq (rows:List Rw)(aC:Str)(key:Rw->Int):List (Int×Nat):=((List.range rows.length).filter fun k=>decide ((rows.getD k default).aC=aC)).map fun k=>(key (rows.getD k default),k)
def inOrder (rows:List Rw)(aC:Str)(key:Rw->Int):List Nat:=(eG (gq rows aC key)).map (·.2)
def vd (rows:List Rw)(aC:Str)(key:Rw->Int):List (Int×Nat):=
 ((List.range rows.length).filter fun k=>decide ((rows.getD k default).aC=aC) && decide (0 < (rows.getD k default).d)).map fun k=>(key (rows.getD k default),k)
def inTurn (rows:List Rw)(aC:Str)(key:Rw->Int):List Nat:=(eG (vd rows aC key)).map (·.2)
theorem Bx (rows:List Rw)(aC:Str)(key:Rw->Int):vd rows aC key=(gq rows aC key).filter fun x=>decide (0 < (rows.getD x.2 default).d):=by
 unfold vd gq
 rw[Lh,iz]
 congr 1
 apply i6
 intro k _
 simp[Bool.and_comm]
theorem sX {α β:Type}(f:α->β)(p:β->Bool)(l:List α):(l.filter fun x=>p (f x)).map f=(l.map f).filter p:=by
 rw[Lh]; rfl
theorem ip (rows:List Rw)(aC:Str)(key:Rw->Int):inTurn rows aC key=(inOrder rows aC key).filter fun k=>decide (0 < (rows.getD k default).d):=by
 unfold inTurn inOrder
 rw[Bx,l8]
 exact sX (fun x:Int×Nat=>x.2) (fun k=>decide (0 < (rows.getD k default).d)) _
theorem jo {rows:List Rw}{aC:Str}{key:Rw->Int}{k:Nat}:k∈inOrder rows aC key↔k < rows.length/\(rows.getD k default).aC=aC:=by
 unfold inOrder gq
 rw[bG]
 constructor
 ·rintro⟨x,hx,rfl⟩
  obtain⟨j,hj,rfl⟩:=bG.mp ((cS _).mem_iff.mp hx)
  simpa using hj
 ·rintro⟨h1,h2⟩
  refine⟨(key (rows.getD k default),k),(cS _).mem_iff.mpr (bG.mpr ⟨k,?_,rfl⟩),rfl⟩
  exact List.mem_filter.mpr ⟨List.mem_range.mpr h1,by simpa using h2⟩
theorem dv {rows:List Rw}{aC:Str}{key:Rw->Int}{k:Nat}:k∈inTurn rows aC key↔k < rows.length/\(rows.getD k default).aC=aC/\0 < (rows.getD k default).d:=by
 rw[ip,dM,jo]
 simp[and_assoc]
theorem wU (rows:List Rw)(aC:Str)(key:Rw->Int):(inOrder rows aC key).Nodup:=by
 have h:((eG (gq rows aC key)).map (·.2)).Perm ((gq rows aC key).map (·.2)):=(cS _).map _
 refine h.nodup_iff.mpr ?_
 unfold gq
 rw[dD]
 have e:((fun x:Int×Nat=>x.2) ∘ fun k=>(key (rows.getD k default),k))=id:=rfl
 rw[e,tS]
 exact jB.filter _
theorem jI (rows:List Rw)(aC:Str)(key:Rw->Int):(inTurn rows aC key).Nodup:=by
 rw[ip]
 exact(wU rows aC key).filter _
def oF (r r':Rw):Prop:=r'.aC=r.aC/\r'.a=r.a/\r'.b=r.b/\r'.c=r.c
theorem oF.refl (r:Rw):oF r r:=⟨rfl,rfl,rfl,rfl⟩
theorem oF.trans {r s t:Rw}(h:oF r s)(k:oF s t):oF r t:=⟨k.1.trans h.1,k.2.1.trans h.2.1,k.2.2.1.trans h.2.2.1,k.2.2.2.trans h.2.2.2⟩
theorem By {rows iI:List Rw}{aC:Str}{key:Rw->Int}(hk: ∀r r',oF r r'->key r'=key r)(hl:iI.length=rows.length)(h: ∀k,oF (rows.getD k default) (iI.getD k default)):gq iI aC key=gq rows aC key:=by
 unfold gq
 rw[hl]
 have e:(fun k=>decide ((iI.getD k default).aC=aC))=fun k=>decide ((rows.getD k default).aC=aC):=by
  funext k
  rw[(h k).1]
 rw[e]
 apply fO
 intro k _
 rw[hk _ _ (h k)]
theorem zl {rows iI:List Rw}{aC:Str}{key:Rw->Int}(hk: ∀r r',oF r r'->key r'=key r)(hl:iI.length=rows.length)(h: ∀k,oF (rows.getD k default) (iI.getD k default)):inOrder iI aC key=inOrder rows aC key:=by
 unfold inOrder
 rw[By hk hl h]
theorem zo {rows iI:List Rw}{aC:Str}{key:Rw->Int}(hk: ∀r r',oF r r'->key r'=key r)(hl:iI.length=rows.length)(h: ∀k,oF (rows.getD k default) (iI.getD k default))(hd: ∀k,(iI.getD k default).d<=(rows.getD k default).d):
  inTurn iI aC key=(inTurn rows aC key).filter fun k=>decide (0 < (iI.getD k default).d):=by
 rw[ip,ip,zl hk hl h,iz]
 apply i6
 intro k _
 have:=hd k
 by_cases c:0 < (iI.getD k default).d
 ·have c2:0 < (rows.getD k default).d:=by lia
  rw[aG c,aG c2]
  rfl
 ·rw[ba c]
  rfl
def bT (exact:Bool)(c:Nat)(S:Bk)(b:Nat):Bk:=
 if 0 < (S.cr c).d/\S.dQ c b=true/\((S.cr c).d=(S.bl b).d∨exact=false) then S.put c b (gQ (S.cr c).d (S.bl b).d) else S
def cq (aC:Str)(exact:Bool)(S:Bk)(c:Nat):Bk:=(inTurn S.aF aC (·.b)).foldl (bT exact c) S
def bR (aC:Str)(S:Bk)(exact:Bool):Bk:=(inTurn S.credits aC (·.a)).foldl (cq aC exact) S
def Bk.iV (S:Bk)(aC:Str):Bk:=bR aC (bR aC S true) false
theorem Bz {α:Type}{l:List α}{i k:Nat}{v d:α}(h:i < l.length):(l.set i v).getD k d=if k=i then v else l.getD k d:=by
 rw[aj,aj]
 by_cases c:k=i
 ·subst c
  rw[aZ rfl,lp h]
  rfl
 ·rw[aO c,mM (fun z=>c z.symm)]
theorem pO {S:Bk}{c b k:Nat}{x:Int}(h:b < S.aF.length):(S.put c b x).bl k=if k=b then(S.bl b).less x else S.bl k:=Bz h
theorem pP {S:Bk}{c b k:Nat}{x:Int}(h:c < S.credits.length):(S.put c b x).cr k=if k=c then(S.cr c).less x else S.cr k:=Bz h
def kF (S:Bk)(l:List (Nat×Nat×Int)):Bk:=l.foldl (fun S t=>S.put t.1 t.2.1 t.2.2) S
theorem m8 (S:Bk)(l m:List (Nat×Nat×Int)):kF S (l ++ m)=kF (kF S l) m:=by
 unfold kF; rw[List.foldl_append]
theorem jN (S:Bk): ∀l,(kF S l).made=S.made ++ l
 |[]=>by simp[kF]
 |t :: l=>by
  show(kF (S.put t.1 t.2.1 t.2.2) l).made=_
  rw[jN _ l]
  simp[Bk.put]
structure Later (S S':Bk):Prop where
 bl:S'.aF.length=S.aF.length
 cl:S'.credits.length=S.credits.length
 b: ∀k,oF (S.bl k) (S'.bl k)/\(S'.bl k).d<=(S.bl k).d
 c: ∀k,oF (S.cr k) (S'.cr k)/\(S'.cr k).d<=(S.cr k).d
theorem Later.refl (S:Bk):Later S S:=⟨rfl,rfl,fun k=>⟨oF.refl _,fv _⟩,fun k=>⟨oF.refl _,fv _⟩⟩
theorem Later.trans {S T U:Bk}(h:Later S T)(k:Later T U):Later S U:=
 ⟨k.bl.trans h.bl,k.cl.trans h.cl,fun i=>⟨(h.b i).1.trans (k.b i).1,lX (k.b i).2 (h.b i).2⟩,fun i=>⟨(h.c i).1.trans (k.c i).1,lX (k.c i).2 (h.c i).2⟩⟩
theorem Later.put {S:Bk}{c b:Nat}{x:Int}(hb:b < S.aF.length)(hc:c < S.credits.length)(hx:0<=x):Later S (S.put c b x):=by
 refine⟨eY,eY,fun k=>?_,fun k=>?_⟩
 ·rw[pO hb]
  split
  ·rename_i e
   subst e
   exact⟨oF.refl _,by show(S.bl k).d - x<=_; lia⟩
  ·exact⟨oF.refl _,fv _⟩
 ·rw[pP hc]
  split
  ·rename_i e
   subst e
   exact⟨oF.refl _,by show(S.cr k).d - x<=_; lia⟩
  ·exact⟨oF.refl _,fv _⟩
theorem Later.dQ {S T:Bk}(h:Later S T)(c b:Nat):T.dQ c b=S.dQ c b:=by
 unfold Bk.dQ
 rw[(h.c c).1.1,(h.b b).1.1,(h.c c).1.2.2.2]
theorem Later.Nh {S T:Bk}(h:Later S T)(aC:Str):inTurn T.aF aC (·.b)=(inTurn S.aF aC (·.b)).filter fun k=>decide (0 < (T.bl k).d):=
 zo (fun r r' z=>z.2.2.1) h.bl (fun k=>(h.b k).1) (fun k=>(h.b k).2)
def hX (f:Int)(ls:List Int)(row:List Bool)(tk:Nat->Bool):Option Nat:=(List.range ls.length).find? fun j=>row.getD j false && decide (ls.getD j 0=f) && !tk j
def bW (fs ls:List Int)(al:List (List Bool)):Nat->(Nat->Bool)×List (Nat×Nat×Int)
 |0=>(fun _=>false,[])
 |i + 1=>match hX (fs.getD i 0) ls (al.getD i []) (bW fs ls al i).1 with
  |none=>bW fs ls al i
  |some j=>(fun x=>x == j || (bW fs ls al i).1 x,(bW fs ls al i).2 ++ [(i,j,fs.getD i 0)])
def l9 (gs ts:List Nat)(t:Nat×Nat×Int):Nat×Nat×Int:=(gs.getD t.1 0,ts.getD t.2.1 0,t.2.2)
theorem sx {α:Type}(l:List α)(d:α):(List.range l.length).map (fun j=>l.getD j d)=l:=by
 apply List.ext_getElem
 ·rw[ae,dA]
 ·intro i h1 h2
  rw[List.getElem_map,List.getElem_range,aj,af h2]
  rfl
theorem DS {α:Type}(l:List α)(d:α)(p:α->Bool):l.find? p=((List.range l.length).find? fun j=>p (l.getD j d)).map fun j=>l.getD j d:=by
 have e:l.find? p=((List.range l.length).map (fun j=>l.getD j d)).find? p:=by rw[sx]
 rw[e,List.find?_map]
 rfl
theorem jZ {l:List Nat}{i:Nat}(h:i < l.length):l.getD i 0∈l:=by
 rw[aj,af h]
 exact bN _
theorem getD_map {α β:Type}(f:α->β)(l:List α)(i:Nat)(d:α)(e:β)(h:i < l.length):(l.map f).getD i e=f (l.getD i d):=by
 rw[aj,aj,aB,af h]
 rfl
theorem getD_inj {l:List Nat}(nd:l.Nodup){i j:Nat}(hi:i < l.length)(hj:j < l.length)(h:l.getD i 0=l.getD j 0):i=j:=by
 rw[aj,aj,af hi,af hj] at h
 exact(List.getElem_inj nd).mp h
theorem idle {ex:Bool}{c:Nat}: ∀{l:List Nat} {S:Bk},(S.cr c).d<=0->l.foldl (bT ex c) S=S
 |[],_,_=>rfl
 |b :: l,S,h=>by
  rw[eZ]
  have e:bT ex c S b=S:=by
   unfold bT
   rw[aO (fun z=>by lia)]
  rw[e]
  exact idle h
theorem E6 {c:Nat}{S:Bk}(hc:c < S.credits.length): ∀{l:List Nat},(∀b∈l,b < S.aF.length)->0 < (S.cr c).d->l.foldl (bT true c) S=match l.find? (fun b=>S.dQ c b && decide ((S.bl b).d=(S.cr c).d)) with
  |none=>S
  |some b=>S.put c b (S.cr c).d
 |[],_,_=>rfl
 |b :: l,hl,h=>by
  rw[eZ]
  by_cases z:(S.dQ c b && decide ((S.bl b).d=(S.cr c).d))=true
  ·rw[List.find?_cons_of_pos (p:=fun b=>S.dQ c b && decide ((S.bl b).d=(S.cr c).d)) z]
   have z':S.dQ c b=true/\(S.bl b).d=(S.cr c).d:=by simpa using z
   have e:bT true c S b=S.put c b (S.cr c).d:=by
    unfold bT
    rw[aZ ⟨h,z'.1,.inl z'.2.symm⟩,z'.2]
    congr 1
    unfold gQ
    split <;> rfl
   rw[e]
   refine idle ?_
   rw[pP hc,aZ rfl]
   show(S.cr c).d - (S.cr c).d<=0
   lia
  ·rw[List.find?_cons_of_neg (p:=fun b=>S.dQ c b && decide ((S.bl b).d=(S.cr c).d)) z]
   have e:bT true c S b=S:=by
    unfold bT
    rw[aO]
    rintro⟨_,z1,z2⟩
    rcases z2 with z2|z2
    ·exact z (by simp[z1,z2])
    ·cases z2
   rw[e]
   exact E6 hc (fun x hx=>hl x (aS _ hx)) h
structure ve (S:Bk)(aC:Str)(gs ts:List Nat)(fs ls:List Int)(al:List (List Bool)):Prop where
 eg:gs=inTurn S.credits aC (·.a)
 et:ts=inTurn S.aF aC (·.b)
 ef:fs=gs.map fun g=>(S.cr g).d
 el:ls=ts.map fun t=>(S.bl t).d
 ea:al=gs.map fun g=>ts.map fun t=>S.dQ g t
section
variable {S:Bk}{aC:Str}{gs ts:List Nat}{fs ls:List Int}{al:List (List Bool)}
theorem ve.g (R:ve S aC gs ts fs ls al){i:Nat}(h:i < gs.length):gs.getD i 0 < S.credits.length/\0 < (S.cr (gs.getD i 0)).d/\fs.getD i 0=(S.cr (gs.getD i 0)).d:=by
 have m:=jZ h
 rw[R.eg] at m
 obtain⟨m1,_,m3⟩:=dv.mp m
 rw[← R.eg] at m1 m3
 exact⟨m1,m3,by rw[R.ef,getD_map _ gs i 0 0 h]⟩
theorem ve.t (R:ve S aC gs ts fs ls al){i:Nat}(h:i < ts.length):ts.getD i 0 < S.aF.length/\0 < (S.bl (ts.getD i 0)).d/\ls.getD i 0=(S.bl (ts.getD i 0)).d:=by
 have m:=jZ h
 rw[R.et] at m
 obtain⟨m1,_,m3⟩:=dv.mp m
 rw[← R.et] at m1 m3
 exact⟨m1,m3,by rw[R.el,getD_map _ ts i 0 0 h]⟩
theorem ve.a (R:ve S aC gs ts fs ls al){i j:Nat}(hi:i < gs.length)(hj:j < ts.length):(al.getD i []).getD j false=S.dQ (gs.getD i 0) (ts.getD j 0):=by
 rw[R.ea,getD_map _ gs i 0 [] hi,getD_map _ ts j 0 false hj]
theorem ve.gn (R:ve S aC gs ts fs ls al):gs.Nodup:=by rw[R.eg]; exact jI _ _ _
theorem ve.tn (R:ve S aC gs ts fs ls al):ts.Nodup:=by rw[R.et]; exact jI _ _ _
theorem ve.ll (R:ve S aC gs ts fs ls al):ls.length=ts.length:=by rw[R.el,ae]
theorem ve.tm (R:ve S aC gs ts fs ls al){b:Nat}(h:b∈ts):b < S.aF.length:=by
 rw[R.et] at h
 exact(dv.mp h).1
theorem pQ {l:List Nat}{i:Nat}(h:i < l.length):l.take (i + 1)=l.take i ++ [l.getD i 0]:=by
 rw[AX,af h,aj,af h]
 rfl
structure W8 (S:Bk)(aC:Str)(gs ts:List Nat)(fs ls:List Int)(i:Nat)(st:(Nat->Bool)×List (Nat×Nat×Int))(Si:Bk):Prop where
 run:(gs.take i).foldl (cq aC true) S=Si
 eq:Si=kF S (st.2.map (l9 gs ts))
 later:Later S Si
 b: ∀j,j < ts.length->(Si.bl (ts.getD j 0)).d=if st.1 j=true then 0 else ls.getD j 0
 c: ∀k,i<=k->k < gs.length->(Si.cr (gs.getD k 0)).d=fs.getD k 0
theorem BA (R:ve S aC gs ts fs ls al){i:Nat}{Si:Bk}(hi:i < gs.length)(J:W8 S aC gs ts fs ls i (bW fs ls al i) Si): ∃S',W8 S aC gs ts fs ls (i + 1) (bW fs ls al (i + 1)) S':=by
 obtain⟨g1,g2,g3⟩:=R.g hi
 have gc:gs.getD i 0 < Si.credits.length:=by rw[J.later.cl]; exact g1
 have fr:(Si.cr (gs.getD i 0)).d=fs.getD i 0:=J.c i (aI _) hi
 have fp:0 < (Si.cr (gs.getD i 0)).d:=by rw[fr,g3]; exact g2
 have find:((inTurn Si.aF aC (·.b)).find? fun b=>Si.dQ (gs.getD i 0) b && decide ((Si.bl b).d=(Si.cr (gs.getD i 0)).d))=(hX (fs.getD i 0) ls (al.getD i []) (bW fs ls al i).1).map fun j=>ts.getD j 0:=by
  rw[J.later.Nh,← R.et,List.find?_filter,DS ts 0]
  unfold hX
  rw[R.ll]
  congr 1
  have q: ∀j∈List.range ts.length,(decide (0 < (Si.bl (ts.getD j 0)).d) && (Si.dQ (gs.getD i 0) (ts.getD j 0) && decide ((Si.bl (ts.getD j 0)).d=(Si.cr (gs.getD i 0)).d)))=((al.getD i []).getD j false && decide (ls.getD j 0=fs.getD i 0) && !(bW fs ls al i).1 j):=by
   intro j hj
   have hj:=cW.mp hj
   rw[R.a hi hj,J.later.dQ,J.b j hj,fr]
   obtain⟨_,t2,t3⟩:=R.t hj
   cases h:(bW fs ls al i).1 j
   ·simp only[Bool.false_eq_true,if_false,Bool.not_false,Bool.and_true]
    rw[t3,aG t2]
    simp
   ·simp
  have key: ∀(l:List Nat) (p q:Nat->Bool),(∀j∈l,p j=q j)->l.find? p=l.find? q:=by
   intro l p q h
   induction l with
   |nil=>rfl
   |cons x l ih=>
    rw[List.find?_cons,List.find?_cons,h x bc,ih fun j hj=>h j (aS _ hj)]
  refine key _ _ _ fun j hj=>?_
  rw[← q j hj]
  simp
 have run:(gs.take (i + 1)).foldl (cq aC true) S=match(hX (fs.getD i 0) ls (al.getD i []) (bW fs ls al i).1).map (fun j=>ts.getD j 0) with
   |none=>Si
   |some b=>Si.put (gs.getD i 0) b (Si.cr (gs.getD i 0)).d:=by
  rw[pQ hi,rX,J.run]
  show cq aC true Si (gs.getD i 0)=_
  unfold cq
  rw[E6 gc (fun b hb=>(dv.mp hb).1) fp,find]
 cases h:hX (fs.getD i 0) ls (al.getD i []) (bW fs ls al i).1 with
 |none=>
  rw[h] at run
  have e:bW fs ls al (i + 1)=bW fs ls al i:=by rw[bW,h]
  rw[e]
  exact⟨Si,run,J.eq,J.later,J.b,fun k h1 h2=>J.c k (by lia) h2⟩
 |some j=>
  rw[h] at run
  have e:bW fs ls al (i + 1)=(fun x=>x == j || (bW fs ls al i).1 x,(bW fs ls al i).2 ++ [(i,j,fs.getD i 0)]):=by rw[bW,h]
  have hj:j < ts.length:=by
   unfold hX at h
   have:=NS h
   rw[R.ll] at this
   exact cW.mp this
  have ZJ:(al.getD i []).getD j false=true/\ls.getD j 0=fs.getD i 0/\(bW fs ls al i).1 j=false:=by
   unfold hX at h
   have:=List.find?_some h
   simpa[and_assoc] using this
  obtain⟨t1,t2,t3⟩:=R.t hj
  have tb:ts.getD j 0 < Si.aF.length:=by rw[J.later.bl]; exact t1
  have f0:0<=fs.getD i 0:=by rw[g3]; lia
  have run':(gs.take (i + 1)).foldl (cq aC true) S=Si.put (gs.getD i 0) (ts.getD j 0) (fs.getD i 0):=by
   rw[run,← fr]
   rfl
  rw[e]
  refine⟨Si.put (gs.getD i 0) (ts.getD j 0) (fs.getD i 0),run',?_,J.later.trans (Later.put tb gc f0),fun j' Vg=>?_,fun k h1 h2=>?_⟩
  ·rw[aJ,m8,← J.eq]
   rfl
  ·rw[pO tb]
   by_cases q:j'=j
   ·subst q
    rw[aZ rfl]
    simp only[beq_self_eq_true,Bool.true_or,if_true]
    show(Si.bl (ts.getD j' 0)).d - fs.getD i 0=0
    rw[J.b j' hj,ZJ.2.2,aO (by decide),ZJ.2.1]
    lia
   ·rw[aO fun z=>q (getD_inj R.tn Vg hj z),J.b j' Vg]
    have:(j' == j)=false:=by simpa using q
    show _ =if(j' == j || (bW fs ls al i).1 j')=true then 0 else _
    rw[this,Bool.false_or]
  ·rw[pP gc,aO fun z=>by have:=getD_inj R.gn h2 hi z; lia]
   exact J.c k (by lia) h2
theorem vf (R:ve S aC gs ts fs ls al): ∀i,i<=gs.length-> ∃Si,W8 S aC gs ts fs ls i (bW fs ls al i) Si
 |0,_=>⟨S,rfl,rfl,Later.refl S,fun j hj=>by
   obtain⟨_,_,t3⟩:=R.t hj
   show _ =if false=true then 0 else _
   rw[aO (by decide),t3],fun k _ h2=>by
   obtain⟨_,_,g3⟩:=R.g h2
   exact g3.symm⟩
 |i + 1,h=>by
  obtain⟨Si,J⟩:=vf R i (by lia)
  exact BA R (by lia) J
theorem Jq (R:ve S aC gs ts fs ls al):bR aC S true=kF S ((bW fs ls al gs.length).2.map (l9 gs ts))/\Later S (bR aC S true):=by
 obtain⟨Si,J⟩:=vf R gs.length (aI _)
 have e:bR aC S true=Si:=by
  unfold bR
  rw[← R.eg,← J.run,aY]
 rw[e]
 exact⟨J.eq,J.later⟩
end
theorem E7 {l:List Int}{i j:Nat}{v:Int}(h:i≠j):(l.set i v).getD j 0=l.getD j 0:=by
 rw[aj,aj,mM h]
theorem LP {l:List Int}{i:Nat}{v:Int}(h:i < l.length):(l.set i v).getD i 0=v:=by
 rw[aj,lp h]; rfl
def dN (l:List Int)(ps:List (Nat×Int)):List Int:=ps.foldl (fun l x=>l.set x.1 (l.getD x.1 0 - x.2)) l
theorem sY (l:List Int)(ps:List (Nat×Int))(x:Nat×Int):dN l (ps ++ [x])=(dN l ps).set x.1 ((dN l ps).getD x.1 0 - x.2):=by
 unfold dN; rw[List.foldl_append]; rfl
theorem pS (ps:List (Nat×Int)): ∀l:List Int,(dN l ps).length=l.length:=by
 induction ps with
 |nil=>intro l; rfl
 |cons x ps ih=>
  intro l
  show(dN (l.set x.1 _) ps).length=_
  rw[ih,eY]
def bE (f:Int)(l:List Int)(row:List Bool):Nat->Int×List (Nat×Int)
 |0=>(f,[])
 |j + 1=>if row.getD j false=true/\0 < gQ (bE f l row j).1 (l.getD j 0) then((bE f l row j).1 - gQ (bE f l row j).1 (l.getD j 0),(bE f l row j).2 ++ [(j,gQ (bE f l row j).1 (l.getD j 0))]) else bE f l row j
def cu (fs ls:List Int)(al:List (List Bool)):Nat->List Int×List (Nat×Nat×Int)
 |0=>(ls,[])
 |i + 1=>(dN (cu fs ls al i).1 (bE (fs.getD i 0) (cu fs ls al i).1 (al.getD i []) (cu fs ls al i).1.length).2,
   (cu fs ls al i).2 ++ (bE (fs.getD i 0) (cu fs ls al i).1 (al.getD i []) (cu fs ls al i).1.length).2.map fun x=>(i,x.1,x.2))
theorem jO (fs ls:List Int)(al:List (List Bool)): ∀i,(cu fs ls al i).1.length=ls.length
 |0=>rfl
 |i + 1=>by
  show(dN _ _).length=_
  rw[pS,jO fs ls al i]
def gu (c:Nat)(S:Bk)(b:Nat):Bk:=if 0 < (S.bl b).d then bT false c S b else S
theorem Jr {c b:Nat}{S:Bk}(hc:c < S.credits.length)(hb:b < S.aF.length):Later S (gu c S b)/\ ∀k,k≠b->((gu c S b).bl k).d=(S.bl k).d:=by
 unfold gu bT
 split
 ·rename_i h1
  split
  ·rename_i h2
   refine⟨Later.put hb hc ?_,fun k hk=>by rw[pO hb,aO hk]⟩
   unfold gQ
   split <;> lia
  ·exact⟨Later.refl S,fun _ _=>rfl⟩
 ·exact⟨Later.refl S,fun _ _=>rfl⟩
theorem E8 {c:Nat}{S0:Bk}: ∀{l:List Nat} {S:Bk},l.Nodup->c < S.credits.length->(∀b∈l,b < S.aF.length)->(∀b∈l,(S.bl b).d=(S0.bl b).d)->
  (l.filter fun b=>decide (0 < (S0.bl b).d)).foldl (bT false c) S=l.foldl (gu c) S
 |[],_,_,_,_,_=>rfl
 |b :: l,S,nd,hc,hl,hd=>by
  rw[eu] at nd
  obtain⟨lt,ot⟩:=Jr (S:=S) hc (hl b bc)
  have ih:=E8 (S:=gu c S b) (S0:=S0) (l:=l) nd.2 (by rw[lt.cl]; exact hc) (fun x hx=>by rw[lt.bl]; exact hl x (aS _ hx)) (fun x hx=>by
   rw[ot x (fun z=>nd.1 (z▸hx))]
   exact hd x (aS _ hx))
  rw[eZ,← ih]
  have e:=hd b bc
  by_cases z:0 < (S0.bl b).d
  ·rw[List.filter_cons_of_pos (by simpa using z),List.foldl_cons]
   congr 1
   unfold gu
   rw[aZ (by lia)]
  ·rw[List.filter_cons_of_neg (by simpa using z)]
   congr 1
   unfold gu
   rw[aO (by lia)]
section
variable {S:Bk}{aC:Str}{gs ts:List Nat}{fs ls:List Int}{al:List (List Bool)}
structure OK (S:Bk)(ts:List Nat)(c:Nat)(L:List Int)(j:Nat)(st:Int×List (Nat×Int))(Sj:Bk):Prop where
 run:(ts.take j).foldl (gu c) S=Sj
 eq:Sj=kF S (st.2.map fun x=>(c,ts.getD x.1 0,x.2))
 later:Later S Sj
 f:(Sj.cr c).d=st.1
 b: ∀k,k < ts.length->(Sj.bl (ts.getD k 0)).d=(dN L st.2).getD k 0
 lt: ∀x∈st.2,x.1 < j
 oc: ∀k,k≠c->Sj.cr k=S.cr k
theorem zp {c:Nat}{L:List Int}{row:List Bool}(nd:ts.Nodup)(hc:c < S.credits.length)(ht: ∀b∈ts,b < S.aF.length)(hL:L.length=ts.length)(hb: ∀k,k < ts.length->(S.bl (ts.getD k 0)).d=L.getD k 0)
  (hr: ∀k,k < ts.length->row.getD k false=S.dQ c (ts.getD k 0)) {j:Nat} (hj:j < ts.length) {Sj:Bk} (J:OK S ts c L j (bE (S.cr c).d L row j) Sj): ∃S',OK S ts c L (j + 1) (bE (S.cr c).d L row (j + 1)) S':=by
 have ap:(dN L (bE (S.cr c).d L row j).2).getD j 0=L.getD j 0:=by
  have other: ∀(ps:List (Nat×Int)) (l:List Int),(∀x∈ps,x.1≠j)->(dN l ps).getD j 0=l.getD j 0:=by
   intro ps
   induction ps with
   |nil=>intro l h; rfl
   |cons x ps ih=>
    intro l h
    show(dN (l.set x.1 _) ps).getD j 0=_
    rw[ih _ fun y hy=>h y (aS _ hy),E7 (h x bc)]
  exact other _ _ fun x hx=>a8 (J.lt x hx)
 have bd:(Sj.bl (ts.getD j 0)).d=L.getD j 0:=by rw[J.b j hj,ap]
 have cj:c < Sj.credits.length:=by rw[J.later.cl]; exact hc
 have bj:ts.getD j 0 < Sj.aF.length:=by rw[J.later.bl]; exact ht _ (jZ hj)
 have run:(ts.take (j + 1)).foldl (gu c) S=gu c Sj (ts.getD j 0):=by
  rw[pQ hj,rX,J.run]
  rfl
 have g:Sj.dQ c (ts.getD j 0)=row.getD j false:=by rw[J.later.dQ,hr j hj]
 by_cases z:row.getD j false=true/\0 < gQ (bE (S.cr c).d L row j).1 (L.getD j 0)
 ·have e:bE (S.cr c).d L row (j + 1)=((bE (S.cr c).d L row j).1 - gQ (bE (S.cr c).d L row j).1 (L.getD j 0),(bE (S.cr c).d L row j).2 ++ [(j,gQ (bE (S.cr c).d L row j).1 (L.getD j 0))]):=by
   rw[bE,aZ z]
  have z1:0 < (Sj.bl (ts.getD j 0)).d/\0 < (Sj.cr c).d:=by
   rw[bd,J.f]
   have:=z.2
   unfold gQ at this
   split at this <;> lia
  have e2:gu c Sj (ts.getD j 0)=Sj.put c (ts.getD j 0) (gQ (bE (S.cr c).d L row j).1 (L.getD j 0)):=by
   unfold gu bT
   rw[aZ z1.1,aZ ⟨z1.2,by rw[g]; exact z.1,.inr rfl⟩,J.f,bd]
  rw[e]
  refine⟨_,run.trans e2,?_,J.later.trans (Later.put bj cj (by lia)),?_,fun k hk=>?_,fun x hx=>?_,fun k hk=>?_⟩
  ·rw[aJ,m8,← J.eq]
   rfl
  ·rw[pP cj,aZ rfl]
   show(Sj.cr c).d - _ =_
   rw[J.f]
  ·rw[pO bj,sY]
   have len:(dN L (bE (S.cr c).d L row j).2).length=ts.length:=by rw[pS,hL]
   by_cases q:k=j
   ·subst q
    rw[aZ rfl,LP (by rw[len]; exact hk)]
    show(Sj.bl (ts.getD k 0)).d - _ =(dN L _).getD k 0 - _
    rw[J.b k hk]
   ·rw[aO fun w=>q (getD_inj nd hk hj w),J.b k hk,E7 (wB q)]
  ·rcases bq.mp hx with hx|hx
   ·have:=J.lt x hx
    lia
   ·rw[ao.mp hx]
    exact gf _
  ·rw[pP cj,aO hk]
   exact J.oc k hk
 ·have e:bE (S.cr c).d L row (j + 1)=bE (S.cr c).d L row j:=by rw[bE,aO z]
  have e2:gu c Sj (ts.getD j 0)=Sj:=by
   unfold gu bT
   split
   ·rename_i h1
    rw[aO]
    rintro⟨h2,h3,_⟩
    refine z ⟨by rw[← g]; exact h3,?_⟩
    rw[bd] at h1
    rw[J.f] at h2
    unfold gQ
    split <;> assumption
   ·rfl
  rw[e]
  exact⟨Sj,run.trans e2,J.eq,J.later,J.f,J.b,fun x hx=>by have:=J.lt x hx; lia,J.oc⟩
theorem E9 {c:Nat}{L:List Int}{row:List Bool}(nd:ts.Nodup)(hc:c < S.credits.length)(ht: ∀b∈ts,b < S.aF.length)(hL:L.length=ts.length)(hb: ∀k,k < ts.length->(S.bl (ts.getD k 0)).d=L.getD k 0)
  (hr: ∀k,k < ts.length->row.getD k false=S.dQ c (ts.getD k 0)): ∀j,j<=ts.length-> ∃Sj,OK S ts c L j (bE (S.cr c).d L row j) Sj
 |0,_=>⟨S,rfl,rfl,Later.refl S,rfl,hb,(fun _ h=>by cases h),fun _ _=>rfl⟩
 |j + 1,h=>by
  obtain⟨Sj,J⟩:=E9 nd hc ht hL hb hr j (by lia)
  exact zp nd hc ht hL hb hr (by lia) J
structure W9 (S:Bk)(aC:Str)(gs ts:List Nat)(fs:List Int)(i:Nat)(st:List Int×List (Nat×Nat×Int))(Si:Bk):Prop where
 run:(gs.take i).foldl (cq aC false) S=Si
 eq:Si=kF S (st.2.map (l9 gs ts))
 later:Later S Si
 b: ∀j,j < ts.length->(Si.bl (ts.getD j 0)).d=st.1.getD j 0
 c: ∀k,i<=k->k < gs.length->(Si.cr (gs.getD k 0)).d=fs.getD k 0
theorem BB (R:ve S aC gs ts fs ls al){i:Nat}{Si:Bk}(hi:i < gs.length)(J:W9 S aC gs ts fs i (cu fs ls al i) Si): ∃S',W9 S aC gs ts fs (i + 1) (cu fs ls al (i + 1)) S':=by
 obtain⟨g1,g2,g3⟩:=R.g hi
 have gc:gs.getD i 0 < Si.credits.length:=by rw[J.later.cl]; exact g1
 have fr:(Si.cr (gs.getD i 0)).d=fs.getD i 0:=J.c i (aI _) hi
 have tl:(cu fs ls al i).1.length=ts.length:=by rw[jO,R.ll]
 have tb: ∀b∈ts,b < Si.aF.length:=fun b hb=>by rw[J.later.bl]; exact R.tm hb
 obtain⟨S',K⟩:=E9 (S:=Si) (ts:=ts) (c:=gs.getD i 0) (L:=(cu fs ls al i).1) (row:=al.getD i []) R.tn gc tb tl J.b (fun k hk=>by rw[R.a hi hk,J.later.dQ]) ts.length (aI _)
 have e:(gs.take (i + 1)).foldl (cq aC false) S=S':=by
  rw[pQ hi,rX,J.run]
  show cq aC false Si (gs.getD i 0)=_
  unfold cq
  rw[J.later.Nh,← R.et,E8 R.tn gc tb (fun _ _=>rfl),← K.run,aY]
 rw[fr] at K
 have pe:bE (fs.getD i 0) (cu fs ls al i).1 (al.getD i []) ts.length=bE (fs.getD i 0) (cu fs ls al i).1 (al.getD i []) (cu fs ls al i).1.length:=by rw[tl]
 rw[pe] at K
 refine⟨S',e,?_,J.later.trans K.later,K.b,fun k h1 h2=>?_⟩
 ·show S'=kF S (((cu fs ls al i).2 ++ _).map (l9 gs ts))
  rw[aJ,m8,← J.eq,K.eq,dD]
  rfl
 ·rw[K.oc _ fun z=>by have:=getD_inj R.gn h2 hi z; lia]
  exact J.c k (by lia) h2
theorem vg (R:ve S aC gs ts fs ls al): ∀i,i<=gs.length-> ∃Si,W9 S aC gs ts fs i (cu fs ls al i) Si
 |0,_=>⟨S,rfl,rfl,Later.refl S,fun j hj=>by
   obtain⟨_,_,t3⟩:=R.t hj
   exact t3.symm,fun k _ h2=>by
   obtain⟨_,_,g3⟩:=R.g h2
   exact g3.symm⟩
 |i + 1,h=>by
  obtain⟨Si,J⟩:=vg R i (by lia)
  exact BB R (by lia) J
theorem Js (R:ve S aC gs ts fs ls al):bR aC S false=kF S ((cu fs ls al gs.length).2.map (l9 gs ts))/\Later S (bR aC S false):=by
 obtain⟨Si,J⟩:=vg R gs.length (aI _)
 have e:bR aC S false=Si:=by
  unfold bR
  rw[← R.eg,← J.run,aY]
 rw[e]
 exact⟨J.eq,J.later⟩
end
inductive yo where
 |int (i:Int)
 |txt (s:Str)
 |sets (l:List (Nat×Nat×Int))
 |pairs (l:List (Nat×Int))
 |ints (l:List Int)
def bD.isSet:bD->Bool
 | .set _ _ _=>true
 | .fP _=>true
 |_=>false
def bD.tells:bD->Bool
 | .dY _ _ _ _=>true
 | .qN _ _ _=>true
 | .note _ _ _=>true
 | .set _ _ _=>true
 | .fP _=>true
 |_=>false
def qp (x:Int)(n:Nat):Prop:=0<=x/\x < (n:Int)
instance (x:Int) (n:Nat):Decidable (qp x n):=inferInstanceAs (Decidable (_/\_))
def Bk.bar (S:Bk):bD->Str
 | .dY _ day A0 dO=>if dO < 1 then "no amount" else if A0 < day then "too early" else ""
 | .qN _ _ dO=>if dO < 1 then "no amount" else ""
 | .note b _ dO=>if ¬ qp b S.aF.length then "no bill" else if dO < 1 then "no amount" else ""
 | .set c b dO=>if ¬ qp c S.credits.length then "no credit" else if ¬ qp b S.aF.length then "no bill" else if S.dQ c.toNat b.toNat=false then "not theirs" else
   if dO < 1 then "no amount" else if gQ (S.cr c.toNat).d (S.bl b.toNat).d < dO then "too much" else ""
 |_=>""
theorem vh (S:Bk)(b d a:Int):S.bar (.note b d a)=(if ¬ qp b S.aF.length then("no bill":Str) else if a < 1 then("no amount":Str) else("":Str)):=rfl
theorem zq (S:Bk)(c b a:Int):S.bar (.set c b a)=(if ¬ qp c S.credits.length then("no credit":Str) else if ¬ qp b S.aF.length then("no bill":Str) else if S.dQ c.toNat b.toNat=false then("not theirs":Str) else
   if a < 1 then("no amount":Str) else if gQ (S.cr c.toNat).d (S.bl b.toNat).d < a then("too much":Str) else("":Str)):=rfl
theorem n1:("no credit":Str)≠"":=by decide +kernel
theorem n2:("no bill":Str)≠"":=by decide +kernel
theorem n3:("not theirs":Str)≠"":=by decide +kernel
theorem n4:("no amount":Str)≠"":=by decide +kernel
theorem n6:("too much":Str)≠"":=by decide +kernel
theorem oh {S:Bk}{b d a:Int}(h:S.bar (.note b d a)=""):qp b S.aF.length/\1<=a:=by
 rw[vh] at h
 split at h
 ·exact absurd h n2
 ·rename_i q
  split at h
  ·exact absurd h n4
  ·exact⟨F9.mp q,by lia⟩
theorem m9 {S:Bk}{c b a:Int}(h:S.bar (.set c b a)=""):qp c S.credits.length/\qp b S.aF.length/\S.dQ c.toNat b.toNat=true/\1<=a/\a<=(S.cr c.toNat).d/\a<=(S.bl b.toNat).d:=by
 rw[zq] at h
 split at h
 ·exact absurd h n1
 rename_i q1
 split at h
 ·exact absurd h n2
 rename_i q2
 split at h
 ·exact absurd h n3
 rename_i q3
 split at h
 ·exact absurd h n4
 rename_i q4
 split at h
 ·exact absurd h n6
 rename_i q5
 refine⟨Classical.not_not.mp q1,Classical.not_not.mp q2,by simpa using q3,by lia,?_⟩
 unfold gQ at q5
 split at q5 <;> lia
def Bk.iy (S:Bk)(r:Rw):Bk:={S with aF:=S.aF ++ [r]}
def Bk.fS (S:Bk)(r:Rw):Bk:={S with credits:=S.credits ++ [r]}
def Bk.enter (S:Bk):bD->Bk
 | .dY w d u a=>S.iy ⟨w,d,u,a,a⟩
 | .qN w d a=>S.fS ⟨w,d,a,-1,a⟩
 | .note b d a=>S.fS ⟨(S.bl b.toNat).aC,d,a,b,a⟩
 | .set c b a=>S.put c.toNat b.toNat a
 | .fP w=>S.iV w
 |_=>S
def Bk.LQ (S:Bk):bD->yo
 | .dY _ _ _ _=> .int S.aF.length
 | .qN _ _ _=> .int S.credits.length
 | .note _ _ _=> .int S.credits.length
 | .set _ _ a=> .int a
 | .fP w=> .sets ((S.iV w).made.drop S.made.length)
 |_=> .int 0
def cI:List (Int×bD)->Bk->Option Bk
 |[],S=>some S
 |(_,d) :: l,S=>if S.bar d="" then cI l (S.enter d) else none
def iJ:List (Int×bD)->Bk->Str
 |[],_=>""
 |(_,d) :: l,S=>if S.bar d="" then iJ l (S.enter d) else S.bar d
def Bk.fh (S:Bk)(t:Nat×Nat×Int):Int:=if(S.bl t.2.1).a > (S.cr t.1).a then(S.bl t.2.1).a else(S.cr t.1).a
def spotOf (aU:Bool)(t:Nat×Nat×Int):Nat:=if aU then t.2.1 else t.1
def Bk.cnt (S:Bk)(aU:Bool)(k:Nat)(day:Int)(t:Nat×Nat×Int):Bool:=decide (spotOf aU t=k) && decide (S.fh t<=day)
def Bk.rows (S:Bk)(aU:Bool):List Rw:=if aU then S.aF else S.credits
def qO (aU:Bool)(r:Rw):Int:=if aU then r.c else r.b
def keyOf (aU:Bool)(r:Rw):Int:=if aU then r.b else r.a
def Bk.rest (S:Bk)(aU:Bool)(k:Nat)(day:Int):Int:=qO aU ((S.rows aU).getD k default) - ((S.made.filter (S.cnt aU k day)).map (·.2.2)).sum
def Bk.dH (S:Bk)(aU:Bool)(aC:Str)(day:Int):List (Nat×Int):=
 ((inOrder (S.rows aU) aC (keyOf aU)).filter fun k=>decide (((S.rows aU).getD k default).a<=day) && decide (0 < S.rest aU k day)).map fun k=>(k,S.rest aU k day)
def placeOf (fh:Int)(dh:List Int):Nat:=if fh<=0 then 0 else 1 + (dh.filter fun l=>decide (l < fh)).length
def sZ (l:List Int)(i:Nat)(x:Int):List Int:=l.set i (l.getD i 0 + x)
def Bk.OL (S:Bk)(aC:Str)(day:Int)(dh:List Int):List Int:=
 (S.dH true aC day).foldl (fun l t=>sZ l (placeOf (day - (S.bl t.1).b) dh) t.2) (List.replicate (dh.length + 2) 0)
structure gR where
 steps:List (Int×bD)
 bk:Bk
def gR.new:gR:=⟨[],Bk.new⟩
def cA (m:Int)(st:Int×bD):Bool:= !(decide (st.1=m) && st.2.isSet)
def dZ (T:gR)(n:Int):bD->yo×gR
 | .jd m=>if(T.steps.filter (cA m)).length=T.steps.length then(.txt "no setting",T) else
   match cI (T.steps.filter (cA m)) Bk.new with
   |none=>(.txt "needed",T)
   |some S=>(.txt "undone",⟨T.steps.filter (cA m),S⟩)
 | .ask o w d=>(.pairs (T.bk.dH o w d),T)
 | .iH w d l=>(.ints (T.bk.OL w d l),T)
 |d=>if T.bk.bar d="" then(T.bk.LQ d,⟨T.steps ++ [(n,d)],T.bk.enter d⟩) else(.txt (T.bk.bar d),T)
def dB:List bD->gR->Nat->List yo×gR
 |[],T,_=>([],T)
 |d :: l,T,n=>((dZ T n d).1 :: (dB l (dZ T n d).2 (n + 1)).1,(dB l (dZ T n d).2 (n + 1)).2)
structure WF (S:Bk)(n:Nat):Prop where
 m: ∀t∈S.made,t.1 < S.credits.length/\t.2.1 < S.aF.length
 o: ∀c,c < S.credits.length->(S.cr c).c= -1∨ ∃b:Nat,(S.cr c).c=(b:Int)/\b < S.aF.length/\(S.cr c).aC=(S.bl b).aC
 lb:S.aF.length<=n
 lc:S.credits.length<=n
 lm:S.made.length<=8000 * n
theorem WF.new:WF Bk.new 0:=⟨(fun t h=>by cases h),fun c h=>absurd h (gK _),aI _,aI _,aI _⟩
theorem WF.mono {S:Bk}{n m:Nat}(h:WF S n)(k:n<=m):WF S m:=⟨h.m,h.o,a6 h.lb k,a6 h.lc k,a6 h.lm (Nat.mul_le_mul_left _ k)⟩
theorem getD_snoc {α:Type}{l:List α}{x d:α}{k:Nat}(h:k < l.length):(l ++ [x]).getD k d=l.getD k d:=by
 rw[aj,aj,NT h]
theorem getD_last {α:Type}{l:List α}{x d:α}:(l ++ [x]).getD l.length d=x:=by
 rw[aj,fW (aI _)]
 simp
theorem WF.iy {S:Bk}{n:Nat}(h:WF S n)(r:Rw):WF (S.iy r) (n + 1):=by
 have len:(S.iy r).aF.length=S.aF.length + 1:=by simp[Bk.iy]
 refine⟨fun t ht=>⟨(h.m t ht).1,by rw[len]; have:=(h.m t ht).2; lia⟩,fun c hc=>?_,by rw[len]; have:=h.lb; lia,by have:=h.lc; exact Ga this,by have:=h.lm; show S.made.length<=_; lia⟩
 rcases h.o c hc with z|⟨b,z1,z2,z3⟩
 ·exact .inl z
 ·refine .inr ⟨b,z1,by rw[len]; lia,?_⟩
  show(S.cr c).aC=((S.aF ++ [r]).getD b default).aC
  rw[getD_snoc z2]
  exact z3
theorem WF.fS {S:Bk}{n:Nat}(h:WF S n)(r:Rw)(hr:r.c= -1∨ ∃b:Nat,r.c=(b:Int)/\b < S.aF.length/\r.aC=(S.bl b).aC):WF (S.fS r) (n + 1):=by
 have len:(S.fS r).credits.length=S.credits.length + 1:=by simp[Bk.fS]
 refine⟨fun t ht=>⟨by rw[len]; have:=(h.m t ht).1; lia,(h.m t ht).2⟩,fun c hc=>?_,by have:=h.lb; exact Ga this,by rw[len]; have:=h.lc; lia,by have:=h.lm; show S.made.length<=_; lia⟩
 by_cases q:c < S.credits.length
 ·have e:(S.fS r).cr c=S.cr c:=getD_snoc q
  rw[e]
  exact h.o c q
 ·have q':c=S.credits.length:=by lia
  have e:(S.fS r).cr c=r:=by rw[q']; exact getD_last
  rw[e]
  exact hr
theorem WF.later {S S':Bk}{n m:Nat}(h:WF S n)(l:Later S S')(hm: ∀t∈S'.made,t.1 < S.credits.length/\t.2.1 < S.aF.length)(hn:n<=m)(hl:S'.made.length<=8000 * m):WF S' m:=by
 refine⟨fun t ht=>by rw[l.cl,l.bl]; exact hm t ht,fun c hc=>?_,by rw[l.bl]; exact a6 h.lb hn,by rw[l.cl]; exact a6 h.lc hn,hl⟩
 rw[l.cl] at hc
 rw[(l.c c).1.2.2.2,(l.c c).1.1]
 rcases h.o c hc with z|⟨b,z1,z2,z3⟩
 ·exact .inl z
 ·exact .inr ⟨b,z1,by rw[l.bl]; exact z2,by rw[(l.b b).1.1]; exact z3⟩
theorem vi: ∀{n:Nat} {l:List Nat},l.Nodup->(∀x∈l,x < n)->l.length<=n
 |0,l,_,h=>by
  cases l with
  |nil=>exact aI _
  |cons x l=>exact absurd (h x bc) (gK _)
 |n + 1,l,nd,h=>by
  by_cases q:n∈l
  ·have h1:=vi (n:=n) (l:=l.erase n) (nd.erase n) (fun x hx=>by
    have h2:=h x (List.mem_of_mem_erase hx)
    have h3:x≠n:=fun z=>(List.Nodup.mem_erase_iff nd).mp hx |>.1 z
    lia)
   rw[List.length_erase_of_mem q] at h1
   lia
  ·have:=vi (n:=n) nd (fun x hx=>by
    have h2:=h x hx
    have h3:x≠n:=fun z=>q (z▸hx)
    lia)
   lia
theorem j7 (rows:List Rw)(aC:Str)(key:Rw->Int):(inTurn rows aC key).length<=rows.length:=vi (jI _ _ _) fun _ h=>(dv.mp h).1
theorem iq (fs ls:List Int)(al:List (List Bool)): ∀i,(bW fs ls al i).2.length<=i
 |0=>aI _
 |i + 1=>by
  have:=iq fs ls al i
  unfold bW
  split
  ·lia
  ·rw[aH]
   show _ + 1<=_
   lia
theorem gA (f:Int)(l:List Int)(row:List Bool): ∀j,(bE f l row j).2.length<=j
 |0=>aI _
 |j + 1=>by
  have:=gA f l row j
  rw[bE]
  split
  ·rw[aH]
   show _ + 1<=_
   lia
  ·lia
theorem pT (fs ls:List Int)(al:List (List Bool)): ∀i,(cu fs ls al i).2.length<=i * ls.length
 |0=>by simp[cu]
 |i + 1=>by
  have h1:=pT fs ls al i
  have h2:=gA (fs.getD i 0) (cu fs ls al i).1 (al.getD i []) (cu fs ls al i).1.length
  show((cu fs ls al i).2 ++ _).length<=_
  rw[aH,ae,wF]
  rw[jO] at h2 ⊢
  lia
theorem md (fs ls:List Int)(al:List (List Bool)): ∀i,∀t∈(bW fs ls al i).2,t.1 < i/\t.2.1 < ls.length
 |0,t,h=>by cases h
 |i + 1,t,h=>by
  rw[bW] at h
  split at h
  ·have:=md fs ls al i t h
   lia
  ·rename_i j hj
   rcases bq.mp h with h|h
   ·have:=md fs ls al i t h
    lia
   ·rw[ao.mp h]
    unfold hX at hj
    have:=cW.mp (NS hj)
    exact⟨gf _,this⟩
theorem pU (f:Int)(l:List Int)(row:List Bool): ∀j,∀x∈(bE f l row j).2,x.1 < j
 |0,x,h=>by cases h
 |j + 1,x,h=>by
  rw[bE] at h
  split at h
  ·rcases bq.mp h with h|h
   ·have:=pU f l row j x h
    lia
   ·rw[ao.mp h]
    exact gf _
  ·have:=pU f l row j x h
   lia
theorem vj (fs ls:List Int)(al:List (List Bool)): ∀i,∀t∈(cu fs ls al i).2,t.1 < i/\t.2.1 < ls.length
 |0,t,h=>by cases h
 |i + 1,t,h=>by
  rcases bq.mp (show t∈(cu fs ls al i).2 ++ _ from h) with h|h
  ·have:=vj fs ls al i t h
   lia
  ·obtain⟨x,hx,rfl⟩:=bG.mp h
   have:=pU _ _ _ _ x hx
   rw[jO] at this
   exact⟨gf _,this⟩
def ZK (S:Bk)(aC:Str):ve S aC (inTurn S.credits aC (·.a)) (inTurn S.aF aC (·.b)) ((inTurn S.credits aC (·.a)).map fun g=>(S.cr g).d) ((inTurn S.aF aC (·.b)).map fun t=>(S.bl t).d)
  ((inTurn S.credits aC (·.a)).map fun g=>(inTurn S.aF aC (·.b)).map fun t=>S.dQ g t):=⟨rfl,rfl,rfl,rfl,rfl⟩
theorem Fb {S:Bk}{gs ts:List Nat}{l:List (Nat×Nat×Int)}(hl: ∀t∈l,t.1 < gs.length/\t.2.1 < ts.length)(hg: ∀g∈gs,g < S.credits.length)(ht: ∀t∈ts,t < S.aF.length): ∀t∈l.map (l9 gs ts),t.1 < S.credits.length/\t.2.1 < S.aF.length:=by
 intro t h
 obtain⟨x,hx,rfl⟩:=bG.mp h
 obtain⟨h1,h2⟩:=hl x hx
 exact⟨hg _ (jZ h1),ht _ (jZ h2)⟩
theorem vk (S:Bk)(aC:Str)(ex:Bool):Later S (bR aC S ex)/\ ∃l,(bR aC S ex).made=S.made ++ l/\(∀t∈l,t.1 < S.credits.length/\t.2.1 < S.aF.length)/\l.length<=S.credits.length + S.credits.length * S.aF.length:=by
 have gl:=j7 S.credits aC (·.a)
 have tl:=j7 S.aF aC (·.b)
 have hg: ∀g∈inTurn S.credits aC (·.a),g < S.credits.length:=fun g h=>(dv.mp h).1
 have ht: ∀t∈inTurn S.aF aC (·.b),t < S.aF.length:=fun g h=>(dv.mp h).1
 have mul:(inTurn S.credits aC (·.a)).length * (inTurn S.aF aC (·.b)).length<=S.credits.length * S.aF.length:=qv gl tl
 cases ex with
 |true=>
  obtain⟨e,l⟩:=Jq (ZK S aC)
  refine⟨l,_,by rw[e]; exact jN _ _,Fb (fun t h=>?_) hg ht,?_⟩
  ·have:=md _ _ _ _ t h
   rwa [ae] at this
  ·rw[ae]
   have:=iq ((inTurn S.credits aC (·.a)).map fun g=>(S.cr g).d) ((inTurn S.aF aC (·.b)).map fun t=>(S.bl t).d) ((inTurn S.credits aC (·.a)).map fun g=>(inTurn S.aF aC (·.b)).map fun t=>S.dQ g t) (inTurn S.credits aC (·.a)).length
   lia
 |false=>
  obtain⟨e,l⟩:=Js (ZK S aC)
  refine⟨l,_,by rw[e]; exact jN _ _,Fb (fun t h=>?_) hg ht,?_⟩
  ·have:=vj _ _ _ _ t h
   rwa [ae] at this
  ·rw[ae]
   have:=pT ((inTurn S.credits aC (·.a)).map fun g=>(S.cr g).d) ((inTurn S.aF aC (·.b)).map fun t=>(S.bl t).d) ((inTurn S.credits aC (·.a)).map fun g=>(inTurn S.aF aC (·.b)).map fun t=>S.dQ g t) (inTurn S.credits aC (·.a)).length
   rw[ae] at this
   lia
theorem qP (S:Bk)(aC:Str):Later S (S.iV aC)/\ ∃l,(S.iV aC).made=S.made ++ l/\(∀t∈l,t.1 < S.credits.length/\t.2.1 < S.aF.length)/\l.length<=2 * (S.credits.length + S.credits.length * S.aF.length):=by
 obtain⟨l1,m1,e1,h1,n1⟩:=vk S aC true
 obtain⟨l2,m2,e2,h2,n2⟩:=vk (bR aC S true) aC false
 refine⟨l1.trans l2,m1 ++ m2,by show(bR aC (bR aC S true) false).made=_; rw[e2,e1,dU],fun t ht=>?_,?_⟩
 ·rcases bq.mp ht with ht|ht
  ·exact h1 t ht
  ·have:=h2 t ht
   rwa [l1.cl,l1.bl] at this
 ·rw[l1.cl,l1.bl] at n2
  rw[aH]
  lia
theorem WF.enter {S:Bk}{n:Nat}{d:bD}(h:WF S n)(hn:n < 60)(hb:S.bar d=""):WF (S.enter d) (n + 1):=by
 cases d with
 |dY w d u a=>exact h.iy _
 |qN w d a=>exact h.fS _ (.inl rfl)
 |note b d a=>
  refine h.fS _ (.inr ⟨b.toNat,?_⟩)
  have z:=(oh hb).1
  obtain⟨z1,z2⟩:=z
  refine⟨?_,?_,rfl⟩
  ·show b=(b.toNat:Int)
   lia
  ·lia
 |set c b a=>
  obtain⟨zc,zb,_,za,_⟩:=m9 hb
  obtain⟨c1,c2⟩:=zc
  obtain⟨b1,b2⟩:=zb
  have l:Later S (S.put c.toNat b.toNat a):=Later.put (by lia) (by lia) (by lia)
  refine h.later l (fun t ht=>?_) (dP _) ?_
  ·rcases bq.mp ht with ht|ht
   ·exact h.m t ht
   ·rw[ao.mp ht]
    show c.toNat < _/\b.toNat < _
    lia
  ·show(S.made ++ [_]).length<=_
   rw[aH]
   have:=h.lm
   show _ + 1<=_
   lia
 |fP w=>
  obtain⟨l,m,e,h1,h2⟩:=qP S w
  refine h.later l (fun t ht=>?_) (dP _) ?_
  ·rw[show(S.enter (.fP w)).made=S.made ++ m from e] at ht
   rcases bq.mp ht with ht|ht
   ·exact h.m t ht
   ·exact h1 t ht
  ·show(S.iV w).made.length<=_
   rw[e,aH]
   have h3:=h.lm
   have h4:=h.lb
   have h5:=h.lc
   have:S.credits.length * S.aF.length<=60 * 60:=qv (by lia) (by lia)
   lia
 |jd m=>exact h.mono (dP _)
 |ask o w d=>exact h.mono (dP _)
 |iH w d l=>exact h.mono (dP _)
structure ng (S T:Bk):Prop where
 bl:T.aF.length=S.aF.length
 cl:T.credits.length=S.credits.length
 b: ∀k,oF (S.bl k) (T.bl k)
 c: ∀k,oF (S.cr k) (T.cr k)
theorem oF.symm {r s:Rw}(h:oF r s):oF s r:=⟨h.1.symm,h.2.1.symm,h.2.2.1.symm,h.2.2.2.symm⟩
theorem ng.refl (S:Bk):ng S S:=⟨rfl,rfl,fun _=>oF.refl _,fun _=>oF.refl _⟩
theorem ng.symm {S T:Bk}(h:ng S T):ng T S:=⟨h.bl.symm,h.cl.symm,fun k=>(h.b k).symm,fun k=>(h.c k).symm⟩
theorem ng.trans {S T U:Bk}(h:ng S T)(k:ng T U):ng S U:=⟨k.bl.trans h.bl,k.cl.trans h.cl,fun i=>(h.b i).trans (k.b i),fun i=>(h.c i).trans (k.c i)⟩
theorem Later.se {S T:Bk}(h:Later S T):ng S T:=⟨h.bl,h.cl,fun k=>(h.b k).1,fun k=>(h.c k).1⟩
theorem ng.dQ {S T:Bk}(h:ng S T)(c b:Nat):T.dQ c b=S.dQ c b:=by
 unfold Bk.dQ
 rw[(h.c c).1,(h.b b).1,(h.c c).2.2.2]
theorem sy {l m:List Rw}{r s:Rw}(hl:m.length=l.length)(h: ∀k,oF (l.getD k default) (m.getD k default))(hr:oF r s)(k:Nat):oF ((l ++ [r]).getD k default) ((m ++ [s]).getD k default):=by
 by_cases q:k < l.length
 ·rw[getD_snoc q,getD_snoc (by rw[hl]; exact q)]
  exact h k
 ·by_cases e:k=l.length
  ·subst e
   rw[getD_last,← hl,getD_last]
   exact hr
  ·have o1:(l ++ [r]).getD k default=default:=by
    rw[aj,wH (by rw[aH]; show l.length + 1<=k; lia)]
    rfl
   have o2:(m ++ [s]).getD k default=default:=by
    rw[aj,wH (by rw[aH]; show m.length + 1<=k; lia)]
    rfl
   rw[o1,o2]
   exact oF.refl _
theorem Jt {S T:Bk}(h:ng S T){d:bD}(hb:S.bar d=""):T.bar d=""∨T.bar d="too much":=by
 cases d with
 |note b d a=>
  obtain⟨z1,z2⟩:=oh hb
  left
  rw[vh,h.bl,aO (fun z=>z z1),aO (by lia)]
 |set c b a=>
  obtain⟨z1,z2,z3,z4,_⟩:=m9 hb
  rw[zq,h.bl,h.cl,h.dQ,aO (fun z=>z z1),aO (fun z=>z z2),aO (by rw[z3]; decide),aO (by lia)]
  split
  ·exact .inr rfl
  ·exact .inl rfl
 |dY w d u a=>exact .inl hb
 |qN w d a=>exact .inl hb
 |fP w=>exact .inl rfl
 |jd m=>exact .inl rfl
 |ask o w d=>exact .inl rfl
 |iH w d l=>exact .inl rfl
theorem lG {S:Bk}{d:bD}(hs:d.isSet=true)(hb:S.bar d=""):Later S (S.enter d):=by
 cases d with
 |set c b a=>
  obtain⟨⟨_,_⟩,⟨_,_⟩,_,_,_⟩:=m9 hb
  exact Later.put (by lia) (by lia) (by lia)
 |fP w=>exact(qP S w).1
 |dY w d u a=>cases hs
 |qN w d a=>cases hs
 |note b d a=>cases hs
 |jd m=>cases hs
 |ask o w d=>cases hs
 |iH w d l=>cases hs
theorem DT {S T:Bk}(h:ng S T){d:bD}(hs:S.bar d="")(ht:T.bar d=""):ng (S.enter d) (T.enter d):=by
 cases d with
 |dY w d u a=>exact⟨by simp[Bk.enter,Bk.iy,h.bl],h.cl,sy h.bl h.b (oF.refl _),h.c⟩
 |qN w d a=>exact⟨h.bl,by simp[Bk.enter,Bk.fS,h.cl],h.b,sy h.cl h.c (oF.refl _)⟩
 |note b d a=>exact⟨h.bl,by simp[Bk.enter,Bk.fS,h.cl],h.b,sy h.cl h.c ⟨(h.b _).1,rfl,rfl,rfl⟩⟩
 |set c b a=>exact(lG rfl hs).se.symm.trans (h.trans (lG rfl ht).se)
 |fP w=>exact(lG (d:= .fP w) rfl hs).se.symm.trans (h.trans (lG (d:= .fP w) rfl ht).se)
 |jd m=>exact h
 |ask o w d=>exact h
 |iH w d l=>exact h
theorem OM (m:Int): ∀(l:List (Int×bD)) {S T:Bk},ng S T->(cI l S).isSome=true->iJ (l.filter (cA m)) T=""∨iJ (l.filter (cA m)) T="too much"
 |[],_,_,_,_=> .inl rfl
 |(n,d) :: l,S,T,h,hw=>by
  unfold cI at hw
  split at hw
  ·rename_i hb
   by_cases k:cA m (n,d)=true
   ·rw[bS k]
    unfold iJ
    split
    ·rename_i ht
     exact OM m l (DT h hb ht) hw
    ·rename_i ht
     exact .inr ((Jt h hb).resolve_left ht)
   ·rw[eA k]
    have ds:d.isSet=true:=by
     unfold cA at k
     simp at k
     exact k.2
    exact OM m l ((lG ds hb).se.symm.trans h) hw
  ·cases hw
theorem sC: ∀(l:List (Int×bD)) {S T:Bk} {n:Nat},WF S n->cI l S=some T->n + l.length<=60->WF T (n + l.length)
 |[],S,T,n,h,e,_=>by
  cases e
  exact h
 |(k,d) :: l,S,T,n,h,e,hl=>by
  unfold cI at e
  split at e
  ·rename_i hb
   have len:((k,d) :: l).length=l.length + 1:=rfl
   rw[len] at hl ⊢
   have:=sC l (h.enter (by lia) hb) e (by lia)
   rwa [show n + (l.length + 1)=n + 1 + l.length by lia]
  ·cases e
theorem k6: ∀(l m:List (Int×bD)) (S:Bk),cI (l ++ m) S=(cI l S).bind (cI m)
 |[],m,S=>rfl
 |(k,d) :: l,m,S=>by
  show(if S.bar d="" then cI (l ++ m) (S.enter d) else none)=(if S.bar d="" then cI l (S.enter d) else none).bind (cI m)
  split
  ·exact k6 l m _
  ·rfl
structure Good (T:gR)(n:Nat):Prop where
 w:cI T.steps Bk.new=some T.bk
 lt: ∀st∈T.steps,0<=st.1/\st.1 < (n:Int)
 inc:T.steps.Pairwise fun a b=>a.1 < b.1
 tl: ∀st∈T.steps,st.2.tells=true
 len:T.steps.length<=n
theorem Good.new:Good gR.new 0:=⟨rfl,(fun _ h=>by cases h),List.Pairwise.nil,(fun _ h=>by cases h),aI _⟩
theorem Good.mono {T:gR}{n m:Nat}(h:Good T n)(k:n<=m):Good T m:=⟨h.w,fun st hs=>⟨(h.lt st hs).1,by have:=(h.lt st hs).2; lia⟩,h.inc,h.tl,a6 h.len k⟩
theorem Good.wf {T:gR}{n:Nat}(h:Good T n)(hn:n<=60):WF T.bk n:=by
 have z:=sC T.steps WF.new h.w (by have:=h.len; lia)
 rw[Nat.zero_add] at z
 exact z.mono h.len
theorem Good.add {T:gR}{n:Nat}(h:Good T n){d:bD}(ht:d.tells=true)(hb:T.bk.bar d=""):Good ⟨T.steps ++ [((n:Int),d)],T.bk.enter d⟩ (n + 1):=by
 refine⟨?_,fun st hs=>?_,?_,fun st hs=>?_,?_⟩
 ·show cI (T.steps ++ [((n:Int),d)]) Bk.new=_
  rw[k6,h.w]
  show(if T.bk.bar d="" then some (T.bk.enter d) else none)=_
  rw[aZ hb]
 ·rcases bq.mp hs with hs|hs
  ·have:=h.lt st hs
   lia
  ·rw[ao.mp hs]
   show(0:Int)<=(n:Int)/\(n:Int) < _
   lia
 ·rw[List.pairwise_append]
  refine⟨h.inc,List.pairwise_singleton _ _,fun a ha b hb=>?_⟩
  rw[ao.mp hb]
  exact(h.lt a ha).2
 ·rcases bq.mp hs with hs|hs
  ·exact h.tl st hs
  ·rw[ao.mp hs]
   exact ht
 ·show(T.steps ++ [_]).length<=_
  rw[aH]
  have:=h.len
  show _ + 1<=_
  lia
theorem Good.step {T:gR}{n:Nat}(h:Good T n)(d:bD):Good (dZ T n d).2 (n + 1):=by
 have keep:=h.mono (dP n)
 have dflt: ∀d:bD,d.tells=true->Good (if T.bk.bar d="" then(T.bk.LQ d,(⟨T.steps ++ [((n:Int),d)],T.bk.enter d⟩:gR)) else(.txt (T.bk.bar d),T)).2 (n + 1):=fun d ht=>by
  split
  ·rename_i hb
   exact h.add ht hb
  ·exact keep
 cases d with
 |jd m=>
  show Good (if(T.steps.filter (cA m)).length=T.steps.length then(yo.txt "no setting",T) else
   match cI (T.steps.filter (cA m)) Bk.new with
   |none=>(.txt "needed",T)
   |some S=>(.txt "undone",⟨T.steps.filter (cA m),S⟩)).2 (n + 1)
  split
  ·exact keep
  ·cases e:cI (T.steps.filter (cA m)) Bk.new with
   |none=>exact keep
   |some S=>
    refine⟨e,fun st hs=>?_,h.inc.filter _,fun st hs=>h.tl st (dM.mp hs).1,?_⟩
    ·have:=h.lt st (dM.mp hs).1
     lia
    ·have h1:=a7 (cA m) T.steps
     have h2:=h.len
     show(T.steps.filter (cA m)).length<=_
     lia
 |ask o w d=>exact keep
 |iH w d l=>exact keep
 |dY w d u a=>exact dflt _ rfl
 |qN w d a=>exact dflt _ rfl
 |note b d a=>exact dflt _ rfl
 |set c b a=>exact dflt _ rfl
 |fP w=>exact dflt _ rfl
theorem kK: ∀(l:List bD) (T:gR) (n:Nat),(dB l T n).1.length=l.length
 |[],_,_=>rfl
 |d :: l,T,n=>by
  show(dB l _ _).1.length + 1=_
  rw[kK l]
  rfl
def bD.dt:bD->Dt
 | .dY w d u a=> .tup [.str "bill",.str w,.int d,.int u,.int a]
 | .qN w d a=> .tup [.str "pay",.str w,.int d,.int a]
 | .note b d a=> .tup [.str "note",.int b,.int d,.int a]
 | .set c b a=> .tup [.str "set",.int c,.int b,.int a]
 | .fP w=> .tup [.str "sweep",.str w]
 | .jd n=> .tup [.str "undo",.int n]
 | .ask o w d=> .tup [.str (if o then "owed" else "free"),.str w,.int d]
 | .iH w d l=> .tup [.str "ages",.str w,.int d,.tup (l.map Dt.int)]
def vm:Int:=10 ^ 62
theorem Fc {x:Int}(h:x<=10 ^ 60):x<=vm:=lX h (by decide +kernel)
def bD.ok:bD->Prop
 | .dY _ d _ _=>d<=vm
 | .qN _ d _=>d<=vm
 | .note _ d _=>d<=vm
 | .iH _ _ l=>l.length<=11/\l.Pairwise (· < ·)/\ ∀x∈l,1<=x
 |_=>True
mutual
def Dt.K1:Dt->Bool
 | .lst _=>false
 | .tup ds=>Dt.wV ds
 | .eD=>true
 | .bl _=>true
 | .int _=>true
 | .str _=>true
def Dt.wV:List Dt->Bool
 |[]=>true
 |d :: ds=>d.K1 && Dt.wV ds
end
def cG (H H':Hp):Prop:= ∀b xs,H b=some (.tup xs)->H' b=some (.tup xs)
theorem cG.trans {H1 H2 H3:Hp}(a:cG H1 H2)(b:cG H2 H3):cG H1 H3:=fun x xs e=>b x xs (a x xs e)
theorem aE.tk {H H':Hp}(s:aE H H'):cG H H':=fun b xs e=>s _ _ e
theorem fj {H:Hp}{p:Addr}{o:HO}{ys:List V}(h:H p=some (.lst ys)):cG H (upd H p o):=dG h
mutual
theorem Rp.BC {H H':Hp}(k:cG H H'): ∀(d:Dt) {v:V},d.K1=true->Rp H d v->Rp H' d v
 | .eD,_,_,h=>u0.mpr (u0.mp h)
 | .bl _,_,_,h=>qJ.mpr (qJ.mp h)
 | .int _,_,_,h=>dr.mpr (dr.mp h)
 | .str _,_,_,h=>fL.mpr (fL.mp h)
 | .tup ds,_,n,h=>by
  obtain⟨a,xs,e,h1,h2⟩:=jW.mp h
  exact jW.mpr ⟨a,xs,e,k _ _ h1,il.BC k ds (by simpa[Dt.K1] using n) h2⟩
 | .lst ds,_,n,h=>by simp[Dt.K1] at n
theorem il.BC {H H':Hp}(k:cG H H'): ∀(ds:List Dt) {vs:List V},Dt.wV ds=true->il H ds vs->il H' ds vs
 |[],_,_,h=>cM.mpr (cM.mp h)
 |d :: ds,_,n,h=>by
  obtain⟨v,r,e,h1,h2⟩:=bI.mp h
  have n':d.K1=true/\Dt.wV ds=true:=by simpa[Dt.wV] using n
  exact bI.mpr ⟨v,r,e,Rp.BC k d n'.1 h1,il.BC k ds n'.2 h2⟩
end
theorem GN (l:List Int):Dt.wV (l.map Dt.int)=true:=by
 induction l with
 |nil=>rfl
 |cons x l ih=>simp[Dt.wV,Dt.K1,ih]
theorem bD.K1 (d:bD):d.dt.K1=true:=by
 cases d <;> simp[bD.dt,Dt.K1,Dt.wV,GN]
theorem GO (ds:List bD):Dt.wV (ds.map bD.dt)=true:=by
 induction ds with
 |nil=>rfl
 |cons d ds ih=>simp[Dt.wV,bD.K1,ih]
def fM (H:Hp)(ds:List bD)(ms:List V):Prop:=il H (ds.map bD.dt) ms
theorem fM.mono {H H':Hp}{ds:List bD}{ms:List V}(h:fM H ds ms)(k:cG H H'):fM H' ds ms:=il.BC k _ (GO ds) h
theorem fM.snoc {H:Hp}{ds:List bD}{ms:List V}{d:bD}{v:V}(h:fM H ds ms)(hd:Rp H d.dt v):fM H (ds ++ [d]) (ms ++ [v]):=by
 unfold fM
 rw[aJ]
 exact il.append h (il.one hd)
theorem fM.length {H:Hp}{ds:List bD}{ms:List V}(h:fM H ds ms):ds.length=ms.length:=by
 have:=il.length h
 rwa [ae] at this
theorem LR (n:Nat)(b:Str):(List.replicate n [V.str b]).flatten=(List.replicate n b).map V.str:=by
 induction n with
 |zero=>rfl
 |succ n ih=>rw[dj,iY,ih,dj]; rfl
def Rw.vs (r:Rw):List V:=[.str r.aC,.int r.a,.int r.b,.int r.c,.int r.d]
structure fH where
 pb:Addr
 pc:Addr
 pm:Addr
 iA:List Addr
 cps:List Addr
def fH.fp (f:fH):List Addr:=f.pb :: f.pc :: f.pm :: (f.iA ++ f.cps)
def bk3 (f:fH):List (Key×V):=[(Sum.inr "bills",.ref f.pb),(Sum.inr "credits",.ref f.pc),(Sum.inr "made",.ref f.pm)]
def eU (H:Hp)(rs:List Rw)(ps:List Addr):Prop:=Paired (fun(r:Rw) p=>H p=some (.lst r.vs)) rs ps
def ir (H:Hp)(ms:List (Nat×Nat×Int))(vs:List V):Prop:=Paired (fun(t:Nat×Nat×Int) v=> ∃p,v= .ref p/\H p=some (.tup [.int t.1,.int t.2.1,.int t.2.2])) ms vs
theorem ir.mono {H H':Hp}{ms:List (Nat×Nat×Int)}{vs:List V}(h:ir H ms vs)(k:cG H H'):ir H' ms vs:=
 Paired.iD h fun _ _ ⟨p,e,q⟩=>⟨p,e,k _ _ q⟩
structure dk (H:Hp)(sd:Addr)(S:Bk)(f:fH):Prop where
 dict:H sd=some (.dK (bk3 f))
 hb:H f.pb=some (.lst (f.iA.map V.ref))
 hc:H f.pc=some (.lst (f.cps.map V.ref))
 hm: ∃ms,H f.pm=some (.lst ms)/\ir H S.made ms
 rb:eU H S.aF f.iA
 rc:eU H S.credits f.cps
 nd:f.fp.Nodup
 ns:sd∉f.fp
theorem eU.keep {H H':Hp}{rs:List Rw}{ps:List Addr}(h:eU H rs ps)(k: ∀p∈ps,∀o,H p=some o->H' p=some o):eU H' rs ps:=by
 induction h with
 |nil=>exact .nil
 | @cons r p rs ps hr t ih=>exact .cons (k p bc _ hr) (ih fun q hq=>k q (aS _ hq))
theorem dk.keep {H H':Hp}{sd:Addr}{S:Bk}{f:fH}(h:dk H sd S f)(k: ∀b o,(b=sd∨b∈f.fp)->H b=some o->H' b=some o)(t:cG H H'):dk H' sd S f:=by
 obtain⟨ms,m1,m2⟩:=h.hm
 refine⟨k _ _ (.inl rfl) h.dict,k _ _ (.inr (by simp[fH.fp])) h.hb,k _ _ (.inr (by simp[fH.fp])) h.hc,⟨ms,k _ _ (.inr (by simp[fH.fp])) m1,m2.mono t⟩,h.rb.keep fun p hp o e=>k p o (.inr (by simp[fH.fp,hp])) e,h.rc.keep fun p hp o e=>k p o (.inr (by simp[fH.fp,hp])) e,h.nd,h.ns⟩
theorem dk.same {H H':Hp}{sd:Addr}{S:Bk}{f:fH}(h:dk H sd S f)(s:aE H H'):dk H' sd S f:=h.keep (fun b o _ e=>s _ _ e) s.tk
def Frame (fp:List Addr)(H H':Hp):Prop:= ∀b o,b∉fp->H b=some o->H' b=some o
theorem Frame.refl {fp:List Addr}{H:Hp}:Frame fp H H:=fun _ _ _ e=>e
theorem Frame.trans {fp Ss:List Addr}{H1 H2 H3:Hp}(a:Frame fp H1 H2)(b:Frame Ss H2 H3)(h: ∀x∈Ss,x∈fp∨H1 x=none):Frame fp H1 H3:=fun x o hx e=>
 b x o (fun hx'=>by
  rcases h x hx' with h|h
  ·exact hx h
  ·rw[h] at e; cases e) (a x o hx e)
theorem aE.frame {fp:List Addr}{H H':Hp}(s:aE H H'):Frame fp H H':=fun b o _ e=>s _ _ e
theorem Frame.upd {fp:List Addr}{H:Hp}{p:Addr}{o:HO}(h:p∈fp):Frame fp H (upd H p o):=fun b u hb e=>by
 have jy:b≠p:=fun z=>hb (by rw[z]; exact h)
 rw[aA jy]; exact e
theorem Frame.same {fp:List Addr}{H0 H H':Hp}(a:Frame fp H H')(s:aE H0 H)(h: ∀x∈fp,H0 x=none):aE H0 H':=fun b o e=>a b o (fun hb=>by rw[h b hb] at e; cases e) (s b o e)
theorem eU.length {H:Hp}{rs:List Rw}{ps:List Addr}(h:eU H rs ps):rs.length=ps.length:=aL h
theorem eU.at {H:Hp}{rs:List Rw}{ps:List Addr}(h:eU H rs ps){i:Nat}(hi:i < rs.length): ∃p,ps[i]? =some p/\H p=some (.lst (rs.getD i default).vs):=by
 obtain⟨p,e,q⟩:=bB h (af hi)
 refine⟨p,e,?_⟩
 rw[aj,af hi]
 exact q
theorem eU.set {H:Hp}: ∀{rs:List Rw} {ps:List Addr} {i:Nat} {p:Addr} {r:Rw},eU H rs ps->ps.Nodup->ps[i]? =some p->eU (upd H p (.lst r.vs)) (rs.set i r) ps
 |_,_,i,p,r,.nil,_,h=>by simp at h
 |_,_,0,p,r,.cons (b:=q) hr t,nd,h=>by
  injection h with h
  subst h
  rw[eu] at nd
  refine .cons ag (eU.keep t fun x hx o e=>?_)
  have jy:x≠q:=fun z=>nd.1 (by rw[← z]; exact hx)
  rw[aA jy]; exact e
 |_,_,i + 1,p,r,.cons (b:=q) hr t,nd,h=>by
  rw[eu] at nd
  rw[List.getElem?_cons_succ] at h
  have jy:q≠p:=fun z=>nd.1 (by rw[z]; exact gI h)
  refine .cons ?_ (eU.set t nd.2 h)
  rw[aA jy]; exact hr
theorem eU.iu {H:Hp}{rs:List Rw}{ps:List Addr}{p:Addr}{o:HO}(h:eU H rs ps)(hp:p∉ps):eU (upd H p o) rs ps:=
 h.keep fun q hq u e=>by
  have jy:q≠p:=fun z=>hp (by rw[← z]; exact hq)
  rw[aA jy]; exact e
theorem fH.Su {f:fH}(h:f.fp.Nodup):f.pb≠f.pc/\f.pb≠f.pm/\f.pc≠f.pm/\(∀p∈f.iA,p≠f.pb/\p≠f.pc/\p≠f.pm/\p∉f.cps)/\(∀p∈f.cps,p≠f.pb/\p≠f.pc/\p≠f.pm/\p∉f.iA)/\f.iA.Nodup/\f.cps.Nodup:=by
 unfold fH.fp at h
 simp only[List.nodup_cons,List.mem_cons,List.mem_append,not_or,List.nodup_append] at h
 obtain⟨⟨h1,h2,h3,h4⟩,⟨h5,h6,h7⟩,⟨h8,h9⟩,K2,Xa,Vh⟩:=h
 refine⟨h1,h2,h5,fun p hp=>⟨fun e=>h3 (e▸hp),fun e=>h6 (e▸hp),fun e=>h8 (e▸hp),fun hc=>Vh p hp p hc rfl⟩,fun p hp=>⟨fun e=>h4 (e▸hp),fun e=>h7 (e▸hp),fun e=>h9 (e▸hp),fun hb=>Vh p hb p hp rfl⟩,K2,Xa⟩
theorem dk.setB {H:Hp}{sd:Addr}{S:Bk}{f:fH}(h:dk H sd S f){i:Nat}{p:Addr}{r:Rw}(hp:f.iA[i]? =some p)(hl: ∃xs,H p=some (.lst xs)):dk (upd H p (.lst r.vs)) sd {S with aF:=S.aF.set i r} f:=by
 obtain⟨d1,d2,d3,d4,d5,d6,d7⟩:=fH.Su h.nd
 have hm:=gI hp
 obtain⟨e1,e2,e3,e4⟩:=d4 p hm
 obtain⟨ms,m1,m2⟩:=h.hm
 obtain⟨xs,hx⟩:=hl
 have es:sd≠p:=fun z=>h.ns (by rw[z]; simp[fH.fp,hm])
 exact⟨by rw[aA es]; exact h.dict,by rw[aA e1.symm]; exact h.hb,by rw[aA e2.symm]; exact h.hc,⟨ms,by rw[aA e3.symm]; exact m1,m2.mono (fj hx)⟩,h.rb.set d6 hp,h.rc.iu e4,h.nd,h.ns⟩
theorem dk.setC {H:Hp}{sd:Addr}{S:Bk}{f:fH}(h:dk H sd S f){i:Nat}{p:Addr}{r:Rw}(hp:f.cps[i]? =some p)(hl: ∃xs,H p=some (.lst xs)):dk (upd H p (.lst r.vs)) sd {S with credits:=S.credits.set i r} f:=by
 obtain⟨d1,d2,d3,d4,d5,d6,d7⟩:=fH.Su h.nd
 have hm:=gI hp
 obtain⟨e1,e2,e3,e4⟩:=d5 p hm
 obtain⟨ms,m1,m2⟩:=h.hm
 obtain⟨xs,hx⟩:=hl
 have es:sd≠p:=fun z=>h.ns (by rw[z]; simp[fH.fp,hm])
 exact⟨by rw[aA es]; exact h.dict,by rw[aA e1.symm]; exact h.hb,by rw[aA e2.symm]; exact h.hc,⟨ms,by rw[aA e3.symm]; exact m1,m2.mono (fj hx)⟩,h.rb.iu e4,h.rc.set d7 hp,h.nd,h.ns⟩
theorem dk.Xb {H:Hp}{sd:Addr}{S:Bk}{f:fH}(h:dk H sd S f){ms:List V}{t:Nat×Nat×Int}{p:Addr}(hm:H f.pm=some (.lst ms))(hms:ir H S.made ms)(hp:H p=some (.tup [.int t.1,.int t.2.1,.int t.2.2])):
  dk (upd H f.pm (.lst (ms ++ [.ref p]))) sd {S with made:=S.made ++ [t]} f:=by
 obtain⟨d1,d2,d3,d4,d5,d6,d7⟩:=fH.Su h.nd
 have es:sd≠f.pm:=fun z=>h.ns (by rw[z]; simp[fH.fp])
 exact⟨by rw[aA es]; exact h.dict,by rw[aA d2]; exact h.hb,by rw[aA d3]; exact h.hc,⟨_,ag,cy (hms.mono (fj hm)) ⟨p,rfl,dG hm _ _ hp⟩⟩,h.rb.iu fun z=>(d4 _ z).2.2.1 rfl,h.rc.iu fun z=>(d5 _ z).2.2.1 rfl,h.nd,h.ns⟩
theorem Sv:("bills":Str)≠"credits":=by decide +kernel
theorem Sw:("bills":Str)≠"made":=by decide +kernel
theorem Sx:("credits":Str)≠"made":=by decide +kernel
theorem Sy (a b c:V):gv [((Sum.inr "bills":Key),a),(Sum.inr "credits",b),(Sum.inr "made",c)] (Sum.inr "bills")=some a:=by
 unfold gv
 rw[List.find?_cons_of_pos (by simp)]; rfl
theorem Sz (a b c:V):gv [((Sum.inr "bills":Key),a),(Sum.inr "credits",b),(Sum.inr "made",c)] (Sum.inr "credits")=some b:=by
 unfold gv
 rw[List.find?_cons_of_neg (by simpa using Sv),List.find?_cons_of_pos (by simp)]; rfl
theorem SA (a b c:V):gv [((Sum.inr "bills":Key),a),(Sum.inr "credits",b),(Sum.inr "made",c)] (Sum.inr "made")=some c:=by
 unfold gv
 rw[List.find?_cons_of_neg (by simpa using Sw),List.find?_cons_of_neg (by simpa using Sx),List.find?_cons_of_pos (by simp)]; rfl
theorem ON (a b c:V):pI [] [((Sum.inr "bills":Key),a),(Sum.inr "credits",b),(Sum.inr "made",c)]=[((Sum.inr "bills":Key),a),(Sum.inr "credits",b),(Sum.inr "made",c)]:=by
 unfold pI
 rw[eZ,eZ,eZ,List.foldl_nil]
 have h1:putK ([]:List (Key×V)) (Sum.inr "bills") a=[((Sum.inr "bills":Key),a)]:=by
  unfold putK; rw[if_neg (by simp)]; rfl
 have h2:putK [((Sum.inr "bills":Key),a)] (Sum.inr "credits") b=[((Sum.inr "bills":Key),a),(Sum.inr "credits",b)]:=by
  unfold putK; rw[if_neg (by simpa using Sv)]; rfl
 have h3:putK [((Sum.inr "bills":Key),a),(Sum.inr "credits",b)] (Sum.inr "made") c=[((Sum.inr "bills":Key),a),(Sum.inr "credits",b),(Sum.inr "made",c)]:=by
  unfold putK; rw[if_neg (by simpa using⟨Sw,Sx⟩)]; rfl
 dsimp only
 rw[h1,h2,h3]
theorem dk.gB {H:Hp}{sd:Addr}{S:Bk}{f:fH}(h:dk H sd S f):mH H sd (.str "bills") (some (.ref f.pb)):=Sy (.ref f.pb) (.ref f.pc) (.ref f.pm)▸mH.k (k:=Sum.inr "bills") h.dict
theorem dk.gC {H:Hp}{sd:Addr}{S:Bk}{f:fH}(h:dk H sd S f):mH H sd (.str "credits") (some (.ref f.pc)):=Sz (.ref f.pb) (.ref f.pc) (.ref f.pm)▸mH.k (k:=Sum.inr "credits") h.dict
theorem dk.gM {H:Hp}{sd:Addr}{S:Bk}{f:fH}(h:dk H sd S f):mH H sd (.str "made") (some (.ref f.pm)):=SA (.ref f.pb) (.ref f.pc) (.ref f.pm)▸mH.k (k:=Sum.inr "made") h.dict
theorem dk.lb {H:Hp}{sd:Addr}{S:Bk}{f:fH}(h:dk H sd S f){b:Nat}(hb:b < S.aF.length): ∃p,f.iA[b]? =some p/\sj (f.iA.map V.ref) (b:Int)=some (.ref p)/\H p=some (.lst (S.bl b).vs):=by
 obtain⟨p,e,q⟩:=h.rb.at hb
 exact⟨p,e,cg (by rw[aB,e]; rfl),q⟩
theorem dk.lc {H:Hp}{sd:Addr}{S:Bk}{f:fH}(h:dk H sd S f){b:Nat}(hb:b < S.credits.length): ∃p,f.cps[b]? =some p/\sj (f.cps.map V.ref) (b:Int)=some (.ref p)/\H p=some (.lst (S.cr b).vs):=by
 obtain⟨p,e,q⟩:=h.rc.at hb
 exact⟨p,e,cg (by rw[aB,e]; rfl),q⟩
section
variable {prog:Program}{w:World}{A:Around}{E:Value->Shared->Prop}
def tf (prog:Program)(w:World)(A:Around)(kS:Addr)(f:Value)(Fi:List Value->Shared->Prop):List Value->List Value->Shared->Prop
 |[],ks,s=>Fi ks s
 |v :: r,ks,s=>wpAny (model prog w) A (call f [v]) (fun k s'=> ∃e,s'.heap.get? kS=some (seqObj "list" ks.toArray e)/\ ∀h' c,Heap.SameBut kS s'.heap h'->h'.get? kS=some (seqObj "list" (ks ++ [k]).toArray c)->tf prog w A kS f Fi r (ks ++ [k]) {s' with heap:=h'}) (fun _ _=>False) s
def GQ (prog:Program)(w:World)(A:Around)(D kS:Addr)(e1:Nat)(vs:List Value)(Q:Shared->Prop)(ks:List Value)(s:Shared):Prop:=
 ∃(κ:SortKind) (key:Nat->Int),D≠kS/\s.heap.get? D=some (seqObj "list" #[] e1)/\(2<=vs.length-> ∀Q':SortKind->Shared->Prop,Q' κ s->wpAny (model prog w) A (keyKind' ks.toArray) Q' (fun _ _=>False) s)/\
  (∀(i j:Nat) (C:Bool->Shared->Prop),i < vs.length->j < vs.length->C (decide (key i < key j)) s->wpAny (model prog w) A (keyLt' κ (ks.getD i Value.none) (ks.getD j Value.none)) C (fun _ _=>False) s)/\
  ∀(p:Array Nat) (h':Heap) (n:Nat),qK vs.length p->lD key p vs.length->h'.objs.size=s.heap.objs.size->h'.get? D=some (seqObj "list" (p.toList.map fun i=>vs.getD i Value.none).toArray n)->(∀b,b≠D->b≠kS->h'.get? b=s.heap.get? b)->Q {s with heap:=h'}
theorem Fd {f:Value}{kS:Addr}{Fi:List Value->Shared->Prop}{n:Nat}{body:Value->PUnit->Sem (ForInStep PUnit)}(hn:n < 64)
  (hb: ∀x ks (s:Shared) (C:Value->Shared->Prop),List.length ks < 64->wpAny (model prog w) A (call f [x]) (fun k s'=> ∃e,s'.heap.get? kS=some (seqObj "list" ks.toArray e)/\ ∀h' c,Heap.SameBut kS s'.heap h'->h'.get? kS=some (seqObj "list" (ks ++ [k]).toArray c)->C k {s' with heap:=h'}) (fun _ _=>False) s->
   wpAny (model prog w) A (body x ⟨⟩) (fun r s'=>r= .yield ⟨⟩/\ ∃k c,s'.heap.get? kS=some (seqObj "list" (ks ++ [k]).toArray c)/\C k s') E s): ∀(r ks:List Value) (e:Nat) (s:Shared),ks.length + r.length=n->
   s.heap.get? kS=some (seqObj "list" ks.toArray e)->tf prog w A kS f Fi r ks s->
   wpAny (model prog w) A (forIn r PUnit.unit body) (fun _ s'=> ∃ks e,s'.heap.get? kS=some (seqObj "list" ks.toArray e)/\ks.length=n/\Fi ks s') E s
 |[],ks,e,s,hl,hk,h=>by
  rw[List.forIn_nil]
  exact wpAny_pure ⟨ks,e,hk,by simpa using hl,h⟩
 |x :: r,ks,e,s,hl,hk,h=>by
  rw[bH] at hl
  rw[List.forIn_cons]
  refine az (cm (hb x ks s (fun k s'=>tf prog w A kS f Fi r (ks ++ [k]) s') (by lia) h) (fun q s' hq=>?_) fun _ _ x=>x)
  obtain⟨rfl,k,c,K0,h2⟩:=hq
  show wpAny (model prog w) A (forIn r PUnit.unit body) _ E s'
  exact Fd hn hb r (ks ++ [k]) c s' (by rw[aH,List.length_singleton]; lia) K0 h2
variable {s:Shared}
theorem Fe {D kS:Addr}{e e1:Nat}{ks out:List Value}{st:SortSt}{P:PySem.Fin->Shared->Prop}(hD:s.heap.get? D=some (seqObj "list" #[] e1))(hk:s.heap.get? kS=some (seqObj "list" ks.toArray e))(ne:D≠kS)
  (DR:(arrOf st).map (·.2)=out.toArray) (hz:out.length < 64) (hkz:ks.length < 64) (hf:failedOf st=none)
  (h: ∀(h':Heap) (n:Nat),h'.objs.size=s.heap.objs.size->h'.get? D=some (seqObj "list" out.toArray n)->(∀b,b≠D->b≠kS->h'.get? b=s.heap.get? b)->P (.done (.ret .none)) {s with heap:=h'}):
  wpAny (model prog w) A (ksk_tail D false e1 (.ref kS) st) P E s:=by
 have hl:sizeLine=16777216:=fe
 unfold ksk_tail
 try dsimp only
 rw[DR]
 have s1:=rY s.heap kS (Obj.mapSeq fun _=>(#[]:Array Value))
 have d1:(s.heap.update kS (Obj.mapSeq fun _=>(#[]:Array Value))).get? D=some (seqObj "list" #[] e1):=(s1.2 D ne).trans hD
 have s2:=rY (s.heap.update kS (Obj.mapSeq fun _=>(#[]:Array Value))) D (Obj.mapSeq fun _=>out.toArray)
 obtain⟨c2,LN⟩: ∃c2,((s.heap.update kS (Obj.mapSeq fun _=>(#[]:Array Value))).update D (Obj.mapSeq fun _=>out.toArray)).get? D=some (seqObj "list" out.toArray c2):=⟨_,M3 d1 fun _=>out.toArray⟩
 refine az (wA hk rfl ?_ (by rw[bC]; lia) (bp _))
 refine az (wpAny_letGo ?_)
 refine az (seqEpoch_at d1 rfl ?_)
 simp only[Bool.false_eq_true,if_false]
 refine az (wA d1 rfl ?_ (bp _) (by rw[bC]; lia))
 rw[hf]
 simp only[bne_self_eq_false,Bool.false_eq_true,if_false]
 refine bF (h _ c2 (s2.1.trans s1.1) LN fun b n1 n2=>(s2.2 b n1).trans (s1.2 b n2))
theorem OO {D kS:Addr}{e e1:Nat}{ks vs:List Value}{P:PySem.Fin->Shared->Prop}(hk:s.heap.get? kS=some (seqObj "list" ks.toArray e))(hl:ks.length=vs.length)(Dd:vs.length < 64)
  (h:GQ prog w A D kS e1 vs (fun s'=>P (.done (.ret .none)) s') ks s):wpAny (model prog w) A (ksk_end D false vs.toArray e1 (.ref kS) ks.toArray) P E s:=by
 obtain⟨κ,key,ne,hD,kind,cmp,fin⟩:=h
 have hsz:vs.toArray.size=vs.length:=by simp
 unfold ksk_end
 try dsimp only
 simp only[Bool.false_eq_true,if_false]
 by_cases h2:vs.toArray.size < 2
 ·rw[aZ h2,aZ h2]
  refine az (bF ?_)
  rw[StateT.run_pure]
  refine az (bF ?_)
  dsimp only
  have DR:(arrOf (SortSt.mk' general' (ks.toArray.zip vs.toArray) #[] 7 none)).map (·.2)=((List.toArray (List.range vs.length)).toList.map fun i=>vs.getD i Value.none).toArray:=by
   show(ks.toArray.zip vs.toArray).map (·.2)=_
   apply Array.toList_inj.mp
   have e1:((ks.toArray.zip vs.toArray).map (·.2)).toList=vs:=by
    rw[Array.toList_map,Array.toList_zip]
    exact List.map_snd_zip (by rw[A7,A7]; lia)
   rw[e1]
   show vs=(List.range vs.length).map fun i=>vs.getD i Value.none
   exact(range_getD vs Value.none).symm
  refine Fe hD hk ne DR (by rw[ae,A7,dA]; exact Dd) (by lia) rfl fun h' n z1 z2 z3=>?_
  refine fin (List.toArray (List.range vs.length)) h' n (Lf _) (fun i j ZI hj=>?_) z1 z2 z3
  have:i=j:=by lia
  subst this
  exact fv _
 ·rw[aO h2,aO h2]
  have Sm:2<=vs.length:=by lia
  refine az (cm (kind Sm (fun κ' s'=>κ'=κ/\s'=s) ⟨rfl,rfl⟩) (fun κ' s' K0=>?_) fun _ _ x=>x.elim)
  obtain⟨rfl,rfl⟩:=K0
  refine az (cm (kat_run (Q:=fun AY ET=>ET=s'/\ ∃p:Array Nat,p.size=vs.length/\arrOf AY=p.map (kas_item (ks.toArray.zip vs.toArray))/\failedOf AY=none/\qK vs.length p/\lD key p vs.length)
   (G:=fun p ET=>ET=s'/\qK vs.length p/\lD key p vs.length) (κ:=κ') hl Sm Dd (fun p' AY ET a1 a2 a3 a4=>⟨a4.1,p',a1,a2,a3,a4.2⟩) (u5 (fun i j C hi hj q=>cmp i j C hi hj q) (fun p q=>⟨rfl,q⟩) _ (Jo (by lia)))) ?_ fun _ _ e=>e)
  rintro⟨⟨⟩,AY⟩ ET ⟨rfl,p,hp,W0,hf,q1,q2⟩
  dsimp only
  exact Fe hD hk ne (kat_snds hl W0) (by rw[ae,oz,hp]; exact Dd) (by lia) hf fun h' n z1 z2 z3=>fin p h' n q1 q2 z1 z2 z3
theorem LS {D:Addr}{n:Nat}{vs:List Value}{f:Value}{P:PySem.Fin->Shared->Prop}(ho:s.heap.get? D=some (seqObj "list" vs.toArray n))(Dd:vs.length < 64)
  (h: ∀(kS:Addr) (e1:Nat) (h':Heap),(∀b o,b≠D->s.heap.get? b=some o->h'.get? b=some o)->h'.get? D=some (seqObj "list" #[] e1)->h'.get? kS=some (seqObj "list" #[] 0)->D≠kS->s.heap.objs.size<=kS->
   tf prog w A kS f (GQ prog w A D kS e1 vs (fun s'=>P (.done (.ret .none)) s')) vs [] {s with heap:=h'}):wpAny (model prog w) A (ksk_tree D f false) P E s:=by
 have ha:D < s.heap.objs.size:=aN ho
 have hl:sizeLine=16777216:=fe
 have s1:=rY s.heap D (Obj.mapSeq fun _=>(#[]:Array Value))
 obtain⟨e1,GJ⟩: ∃e1,(s.heap.update D (Obj.mapSeq fun _=>(#[]:Array Value))).get? D=some (seqObj "list" #[] e1):=⟨_,M3 ho fun _=> #[]⟩
 have Xc:((s.heap.update D (Obj.mapSeq fun _=>(#[]:Array Value))).push (seqObj "tuple" vs.toArray 0)).objs.size=s.heap.objs.size + 1:=by rw[size_push',pC]
 unfold ksk_tree
 refine az (listItems_at ho rfl ?_)
 refine az (wA ho rfl ?_ (by rw[bC]; lia) (bp _))
 refine az (seqEpoch_at GJ rfl ?_)
 refine az (wpAny_newTuple ?_ (by show vs.length<=_; lia))
 refine az (Lg ?_ (bp _))
 refine iB ?_
 generalize hU:((s.heap.update D (Obj.mapSeq fun _=>(#[]:Array Value))).push (seqObj "tuple" vs.toArray 0))=U at Xc
 have kU: ∀b o,(s.heap.update D (Obj.mapSeq fun _=>(#[]:Array Value))).get? b=some o->U.get? b=some o:=fun b o z=>by
  rw[← hU]
  exact ay _ z
 have QN:(U.push (seqObj "list" #[] 0)).get? U.objs.size=some (seqObj "list" #[] 0):=bO _ rfl
 have start:=h U.objs.size e1 (U.push (seqObj "list" #[] 0)) (fun b o n z=>ay _ (kU b o ((s1.2 b n).trans z))) (ay _ (kU D _ GJ)) QN (by rw[Xc]; exact a8 (iZ ha)) (by rw[Xc]; exact dP _)
 show wpAny (model prog w) A (ksk_rest D f false vs.toArray e1 (.ref U.objs.size)) P E {s with heap:=U.push (seqObj "list" #[] 0)}
 unfold ksk_rest
 refine az (wpAny_rule ?_)
 first
  |rw[List.forIn_toArray]
  |(rw[← Array.forIn_toList]; simp only[List.toList_toArray])
 refine wpAny_bind (wpAny_mono (Fd Dd (fun x ks s' C hz hx=>?_) vs [] 0 _ (by simp) QN start) (fun _ s' hd=>?_) fun _ _ x=>x)
 ·refine az (wpAny_attempt (cm hx (fun k ET hk=>?_) fun _ _ hF=>hF.elim))
  obtain⟨e,nk,c⟩:=hk
  have s2:=rY ET.heap U.objs.size (Obj.mapSeq (·.push k))
  have ea:ks.toArray.push k=(ks ++ [k]).toArray:=by simp
  obtain⟨c2,LN⟩: ∃c2,(ET.heap.update U.objs.size (Obj.mapSeq (·.push k))).get? U.objs.size=some (seqObj "list" (ks ++ [k]).toArray c2):=⟨_,by rw[← ea]; exact M3 nk (·.push k)⟩
  try dsimp only
  refine az (wA nk rfl ?_ (by rw[bC]; lia) (a6 (iP (Array.size_push ..)) (by rw[bC]; lia)))
  exact bF ⟨rfl,k,c2,LN,c _ c2 s2 LN⟩
 ·obtain⟨ks,e,K0,hl',fin⟩:=hd
  try dsimp only
  refine az (listItems_at K0 rfl ?_)
  exact OO K0 hl' Dd fin
theorem sortedK {l q:Addr}{vs:List Value}{Q:Value->Shared->Prop}(hl:s.heap.IsList l vs.toArray)(Dd:vs.length < 64)
  (h: ∀(D kS:Addr) (e1:Nat) (h':Heap),(∀b o,s.heap.get? b=some o->h'.get? b=some o)->h'.get? D=some (seqObj "list" #[] e1)->h'.get? kS=some (seqObj "list" #[] 0)->D≠kS->s.heap.objs.size<=D->s.heap.objs.size<=kS->
   tf prog w A.in1.in1 kS (.ref q) (GQ prog w A.in1.in1 D kS e1 vs (fun s'=>Q (.ref D) s')) vs [] {s with heap:=h'}):
  wpAny (model prog w) A (call (.builtin "sorted") [.ref l] [(Str.ofString "key",.ref q)]) Q E s:=by
 have Vf:sizeLine=16777216:=fe
 refine call_function_entry_kw kind_sorted plain_sorted entry_sorted (ksk_s1 _ _) ?_
 unfold Builtin.«sorted»
 refine az (m:=checkCount "sorted" 1 1 _) (bF ?_)
 refine az (collect_list hl ?_ (by lia))
 refine az (Lg ?_ (by show vs.length<=_; lia))
 have hsz:((s.heap.push (seqObj "list" #[] 0)).update s.heap.objs.size (Obj.mapSeq (· ++ vs.toArray))).objs.size=s.heap.objs.size + 1:=by
  rw[pC,size_push']
 generalize hU:((s.heap.push (seqObj "list" #[] 0)).update s.heap.objs.size (Obj.mapSeq (· ++ vs.toArray)))=U at hsz
 have keep: ∀b o,s.heap.get? b=some o->U.get? b=some o:=fun b o z=>by
  have lt:b < s.heap.objs.size:=aN z
  rw[← hU,IA _ _ _ _ (a8 lt),mP _ _ _ (a8 lt)]
  exact z
 have N3:(U.push (seqObj "list" vs.toArray 0)).get? U.objs.size=some (seqObj "list" vs.toArray 0):=bO _ rfl
 show wpAny _ _ _ _ _ {s with heap:=U.push (seqObj "list" vs.toArray 0)}
 refine az (iB (wpAny_call_entry_kw slot_list_sort ⟨_,N3,rfl⟩ entry_list_sort ?body (ksk_l1 _ _)))
 case body=>
  show wpAny (model prog w) A.in1.in1 (Builtin.«list.sort» ⟨[.ref U.objs.size],[(Str.ofString "key",.ref q)]⟩) _ _ _
  rw[ksk_t1]
  refine LS (s:={s with heap:=U.push (seqObj "list" vs.toArray 0)}) N3 Dd fun kS e1 h' kp d1 k1 ne le=>?_
  have z:=h U.objs.size kS e1 h' (fun b o w=>kp b o (fun w2=>by rw[w2] at w; exact absurd (aN w) (by rw[hsz]; exact xT.mpr (dP _))) (ay _ (keep b o w))) d1 k1 ne (by rw[hsz]; exact dP _) (by
   have ZL:(U.push (seqObj "list" vs.toArray 0)).objs.size<=kS:=le
   rw[size_push',hsz] at ZL
   exact a6 (Ga (dP _)) ZL)
  have mono: ∀(r ks:List Value) (s':Shared),tf prog w A.in1.in1 kS (.ref q) (GQ prog w A.in1.in1 U.objs.size kS e1 vs (fun s'=>Q (.ref U.objs.size) s')) r ks s'->
    tf prog w A.in1.in1 kS (.ref q) (GQ prog w A.in1.in1 U.objs.size kS e1 vs (fun s'=> ∃v,PySem.Fin.done (.ret .none)= .done (.ret v)/\wpAny (model prog w) A.in1 (ret (.ref U.objs.size)) (fun fin s'=> ∃v,fin=PySem.Fin.done (Flow.ret v)/\Q v s') E s')) r ks s':=by
   intro r
   induction r with
   |nil=>
    rintro ks s' ⟨κ,key,a1,a2,a3,a4,a5⟩
    exact⟨κ,key,a1,a2,a3,a4,fun p h2 n b1 b2 b3 b4 b5=>⟨_,rfl,bF ⟨_,rfl,a5 p h2 n b1 b2 b3 b4 b5⟩⟩⟩
   |cons v r ih=>
    intro ks s' hh
    exact cm hh (fun k s2 ⟨e,z1,z2⟩=>⟨e,z1,fun h2 c w1 w2=>ih _ _ (z2 h2 c w1 w2)⟩) fun _ _ x=>x
  exact mono vs [] _ z
end
end L2
namespace K3
open PySem
theorem GR (f:Array Value->Array Value)(o:Obj):(Obj.mapFields f o).dict=o.dict:=by
 obtain⟨c,d,dt,sl⟩:=o
 cases dt <;> rfl
def je (h:Heap)(e:Addr)(cls:Value)(iR:Option Addr)(vs:Array Value):Prop:= ∃oe,h.get? e=some oe/\oe.cls=cls/\oe.dict=iR/\oe.data= .fields vs
theorem je.set {h:Heap}{e:Addr}{cls:Value}{iR:Option Addr}{vs:Array Value}(x:je h e cls iR vs)(i:Nat)(v:Value):
  je (h.update e (Obj.mapFields (·.setIfInBounds i v))) e cls iR (vs.setIfInBounds i v):=by
 obtain⟨oe,he,hc,hd,hv⟩:=x
 have q:=Obj.data_mapFields hv (·.setIfInBounds i v)
 exact⟨_,Dp _ he (Obj.isFreed_of_fields q),(Obj.cls_mapFields _ _).trans hc,(GR _ _).trans hd,q⟩
theorem je.same {h h':Heap}{e:Addr}{cls:Value}{iR:Option Addr}{vs:Array Value}(x:je h e cls iR vs)(k: ∀o,h.get? e=some o->h'.get? e=some o):je h' e cls iR vs:=
 let⟨oe,he,r⟩:=x
 ⟨oe,k _ he,r⟩
def ni (fr own:List Addr)(h h':Heap):Prop:= ∀b o,h.get? b=some o->b∉own->(b∉fr->h'.get? b=some o)/\ ∃sl,h'.get? b=some {o with slots:=sl}
theorem ni.trans {fr o1 o2:List Addr}{h h1 h2:Heap}(a:ni fr o1 h h1)(b:ni fr o2 h1 h2):ni fr (o1 ++ o2) h h2:=fun c ob q n=>by
 obtain⟨k,sl,e⟩:=a c ob q (fun z=>n (cZ _ z))
 obtain⟨_,Vi,e2⟩:=b c _ e (fun z=>n (bz _ z))
 exact⟨fun hn=>(b c ob (k hn) (fun z=>n (bz _ z))).1 hn,Vi,e2⟩
theorem ni.mono {fr QO o1 o2:List Addr}{h h1:Heap}(a:ni fr o1 h h1)(hf: ∀b∈fr,b∈QO)(ho: ∀b∈o1,b∈o2):ni QO o2 h h1:=fun c ob q n=>
 let⟨k,sl,e⟩:=a c ob q (fun z=>n (ho c z))
 ⟨fun hn=>k (fun z=>hn (hf c z)),sl,e⟩
theorem zr {fr:List Addr}{h:Heap}{a:Addr}(f:Obj->Obj):ni fr [a] h (h.update a f):=fun b o q n=>by
 have z:(h.update a f).get? b=some o:=(mN _ _ (fun(e:a=b)=>n (ao.mpr e.symm))).trans q
 exact⟨fun _=>z,o.slots,z⟩
theorem vn {fr own:List Addr}{h:Heap}(o':Obj):ni fr own h (h.push o'):=fun b o q _=>⟨fun _=>ay _ q,o.slots,ay _ q⟩
theorem je.but {fr own:List Addr}{h h':Heap}{e:Addr}{cls:Value}{iR:Option Addr}{vs:Array Value}(x:je h e cls iR vs)(b:ni fr own h h')(n:e∉own):je h' e cls iR vs:=by
 obtain⟨oe,he,hc,hd,hv⟩:=x
 obtain⟨_,sl,q⟩:=b e oe he n
 exact⟨_,q,hc,hd,hv⟩
def K4 (h:Heap)(T:Addr)(fl:Value):Prop:= ∃c d ts,je h T c d ts/\ts[3]? =some fl
theorem fu {ts:Array Value}{i:Nat}{v:Value}(h:ts[i]? =some v):i < ts.size:=(Array.getElem?_eq_some_iff.mp h).1
theorem pV {ts:Array Value}{i:Nat}{v:Value}(h:i < ts.size):(ts.setIfInBounds i v)[i]? =some v:=by
 rw[Array.getElem?_setIfInBounds_self_of_lt h]
theorem qQ {ts:Array Value}{i j:Nat}{v:Value}(h:i≠j):(ts.setIfInBounds i v)[j]? =ts[j]? :=by
 rw[Array.getElem?_setIfInBounds_ne h]
section
variable {M:Model}{A:Around}{E:Value->Shared->Prop}{s:Shared}{env:Env}{outer:List Env}{base:Heap}{L e T:Addr}{cls:Value}{iR:Option Addr}{vs:Array Value}{Q:Unit->Shared->Prop}
theorem qR {a:Addr}{i:Nat}{v:Value}{R:Value->Shared->Prop}(x:je s.heap a cls iR vs)(h:vs[i]? =some v)(q:R v s):wpAny M A (field (.ref a) i) R E s:=by
 obtain⟨oe,he,_,_,hv⟩:=x
 exact IB he hv h q
theorem oj {a:Addr}{i:Nat}{v:Value}(x:je s.heap a cls iR vs)(h:i < vs.size)
  (q: ∀h',ni [] [a] s.heap h'->je h' a cls iR (vs.setIfInBounds i v)->h'.objs.size=s.heap.objs.size->Q () {s with heap:=h'}):wpAny M A (setField (.ref a) i v) Q E s:=by
 obtain⟨oe,he,hc,hd,hv⟩:=id x
 exact wpAny_setField he hv h (q _ (zr _) (x.set i v) (Heap.size_after_update ..))
theorem vo {fl:Value}(x:je s.heap e cls iR vs)(h1:vs[1]? =some (.ref T))(ht:K4 s.heap T fl)
  (q: ∀h',ni [] [T] s.heap h'->K4 h' T .none->h'.objs.size=s.heap.objs.size->Q () {s with heap:=h'}):wpAny M A (setFlight (.ref e) none) Q E s:=by
 obtain⟨c,d,ts,xt,h3⟩:=ht
 unfold setFlight
 refine az (qR x h1 ?_)
 rw[if_pos (show(Value.ref T != Value.none)=true from by simp)]
 exact oj xt (fu h3) fun h' b x' z=>q h' b ⟨c,d,_,x',pV (fu h3)⟩ z
theorem entry {head:Value}{had:Bool}(Dg:A.frames=some (env :: outer))(hl:s.heap.FunFrames base (env :: outer))(hf:env.frame=some L)(x:je s.heap e cls iR vs)(hsz:1 < vs.size)
  (q: ∀h' T,ni ((env :: outer).filterMap (·.frame)) [e] s.heap h'->je h' e cls iR (vs.setIfInBounds 1 (.ref T))->T=s.heap.objs.size->K4 h' T (rawInt L)->Q () {s with heap:=h'}):
  wpAny M A (do let a ← frameOf env; let pl ← entryPlaceOf L had; let b ← EntryCells.newEntry head a .none (rawInt L) .none pl; setField (.ref e) 1 b) Q E s:=by
 refine az (wpAny_frameOf_fun Dg hl hf fun h1 so=>?_)
 refine az (wpAny_entryPlaceOf fun pl jb=>?_)
 unfold EntryCells.newEntry newFields
 refine az (wpAny_newObj_type ?_ (jb.sizeOk5 _ _ _ _ _))
 have b1:ni ((env :: outer).filterMap (·.frame)) [] s.heap h1:=fun b o z _=>⟨fun n=>(so.2.1 b n).trans z,so.2.2 b o z⟩
 have x1:je h1 e cls iR vs:=x.but b1 (by simp)
 generalize Vj:({cls:= .type "traceback",dict:=none,data:= .fields ([head,.ref L,.none,rawInt L,.none] ++ (if pl.isEmpty then List.replicate 6 Value.none else pl)).toArray}:Obj)=ob
 have x2:je (h1.push ob) e cls iR vs:=x1.same fun o z=>ay _ z
 have ne:h1.objs.size≠e:=by
  obtain⟨_,z,_⟩:=x1
  exact ql (aN z)
 have xt:je (h1.push ob) h1.objs.size ob.cls ob.dict ([head,.ref L,.none,rawInt L,.none] ++ (if pl.isEmpty then List.replicate 6 Value.none else pl)).toArray:=by
  subst Vj
  exact⟨_,bO _ rfl,rfl,rfl,rfl⟩
 refine oj (s:={s with heap:=h1.push ob}) x2 hsz fun h' b x' _=>q h' h1.objs.size ?_ x' so.1 ⟨_,_,_,xt.but b (by simpa using ne),?_⟩
 ·exact((b1.trans (vn ob (own:=[]))).trans (b.mono (by simp) (fun _ z=>z))).mono (fun _ z=>z) (by simp)
 ·simp
theorem OP (Dg:A.frames=some (env :: outer))(hl:s.heap.FunFrames base (env :: outer))(hf:env.frame=some L)(x:je s.heap e cls iR vs)(h1:vs[1]? =some .none)
  (q: ∀h' T,ni ((env :: outer).filterMap (·.frame)) [e] s.heap h'->je h' e cls iR (vs.setIfInBounds 1 (.ref T))->T=s.heap.objs.size->K4 h' T .none->Q () {s with heap:=h'}):
  wpAny M A (leaving env (.ref e)) Q E s:=by
 have ne:s.heap.objs.size≠e:=by
  obtain⟨_,z,_⟩:=x
  exact ql (aN z)
 unfold leaving noteFrame
 simp only[hf]
 refine az (az (qR x h1 ?_))
 rw[aO (by decide)]
 refine entry Dg hl hf x (fu h1) fun h' T b x' hT t=>?_
 refine vo x' (pV (fu h1)) t fun h2 b2 t2 _=>q h2 T ?_ (x'.but b2 (by rw[hT]; simpa using ne.symm)) hT t2
 intro c o z n
 have hc:c≠T:=fun w=>by rw[w,hT] at z; exact absurd (aN z) (iW _)
 exact(b.trans (b2.mono (by simp) (fun _ z=>z))) c o z (by simpa using⟨by simpa using n,hc⟩)
theorem Ni (Dg:A.frames=some (env :: outer))(hl:s.heap.FunFrames base (env :: outer))(hf:env.frame=some L)(x:je s.heap e cls iR vs)(h1:vs[1]? =some (.ref T))(ht:K4 s.heap T .none)(Xd:T≠e)
  (q: ∀h' T',ni ((env :: outer).filterMap (·.frame)) [T,e] s.heap h'->je h' e cls iR (vs.setIfInBounds 1 (.ref T'))->T'=s.heap.objs.size->K4 h' T' (rawInt L)->Q () {s with heap:=h'}):
  wpAny M A (noteFrame (.ref e) env) Q E s:=by
 obtain⟨c,d,ts,xt,h3⟩:=ht
 unfold noteFrame
 simp only[hf]
 refine az (qR x h1 ?_)
 rw[if_pos (show(Value.ref T != Value.none)=true from by simp)]
 refine az (qR xt h3 ?_)
 rw[if_neg (show ¬ ((Value.none == rawInt L)=true) from by simp[rawInt])]
 refine az (oj xt (fu h3) fun h' b xt' sz=>?_)
 refine entry (s:={s with heap:=h'}) Dg (hl.of_keeps fun a o z nf=>?_) hf (x.but b (by simpa using Xd.symm)) (fu h1) fun h2 T' b2 x2 hT t2=>q h2 T' ?_ x2 (hT.trans sz) t2
 ·have na:a≠T:=fun w=>by
   obtain⟨_,z',_,_,hd⟩:=xt
   rw[w,z'] at z
   cases z
   exact nf _ hd
  obtain⟨_,sl,z'⟩:=b a o z (by simpa using na)
  exact⟨_,z',rfl⟩
 ·exact((b.mono (fun _ z=>absurd z (by simp)) (fun _ z=>z)).trans b2).mono (fun _ z=>z) (by simp)
theorem OQ (Dg:A.frames=some (env :: outer))(hl:s.heap.FunFrames base (env :: outer))(hf:env.frame=some L)(x:je s.heap e cls iR vs)(h1:vs[1]? =some (.ref T))(ht:K4 s.heap T .none)(Xd:T≠e)
  (q: ∀h' T',ni ((env :: outer).filterMap (·.frame)) [T,e] s.heap h'->je h' e cls iR (vs.setIfInBounds 1 (.ref T'))->T'=s.heap.objs.size->K4 h' T' .none->Q () {s with heap:=h'}):
  wpAny M A (leaving env (.ref e)) Q E s:=by
 have ne:s.heap.objs.size≠e:=by
  obtain⟨_,z,_⟩:=x
  exact ql (aN z)
 unfold leaving
 refine az (Ni Dg hl hf x h1 ht Xd fun h' T' b x' hT t=>?_)
 refine vo (s:={s with heap:=h'}) x' (pV (fu h1)) t fun h2 b2 t2 _=>q h2 T' ?_ (x'.but b2 (by rw[hT]; simpa using ne.symm)) hT t2
 intro c o z n
 have hc:c≠T':=fun w=>by rw[w,hT] at z; exact absurd (aN z) (iW _)
 have n': ¬ (c=T∨c=e):=by simpa using n
 exact(b.trans (b2.mono (by simp) (fun _ z=>z))) c o z (by simp; exact⟨fun w=>n' (.inl w),fun w=>n' (.inr w),hc⟩)
end
def K5 {α:Type}(M:Model)(h:Heap)(t:Sem α)(r:α):Prop:=
 ∀(A:Around) (Q:α->Shared->Prop) (E:Value->Shared->Prop) (s:Shared),(∀b o,h.get? b=some o->s.heap.get? b=some o)->Q r s->wpAny M A t Q E s
section
variable {M:Model}{A:Around}{E:Value->Shared->Prop}{h:Heap}{g:Array GenState}{d:Drawn}{t:Nat}{os:OsState}
variable {nm q:Str}{C N:Addr}{bs bm Ff:List Value}{oG:Bool}{sn:List Str}{sub:List Value}{ab:Bool}{col:Option Bool}{dd:Option Addr}{k0 k1 k2 k3 k5:Option Value}{B newId k7:String}
theorem iK {X:String}{r:Bool}(hb:bm.contains (.type X)=r):(Value.ref C :: bm).contains (.type X)=r:=by
 rw[List.contains_cons,hb]
 rfl
theorem LU (F:ExcBaseFacts B newId k7 Ff)(hB:bm.contains (.type B)=true){rest:List Value}{Q:Unit->Shared->Prop}
  (hC:h.get? C=some (excClassObj nm q C N bs bm oG sn sub ab col dd k0 k1 k2 k3 k5 newId)) (hq:Q () ⟨h,g,d,t,os⟩):wpAny M A (checkBuiltinCall newId ⟨.ref C :: rest,[]⟩) Q E ⟨h,g,d,t,os⟩:=by
 have j8:=iK (C:=C) hB; have st:=F.noStar
 simp only[checkBuiltinCall,F.newKind,F.newSplit,F.newRow]
 repeat (first
  |refine bA hC ?_
  |(refine cX hC ?_; rw[j8])
  |refine wpAny_staticBase_exc hC ?_
  |refine wpAny_madeBy_exc hC ?_
  |simp only[bne_self_eq_false,Bool.false_eq_true,if_false]
  |wp_step)
 exact hq
end
section
variable {prog:Program}{w:World}{A:Around}{E:Value->Shared->Prop}{R:Result->Shared->Prop}{h:Heap}{g:Array GenState}{d:Drawn}{t:Nat}{os:OsState}
variable {nm q:Str}{C N f:Addr}{bs bm Ff:List Value}{oG:Bool}{sn:List Str}{sub:List Value}{ab:Bool}{col:Option Bool}{dd:Option Addr}{k0 k1 k2 k3 k5:Option Value}{B newId k7:String}
abbrev me (C t:Addr):Obj:={cls:= .ref C,data:= .fields #[.ref t,.none,.none,.none,.bool false,.none]}
abbrev jz (l:List Value):Obj:={cls:= .type "tuple",data:= .seq l.toArray}
theorem LV (F:ExcBaseFacts B newId k7 Ff)(hB:bm.contains (.type B)=true)(hA:bm.contains (.type "AttributeError")=false)(hN:bm.contains (.type "NameError")=false)
  (hC:h.get? C=some (excClassObj nm q C N bs bm oG sn sub ab col dd k0 k1 k2 k3 k5 newId)) (hq:R (.ok (.ret (.ref (h.objs.size + 1)))) ⟨(h.push (jz [])).push (me C h.objs.size),g,d,t,os⟩):
  codeAny (model prog w) A (.builtin newId ⟨[.ref C],[]⟩) R ⟨h,g,d,t,os⟩:=by
 have he:=F.ends
 have h1:=iK (C:=C) hB; have h2:=iK (C:=C) hA; have h3:=iK (C:=C) hN
 refine codeAny_builtinAt F.entry ?_
 unfold Builtin.«BaseException.__new__»
 refine wpAt_bind ?_
 show wpAt _ _ _ (stack >>=_) _ _ _
 refine wpAt_bind (wpAt_stack fun p below=>wpAt_of_wpAny ?_)
 wp_walk
 refine wpAt_of_wpAny ?_
 rw[F.owner]
 repeat (first
  |with_reducible refine wpAny_madeHere_exc F.canon hC ?_
  |with_reducible refine bA hC ?_
  |(with_reducible refine cX hC ?_; first|rw[h1]|rw[h2]|rw[h3])
  |wp_step)
 show R _ _
 rw[oa]
 exact hq
theorem GS (F:ExcBaseFacts B newId k7 Ff)(hB:bm.contains (.type B)=true)(hA:bm.contains (.type "AttributeError")=false)(hN:bm.contains (.type "NameError")=false){oI:Obj}{Q:Fin->Shared->Prop}
  (hC:h.get? C=some (excClassObj nm q C N bs bm oG sn sub ab col dd k0 k1 k2 k3 k5 newId)) (hi:K5 (model prog w) h (typeLookup (.ref C) "__init__") (some (.ref f))) (hf:h.get? f=some oI) (SD:oI.cls= .type "function")
  (hq:wpAny (model prog w) A (call (.ref f) [.ref (h.objs.size + 1)]) (fun r s'=>r= .none/\Q (.done (.ret (.ref (h.objs.size + 1)))) s') E ⟨(h.push (jz [])).push (me C h.objs.size),g,d,t,os⟩):
  wpAny (model prog w) A (Builtin.«type.__call__» ⟨[.ref C],[]⟩) Q E ⟨h,g,d,t,os⟩:=by
 repeat (first
  |with_reducible refine bA hC ?_
  |with_reducible refine wpAny_madeBy_exc hC ?_
  |wp_step)
 refine codeAny_call_builtin_code (Code.quiet_builtin _ F.quiet) (LU F hB hC ?_)
 refine LV F hB hA hN hC ?_
 show wpAny _ _ _ _ _ _
 have kp: ∀b o,h.get? b=some o->((h.push (jz [])).push (me C h.objs.size)).get? b=some o:=fun b o z=>ay _ (ay _ z)
 have Ju:=kp _ _ hC
 have hg:((h.push (jz [])).push (me C h.objs.size)).get? (h.objs.size + 1)=some (me C h.objs.size):=by heap_get
 have SE:(Value.ref C :: bm).contains (.ref C)=true:=by simp
 unfold isInstance
 repeat (first
  |with_reducible refine bA hg ?_
  |(with_reducible refine cX Ju ?_; rw[SE])
  |wp_step)
 show wpAny _ _ (typeLookup (.ref C) _) _ _ _
 refine hi _ _ _ _ kp ?_
 refine iB (az ?_)
 unfold bindSpecial
 refine az (wpAny_typeOf (T:="function") ⟨_,kp _ _ hf,SD⟩ ?_)
 rw[aZ (by decide)]
 refine bF (az (cm hq (fun r s' hr=>?_) fun _ _ x=>x))
 obtain⟨rfl,z⟩:=hr
 wp_walk
 exact z
theorem call_exc (F:ExcBaseFacts B newId k7 Ff)(hB:bm.contains (.type B)=true)(hA:bm.contains (.type "AttributeError")=false)(hN:bm.contains (.type "NameError")=false){oI:Obj}{Q:Value->Shared->Prop}
  (hC:h.get? C=some (excClassObj nm q C N bs bm oG sn sub ab col dd k0 k1 k2 k3 k5 newId)) (hi:K5 (model prog w) h (typeLookup (.ref C) "__init__") (some (.ref f))) (hf:h.get? f=some oI) (SD:oI.cls= .type "function")
  (hq:wpAny (model prog w) (A.under (.builtin "type.__call__" ⟨[.ref C],[]⟩)) (call (.ref f) [.ref (h.objs.size + 1)]) (fun r s'=>r= .none/\Q (.ref (h.objs.size + 1)) s') E ⟨(h.push (jz [])).push (me C h.objs.size),g,d,t,os⟩):
  wpAny (model prog w) A (call (.ref C) []) Q E ⟨h,g,d,t,os⟩:=by
 have f1:=tc_lookup; have f2:=tc_bind (.ref C)
 have hT:(⟨h,g,d,t,os⟩:Shared).TypeIs (.ref C) "type":=⟨_,hC,rfl⟩
 refine EF (codeAny_of_tree ?_)
 show wpAny _ _ (callAny (.ref C) _) _ _ _
 repeat (any_goals (first
  |assumption
  |with_reducible refine bA hC ?_
  |wp_step))
 refine⟨rfl,?_⟩
 exact codeAny_call_builtin_at (Code.quiet_builtin _ (by decide +kernel)) entry_typeCall (wpAny_check_type_call_sub hC (GS F hB hA hN hC hi hf SD hq))
end
def Stop (P:Prop):Prop:=P
theorem Stop.out {P:Prop}(h:Stop P):P:=h
theorem Stop.in {P:Prop}(h:P):Stop P:=h
section
variable {prog:Program}{w:World}{A:Around}{E:Value->Shared->Prop}{R:Result->Shared->Prop}{h:Heap}{g:Array GenState}{d:Drawn}{t:Nat}{os:OsState}
variable {nm q:Str}{C N e:Addr}{bs bm Ff:List Value}{oG:Bool}{sn:List Str}{sub:List Value}{ab:Bool}{col:Option Bool}{dd iR:Option Addr}{k0 k1 k2 k3 k5:Option Value}{B newId ZM k7:String}{vs:Array Value}
theorem Jv {M:Model}(F:ExcBaseFacts B ZM k7 Ff)(hB:bm.contains (.type B)=true){oe:Obj}{rest:List Value}{Q:Unit->Shared->Prop}
  (hC:h.get? C=some (excClassObj nm q C N bs bm oG sn sub ab col dd k0 k1 k2 k3 k5 newId)) (he:h.get? e=some oe) (hc:oe.cls= .ref C) (hq:Q () ⟨h,g,d,t,os⟩):
  wpAny M A (checkBuiltinCall k7 ⟨.ref e :: rest,[]⟩) Q E ⟨h,g,d,t,os⟩:=by
 have h1:=iK (C:=C) hB; have h2:=F.noStar
 simp only[checkBuiltinCall,F.initKind,F.initSplit,F.initRow]
 repeat (first
  |(with_reducible refine bA he ?_; rw[hc])
  |with_reducible refine bA hC ?_
  |(with_reducible refine cX hC ?_; rw[h1])
  |wp_step)
 refine wpAny_onRaise ?_
 rw[show ∀(a b:String) (n:Nat),Bind.check ⟨.positional,"*",B,.self,[⟨"args",.varPos,false⟩]⟩ a b n (List.map (fun x=>x.fst) ({pos:=Value.ref e :: rest}:Args).kw)=pure () from fun a b n=>
  check_star_args _ _ _ _ _ _]
 exact bF hq
theorem GU (F:ExcBaseFacts B ZM k7 Ff)(hB:bm.contains (.type B)=true){v:Value}{Q:Value->Shared->Prop}
  (hC:h.get? C=some (excClassObj nm q C N bs bm oG sn sub ab col dd k0 k1 k2 k3 k5 newId)) (x:je h e (.ref C) iR vs) {t0:Addr} (h0:vs[0]? =some (.ref t0))
  (hq: ∀h',ni [] [e] h h'->je h' e (.ref C) iR (vs.setIfInBounds 0 (.ref h.objs.size))->Q .none ⟨h',g,d,t,os⟩):
  wpAny (model prog w) A (call (.builtin k7) [.ref e,v]) Q E ⟨h,g,d,t,os⟩:=by
 obtain⟨oe,he,hc,QP,hv⟩:=id x
 refine EF (Gb F.init.plain F.initEntry (Jv F hB hC he hc ?_))
 unfold Builtin.«BaseException.__init__»
 have Xe:(h.push (jz [v])).get? e=some oe:=ay _ he
 have x1:je (h.push (jz [v])) e (.ref C) iR vs:=⟨oe,Xe,hc,QP,hv⟩
 have hs:=fu h0
 repeat (first
  |with_reducible refine IB Xe hv h0 ?_
  |with_reducible refine wpAny_setField Xe hv hs ?_
  |wp_step)
 have bt:ni [] [e] h ((h.push (jz [v])).update e (Obj.mapFields (·.setIfInBounds 0 (Value.ref h.objs.size)))):=(vn (fr:=[]) (own:=[]) (jz [v])).trans (zr _)
 exact hq _ bt (x1.set 0 _)
end
section
variable {M:Model}{A:Around}{E:Value->Shared->Prop}{s:Shared}{env:Env}
variable {nm q:Str}{C N e:Addr}{bs bm Ff:List Value}{oG:Bool}{sn:List Str}{sub:List Value}{ab:Bool}{col:Option Bool}{dd iR:Option Addr}{k0 k1 k2 k3 k5:Option Value}{newId:String}{vs:Array Value}
theorem DU {x:Sem Value}{Q:Flow->Shared->Prop}(hB:bm.contains (.type "BaseException")=true)(hh:A.handled=none)
  (h:wpAny M A x (fun v s1=> ∃e iR vs,v= .ref e/\s1.heap.get? C=some (excClassObj nm q C N bs bm oG sn sub ab col dd k0 k1 k2 k3 k5 newId)/\je s1.heap e (.ref C) iR vs/\vs[1]? =some .none/\E (.ref e) s1) E s):
  wpAny M A (raiseStmt env (some x) none) Q E s:=by
 have h1:=iK (C:=C) hB
 unfold raiseStmt
 refine az (cm h (fun v s1 z=>?_) fun _ _ x=>x)
 obtain⟨e,iR,vs,rfl,hC,⟨oe,he,hc,QP,hv⟩,v1,hE⟩:=z
 obtain⟨hp,g,d,tk,os⟩:=s1
 repeat (first
  |(with_reducible refine bA he ?_; rw[hc])
  |with_reducible refine bA hC ?_
  |(with_reducible refine cX hC ?_; rw[h1])
  |with_reducible refine IB he hv v1 ?_
  |wp_step)
 exact wpAny_raiseNew_none hh hE
theorem LW {a:Addr}{cls:Value}{i:Nat}{v:Value}{Q:Unit->Shared->Prop}(x:je s.heap a cls iR vs)(h:i < vs.size)
  (q: ∀h',ni [] [a] s.heap h'->je h' a cls iR (vs.setIfInBounds i v)->Q () {s with heap:=h'}):wpAny M A (updateField a i v) Q E s:=
 oj (i:=i) (v:=v) x h fun h' b x' _=>q h' b x'
theorem wW:entryFor table "proto.unchain"=some Builtin.«proto.unchain»:=entryFor_of_tree (by kernel_rfl)
end
section
variable {prog:Program}{w:World}{A:Around}{E:Value->Shared->Prop}{s:Shared}{env:Env}
variable {nm q:Str}{C N e:Addr}{bs bm Ff:List Value}{oG:Bool}{sn:List Str}{sub:List Value}{ab:Bool}{col:Option Bool}{dd iR:Option Addr}{k0 k1 k2 k3 k5:Option Value}{newId:String}{vs:Array Value}
theorem DV {x c:Sem Value}{Q:Flow->Shared->Prop}{e0:Addr}(hB:bm.contains (.type "BaseException")=true)(hh:A.handled=some (.ref e0))(hc: ∀(R:Value->Shared->Prop) (s:Shared),R .none s->wpAny (model prog w) A c R E s)
  (h:wpAny (model prog w) A x (fun v s1=> ∃e iR vs c0 d0 R4,v= .ref e/\e≠e0/\s1.heap.get? C=some (excClassObj nm q C N bs bm oG sn sub ab col dd k0 k1 k2 k3 k5 newId)/\je s1.heap e (.ref C) iR vs/\vs[1]? =some .none/\vs.size=6/\
   je s1.heap e0 c0 d0 R4/\R4[2]? =some .none/\ ∀h',ni [] [e] s1.heap h'->je h' e (.ref C) iR (((vs.setIfInBounds 3 .none).setIfInBounds 4 (.bool true)).setIfInBounds 2 (.ref e0))->E (.ref e) {s1 with heap:=h'}) E s):
  wpAny (model prog w) A (raiseStmt env (some x) (some c)) Q E s:=by
 have h1:=iK (C:=C) hB
 unfold raiseStmt
 refine az (cm h (fun v s1 z=>?_) fun _ _ x=>x)
 obtain⟨e,iR,vs,c0,d0,R4,rfl,ne,hC,xe,v1,sz,x0,c2,hE⟩:=z
 obtain⟨oe,he,qS,QP,hv⟩:=id xe
 obtain⟨hp,g,d,tk,os⟩:=s1
 have eC:e≠C:=fun q=>by
  rw[q] at he
  rw[hC] at he
  cases he
  cases hv
 repeat (first
  |(with_reducible refine bA he ?_; rw[qS])
  |with_reducible refine bA hC ?_
  |(with_reducible refine cX hC ?_; rw[h1])
  |with_reducible refine oj xe (by rw[sz]; decide) fun h2 b2 x2 _=>Stop.out ?_
  |with_reducible refine hc _ _ ?_
  |wp_step)
 have b2':ni [] [e] hp h2:=b2
 refine Stop.in ?_
 refine az (oj (s:=⟨h2,g,d,tk,os⟩) x2 (by rw[rZ,sz]; decide) fun h3 b3 x3 _=>?_)
 have b3':ni [] [e] h2 h3:=b3
 have Xf:ni [] [e] hp h3:=(b2'.trans b3').mono (fun _ z=>z) (by simp)
 have ZN:h3.get? C=_:=(Xf C _ hC (by simpa using eC.symm)).1 (by simp)
 have x03:je h3 e0 c0 d0 R4:=je.but x0 Xf (by simpa using ne.symm)
 obtain⟨o3,ZO,hc3,_,hv3⟩:=id x3
 obtain⟨o0,he0,_,_,Xg⟩:=id x03
 have v31:((vs.setIfInBounds 3 Value.none).setIfInBounds 4 (Value.bool true))[1]? =some Value.none:=by rw[qQ (by decide),qQ (by decide)]; exact v1
 repeat (first
  |(with_reducible refine bA ZO ?_; rw[hc3])
  |with_reducible refine bA ZN ?_
  |(with_reducible refine cX ZN ?_; rw[h1])
  |with_reducible refine IB ZO hv3 v31 ?_
  |wp_step)
 have sz3:((vs.setIfInBounds 3 Value.none).setIfInBounds 4 (Value.bool true)).size=6:=by rw[rZ,rZ,sz]
 unfold raiseNew
 refine az (wpAny_handled ?_)
 rw[hh]
 dsimp only
 rw[if_pos (show(Value.ref e0 != Value.ref e)=true from by simpa using ne.symm)]
 refine az (iB (wpAny_runValue (codeAny_builtin wW ?_)))
 unfold Builtin.«proto.unchain»
 repeat (first
  |with_reducible refine IB he0 Xg c2 ?_
  |with_reducible refine az (LW (s:=⟨h3,g,d,tk,os⟩) x3 (by rw[sz3]; decide) fun h4 b4 x4=>Stop.out ?_)
  |wp_step)
 refine Stop.in ?_
 refine wpAny_throw (hE h4 ?_ x4)
 have b4':ni [] [e] h3 h4:=b4
 exact(Xf.trans b4').mono (fun _ z=>z) (by simp)
end
open PySem.Builtin PySem.Builtin.ObjectAttr
section
variable {prog:Program}{w:World}{A:Around}{E:Value->Shared->Prop}{h:Heap}{g:Array GenState}{d:Drawn}{t:Nat}{os:OsState}
variable {nm q:Str}{C N e:Addr}{bs bm:List Value}{sn:List Str}{sub:List Value}{ab:Bool}{col:Option Bool}{dd:Option Addr}{k0 k1 k2 k3 k5:Option Value}{newId:String}{vs:Array Value}{name:Str}{v:Value}
theorem GV {tk:Tok}{Q:Fin->Shared->Prop}(hC:h.get? C=some (excClassObj nm q C N bs bm true sn sub ab col dd k0 k1 k2 k3 k5 newId))(hp: ∀self:Value,refuseLoop self "__setattr__" (.ref C :: bm)=pure ())
  (tx:K5 (model prog w) h (typeLookup (.ref C) name) none) (x:je h e (.ref C) none vs)
  (hq: ∀h' OR,ni [] [e] h h'->je h' e (.ref C) (some h.objs.size) vs->h'.Ns1 h.objs.size (fun y=>if y=name then some v else none)->Q (.done (.ret .none)) ⟨h',g,d,OR,os⟩):
  wpAny (model prog w) A (Builtin.«object.__setattr__» ⟨[.ref e,.str name tk,v],[]⟩) Q E ⟨h,g,d,t,os⟩:=by
 obtain⟨o,hx,hc,Xh,hv⟩:=id x
 have SG:=hp (.ref e)
 have Xi: ∀{A':Around} {Q':Option Value->Shared->Prop} {E':Value->Shared->Prop},Q' none ⟨h,g,d,t,os⟩->wpAny (model prog w) A' (typeLookup (.ref C) name) Q' E' ⟨h,g,d,t,os⟩:=fun z=>tx _ _ _ _ (fun _ _ y=>y) z
 have hnc: ∀c,o.data≠ .cls c:=fun c z=>by rw[hv] at z; cases z
 unfold Builtin.«object.__setattr__»
 repeat (first
  |rw[refuse_eq]
  |rw[SG]
  |(with_reducible refine bA hx ?_; rw[hc])
  |with_reducible refine wpAny_mroOf_exc hC ?_
  |with_reducible refine Xi ?_
  |wp_step)
 rw[Xh,if_neg (by simp[typeHasDict])]
 rw[hv]
 dsimp only
 have lt:=aN hx
 have ne:e≠h.objs.size:=a8 lt
 generalize hD:({cls:= .type "dict",data:= .dict #[]}:Obj)=D
 have yp:(h.push D).get? e=some o:=ay _ hx
 refine az (wpAny_alloc' (az (wpAny_update' yp (bF ?_))))
 generalize hU:(h.push D).update e (fun o=>{cls:=o.cls,dict:=some h.objs.size,data:=o.data,slots:=o.slots})=U
 have b1:ni [] [e] h U:=by
  rw[← hU]
  exact(vn (fr:=[]) (own:=[]) D).trans (zr _)
 have x1:je U e (.ref C) (some h.objs.size) vs:=by
  refine⟨{cls:=o.cls,dict:=some h.objs.size,data:=o.data,slots:=o.slots},?_,hc,rfl,hv⟩
  rw[← hU]
  exact Dp _ yp (Obj.isFreed_of_fields (vs:=vs) hv)
 have gd:U.get? h.objs.size=some {cls:= .type "dict",data:= .dict #[]}:=by
  rw[← hU,← hD]
  exact(IA _ _ _ _ ne.symm).trans (Heap.get?_push_at rfl rfl)
 have nd:U.Ns h.objs.size (fun _=>none):=⟨_,#[],_,gd,rfl,fun _ he=>absurd he (by simp),fun _=>rfl⟩
 show wpAny _ _ (storeInDict h.objs.size (.str name tk) name v) _ _ _
 unfold storeInDict newKeyGuard
 refine az (bF (az (wpAny_nsSet1 (s:=⟨U,g,d,t,os⟩) (Heap.Ns1.of_empty nd) fun h' hn hs=>?_)))
 obtain⟨oD,esD,epD,Wr,Ws,Wt⟩:=hn.count (Within.cons name v Within.nil)
 refine az (wpAny_lookBehind Wr (by rw[Ws]; exact pastItsLine_dict (a6 Wt (by rw[bH,wG,fe]; lia))) ?_)
 wp_walk
 have lt': ∀b o',h.get? b=some o'->h'.get? b=U.get? b:=fun b o' z=>hs.2 b (a8 (aN z))
 refine hq h' _ (fun b ob z n=>?_) (x1.same fun ob z=>(hs.2 e ne).trans z) hn
 obtain⟨z1,sl,z2⟩:=b1 b ob z n
 exact⟨fun n'=>(lt' b ob z).trans (z1 n'),sl,(lt' b ob z).trans z2⟩
theorem OS {M:Model}{B sa owner:String}{Ff:List Value}{o:Obj}{vp:Value}{Q:Unit->Shared->Prop}(SF:StoreFacts B Ff sa owner)(ho:bm.contains (.type owner)=true)
  (hC:h.get? C=some (excClassObj nm q C N bs bm true sn sub ab col dd k0 k1 k2 k3 k5 newId)) (hx:h.get? e=some o) (hc:o.cls= .ref C) (hq:Q () ⟨h,g,d,t,os⟩):
  wpAny M A (checkBuiltinCall sa ⟨[.ref e,vp,v],[]⟩) Q E ⟨h,g,d,t,os⟩:=by
 have h1:=iK (C:=C) ho; have ha:=SF.args (.ref e) vp v
 simp only[checkBuiltinCall,SF.kind,SF.split]
 refine az ?_
 unfold isInstance
 repeat (first
  |(with_reducible refine bA hx ?_; rw[hc])
  |(with_reducible refine cX hC ?_; rw[h1])
  |wp_step)
 cases hs:Manifest.signature? sa with
 |none=>exact bF hq
 |some sg=>
  simp only[argsOk,hs] at ha
  have h2:Bind.checkArgs sa sg ⟨[.ref e,vp,v],[]⟩=pure ():=ha
  show wpAny M A (Bind.checkArgs sa sg ⟨[.ref e,vp,v],[]⟩) Q E _
  rw[h2]
  exact bF hq
theorem LX {B sa owner:String}{Ff:List Value}{Q:Unit->Shared->Prop}(SF:StoreFacts B Ff sa owner)(ho:bm.contains (.type owner)=true)(hC:h.get? C=some (excClassObj nm q C N bs bm true sn sub ab col dd k0 k1 k2 k3 k5 newId))
  (hp: ∀self:Value,refuseLoop self "__setattr__" (.ref C :: bm)=pure ()) (sL:K5 (model prog w) h (typeLookup (.ref C) "__setattr__") (some (.builtin sa))) (tx:K5 (model prog w) h (typeLookup (.ref C) name) none) (x:je h e (.ref C) none vs)
  (hq: ∀h' OR,ni [] [e] h h'->je h' e (.ref C) (some h.objs.size) vs->h'.Ns1 h.objs.size (fun y=>if y=name then some v else none)->Q () ⟨h',g,d,OR,os⟩):
  wpAny (model prog w) A (setAttr (.ref e) name v) Q E ⟨h,g,d,t,os⟩:=by
 obtain⟨o,hx,hc,_⟩:=id x
 have f3:=SF.slot.bind (.ref e)
 have sL': ∀{tk:Nat} {A':Around} {Q':Option Value->Shared->Prop} {E':Value->Shared->Prop},Q' (some (.builtin sa)) ⟨h,g,d,tk,os⟩->wpAny (model prog w) A' (typeLookup (.ref C) "__setattr__") Q' E' ⟨h,g,d,tk,os⟩:=fun z=>sL _ _ _ _ (fun _ _ y=>y) z
 unfold setAttr callSpecial? specialOf
 repeat (any_goals (first
  |assumption
  |(with_reducible refine bA hx ?_; rw[hc])
  |with_reducible refine sL' ?_
  |wp_step))
 refine Gb SF.slot.plain SF.entry (OS SF ho hC hx hc (GV hC hp tx x fun h' OR b x' n=>?_))
 repeat (any_goals (first
  |assumption
  |wp_step))
 exact hq h' OR b x' n
end
section
variable {prog:Program}{w:World}{A:Around}{E:Value->Shared->Prop}{h:Heap}{g:Array GenState}{d:Drawn}{t:Nat}{os:OsState}
variable {nm q:Str}{C N e dx:Addr}{bs bm:List Value}{sn:List Str}{sub:List Value}{ab:Bool}{col:Option Bool}{dd:Option Addr}{k0 k1 k2 k3 k5:Option Value}{newId:String}{vs:Array Value}{name:Str}{v:Value}{mA:Str->Option Value}
theorem GW {tk:Tok}{Q:Fin->Shared->Prop}(hC:h.get? C=some (excClassObj nm q C N bs bm true sn sub ab col dd k0 k1 k2 k3 k5 newId))(tx:K5 (model prog w) h (typeLookup (.ref C) name) none)(x:je h e (.ref C) (some dx) vs)
  (n:h.Ns dx mA) (hm:mA name=some v) (hq:Q (.done (.ret v)) ⟨h,g,d,t,os⟩):wpAny (model prog w) A (Builtin.«object.__getattribute__» ⟨[.ref e,.str name tk],[]⟩) Q E ⟨h,g,d,t,os⟩:=by
 obtain⟨o,hx,hc,Xh,hv⟩:=id x
 have Xi: ∀{A':Around} {Q':Option Value->Shared->Prop} {E':Value->Shared->Prop},Q' none ⟨h,g,d,t,os⟩->wpAny (model prog w) A' (typeLookup (.ref C) name) Q' E' ⟨h,g,d,t,os⟩:=fun z=>tx _ _ _ _ (fun _ _ y=>y) z
 repeat (any_goals (first
  |assumption
  |(with_reducible refine bA hx ?_; rw[hc])
  |with_reducible refine Xi ?_
  |wp_step))
 rw[hv]
 show wpAny _ _ (instanceDict e false) _ _ _
 unfold instanceDict
 refine az (bA hx ?_)
 rw[hc]
 dsimp only
 unfold classData
 refine az (az (bA hC (bF ?_)))
 rw[if_neg (by simp)]
 rw[Xh]
 refine bF ?_
 show wpAny _ _ (nsGet dx name) _ _ _
 refine wpAny_nsGet n ?_
 rw[hm]
 repeat (first
  |exact hq
  |wp_step)
theorem OT {M:Model}{vp:Value}{o:Obj}{Q:Unit->Shared->Prop}(hB:bm.contains (.type "BaseException")=true)(hC:h.get? C=some (excClassObj nm q C N bs bm true sn sub ab col dd k0 k1 k2 k3 k5 newId))
  (hx:h.get? e=some o) (hc:o.cls= .ref C) (hq:Q () ⟨h,g,d,t,os⟩):wpAny M A (checkBuiltinCall "BaseException.__getattribute__" ⟨[.ref e,vp],[]⟩) Q E ⟨h,g,d,t,os⟩:=by
 have hk:builtinKind "BaseException.__getattribute__"=some .slot:=by decide +kernel
 have hs:splitId "BaseException.__getattribute__"=some ("BaseException","__getattribute__"):=by decide +kernel
 have h1:=iK (C:=C) hB; have ha:=F.args_bexc_ga (.ref e) vp
 simp only[checkBuiltinCall,hk,hs]
 refine az ?_
 unfold isInstance
 repeat (first
  |(with_reducible refine bA hx ?_; rw[hc])
  |(with_reducible refine cX hC ?_; rw[h1])
  |wp_step)
 exact hq
theorem LY {T:String}{expr:Bool}{Q:Value->Shared->Prop}(FB:Slot T "__getattribute__" "BaseException.__getattribute__")(hB:bm.contains (.type "BaseException")=true)(hC:h.get? C=some (excClassObj nm q C N bs bm true sn sub ab col dd k0 k1 k2 k3 k5 newId))
  (gL:K5 (model prog w) h (typeLookup (.ref C) "__getattribute__") (some (.builtin "BaseException.__getattribute__"))) (kL:K5 (model prog w) h (typeLookup (.ref C) "__getattr__") none) (tx:K5 (model prog w) h (typeLookup (.ref C) name) none)
  (x:je h e (.ref C) (some dx) vs) (n:h.Ns dx mA) (hm:mA name=some v) (hv:handedOut v=pure v) (hq:Q v ⟨h,g,d,t + 1,os⟩):wpAny (model prog w) A (getAttr (.ref e) name expr) Q E ⟨h,g,d,t,os⟩:=by
 obtain⟨o,hx,hc,_⟩:=id x
 have f3:=FB.bind (.ref e)
 have x0:(expr && onTheHeap (Value.builtin "BaseException.__getattribute__"))=false:=by cases expr <;> rfl
 have x2:(Value.builtin "BaseException.__getattribute__" == Value.builtin "object.__getattribute__")=false:=by decide +kernel
 have x1:(onTheHeap (Value.ref C) && Value.builtin "BaseException.__getattribute__" == Value.builtin "object.__getattribute__")=false:=by rw[x2]; rfl
 have gL': ∀{tk:Nat} {A':Around} {Q':Option Value->Shared->Prop} {E':Value->Shared->Prop},Q' (some (.builtin "BaseException.__getattribute__")) ⟨h,g,d,tk,os⟩->wpAny (model prog w) A' (typeLookup (.ref C) "__getattribute__") Q' E' ⟨h,g,d,tk,os⟩:=
  fun z=>gL _ _ _ _ (fun _ _ y=>y) z
 have kL': ∀{tk:Nat} {A':Around} {Q':Option Value->Shared->Prop} {E':Value->Shared->Prop},Q' none ⟨h,g,d,tk,os⟩->wpAny (model prog w) A' (typeLookup (.ref C) "__getattr__") Q' E' ⟨h,g,d,tk,os⟩:=fun z=>kL _ _ _ _ (fun _ _ y=>y) z
 unfold getAttr
 repeat (any_goals (first
  |assumption
  |(with_reducible refine bA hx ?_; rw[hc])
  |with_reducible refine gL' ?_
  |with_reducible refine kL' ?_
  |wp_step))
 refine Gb FB.plain F.entry_bexc_ga (OT hB hC hx hc (GW hC tx x n hm ?_))
 repeat (any_goals (first
  |assumption
  |wp_step))
end
section
variable {M:Model}{A:Around}{E:Value->Shared->Prop}
variable {nm q:Str}{C N:Addr}{bs bm:List Value}{oG:Bool}{sn:List Str}{sub:List Value}{ab:Bool}{col:Option Bool}{dd:Option Addr}{k0 k1 k2 k3 k5:Option Value}{newId:String}
variable {nm' q':Str}{R N':Addr}{bs' Xj:List Value}{SH:Bool}{sn':List Str}{Xk:List Value}{ab':Bool}{Xl:Option Bool}{EZ:Option Addr}{j0 j1 j2 j3 j5:Option Value}{OU:String}
theorem yq {h:Heap}{g:Array GenState}{d:Drawn}{t:Nat}{os:OsState}{e:Addr}{iR:Option Addr}{vs:Array Value}{b:Bool}{Q:Bool->Shared->Prop}
  (hC:h.get? C=some (excClassObj nm q C N bs bm oG sn sub ab col dd k0 k1 k2 k3 k5 newId)) (hR:h.get? R=some (excClassObj nm' q' R N' bs' Xj SH sn' Xk ab' Xl EZ j0 j1 j2 j3 j5 OU))
  (x:je h e (.ref C) iR vs) (qG:Xj.contains (.type "BaseException")=true) (up:(Value.ref C :: bm).contains (.ref R)=b)
  (hq:Q b ⟨h,g,d,t,os⟩):wpAny M A (excMatches (.ref e) (.ref R)) Q E ⟨h,g,d,t,os⟩:=by
 obtain⟨oe,he,N2,_⟩:=x
 have Xm:(Value.ref R :: Xj).contains (.type "BaseException")=true:=by rw[List.contains_cons,qG,Bool.or_true]
 have f:=tc_notTuple
 unfold excMatches
 repeat (first|(with_reducible refine cX hR ?_; rw[Xm])|(with_reducible refine cX hC ?_; rw[up])|(with_reducible refine bA he ?_; rw[N2])|with_reducible refine bA hR ?_|wp_step)
 cases b <;> (wp_walk; exact hq)
end
end K3
namespace L2
open PySem PySem.Spec PyProof.Rows K3
structure g8 (K:Frag)(C R:Addr):Prop where
 obj: ∃(nm q:Str) (N:Addr) (bs bm:List Value) (sn:List Str) (sub:List Value) (ab:Bool) (col:Option Bool) (dd:Option Addr) (k0 k1 k2 k3 k5:Option Value),
  K.lookup C=some (excClassObj nm q C N bs bm true sn sub ab col dd k0 k1 k2 k3 k5 "Exception.__new__")/\
   (bm=[.type "Exception",.type "BaseException",.type "object"]/\C=R∨bm=[.ref R,.type "Exception",.type "BaseException",.type "object"])
 sa:findIn K (.ref C) "__setattr__"=some (some (.builtin "object.__setattr__"))
 ga:findIn K (.ref C) "__getattribute__"=some (some (.builtin "BaseException.__getattribute__"))
 gk:findIn K (.ref C) "__getattr__"=some none
 tx:findIn K (.ref C) "text"=some none
structure Xn (h:Heap)(C R:Addr)(nm q:Str)(N:Addr)(bs bm:List Value)(sn:List Str)(sub:List Value)(ab:Bool)(col:Option Bool)(dd:Option Addr)(k0 k1 k2 k3 k5:Option Value):Prop where
 at_:h.get? C=some (excClassObj nm q C N bs bm true sn sub ab col dd k0 k1 k2 k3 k5 "Exception.__new__")
 e:bm.contains (.type "Exception")=true
 b:bm.contains (.type "BaseException")=true
 o:bm.contains (.type "object")=true
 na:bm.contains (.type "AttributeError")=false
 nn:bm.contains (.type "NameError")=false
 rf: ∀self:Value,refuseLoop self "__setattr__" (.ref C :: bm)=pure ()
 up:(Value.ref C :: bm).contains (.ref R)=true
theorem g8.on {K:Frag}{C R:Addr}(k:g8 K C R): ∃nm q N bs bm sn sub ab col dd k0 k1 k2 k3 k5,∀h:Heap,K.In h->Xn h C R nm q N bs bm sn sub ab col dd k0 k1 k2 k3 k5:=by
 obtain⟨nm,q,N,bs,bm,sn,sub,ab,col,dd,k0,k1,k2,k3,k5,l,hb⟩:=k.obj
 have pass: ∀self:Value,refuseLoop self "__setattr__" [.type "Exception",.type "BaseException",.type "object"]=pure ():=F.store_Exception.passes
 refine⟨nm,q,N,bs,bm,sn,sub,ab,col,dd,k0,k1,k2,k3,k5,fun h X=>?_⟩
 rcases hb with⟨rfl,rfl⟩|rfl
 ·exact⟨X _ _ l,by decide +kernel,by decide +kernel,by decide +kernel,by decide +kernel,by decide +kernel,fun self=>by rw[refuseLoop_ref]; exact pass self,by simp⟩
 ·exact⟨X _ _ l,iK (by decide +kernel),iK (by decide +kernel),iK (by decide +kernel),iK (by decide +kernel),iK (by decide +kernel),fun self=>by rw[refuseLoop_ref,refuseLoop_ref]; exact pass self,by simp⟩
theorem lH {K:Frag}{M:Model}{h:Heap}(X:K.In h){t:Value}{name:Str}{r:Option Value}(e:findIn K t name=some r):K5 M h (typeLookup t name) r:=PySem.W.looks_findIn X e
abbrev xo (e C:Addr)(iR:Option Addr)(vs:Array Value):HO:= .ext fun h=>je h e (.ref C) iR vs
theorem Jw {P:Program}{w:World}{H:Hp}{h:Heap}{e C:Addr}{iR:Option Addr}{vs:Array Value}(x:je h e (.ref C) iR vs):dE P w H h e (xo e C iR vs):=by
 refine⟨x,?_,fun h1 h2 z k=>je.same z k⟩
 obtain⟨o,z,_⟩:=x
 exact⟨o,z⟩
abbrev v0 (t:Addr):Array Value:= #[.ref t,.none,.none,.none,.bool false,.none]
section
variable {X:Cx}{pins:List (Addr×Obj)}{σ:St}{H:Hp}{s:Shared}{e C R dx:Addr}{iR:Option Addr}{vs Xo:Array Value}{h':Heap}{t':Nat}
theorem Inv.DW (I:Inv X pins σ H s)(h:H e=some (xo e C iR vs)):je s.heap e (.ref C) iR vs:=(I.cz e _ h).1
theorem Inv.OV (I:Inv X pins σ H s)(h:H e=some (xo e C iR vs))(b:ni [] [e] s.heap h')(x:je h' e (.ref C) iR Xo):Inv X pins σ (upd H e (xo e C iR Xo)) {s with heap:=h',toks:=t'}:=by
 refine I.write (x:=e) (e:=e) (by rw[h]; exact True.intro) (.inl rfl) (fun c u n z=>(b c u z (by simpa using n)).1 (by simp)) ?_ (Jw x)
 obtain⟨o,z,_⟩:=x
 exact⟨o,z⟩
theorem Inv.LZ {f:Str}{y:V}{u:Value}(I:Inv X pins σ H s)(h:H e=some (xo e C none vs))(b:ni [] [e] s.heap h')(x:je h' e (.ref C) (some s.heap.objs.size) vs)(n:h'.Ns1 s.heap.objs.size (fun z=>if z=f then some u else none))(r:RelV y u):
  Inv X pins σ (upd (upd H s.heap.objs.size (.xd [(f,y)])) e (xo e C (some s.heap.objs.size) vs)) {s with heap:=h',toks:=t'}:=by
 have hn:H s.heap.objs.size=none:=I.cz.fresh (aI _)
 have ne:e≠s.heap.objs.size:=aK h hn
 have off: ∀c u,H c=some u->c≠s.heap.objs.size:=fun c u z=>aK z hn
 have kp: ∀c o,c≠e->s.heap.get? c=some o->h'.get? c=some o:=fun c o n z=>(b c o z (by simpa using n)).1 (by simp)
 have low: ∀c o,s.heap.get? c=some o->c≠s.heap.objs.size:=fun c o z=>a8 (aN z)
 have same: ∀c,c≠e->c≠s.heap.objs.size->upd (upd H s.heap.objs.size (.xd [(f,y)])) e (xo e C (some s.heap.objs.size) vs) c=H c:=fun c n1 n2=>by rw[aA n1,aA n2]
 refine I.un ⟨fun c o z hc _ _=>kp c o (fun w=>by rw[w,h] at hc; cases hc) z,fun c o z hc _ _=>⟨o.slots,kp c o (fun w=>by rw[w,h] at hc; cases hc) z⟩,fun c o z hc _=>?_,fun c o z _=>?_,fun c xs z=>?_,fun c o u z=>?_,fun c ps z=>?_⟩ fun c u z=>?_
 ·rw[same c (fun w=>by rw[w,h] at hc; cases hc) (low c o z)]
  exact hc
 ·by_cases q:c=e
  ·rw[q]
   obtain⟨oe,w,_⟩:=x
   exact⟨oe,w⟩
  ·exact⟨o,kp c o q z⟩
 ·rw[same c (fun w=>by rw[w,h] at z; cases z) (off c _ z)]
  exact z
 ·rw[same c (fun w=>by rw[w,h] at z; cases z) (off c _ z)]
  exact z
 ·refine⟨#[],?_⟩
  rw[same c (fun w=>by rw[w,h] at z; cases z) (off c _ z),z]
  simp
 ·by_cases q:c=e
  ·subst q
   rw[ag] at z
   cases z
   exact Jw x
  ·rw[aA q] at z
   by_cases q2:c=s.heap.objs.size
   ·subst q2
    rw[ag] at z
    cases z
    refine⟨_,n,fun g=>?_⟩
    show lx (List.lookup g [(f,y)]) (if g=f then some u else none)
    by_cases w:g=f
    ·subst w
     rw[aZ rfl]
     simpa[List.lookup,lx] using r
    ·rw[aO w]
     have:(g == f)=false:=by simpa using w
     simp[List.lookup,this,lx]
   ·rw[aA q2] at z
    refine(I.cz c u z).tT (fun d o hd w=>?_) (fun d w=>?_) fun d xs w=>?_
    ·refine kp d o (fun w2=>?_) w
     rcases hd with hd|hd
     ·exact q (hd▸w2)
     ·rw[w2,h] at hd
      cases hd
    ·rw[same d (fun w2=>by rw[w2,h] at w; cases w) (off d _ w)]
     exact w
    ·rw[same d (fun w2=>by rw[w2,h] at w; cases w) (off d _ w)]
     exact w
def gone (H:Hp)(a:Addr):Hp:=fun b=>if b=a then none else H b
theorem yr {a:Addr}:gone H a a=none:=by unfold gone; rw[if_pos rfl]
theorem iL {a b:Addr}(h:b≠a):gone H a b=H b:=by unfold gone; rw[if_neg h]
theorem Inv.drop {H0:Hp}{s0:Shared}{φ:Heap->Prop}(I0:Inv X pins σ H0 s0)(h0:H0 e=none)(I:Inv X pins σ H s)(h:H e=some (.ext φ)):Inv X pins σ (gone H e) s:=by
 have off: ∀c u,H c=some u->u≠ .ext φ->c≠e:=fun c u z n w=>by
  rw[w,h] at z
  cases z
  exact n rfl
 refine⟨I.ok,I.os,I.bare,⟨I.base.keep,I.base.slot,fun c o z hc hx=>?_,I.base.there,fun c xs z=>?_,fun c o u z=>?_,fun c ps z=>?_⟩,I.loc,I.cell,?_,fun x c z=>?_,fun p hp=>?_,fun c u z=>?_,I.len⟩
 ·have w:=I.base.free c o z hc hx
  rw[iL (fun q=>by rw[q,h] at w; cases w)]
  exact w
 ·rw[iL (aK (I0.base.qw c xs z) h0)]
  exact I.base.qw c xs z
 ·rw[iL (aK (I0.base.pE c o u z) h0)]
  exact I.base.pE c o u z
 ·obtain⟨m,w⟩:=I0.base.pF c ps z
  obtain⟨m',w'⟩:=I.base.pF c ps z
  exact⟨m',by rw[iL (aK w h0)]; exact w'⟩
 ·rw[iL (fun q=>by have w:=I.free; rw[q,h] at w; cases w)]
  exact I.free
 ·have w:=I.iS x c z
  rw[iL (fun q=>by rw[q,h] at w; cases w)]
  exact w
 ·obtain⟨w1,w2,w3⟩:=I.pin p hp
  refine⟨w1,?_,w3⟩
  rw[iL (fun q=>by rw[q,h] at w2; cases w2)]
  exact w2
 ·by_cases q:c=e
  ·rw[q,yr] at z
   cases z
  ·rw[iL q] at z
   refine(I.cz c u z).tT (fun d o _ w=>w) (fun d w=>?_) fun d xs w=>?_
   ·rw[iL (off d _ w (by intro z; cases z))]
    exact w
   ·rw[iL (off d _ w (by intro z; cases z))]
    exact w
end
structure iw (k:Nat)(A:Around):Prop where
 dp:A.depth + 3 * k + 5 < recursionLimit
 un:A.units + 16 * k + 200 < cLine
theorem ff.h {k:Nat}{A:Around}(r:ff k A):iw k A:=⟨r.dp,r.un⟩
theorem iw.mono {j k:Nat}{A:Around}(r:iw k A)(h:j<=k):iw j A:=⟨by have:=r.dp; lia,by have:=r.un; lia⟩
theorem iw.deeper {k:Nat}{A:Around}(r:iw (k + 1) A)(env:Env):iw k (A.deeper env):=
 ⟨by have:=r.dp; show A.depth + 1 + 3 * k + 5 < _; lia,by have:=r.un; show A.units + 3 + 16 * k + 200 < _; lia⟩
theorem iw.make {k:Nat}{A:Around}(r:iw (k + 1) A)(C:Addr)(us:List Value)(kw:List (Str×Value)):iw k (A.under (.builtin "type.__call__" ⟨.ref C :: us,kw⟩)):=
 ⟨by have:=r.dp; rw[uM]; lia,by have:=r.un; rw[uN]; lia⟩
theorem iw.mark {k:Nat}{A:Around}(r:iw k A)(e:Option Value):iw k (A.mark e):=⟨r.dp,r.un⟩
structure SI (P:Program)(w:World)(K:Frag)(mg:Str->Option Value)(base:Heap)(k:Nat)(f:Addr)(fd:FuncData)(ps:List Str)(sp:Sp):Prop where
 len: ∀vs H Q E,sp vs H Q E->vs.length=ps.length
 run: ∀(A:Around) (outer:List Env) (s:Shared) (H:Hp) (args:Args) (us:List Value) (vs:List V) (Q:VK) (E:XK),iw k A->qA P w K mg base A outer s H->BindsTo s fd args (ps.zip us)->Vals vs us->sp vs H Q E->
  codeAny (model P w) A (.call (.ref f) args) (CR sk outer P w H s Q E) s
abbrev vq (P:Program)(w:World)(K:Frag)(mg:Str->Option Value)(base:Heap)(N:List Str)(qual:Str)(scope:Scope)(f:Addr)(cd:Value)(A:Around)(outer:List Env)(s:Shared)(H:Hp)(E:XK):Cx:=
 {ly sk P w K mg base N qual scope f cd A outer s H E with calm:=false}
theorem vt {P:Program}{w:World}{K:Frag}{mg:Str->Option Value}{base:Heap}{N ps:List Str}{qual:Str}{scope:Scope}{f:Addr}{cd:Value}{A:Around}{outer:List Env}{s s1:Shared}{H:Hp}{E:XK}{us:List Value}{vs:List V}
  (S:aW N ps scope) (e0:qA P w K mg base A outer s H) (hl:vs.length=ps.length) (r:Vals vs us)
  (x:InCallC s s.heap.objs.size (bindL (envOfC qual scope s.heap.objs.size f cd).kindOf (ps.zip us) fun _=>none) (cellsFrom (s.heap.objs.size + 1) scope.names []) (bindC (envOfC qual scope s.heap.objs.size f cd).kindOf (ps.zip us) fun _=>none) s1):
  Inv (vq P w K mg base N qual scope f cd A outer s H E) [] (start N vs) H s1:=by
 have I:=yc (CX:=sk) (E:=E) (A:={A with handled:=none}) (K:=K) (base:=base) (P:=P) (w:=w) (mg:=mg) (N:=N) S rfl ⟨e0.frames,e0.mod,e0.bs,e0.Ba,e0.lY,e0.EG,e0.cz,e0.bare⟩ hl r x
 have ok:=I.ok
 exact⟨⟨ok.mod,ok.kind,ok.glob,ok.blt,ok.above,ok.inj,ok.has,ok.KU,(fun z=>by cases z),Around.frames_deeper e0.frames,ok.Il,ok.Ll,ok.bs,ok.Ba,ok.wJ,ok.wK,ok.lY,ok.EG⟩,I.os,I.bare,I.base,I.loc,I.cell,I.free,I.iS,I.pin,I.cz,I.len⟩
theorem mf {P:Program}{w:World}{K:Frag}{mg:Str->Option Value}{base:Heap}{k:Nat}{f:Addr}{x qual:Str}{st:Stmt}{fd:FuncData}{N ps:List Str}{sp:Sp}(F:gx K x qual st f fd)(S:aW N ps (ax st))
  (len: ∀vs H Q E,sp vs H Q E->vs.length=ps.length)
  (fX: ∀(cU:Value) (A:Around) (outer:List Env) (s:Shared) (H:Hp) (vs:List V) (Q:VK) (E:XK),iw k (A.deeper (envOfC qual (ax st) s.heap.objs.size f cU))->sp vs H Q E->
   ∃t,oQ (vq P w K mg base N qual (ax st) f cU A outer s H E).EJ (dF st) t/\t {nx:=fun _ H'=>Q .eD H',rt:=Q} (start N vs) H):SI P w K mg base (k + 1) f fd ps sp:=by
 obtain⟨oc,od,kV,doc,pm,an,cU,ct,Gs,rfl,lk,rP⟩:=F.ex
 refine⟨len,fun A outer s H args us vs Q E hr e0 hb r yd=>?_⟩
 have hl:=len _ _ _ _ yd
 have KX:K.In s.heap:=e0.mod.Lk.keeps fun b o e=>(e0.bs b o e).1
 have lim:s.heap.NoLimit:=e0.mod.nolimit.keeps fun b o e=>(e0.bs b o e).1
 have mU: ∀y∈ps.zip us,(ax st).names.lookup y.1=some .local∨((ax st).names.lookup y.1=some .cell/\((cellsFrom (s.heap.objs.size + 1) (ax st).names []).lookup y.1).isSome=true):=fun⟨n,v⟩ hy=>by
  rcases S.par n (ox hy).1 with q|q
  ·exact .inl q
  ·exact .inr ⟨q,lq _ _ _ (.inl q)⟩
 have dp:A.depth < recursionLimit:=by have:=hr.dp; lia
 refine codeAny_call_function dp (KX _ _ lk) rfl S.co S.gen rfl (PySem.W.codeRec_of KX rP) (hb _ _ _ _ ?_)
 refine tQ S.kind mU fun env he s1 y=>?_
 subst he
 refine⟨lim.keeps y.toInCall.keep,codeAny_func ?_⟩
 obtain⟨t,ht,hq⟩:=fX cU A outer s H vs Q E (hr.deeper _) yd
 have I:Inv (vq P w K mg base N qual (ax st) f cU A outer s H E) [] (start N vs) H s1:=vt S e0 hl r y
 refine cm (ht.EJ [] s1 (start N vs) H _ I hq) (fun fl s' hs=>?_) fun e s' hs=>hs
 have fin: ∀{σ':St} {H':Hp} {v:V} {u:Value},Inv (vq P w K mg base N qual (ax st) f cU A outer s H E) [] σ' H' s'->RelV v u->Q v H'->CE outer P w H s Q u s':=
  fun{σ' H' v u} J rv q=>⟨v,H',J.os,J.bare,J.base,J.cz,rv,q⟩
 cases fl with
 |ret u=>
  obtain⟨v,σ',H',J,rv,q⟩:=hs
  exact fin J rv q
 |next=>
  obtain⟨σ',H',J,q⟩:=hs
  exact fin (v:=V.eD) (u:=Value.none) J rfl q
 |brk=>
  obtain⟨_,_,_,q⟩:=hs
  exact False.elim q
 |cont=>
  obtain⟨_,_,_,q⟩:=hs
  exact False.elim q
section
variable {X:Cx}{k:Nat}{f C R:Addr}{fd:FuncData}{ps:List Str}{sp:Sp}{x:Str}{p pos apos pos':Pos}{a b o value e:Expr}{es:List Expr}{ta tb tv:TE}{t:TA}
theorem Fg {A:Around}{xe:Value->Shared->Prop}{pins:List (Addr×Obj)}{σ:St}{H:Hp}{s:Shared}{Q:VK}{us:List Value}{vs:List V}(F:SI X.prog X.w X.K X.mg X.base k f fd ps sp)(hr:iw k A)(e0:qA X.prog X.w X.K X.mg X.base A X.stack s H)(hb:Binds X.K fd ps [])
  (I:Inv X pins σ H s) (r:Vals vs us) (h:sp vs H Q E0):wpAny (model X.prog X.w) A (call (.ref f) us) (EP X pins σ Q) xe s:=by
 have hl:(us ++ []).length=ps.length:=by rw[bU,← r.length]; exact F.len _ _ _ _ h
 have bd:=hb s us I.gY hl
 rw[bU] at bd
 refine EF (Dn (F.run A X.stack s H ⟨us,[]⟩ us vs Q E0 hr e0 bd r h) fun r s' hq=>?_)
 cases r with
 |error e=>exact False.elim hq
 |ok fl=>
  cases fl with
  |ret u=>exact I.after hq
  |next=>exact False.elim hq
  |brk=>exact False.elim hq
  |cont=>exact False.elim hq
def OW (K:Frag)(t:TA):TE:=fun σ H Q=>t σ H fun xs H2=> ∃(e C R t0:Addr) (iR:Option Addr) (vs:Array Value) (y:V),xs=[.ref e,y]/\H2 e=some (xo e C iR vs)/\g8 K C R/\vs[0]? =some (.ref t0)/\ ∀t',Q .eD (upd H2 e (xo e C iR (vs.setIfInBounds 0 (.ref t'))))
theorem Jx {pl:Sem Bool}(hg:Gl X "Exception")(hm:X.mg "Exception"=none)(ha:PA X (e :: es) t)
  (hs:starEach (e :: es) X.env=(false,eval e X.env) :: starEach es X.env:=by rfl) (jb:(backTo pos (starEach es X.env)).any (·.1)=false:=by rfl)
  (ht:eval (.Call (.Attribute (.Name "Exception" p) "__init__" apos) (e :: es) [] pos) X.env=(do
   let ov ← eval (.Name "Exception" p) X.env
   standAt apos.atName
   let(f,first) ← holding [ov] (getMethod ov "__init__" pl)
   callWith pos f first (backTo pos (starEach (e :: es) X.env)) (backToKw pos (keywordEach [] X.env))):=by rfl):
  PE X (.Call (.Attribute (.Name "Exception" p) "__init__" apos) (e :: es) [] pos) (OW X.K t):=by
 intro pins s σ H Q I h
 obtain⟨m,F⟩:=I.fr
 refine wC (pl:=pl) (pG I hg hm (u:= .type "Exception") (by rfl) ?_) ht
 refine PySem.W.method_type (v:= .builtin "Exception.__init__") F I.mod.Lk (by rfl) (by decide +kernel) (by rfl) (by rfl) ?_
 have hA:=ha pos pins {s with toks:=s.toks + 1} σ H _ (I.tok _) h
 rw[hs] at hA ⊢
 refine iX (by show(false || (backTo pos (starEach es X.env)).any (·.1))=false; rw[jb] <;> rfl) (FY ?_)
 refine ee hA fun us s2 ⟨vs,H2,I2,r2,e,C,R,t0,iR,ws,y,e1,e2,k,e3,q⟩=>?_
 subst e1
 obtain⟨u1,u2,rfl,ru,_⟩:=vals2 r2
 obtain rfl:u1=Value.ref e:=ru
 obtain⟨nm,qn,N,bs,bm,sn,sub,ab,col,dd,k0,k1,k2,k3,k5,c⟩:=k.on
 have c:=c _ I2.gY
 obtain⟨hp,g,d,tk,os⟩:=s2
 exact GU NU c.e c.at_ (I2.DW e2) e3 fun h' b x'=>⟨.eD,_,I2.OV (t':=tk) e2 b x',rfl,q _⟩
def SJ (K:Frag)(ta tv:TE):TS:=fun D σ H=>tv σ H fun y H1=>ta σ H1 fun x H2=> ∃(e C R:Addr) (vs:Array Value),x= .ref e/\H2 e=some (xo e C none vs)/\g8 K C R/\
 ∀dx,H2 dx=none->D.nx σ (upd (upd H2 dx (.xd [("text",y)])) e (xo e C (some dx) vs))
theorem L0 (ha:PE X o ta)(hv:PE X value tv)(hs:swapsWith value (some (.Attribute o "text" pos')) pos.line X.env=pure false):PS X (.Assign [.Attribute o "text" pos'] value pos) (SJ X.K ta tv):=by
 intro pins s σ H D I h
 refine NQ (ee (hv pins s σ H _ I h) fun u s1 ⟨y,H1,I1,ry,q⟩=>ee (ha pins s1 σ H1 _ I1 q) fun ov s2 ⟨x,H2,I2,rx,e,C,R,vs,e1,e2,k,q2⟩=>?_) hs
 subst e1
 obtain rfl:ov=Value.ref e:=rx
 obtain⟨nm,qn,N,bs,bm,sn,sub,ab,col,dd,k0,k1,k2,k3,k5,c⟩:=k.on
 have c:=c _ I2.gY
 have hn:=I2.cz.fresh (aI s2.heap.objs.size)
 obtain⟨hp,g,d,tk,os⟩:=s2
 refine LX PySem.F.store_Exception c.o c.at_ c.rf (lH I2.gY k.sa) (lH I2.gY k.tx) (I2.DW e2) fun h' OR b x' n=>?_
 exact⟨σ,_,I2.LZ (t':=OR) e2 b x' n ry,q2 _ hn⟩
structure Fh (K:Frag)(R f:Addr):Prop where
 rd:readsIn K R (.type "type")=true
 sp:specialIn K (.ref R) "__getattribute__"=some (some (.builtin "type.__getattribute__"))
 fd:findCls K (.ref R) (.type "type") "__init__"=some (.val (.ref f))
 kp:keepIn K (.ref f)=true
theorem jq {pl:Sem Bool}(i:Fh X.K R f)(F:SI X.prog X.w X.K X.mg X.base k f fd ps sp)(hr:iw k X.A)(hb:Binds X.K fd ps [])(hg:Gl X x)(hm:X.mg x=some (.ref R))(ha:PA X (e :: es) t)(qB:(x == ("__debug__":Str))=false:=by decide)
  (hs:starEach (e :: es) X.env=(false,eval e X.env) :: starEach es X.env:=by rfl) (jb:(backTo pos (starEach es X.env)).any (·.1)=false:=by rfl)
  (ht:eval (.Call (.Attribute (.Name x p) "__init__" apos) (e :: es) [] pos) X.env=(do
   let ov ← eval (.Name x p) X.env
   standAt apos.atName
   let(f,first) ← holding [ov] (getMethod ov "__init__" pl)
   callWith pos f first (backTo pos (starEach (e :: es) X.env)) (backToKw pos (keywordEach [] X.env))):=by rfl):
  PE X (.Call (.Attribute (.Name x p) "__init__" apos) (e :: es) [] pos) (uO sp [] E0 t):=by
 intro pins s σ H Q I h
 refine wC (pl:=pl) (jG I hg hm ?_ qB) ht
 refine PySem.W.method_cls I.gY i.sp (PySem.W.cls_value I.gY i.rd i.fd rfl ?_)
 refine kB (h₀:=X.base) I.ok.mod.Lk i.kp (ee (ha pos pins _ σ H _ (I.tok _) h) fun us s1 ⟨vs,H1,I1,r,q⟩=>⟨I1.gY,?_⟩) hs jb
 have q2:sp (vs ++ []) H1 Q E0:=q
 rw[bU] at q2
 exact Fg F hr I1.IQ hb I1 r q2
end
def Fly (mg:Str->Option Value)(n0:Nat)(H:Hp)(h:Heap)(a C dx:Addr):Prop:=
 ∃(vs:Array Value) (T:Addr),je h a (.ref C) (some dx) vs/\vs[1]? =some (.ref T)/\K4 h T .none/\T≠a/\n0<=a/\n0<=T/\H a=none/\H T=none/\(vs[2]? =some .none∨mg "Needed"=some (.ref C))
def mJ (P:Program)(w:World)(mg:Str->Option Value):Gr:=fun outer H s E e s'=>
 ∃(a C dx:Addr) (H':Hp),e= .ref a/\s'.os=s.os/\AllBare s'.gens/\Un (Dq outer) [] H H' s.heap s'.heap/\oC P w H' s'.heap/\Fly mg s.heap.objs.size H' s'.heap a C dx/\E (.ref C) (some dx) H'
theorem Fj {fs fr own:List Addr}{H H2:Hp}{h h2 h3:Heap}(u:Un fs [] H H2 h h2)(b:ni fr own h2 h3)(ho: ∀c∈own,h.objs.size<=c)(hf: ∀c∈fr,c∈fs∨h.objs.size<=c):Un fs [] H H2 h h3 where
 keep:=fun c o z n hc hx=>(b c o (u.keep c o z n hc hx) (fun w=>absurd (aN z) (xT.mpr (ho c w)))).1 (fun w=>(hf c w).elim hc (fun q=>absurd (aN z) (xT.mpr q)))
 slot:=fun c o z n hc hx=>by
  obtain⟨sl,e⟩:=u.slot c o z n hc hx
  obtain⟨_,Vi,e2⟩:=b c _ e (fun w=>absurd (aN z) (xT.mpr (ho c w)))
  exact⟨Vi,e2⟩
 free:=u.free
 there:=fun c o z hx=>by
  obtain⟨o',e⟩:=u.there c o z hx
  obtain⟨_,Vi,e2⟩:=b c _ e (fun w=>absurd (aN z) (xT.mpr (ho c w)))
  exact⟨_,e2⟩
 qw:=u.qw
 pE:=u.pE
 pF:=u.pF
theorem zt {P:Program}{w:World}{fr own:List Addr}{H:Hp}{h h':Heap}(k:oC P w H h)(b:ni fr own h h')(hf: ∀c∈fr,H c=none)(ho: ∀c∈own,H c=none):oC P w H h':=fun c u z=>by
 refine(k c u z).tT (fun d o hd w=>?_) (fun _ q=>q) fun _ _ q=>q
 have t: ∃u',H d=some u':=hd.elim (fun q=>⟨u,by rw[q]; exact z⟩) (fun q=>⟨_,q⟩)
 obtain⟨u',y⟩:=t
 exact(b d o w (fun q=>by rw[ho d q] at y; cases y)).1 (fun q=>by rw[hf d q] at y; cases y)
section
variable {X:Cx}{pins:List (Addr×Obj)}{σ:St}{H:Hp}{s:Shared}{h':Heap}{own:List Addr}
theorem Inv.j9 {c:Addr}(I:Inv X pins σ H s)(h:s.heap.objs.size<=c):(c∈X.ex∨X.s₀.heap.objs.size<=c)/\c≠X.env.locals/\(∀x k,X.env.cells.lookup x=some k->k≠c)/\ ∀p∈X.pn ++ pins,p.1≠c:=by
 refine⟨.inr (a6 I.sz h),(a8 (bo I.lt h)).symm,fun x k z=>?_,fun p hp=>?_⟩
 ·obtain⟨v,w⟩:=I.cell x k z
  exact a8 (bo w.lt h)
 ·exact a8 (bo (aN (I.pin p hp).1) h)
theorem Inv.but (I:Inv X pins σ H s)(b:ni (Dq X.stack) own s.heap h')
  (ho: ∀c∈own,H c=none/\(c∈X.ex∨X.s₀.heap.objs.size<=c)/\c≠X.env.locals/\(∀x k,X.env.cells.lookup x=some k->k≠c)/\ ∀p∈X.pn ++ pins,p.1≠c):Inv X pins σ H {s with heap:=h'}:=by
 refine I.EH (s':={s with heap:=h'}) (ch:=own) rfl ⟨fun c o z n hc hx=>(b c o z hx).1 hc,fun c o z n hc hx=>(b c o z hx).2,fun c o z n hx=>n,fun c o z hx=>?_,fun _ _ z=>z,fun _ _ _ z=>z,fun c ps z=>⟨#[],by rw[z]; simp⟩⟩ ?_ I.bare fun c hc=>(ho c hc).2
 ·obtain⟨_,sl,e⟩:=b c o z hx
  exact⟨_,e⟩
 ·exact zt I.cz b I.qx fun c hc=>(ho c hc).1
end
structure QQ (X:Cx)(E:XK):Prop where
 pass:Passes (mJ X.prog X.w X.mg) X E
 mz: ∀{pins:List (Addr×Obj)} {σ:St} {H:Hp} {s:Shared} {a C dx:Addr} {vs:Array Value},Inv X pins σ H s->je s.heap a (.ref C) (some dx) vs->vs[1]? =some .none->(vs[2]? =some .none∨X.mg "Needed"=some (.ref C))->
  X.s₀.heap.objs.size<=a->H a=none->E (.ref C) (some dx) H->X.xe (.ref a) s
 own:PassesOwn (model X.prog X.w) X.A X.env X.xe
 ownAt: ∀hd:Option Value,PassesOwnAt (model X.prog X.w) (X.A.mark hd) X.A X.env X.xe
 Il:X.stack=X.env :: X.outer
 ZP:X.env.frame=some X.env.locals
section
variable {P:Program}{w:World}{K:Frag}{mg:Str->Option Value}{base:Heap}{N:List Str}{qual:Str}{scope:Scope}{f:Addr}{cd:Value}{A:Around}{outer:List Env}{s:Shared}{H:Hp}{E:XK}
theorem SK:Passes (mJ P w mg) (ly (mJ P w mg) P w K mg base N qual scope f cd A outer s H E) E:=by
 rintro pins σ H1 s1 e s2 I ⟨a,C,dx,H2,rfl,ho,hg,u,cz,⟨vs,T,x,h1,ft,ne,na,nT,Ha,HT,h2⟩,q⟩
 have I2:=I.EH (ch:=[]) ho u cz hg (fun b z=>absurd z (by simp))
 have sz:s.heap.objs.size<=s1.heap.objs.size:=I.sz
 have QR:a < s2.heap.objs.size:=by
  obtain⟨o,z,_⟩:=x
  exact aN z
 show wpAny _ _ (leaving (envOfC qual scope s.heap.objs.size f cd) (.ref a)) _ _ s2
 refine OQ (base:=base) (outer:=outer) (L:=s.heap.objs.size) I.ok.frames I2.stack rfl x h1 ft ne fun h3 T' b x' hT t'=>?_
 have QS:T'≠a:=by
  rw[hT]
  exact(a8 QR).symm
 refine⟨a,C,dx,H2,rfl,I2.os,I2.bare,Fj I2.base b ?_ ?_,zt cz b I2.qx ?_,⟨_,T',x',pV (fu h1),t',QS,a6 sz na,?_,Ha,I2.cz.fresh (iP hT.symm),?_⟩,q⟩
 ·intro c hc
  rcases aw.mp hc with rfl|hc
  ·exact a6 sz nT
  ·rw[ao.mp hc]
   exact a6 sz na
 ·intro c hc
  rcases aw.mp (I2.uH c hc) with hc|hc
  ·rw[hc]
   exact .inr (aI _)
  ·exact .inl hc
 ·intro c hc
  rcases aw.mp hc with rfl|hc
  ·exact HT
  ·rw[ao.mp hc]
   exact Ha
 ·rw[hT]
  exact I2.sz
 ·rw[qQ (by decide)]
  exact h2
theorem OX:QQ (ly (mJ P w mg) P w K mg base N qual scope f cd A outer s H E) E where
 pass:=SK
 mz:=by
  intro pins σ H1 s1 a C dx vs I x h1 h2 na Ha q
  have QR:a < s1.heap.objs.size:=by
   obtain⟨o,z,_⟩:=x
   exact aN z
  show wpAny _ _ (leaving (envOfC qual scope s.heap.objs.size f cd) (.ref a)) _ _ s1
  refine OP (base:=base) (outer:=outer) (L:=s.heap.objs.size) I.ok.frames I.stack rfl x h1 fun h3 T' b x' hT t'=>?_
  have QS:T'≠a:=by
   rw[hT]
   exact(a8 QR).symm
  refine⟨a,C,dx,H1,rfl,I.os,I.bare,Fj I.base b ?_ ?_,zt I.cz b I.qx ?_,⟨_,T',x',pV (fu h1),t',QS,na,?_,Ha,I.cz.fresh (iP hT.symm),?_⟩,q⟩
  ·intro c hc
   rw[ao.mp hc]
   exact na
  ·intro c hc
   rcases aw.mp (I.uH c hc) with hc|hc
   ·rw[hc]
    exact .inr (aI _)
   ·exact .inl hc
  ·intro c hc
   rw[ao.mp hc]
   exact Ha
  ·rw[hT]
   exact I.sz
  ·rw[qQ (by decide)]
   exact h2
 own:=PassesOwn.leaving
 ownAt:=fun _=>PassesOwnAt.leaving
 Il:=rfl
 ZP:=rfl
theorem gx.ZQ {x qual:Str}{st:Stmt}{f:Addr}{fd:FuncData}{N ps:List Str}{k:Nat}{sp:Sp}(F:gx K x qual st f fd)(S:aW N ps (ax st))(len: ∀vs H Q E,sp vs H Q E->vs.length=ps.length)
  (fX: ∀(cU:Value) (A:Around) (outer:List Env) (s:Shared) (H:Hp) (vs:List V) (Q:VK) (E:XK),ff k (A.deeper (envOfC qual (ax st) s.heap.objs.size f cU))->QQ (ly (mJ P w mg) P w K mg base N qual (ax st) f cU A outer s H E) E->sp vs H Q E->
   ∃t,oQ (ly (mJ P w mg) P w K mg base N qual (ax st) f cU A outer s H E) (dF st) t/\t {nx:=fun _ H'=>Q .eD H',rt:=Q} (start N vs) H):l4 P w K mg base (mJ P w mg) (k + 1) f fd ps sp:=by
 obtain⟨oc,od,kV,doc,pm,an,cU,ct,Gs,rfl,lk,rP⟩:=F.ex
 exact IU lk rP S len fun A outer s H vs Q E hr yd=>fX cU A outer s H vs Q E hr OX yd
end
def OY (K:Frag)(txt:Str):Sp:=fun vs H Q _=> ∃(e C R t0:Addr),vs=[.ref e]/\H e=some (xo e C none (v0 t0))/\g8 K C R/\ ∀dx t',H dx=none->Q .eD (upd (upd H dx (.xd [("text",.str txt)])) e (xo e C (some dx) (v0 t')))
def OZ (E:XK)(C:Addr)(txt:Str):TS:=fun _ _ H=> ∀dx,H dx=none->E (.ref C) (some dx) (upd H dx (.xd [("text",.str txt)]))
structure Jy (P:Program)(w:World)(K:Frag)(mg:Str->Option Value)(base:Heap)(k:Nat)(x:Str)(C R:Addr)(txt:Str):Prop where
 ZR:mg x=some (.ref C)
 ek:g8 K C R
 kp:keepIn K (.ref C)=true
 init: ∃(f:Addr) (fd:FuncData),findIn K (.ref C) "__init__"=some (some (.ref f))/\typeIn K (.ref f)=some (.type "function")/\SI P w K mg base k f fd ["self"] (OY K txt)/\Binds K fd ["self"] []
section
variable {X:Cx}{k:Nat}{C R:Addr}{x txt:Str}{p pos gO:Pos}{E:XK}
theorem Jz (M:Jy X.prog X.w X.K X.mg X.base k x C R txt)(hr:iw (k + 1) X.A)(hg:Gl X x)(qB:(x == ("__debug__":Str))=false){pins:List (Addr×Obj)}{σ:St}{H:Hp}{s:Shared}{Q:Value->Shared->Prop}{xe:Value->Shared->Prop}(I:Inv X pins σ H s)
  (q: ∀(s2:Shared) (e dx t':Addr),s.heap.objs.size<=e->H dx=none->H e=none->dx≠e->Inv X pins σ (upd H dx (.xd [("text",.str txt)])) s2->je s2.heap e (.ref C) (some dx) (v0 t')->Q (.ref e) s2):
  wpAny (model X.prog X.w) X.A (eval (.Call (.Name x p) [] [] gO) X.env) Q xe s:=by
 obtain⟨f,fd,hi,hf,F,hb⟩:=M.init
 refine eL (jG I hg M.ZR ?_ qB)
 refine A6 I.gY M.kp ?_
 obtain⟨nm,qn,N,bs,bm,sn,sub,ab,col,dd,k0,k1,k2,k3,k5,c⟩:=M.ek.on
 have c:=c _ I.gY
 have hz:=I.cz.fresh (dP s.heap.objs.size)
 have I1:=I.kept (t':=s.toks) (h':=s.heap.push (jz [])) (fun b u z=>ay _ z)
 have ex:je ((s.heap.push (jz [])).push (me C s.heap.objs.size)) (s.heap.objs.size + 1) (.ref C) none (v0 s.heap.objs.size):=⟨me C s.heap.objs.size,by heap_get,rfl,rfl,rfl⟩
 have I2:=I1.laid (a:=s.heap.objs.size + 1) (o:=xo (s.heap.objs.size + 1) C none (v0 s.heap.objs.size)) (t':=s.toks) (h':=(s.heap.push (jz [])).push (me C s.heap.objs.size)) (fun b u z=>ay _ z) (iP (oa _ _)) (Jw ex)
 have U8:=PySem.W.looks_typeIn (M:=model X.prog X.w) I.gY hf
 have O0: ∃oI,s.heap.get? f=some oI/\oI.cls= .type "function":=by
  have z:=hf
  unfold typeIn at z
  dsimp only at z
  cases w:X.K.lookup f with
  |none=>rw[w] at z; cases z
  |some o=>
   rw[w] at z
   exact⟨o,I.gY _ _ w,aD z⟩
 obtain⟨oI,O0,SD⟩:=O0
 have e0:=I2.IQ.make C [] []
 obtain⟨hp,g,d,tk,os⟩:=s
 refine call_exc NU c.e c.na c.nn c.at_ (lH I.gY hi) O0 SD ?_
 refine ee (Fg (X:=X) F (hr.make C [] []) e0 hb I2 (us:=[.ref (hp.objs.size + 1)]) (vs:=[.ref (hp.objs.size + 1)]) (Q:=fun v H'=>v= .eD/\ ∃dx t',H dx=none/\dx≠hp.objs.size + 1/\H'=upd (upd (upd H (hp.objs.size + 1) (xo (hp.objs.size + 1) C none (v0 hp.objs.size))) dx (.xd [("text",.str txt)])) (hp.objs.size + 1) (xo (hp.objs.size + 1) C (some dx) (v0 t'))) (.cons rfl .nil) ?_) fun u s2 h2=>?_
 ·refine⟨_,C,R,_,rfl,ag,M.ek,fun dx t' Dh=>⟨rfl,dx,t',?_⟩⟩
  have ne:dx≠hp.objs.size + 1:=fun z=>by
   rw[z,ag] at Dh
   cases Dh
  rw[aA ne] at Dh
  exact⟨Dh,ne,rfl⟩
 ·obtain⟨v,H',I3,rv,rfl,dx,t',Dh,ne,rfl⟩:=h2
  refine⟨rv,?_⟩
  have I4:=Inv.drop I hz I3 ag
  have eH:gone (upd (upd (upd H (hp.objs.size + 1) (xo (hp.objs.size + 1) C none (v0 hp.objs.size))) dx (.xd [("text",.str txt)])) (hp.objs.size + 1) (xo (hp.objs.size + 1) C (some dx) (v0 t'))) (hp.objs.size + 1)=upd H dx (.xd [("text",.str txt)]):=by
   funext b
   by_cases h1:b=hp.objs.size + 1
   ·rw[h1,yr,aA ne.symm,hz]
   ·rw[iL h1,aA h1]
    by_cases h2:b=dx
    ·rw[h2,ag,ag]
    ·rw[aA h2,aA h2,aA h1]
  rw[eH] at I4
  exact q s2 _ dx t' (dP _) Dh hz ne I4 (I3.DW ag)
theorem ka (T:QQ X E)(M:Jy X.prog X.w X.K X.mg X.base k x C R txt)(hr:iw (k + 1) X.A)(hg:Gl X x)(hc:X.calm=true)(qB:(x == ("__debug__":Str))=false:=by decide):
  PS X (.Raise (some (.Call (.Name x p) [] [] gO)) none pos) (OZ E C txt):=by
 intro pins s σ H D I h
 rw[arm_exec_Raise]
 obtain⟨nm,qn,N,bs,bm,sn,sub,ab,col,dd,k0,k1,k2,k3,k5,c⟩:=M.ek.on
 refine az (iC (DU (C:=C) (nm:=nm) (q:=qn) (N:=N) (bs:=bs) (bm:=bm) (oG:=true) (sn:=sn) (sub:=sub) (ab:=ab) (col:=col) (dd:=dd) (k0:=k0) (k1:=k1) (k2:=k2) (k3:=k3) (k5:=k5) (newId:="Exception.__new__") (c _ I.gY).b (I.ok.hd hc) (az (Jz M hr hg qB I fun s2 e dx t' he Dh hz ne I2 x2=>az (iC (bF ?_))))))
 exact⟨e,some dx,v0 t',rfl,(c _ I2.gY).at_,x2,rfl,T.mz I2 x2 rfl (.inl rfl) (a6 I.sz he) (by rw[aA ne.symm]; exact hz) (h dx Dh)⟩
end
abbrev Cx.wX (X:Cx)(xe:Value->Shared->Prop)(pn:List (Addr×Obj)):Cx:={X with xe:=xe,pn:=pn}
abbrev Cx.K6 (X:Cx)(e:Value)(pn:List (Addr×Obj))(xe:Value->Shared->Prop):Cx:={X with A:=X.A.mark (some e),calm:=false,pn:=pn,xe:=xe}
section
variable {X:Cx}{pins Bc l:List (Addr×Obj)}{σ:St}{H:Hp}{s:Shared}{xe:Value->Shared->Prop}{E:XK}
theorem Inv.wX (I:Inv X pins σ H s)(xe:Value->Shared->Prop):Inv (X.wX xe (X.pn ++ pins)) [] σ H s:=
 have ok:=I.ok
 ⟨⟨ok.mod,ok.kind,ok.glob,ok.blt,ok.above,ok.inj,ok.has,ok.KU,ok.hd,ok.frames,ok.Il,ok.Ll,ok.bs,ok.Ba,ok.wJ,ok.wK,ok.lY,ok.EG⟩,I.os,I.bare,I.base,I.loc,I.cell,I.free,I.iS,fun p hp=>I.pin p (by simpa using hp),I.cz,I.len⟩
theorem Inv.kb (I:Inv (X.wX xe (X.pn ++ pins)) Bc σ H s):Inv X pins σ H s:=
 have ok:=I.ok
 ⟨⟨ok.mod,ok.kind,ok.glob,ok.blt,ok.above,ok.inj,ok.has,ok.KU,ok.hd,ok.frames,ok.Il,ok.Ll,ok.bs,ok.Ba,ok.wJ,ok.wK,ok.lY,ok.EG⟩,I.os,I.bare,I.base,I.loc,I.cell,I.free,I.iS,fun p hp=>I.pin p (cZ _ hp),I.cz,I.len⟩
theorem Inv.K6 (I:Inv X pins σ H s)(e:Value)(xe:Value->Shared->Prop)(h: ∀p∈l,s.heap.get? p.1=some p.2/\H p.1=none/\p.1≠X.env.locals/\p.1∉X.fs/\ ∀v,p.2.data≠ .cell v):Inv (X.K6 e (X.pn ++ pins ++ l) xe) [] σ H s:=
 have ok:=I.ok
 ⟨⟨ok.mod,ok.kind,ok.glob,ok.blt,ok.above,ok.inj,ok.has,ok.KU,(fun z=>by cases z),ok.frames,ok.Il,ok.Ll,ok.bs,ok.Ba,ok.wJ,ok.wK,ok.lY,ok.EG⟩,I.os,I.bare,I.base,I.loc,I.cell,I.free,I.iS,
  fun p hp=>by
   rw[bU] at hp
   exact(bq.mp hp).elim (fun z=>I.pin p z) (h p),I.cz,I.len⟩
theorem Inv.SM (I0:Inv X pins σ H s){e:Value}{σ':St}{H':Hp}{s':Shared}(I:Inv (X.K6 e (X.pn ++ pins ++ l) xe) Bc σ' H' s'):Inv X pins σ' H' s':=
 have ok:=I.ok
 ⟨⟨ok.mod,ok.kind,ok.glob,ok.blt,ok.above,ok.inj,ok.has,ok.KU,I0.ok.hd,ok.frames,ok.Il,ok.Ll,ok.bs,ok.Ba,ok.wJ,ok.wK,ok.lY,ok.EG⟩,I.os,I.bare,I.base,I.loc,I.cell,I.free,I.iS,
  fun p hp=>I.pin p (cZ _ (cZ _ hp)),I.cz,I.len⟩
theorem SP.kb {D:Ends}{f:Flow}{s':Shared}(h:SP (X.wX xe (X.pn ++ pins)) [] D f s'):SP X pins D f s':=by
 cases f with
 |next=>obtain⟨σ',H',I,q⟩:=h; exact⟨σ',H',I.kb,q⟩
 |brk=>obtain⟨σ',H',I,q⟩:=h; exact⟨σ',H',I.kb,q⟩
 |cont=>obtain⟨σ',H',I,q⟩:=h; exact⟨σ',H',I.kb,q⟩
 |ret u=>obtain⟨v,σ',H',I,r,q⟩:=h; exact⟨v,σ',H',I.kb,r,q⟩
theorem Inv.renamed {h5:Heap}{m5:Str->Option Value}{t':Nat}(I:Inv X pins σ H s)(n5:h5.Ns X.env.locals m5)(sb:Heap.SameBut X.env.locals s.heap h5):Inv X pins (List.replicate X.N.length none) H {s with heap:=h5,toks:=t'}:=by
 have low: ∀c o,X.s₀.heap.get? c=some o->c≠X.env.locals:=fun c o z=>a8 (bo (aN z) I.ok.above)
 refine⟨I.ok,I.os,I.bare,⟨fun c o z n hc hx=>(sb.2 c (low c o z)).trans (I.base.keep c o z n hc hx),fun c o z n hc hx=>?_,I.base.free,fun c o z hx=>?_,I.base.qw,I.base.pE,I.base.pF⟩,⟨m5,n5,fun i x v h1 h2 _=>?_⟩,fun x c z=>?_,I.free,I.iS,fun p hp=>?_,fun c u z=>?_,?_⟩
 ·obtain⟨sl,e⟩:=I.base.slot c o z n hc hx
  exact⟨sl,(sb.2 c (low c o z)).trans e⟩
 ·obtain⟨o',e⟩:=I.base.there c o z hx
  exact⟨o',(sb.2 c (low c o z)).trans e⟩
 ·rw[List.getElem?_replicate] at h2
  split at h2 <;> cases h2
 ·obtain⟨v,w⟩:=I.cell x c z
  exact⟨v,w.sameBut sb (I.M4 x c z)⟩
 ·obtain⟨w1,w2,w3,w4⟩:=I.pin p hp
  exact⟨(sb.2 _ w3).trans w1,w2,w3,w4⟩
 ·refine(I.cz c u z).tT (fun d o hd w=>(sb.2 d (fun q=>?_)).trans w) (fun _ q=>q) fun _ _ q=>q
  rcases hd with hd|hd
  ·rw[← hd,q,I.free] at z
   cases z
  ·rw[q,I.free] at hd
   cases hd
 ·rw[iQ]
theorem land (oR:X.stack=X.env :: X.outer)(Dg:X.env.frame=some X.env.locals){e:Value}{s':Shared}(I:Inv X pins σ H s)(c:mJ X.prog X.w X.mg X.stack H s E e s'){hs:List ExceptHandler}{Q:Flow->Shared->Prop}
  (q: ∀(a C dx T:Addr) (vs:Array Value) (H':Hp) (s3:Shared),e= .ref a->Inv X pins σ H' s3->je s3.heap a (.ref C) (some dx) vs->vs[1]? =some (.ref T)->K4 s3.heap T .none->T≠a->s.heap.objs.size<=a->s.heap.objs.size<=T->H' a=none->H' T=none->
   (vs[2]? =some .none∨X.mg "Needed"=some (.ref C))->E (.ref C) (some dx) H'->wpAny (model X.prog X.w) X.A (handleBy e X.env hs) Q xe s3):
  wpAny (model X.prog X.w) X.A (noteFrame e X.env) (fun _ s2=>wpAny (model X.prog X.w) X.A (setFlight e none) (fun _ s3=>wpAny (model X.prog X.w) X.A (handleBy e X.env hs) Q xe s3) xe s2) xe s':=by
 obtain⟨a,C,dx,H2,rfl,ho,hg,u,cz,⟨vs,T,x,h1,ft,ne,na,nT,Ha,HT,h2⟩,z⟩:=c
 have I2:=I.EH (ch:=[]) ho u cz hg (fun b z=>absurd z (by simp))
 have st:=I2.stack
 rw[oR] at st
 have QR:a < s'.heap.objs.size:=by
  obtain⟨o,z,_⟩:=x
  exact aN z
 have Xp:s.heap.objs.size<=s'.heap.objs.size:=a6 na (di QR)
 refine Ni (base:=X.base) (outer:=X.outer) (by rw[I.ok.frames,oR]) st Dg x h1 ft ne fun h3 T' b x3 hT t3=>?_
 have QS:T'≠a:=by
  rw[hT]
  exact(a8 QR).symm
 have ZS:H2 T'=none:=I2.cz.fresh (iP hT.symm)
 have nT':=I2.j9 (iP hT.symm)
 have b':ni (Dq X.stack) [T,a] s'.heap h3:=by
  rw[oR]
  exact b
 have I3:=I2.but b' (fun c hc=>by
  rcases aw.mp hc with rfl|hc
  ·exact⟨HT,I.j9 nT⟩
  ·rw[ao.mp hc]
   exact⟨Ha,I.j9 na⟩)
 refine vo (s:={s' with heap:=h3}) x3 (pV (fu h1)) t3 fun h4 b4 t4 _=>?_
 have I4:=I3.but (h':=h4) (own:=[T']) (b4.mono (fun _ z=>absurd z (by simp)) (fun _ z=>z)) (fun c hc=>by
  rw[ao.mp hc]
  exact⟨ZS,nT'⟩)
 refine q a C dx T' _ H2 _ rfl I4 (x3.but b4 (by simpa using QS.symm)) (pV (fu h1)) t4 QS na (by rw[hT]; exact Xp) Ha ZS ?_ z
 rw[qQ (by decide)]
 exact h2
end
section
variable {X:Cx}{R:Addr}{n x:Str}{i k:Nat}{p1 p2 p3 p4 p5 pos gO:Pos}{body:List Stmt}{t:XK->TS}{E:XK}{CN:Addr}{txt:Str}
def SN (K:Frag)(R:Addr)(D:Ends):XK:=fun c d H'=> ∃(C dx:Addr) (txt:Str),c= .ref C/\d=some dx/\g8 K C R/\H' dx=some (.xd [("text",.str txt)])/\D.rt (.str txt) H'
def L1 (K:Frag)(R:Addr)(t:XK->TS):TS:=fun D σ H=>t (SN K R D) D σ H
theorem GX (oR:X.stack=X.env :: X.outer)(Dg:X.env.frame=some X.env.locals)(hc:X.calm=true)(hN:X.N.Nodup)(hi:X.N[i]? =some n)(hl:X.env.scope.names.lookup n=some .local)(hg:Gl X x)(hm:X.mg x=some (.ref R))(kR:g8 X.K R R)
  (hb: ∀(xe:Value->Shared->Prop) (pn:List (Addr×Obj)) (E:XK),Passes (mJ X.prog X.w X.mg) (X.wX xe pn) E->oQ (X.wX xe pn) body (t E)) (hd:(n == ("__debug__":Str))=false:=by decide) (rP:(n == ("__classdict__":Str))=false:=by decide) (hx:(x == ("__debug__":Str))=false:=by decide):
  PS X (.Try body [.ExceptHandler (some (.Name x p1)) (some n) [.Return (some (.Attribute (.Name n p2) "text" p3)) p4] p5] [] [] pos) (L1 X.K R t):=by
 intro pins s σ H D I h
 refine wpAny_Try_except (cm (hb (fun e s1=>wpAny (model X.prog X.w) X.A (noteFrame e X.env) (fun _ s2=>wpAny (model X.prog X.w) X.A (setFlight e none) (fun _ s3=>
  wpAny (model X.prog X.w) X.A (handleBy e X.env [.ExceptHandler (some (.Name x p1)) (some n) [.Return (some (.Attribute (.Name n p2) "text" p3)) p4] p5]) (SP X pins D) X.xe s3) X.xe s2) X.xe s1) (X.pn ++ pins) (SN X.K R D) ?_ [] s σ H D (I.wX _) h) (fun f s1 q=>?_) fun _ _ z=>z)
 ·rintro SO σ1 H1 s1 e s2 I1 cx
  refine land oR Dg I1.kb cx fun a C dx T vs H2 s3 he I3 x3 h1 ft ne na nT Ha HT h2 z=>?_
  subst he
  obtain⟨C',dx',txt,e1,e2,ek,ed,q⟩:=z
  cases e1
  cases e2
  obtain⟨oe,Xq,QF,O1,SQ⟩:=id x3
  have cC:=ek.on
  have cR:=kR.on
  obtain⟨_,_,_,_,_,_,_,_,_,_,_,_,_,_,_,cC⟩:=cC
  obtain⟨_,_,_,_,_,_,_,_,_,_,_,_,_,_,_,cR⟩:=cR
  have nw:=I1.kb.j9 na
  have Im:=I3.K6 (l:=[(a,oe)]) (.ref a) (fun _ _=>False) (fun p hp=>by
   rw[ao.mp hp]
   exact⟨Xq,Ha,nw.2.1,I1.kb.Gh na,fun v z=>by rw[SQ] at z; cases z⟩)
  refine wpAny_handleBy_cons (codeAny_handlers_test (jG Im hg hm ?_ hx)) (by intro q; cases q)
  obtain⟨hp,g,d,tk,os⟩:=s3
  refine yq (cC _ I3.gY).at_ (cR _ I3.gY).at_ x3 (cR _ I3.gY).b (cC _ I3.gY).up ?_
  refine codeAny_handlers_suite_as ?_
  refine vo x3 h1 ft fun h4 b4 t4 _=>?_
  have L3:=I1.kb.j9 nT
  have I4:=Im.but (h':=h4) (own:=[T]) (b4.mono (fun _ z=>absurd z (by simp)) (fun _ z=>z)) (fun c hc=>by
   rw[ao.mp hc]
   refine⟨HT,L3.1,L3.2.1,L3.2.2.1,fun p hp=>?_⟩
   rw[bU] at hp
   rcases bq.mp hp with hp|hp
   ·exact L3.2.2.2 p hp
   ·rw[ao.mp hp]
    exact ne.symm)
  refine uI (X:=X.K6 (.ref a) (X.pn ++ pins ++ [(a,oe)]) (fun _ _=>False)) (v:= .ref a) I4 hN hi (.inl hl) rfl (fun s5 I5=>?_) (.inr hl)
  have pe:PE (X.K6 (.ref a) (X.pn ++ pins ++ [(a,oe)]) (fun _ _=>False)) (.Attribute (.Name n p2) "text" p3) (fun σ H Q=>σ[i]? =some (some (.ref a))/\H dx=some (.xd [("text",.str txt)])/\Q (.str txt) H):=by
   rintro Nj s6 σ6 H6 Q6 J ⟨e1,e2,q6⟩
   refine EO rfl (ee (Dr (X:=X.K6 (.ref a) (X.pn ++ pins ++ [(a,oe)]) (fun _ _=>False)) hi (.inl hl) hd rP Nj s6 σ6 H6 (fun v H'=>v= .ref a/\H'=H6) J ⟨_,e1,rfl,rfl⟩) ?_)
   rintro u s7 ⟨v,H7,J7,rv,rfl,rfl⟩
   obtain rfl:u=Value.ref a:=rv
   obtain⟨w1,_⟩:=J7.pin (a,oe) (cZ _ (bz _ (ao.mpr rfl)))
   obtain⟨mA,n1,rl⟩:=J7.cz dx _ e2
   have rt:=rl "text"
   have lk:List.lookup ("text":Str) [("text",V.str txt)]=some (V.str txt):=by simp[List.lookup]
   rw[lk] at rt
   cases Xr:mA "text" with
   |none=>rw[Xr] at rt; exact False.elim rt
   |some u7=>
    rw[Xr] at rt
    obtain⟨tk7,rfl⟩: ∃tk,u7=Value.str txt tk:=rt
    obtain⟨hp7,g7,d7,t7,os7⟩:=s7
    refine LY PySem.F.attr_Exception.ga (cC _ J7.gY).b (cC _ J7.gY).at_ (lH J7.gY ek.ga) (lH J7.gY ek.gk) (lH J7.gY ek.tx) ⟨oe,w1,QF,O1,SQ⟩ n1.ns Xr rfl ?_
    exact⟨.str txt,H7,J7.tok _,⟨_,rfl⟩,q6⟩
  have hlen:i < σ1.length:=by
   rw[I1.len]
   exact(ak.mp hi).1
  refine wpAny_mono (au (a9 pe) [] s5 _ H2 {nx:=fun _ _=>False,rt:=fun v H'=>v= .str txt/\H'=H2} I5 ⟨by simp[hlen],ed,rfl,rfl⟩) (fun f s6 q6=>?_) fun _ _ z=>z.elim
  cases f with
  |next=>obtain⟨_,_,_,z⟩:=q6; exact z.elim
  |brk=>obtain⟨_,_,_,z⟩:=q6; exact z.elim
  |cont=>obtain⟨_,_,_,z⟩:=q6; exact z.elim
  |ret u=>
   obtain⟨v,σ6,H6,I6,rv,rfl,rfl⟩:=q6
   have I7:Inv X pins σ6 H6 s6:=Inv.SM I3 I6
   obtain⟨m6,n6,_⟩:=id I7.loc
   have kd:(X.env.scope.kind == .class || (X.env.scope.kind == .module && X.env.locals != X.env.globals))=false:=by
    rw[I.ok.kind]
    rfl
   refine wpAny_nameGoes hl n6 kd fun h7 m7 n7 sb=>?_
   exact⟨.str txt,_,H6,I7.renamed n7 sb,rv,q⟩
 ·have q':=SP.kb q
  cases f with
  |next=>exact jw q'
  |brk=>exact q'
  |cont=>exact q'
  |ret u=>exact q'
def JA (CT CN:Addr)(txt:Str)(E:XK):XK:=fun c d H'=>c= .ref CT/\ ∀dx,H' dx=none->E (.ref CN) (some dx) (upd H' dx (.xd [("text",.str txt)]))
def GY (CT CN:Addr)(txt:Str)(E:XK)(t:XK->TS):TS:=fun D σ H=>t (JA CT CN txt E) D σ H
theorem BD {CT:Addr}{kk:_}(T:QQ X E)(hc:X.calm=true)(hg:Gl X x)(hm:X.mg x=some (.ref CT))(kT:g8 X.K CT R)(jy:X.mg "Needed"≠some (.ref CT))(M:Jy X.prog X.w X.K X.mg X.base k "Needed" CN R txt)(hr:iw (k + 1) X.A)(hgN:Gl X "Needed")
  (hb: ∀(xe:Value->Shared->Prop) (pn:List (Addr×Obj)) (E:XK),Passes (mJ X.prog X.w X.mg) (X.wX xe pn) E->oQ (X.wX xe pn) body (t E)) (hx:(x == ("__debug__":Str))=false:=by decide):
  PS X (.Try body [.ExceptHandler (some (.Name x p1)) none [.Raise (some (.Call (.Name "Needed" p2) [] [] gO)) (some (.Constant .none kk p3)) p4] p5] [] [] pos) (GY CT CN txt E t):=by
 intro pins s σ H D I h
 refine wpAny_Try_except (cm (hb (fun e s1=>wpAny (model X.prog X.w) X.A (noteFrame e X.env) (fun _ s2=>wpAny (model X.prog X.w) X.A (setFlight e none) (fun _ s3=>
  wpAny (model X.prog X.w) X.A (handleBy e X.env [.ExceptHandler (some (.Name x p1)) none [.Raise (some (.Call (.Name "Needed" p2) [] [] gO)) (some (.Constant .none kk p3)) p4] p5]) (SP X pins D) X.xe s3) X.xe s2) X.xe s1) (X.pn ++ pins) (JA CT CN txt E) ?_ [] s σ H D (I.wX _) h) (fun f s1 q=>?_) fun _ _ z=>z)
 ·rintro SO σ1 H1 s1 e s2 I1 cx
  refine land T.Il T.ZP I1.kb cx fun a C dx T0 vs H2 s3 he I3 x3 h1 ft ne na nT Ha HT h2 z=>?_
  subst he
  obtain⟨e1,q⟩:=z
  cases e1
  have v2:vs[2]? =some .none:=h2.elim id (fun z=>absurd z jy)
  obtain⟨oe,Xq,QF,O1,SQ⟩:=id x3
  obtain⟨_,_,_,_,_,_,_,_,_,_,_,_,_,_,_,cT⟩:=kT.on
  obtain⟨nm,qn,N,bs,bm,sn,sub,ab,col,dd,k0,k1,k2,k3,k5,cN⟩:=M.ek.on
  have nw:=I1.kb.j9 na
  have Xs: ∀p∈[(a,oe)],s3.heap.get? p.1=some p.2/\H2 p.1=none/\p.1≠X.env.locals/\p.1∉X.fs/\ ∀v,p.2.data≠ .cell v:=fun p hp=>by
   rw[ao.mp hp]
   exact⟨Xq,Ha,nw.2.1,I1.kb.Gh na,fun v z=>by rw[SQ] at z; cases z⟩
  have Im:=I3.K6 (l:=[(a,oe)]) (.ref a) X.xe Xs
  refine wpAny_handleBy_cons (codeAny_handlers_test (jG Im hg hm ?_ hx)) (by intro q; cases q)
  obtain⟨hp,g,d,tk,os⟩:=s3
  refine yq (b:=true) (cT _ I3.gY).at_ (cT _ I3.gY).at_ x3 (cT _ I3.gY).b (by simp) ?_
  refine codeAny_handlers_suite ?_
  refine vo x3 h1 ft fun h4 b4 t4 _=>?_
  have L3:=I1.kb.j9 nT
  have I4:=Im.but (h':=h4) (own:=[T0]) (b4.mono (fun _ z=>absurd z (by simp)) (fun _ z=>z)) (fun c hc=>by
   rw[ao.mp hc]
   refine⟨HT,L3.1,L3.2.1,L3.2.2.1,fun p hp=>?_⟩
   rw[bU] at hp
   rcases bq.mp hp with hp|hp
   ·exact L3.2.2.2 p hp
   ·rw[ao.mp hp]
    exact ne.symm)
  refine wpAny_passesOwnAt (T.ownAt (some (.ref a))) ?_
  have ps:PS (X.K6 (.ref a) (X.pn ++ pins ++ [(a,oe)]) X.xe) (.Raise (some (.Call (.Name "Needed" p2) [] [] gO)) (some (.Constant .none kk p3)) p4) (fun _ _ H=> ∀dx,H dx=none->E (.ref CN) (some dx) (upd H dx (.xd [("text",.str txt)]))):=by
   intro Nj s6 σ6 H6 D6 J h6
   rw[arm_exec_Raise]
   refine az (iC (DV (C:=CN) (e0:=a) (nm:=nm) (q:=qn) (N:=N) (bs:=bs) (bm:=bm) (oG:=true) (sn:=sn) (sub:=sub) (ab:=ab) (col:=col) (dd:=dd) (k0:=k0) (k1:=k1) (k2:=k2) (k3:=k3) (k5:=k5) (newId:="Exception.__new__") (cN _ J.gY).b rfl (fun Rr s7 z=>az (Constant_none (az (iC (bF z))))) (az (Jz (X:=X.K6 (.ref a) (X.pn ++ pins ++ [(a,oe)]) X.xe) M (hr.mark _) hgN (by decide) J fun s7 e Xt t' he Dh hz ne7 I7 x7=>az (iC (bF ?_))))))
   obtain⟨w1,_⟩:=I7.pin (a,oe) (cZ _ (bz _ (ao.mpr rfl)))
   have w0:=(J.pin (a,oe) (cZ _ (bz _ (ao.mpr rfl)))).1
   have nea:e≠a:=fun q=>by
    rw[q] at he
    exact absurd (aN w0) (xT.mpr he)
   refine⟨e,some Xt,v0 t',.ref CT,some dx,vs,rfl,nea,(cN _ I7.gY).at_,x7,rfl,rfl,⟨oe,w1,QF,O1,SQ⟩,v2,fun h8 b8 x8=>?_⟩
   have Hz:upd H6 Xt (.xd [("text",.str txt)]) e=none:=by
    rw[aA ne7.symm]
    exact hz
   have I8:=I7.but (h':=h8) (own:=[e]) (b8.mono (fun _ z=>absurd z (by simp)) (fun _ z=>z)) (fun c hc=>by
    rw[ao.mp hc]
    exact⟨Hz,J.j9 he⟩)
   exact T.mz (Inv.SM I3 I8) x8 rfl (.inr M.ZR) (a6 J.sz he) Hz (h6 Xt Dh)
  refine cm (au ps [] _ _ H2 {nx:=fun _ _=>False,rt:=fun _ _=>False} I4 q) (fun f s9 z=>?_) fun _ _ z=>z
  cases f with
  |next=>obtain⟨_,_,_,z⟩:=z; exact z.elim
  |brk=>obtain⟨_,_,_,z⟩:=z; exact z.elim
  |cont=>obtain⟨_,_,_,z⟩:=z; exact z.elim
  |ret u=>obtain⟨_,_,_,_,_,z⟩:=z; exact z.elim
 ·have q':=SP.kb q
  cases f with
  |next=>exact jw q'
  |brk=>exact q'
  |cont=>exact q'
  |ret u=>exact q'
end
open PySem.W
def BMain (mg:Str->Option Value)(h:Heap):Prop:= ∃bm o,mg "__builtins__"=some (.ref bm)/\bm≠builtinsNs/\bm≠mainGlobals/\h.get? bm=some o/\o.cls= .type "module"/\o.dict=some builtinsNs/\o.data= .plain
abbrev yt (c:Addr)(qual:Str):HO:= .ext fun h=>h.CodeRec (.ref c) qual
theorem JB {P:Program}{w:World}{H:Hp}{h:Heap}{c:Addr}{qual:Str}(x:h.CodeRec (.ref c) qual):dE P w H h c (yt c qual):=by
 refine⟨x,?_,fun h1 h2 z k=>?_⟩
 ·obtain⟨c',o,vs,t,e,g,_⟩:=x
  cases e
  exact⟨o,g⟩
 ·obtain⟨c',o,vs,t,e,g,r⟩:=z
  cases e
  exact⟨c,o,vs,t,rfl,k o g,r⟩
def Tb (H:Hp)(P:Addr)(pos:Pos)(qual:Str):Prop:= ∃ps:Array Value,H P=some (.mO ps)/\TriplesOk ps.toList/\(codeAmong pos ps.toList=none∨ ∃c',codeAmong pos ps.toList=some (.ref c')/\H c'=some (yt c' qual))
section
variable {X:Cx}{pins:List (Addr×Obj)}{σ:St}{H:Hp}{s:Shared}{c P:Addr}{params:Arguments}{body:Expr}{scope:Scope}{pos:Pos}{Q:Value->Shared->Prop}{xe:Value->Shared->Prop}
theorem BMain.at {mg:Str->Option Value}{h h':Heap}(B:BMain mg h)(k: ∀b o,h.get? b=some o->h'.get? b=some o){ps:Array Value}(hP:h'.get? P=some (tabObj ps)):h'.BuiltinsAt mg P:=by
 obtain⟨bm,o,b1,b2,b3,b4,b5,b6,b7⟩:=B
 refine⟨bm,o,b1,b2,b3,fun z=>?_,k _ _ b4,b5,b6,b7⟩
 have e:=k _ _ b4
 rw[z,hP] at e
 cases e
 cases b5
theorem JC (I:Inv X pins σ H s)(B:BMain X.mg X.base)(Fl:X.env.code= .ref c)(C:CodeHd X.base c P)(tb:Tb H P pos (X.env.qual ++ "<lambda>"))(O2:defaultsOf params X.env=([],[]))(qS:closureFor scope X.env=pure [])
  (q: ∀(f c':Addr) (Fm:Value) (H':Hp) (s':Shared),Inv X pins σ H' s'->Frame [P] H H'->Tb H' P pos (X.env.qual ++ "<lambda>")->H' f=none->s'.heap.get? f=some (kla_obj "<lambda>" (X.env.qual ++ "<lambda>") params body scope [] ((X.mg "__name__").getD .none) c' Fm)->
   H' c'=some (yt c' (X.env.qual ++ "<lambda>"))->s.heap.objs.size<=f->Q (.ref f) s'):wpAny (model X.prog X.w) X.A (eval (.Lambda params body scope pos) X.env) Q xe s:=by
 obtain⟨ps,hP,ht,hc⟩:=tb
 have Vk:s.heap.get? P=some (tabObj ps):=I.cz P _ hP
 have hg:s.heap.Ns mainGlobals X.mg:=I.mod.glob.keeps I.bk
 have hgP:mainGlobals≠P:=fun z=>by
  obtain⟨o,es,ep,e,hd,_⟩:=hg
  rw[z,Vk] at e
  cases e
  cases hd
 have hB:=B.at I.bk Vk
 refine kla_eval O2 ?_
 rcases hc with hn|⟨c',hf,Vl⟩
 ·refine kla_makeFunction qS I.ok.glob hg Fl (C.keeps I.bk) Vk ht hn hgP hB fun c' Fm h' tk hx OI i7 Xu QT=>?_
  have Xv:H c'=none:=I.cz.fresh OI
  have cP:c'≠P:=fun z=>by rw[z,hP] at Xv; cases Xv
  have lt: ∀b o,s.heap.get? b=some o->b≠c':=fun b o z=>a8 (bo (aN z) OI)
  have same: ∀b,b≠P->b≠c'->upd (upd H P (.mO (ps ++ #[rawInt pos.line,rawInt pos.col,.ref c']))) c' (yt c' (X.env.qual ++ "<lambda>")) b=H b:=fun b n1 n2=>by rw[aA n2,aA n1]
  have L4: ∀b u,H b=some u->u≠ .mO ps->b≠P:=fun b u z n w=>by
   rw[w,hP] at z
   cases z
   exact n rfl
  have GZ: ∀b u,H b=some u->b≠c':=fun b u z=>aK z Xv
  generalize Vj:kla_obj "<lambda>" (X.env.qual ++ "<lambda>") params body scope [] ((X.mg "__name__").getD .none) c' Fm=ob
  have hf:(h'.push ob).get? h'.objs.size=some ob:=by
   rw[← Vj]
   exact bO _ rfl
  have kp: ∀b o,b≠P->s.heap.get? b=some o->(h'.push ob).get? b=some o:=fun b o n z=>ay _ (hx b o n z)
  have SR:(h'.push ob).get? P=some (tabObj (ps ++ #[rawInt pos.line,rawInt pos.col,.ref c'])):=ay _ QT
  have I2:Inv X pins σ (upd (upd H P (.mO (ps ++ #[rawInt pos.line,rawInt pos.col,.ref c']))) c' (yt c' (X.env.qual ++ "<lambda>"))) {s with heap:=h'.push ob,toks:=tk}:=by
   refine I.un ⟨fun b o z n _ _=>kp b o (fun w=>by rw[w,hP] at n; cases n) z,fun b o z n _ _=>⟨o.slots,kp b o (fun w=>by rw[w,hP] at n; cases n) z⟩,fun b o z n _=>?_,fun b o z _=>?_,fun b xs z=>?_,fun b o u z=>?_,fun b qs z=>?_⟩ fun b u z=>?_
   ·rw[same b (fun w=>by rw[w,hP] at n; cases n) (lt b o z)]
    exact n
   ·by_cases w:b=P
    ·rw[w]
     exact⟨_,SR⟩
    ·exact⟨o,kp b o w z⟩
   ·rw[same b (L4 b _ z (by intro w; cases w)) (GZ b _ z)]
    exact z
   ·rw[same b (L4 b _ z (by intro w; cases w)) (GZ b _ z)]
    exact z
   ·by_cases w:b=P
    ·rw[w] at z ⊢
     rw[hP] at z
     cases z
     exact⟨_,by rw[aA cP.symm,ag]⟩
    ·exact⟨#[],by rw[same b w (GZ b _ z),z]; simp⟩
   ·by_cases w:b=c'
    ·subst w
     rw[ag] at z
     cases z
     exact JB (Xu.push ob)
    ·rw[aA w] at z
     by_cases w2:b=P
     ·subst w2
      rw[ag] at z
      cases z
      exact SR
     ·rw[aA w2] at z
      refine(I.cz b u z).tT (fun d o hd y=>kp d o (fun w3=>?_) y) (fun d y=>?_) fun d xs y=>?_
      ·rcases hd with hd|hd
       ·exact w2 (hd▸w3)
       ·rw[w3,hP] at hd
        cases hd
      ·rw[same d (L4 d _ y (by intro w; cases w)) (GZ d _ y)]
       exact y
      ·rw[same d (L4 d _ y (by intro w; cases w)) (GZ d _ y)]
       exact y
  have Ln:H h'.objs.size=none:=I.cz.fresh (a6 OI (di i7))
  refine q h'.objs.size c' Fm _ _ I2 (fun b o nb z=>?_) ⟨ps ++ #[rawInt pos.line,rawInt pos.col,.ref c'],by rw[aA cP.symm,ag],?_,.inr ⟨c',?_,ag⟩⟩ ?_ (by rw[Vj]; exact hf) ag (a6 OI (di i7))
  ·rw[same b (fun w=>nb (by rw[w]; exact ao.mpr rfl)) (GZ b _ z)]
   exact z
  ·rw[Array.toList_append]
   exact TriplesOk_snoc _ _ _ _ ht
  ·rw[Array.toList_append]
   exact codeAmong_snoc _ ht hn
  ·rw[same _ (fun w=>by rw[w,hP] at Ln; cases Ln) (ql i7)]
   exact Ln
 ·refine kla_makeFunctionHit qS I.ok.glob hg Fl (C.keeps I.bk) Vk ht hf hB fun Fm h' tk hk hsz=>?_
  have I2:=(I.kept (t':=tk) (h':=h'.push (kla_obj "<lambda>" (X.env.qual ++ "<lambda>") params body scope [] ((X.mg "__name__").getD .none) c' Fm)) fun b u z=>ay _ (hk b u z))
  exact q h'.objs.size c' Fm H _ I2 Frame.refl ⟨ps,hP,ht,.inr ⟨c',hf,Vl⟩⟩ (I.cz.fresh hsz) (bO _ rfl) Vl hsz
theorem JD {A:Around}{name qual:Str}{pm Fm:Value}{f c':Addr}{N ps:List Str}{us:List Value}{vs:List V}{t:TE}{R:VK}(I:Inv X pins σ H s)(e0:qA X.prog X.w X.K X.mg X.base A X.stack s H)(Vm:A.depth < recursionLimit)
  (ho:s.heap.get? f=some (kla_obj name qual params body scope [] pm c' Fm)) (rP:s.heap.CodeRec (.ref c') qual) (S:aW N ps scope) (hb:bindArgs (kla_fn name qual params body scope [] pm (.ref c') Fm) ⟨us,[]⟩=pure (ps.zip us)) (hl:vs.length=ps.length) (r:Vals vs us)
  (fX:PE (vq X.prog X.w X.K X.mg X.base N qual scope f (.ref c') A X.stack s H E0).EJ body t) (h:t (start N vs) H R):wpAny (model X.prog X.w) A (call (.ref f) us) (EP X pins σ R) xe s:=by
 have lim:s.heap.NoLimit:=I.nolimit
 have mU: ∀y∈ps.zip us,scope.names.lookup y.1=some .local∨(scope.names.lookup y.1=some .cell/\((cellsFrom (s.heap.objs.size + 1) scope.names []).lookup y.1).isSome=true):=fun⟨n,v⟩ hy=>by
  rcases S.par n (ox hy).1 with q|q
  ·exact .inl q
  ·exact .inr ⟨q,lq _ _ _ (.inl q)⟩
 refine EF (kla_callFunE Vm ho rfl S.co S.gen rfl rP ?_)
 rw[hb]
 refine bF ?_
 refine tQ S.kind mU fun env he s1 y=>?_
 subst he
 refine⟨lim.keeps y.toInCall.keep,kla_codeExpr ?_⟩
 have J:Inv (vq X.prog X.w X.K X.mg X.base N qual scope f (.ref c') A X.stack s H E0) [] (start N vs) H s1:=vt S e0 hl r y
 refine cm (fX [] s1 (start N vs) H R (J.uJ _) h) (fun v s' hs=>?_) fun e s' hs=>hs.elim
 obtain⟨v',H',J',rv,q'⟩:=hs
 exact I.after ⟨v',H',J'.os,J'.bare,J'.base,J'.cz,rv,q'⟩
end
section
variable {X:Cx}{pins:List (Addr×Obj)}{σ:St}{H:Hp}{s:Shared}
theorem Inv.SS {D:Addr}{o:HO}(I:Inv X pins σ H s)(hn:H D=none)(ok:dE X.prog X.w (upd H D o) s.heap D o)(nw:(D∈X.ex∨X.s₀.heap.objs.size<=D)/\D≠X.env.locals/\(∀x k,X.env.cells.lookup x=some k->k≠D)/\ ∀p∈X.pn ++ pins,p.1≠D)
  (hx:X.s₀.heap.objs.size<=D):Inv X pins σ (upd H D o) s:=by
 have off: ∀b u,H b=some u->b≠D:=fun b u z=>aK z hn
 have low: ∀b ob,X.s₀.heap.get? b=some ob->b≠D:=fun b ob z=>a8 (bo (aN z) hx)
 refine⟨I.ok,I.os,I.bare,⟨I.base.keep,I.base.slot,fun b ob z n hb=>?_,I.base.there,fun b xs z=>?_,fun b ob u z=>?_,fun b ps z=>?_⟩,I.loc,I.cell,?_,fun x k z=>?_,fun p hp=>?_,fun b u z=>?_,I.len⟩
 ·rw[aA (low b ob z)]
  exact I.base.free b ob z n hb
 ·have w:=I.base.qw b xs z
  rw[aA (off b _ w)]
  exact w
 ·have w:=I.base.pE b ob u z
  rw[aA (off b _ w)]
  exact w
 ·obtain⟨m,w⟩:=I.base.pF b ps z
  exact⟨m,by rw[aA (off b _ w)]; exact w⟩
 ·rw[aA nw.2.1.symm]
  exact I.free
 ·rw[aA (nw.2.2.1 x k z)]
  exact I.iS x k z
 ·obtain⟨w1,w2,w3⟩:=I.pin p hp
  exact⟨w1,by rw[aA (nw.2.2.2 p hp)]; exact w2,w3⟩
 ·by_cases q:b=D
  ·subst q
   rw[ag] at z
   cases z
   exact ok
  ·rw[aA q] at z
   exact(I.cz b u z).tT (fun _ _ _ w=>w) (fun d w=>by rw[aA (off d _ w)]; exact w) fun d xs w=>by rw[aA (off d _ w)]; exact w
theorem Frame.sql {K:Frag}{fp:List Addr}{H H':Hp}{a:Addr}{xs:List V}(f:Frame fp H H')(h:bw K H a xs)(ha: ∀o,H a=some o->a∉fp):bw K H' a xs:=by
 rcases h with(h|⟨o,h⟩)|h
 ·exact .inl (.inl (f _ _ (ha _ h) h))
 ·exact .inl (.inr ⟨o,f _ _ (ha _ h) h⟩)
 ·exact .inr h
theorem Tb.upd {P:Addr}{pos:Pos}{qual:Str}{p:Addr}{o:HO}(t:Tb H P pos qual)(hp:H p=none):Tb (upd H p o) P pos qual:=by
 obtain⟨ps,h1,h2,h3⟩:=t
 refine⟨ps,by rw[aA (aK h1 hp)]; exact h1,h2,?_⟩
 rcases h3 with h3|⟨c',h3,h4⟩
 ·exact .inl h3
 ·exact .inr ⟨c',h3,by rw[aA (aK h4 hp)]; exact h4⟩
theorem Frame.new {fp:List Addr}{H H':Hp}{p:Addr}{o:HO}(f:Frame fp H H')(hp:H' p=none):Frame fp H (L2.upd H' p o):=fun b u hb z=>by
 have w:=f b u hb z
 rw[aA (aK w hp)]
 exact w
end
def Nk (K:Frag)(P:Addr)(pos:Pos)(qual:Str)(N:List Str)(tb:TE)(Q:VK)(x:V)(H1:Hp):Prop:= ∃(a:Addr) (xs:List V) (ts:List (List Int)) (key:List Int->Int),x= .ref a/\bw K H1 a xs/\xs.length < 64/\ts.length=xs.length/\Tb H1 P pos qual/\
 (∀t∈ts,t≠[])/\(∀t∈ts,∀u∈ts,HT.lexLt t u=decide (key t < key u))/\
 (∀i,i < xs.length-> ∀H2,Frame [P] H1 H2-> ∀R:VK,(∀p,H2 p=none->R (.ref p) (upd H2 p (.tup ((ts.getD i []).map V.int))))->tb (start N [xs.getD i .eD]) H2 R)/\
 ∀(D:Addr) (p:List Nat) (H2:Hp),p.Perm (List.range xs.length)->p.Pairwise (fun i j=>key (ts.getD i [])<=key (ts.getD j []))->Frame [P] H1 H2->Tb H2 P pos qual->H1 D=none->H2 D=some (.lst (p.map fun i=>xs.getD i .eD))->Q (.ref D) H2
def JE (K:Frag)(P:Addr)(pos:Pos)(qual:Str)(N:List Str)(ta tb:TE):TE:=fun σ H Q=>ta σ H (Nk K P pos qual N tb Q)
theorem gz.snoc {H:Hp}: ∀{ts:List (List Int)} {xs:List V} {t:List Int} {p:Addr},gz H ts xs->H p=some (.tup (t.map V.int))->gz H (ts ++ [t]) (xs ++ [.ref p])
 |_,_,_,p,.nil,h=> .cons ⟨p,rfl,h⟩ .nil
 |_,_,_,p,.cons a r,h=> .cons a (gz.snoc r h)
theorem take_succ_getD {α:Type}{l:List α}{i:Nat}{d:α}(h:i < l.length):l.take (i + 1)=l.take i ++ [l.getD i d]:=by
 rw[AX,af h,aj,af h]
 rfl
section
variable {X:Cx}{c P:Addr}{params:Arguments}{body e:Expr}{scope:Scope}{p pos JF RM:Pos}{ta tb:TE}{N:List Str}{y:Str}
theorem vv (hg:Gl X "sorted")(hm:X.mg "sorted"=none)(B:BMain X.mg X.base)(Fl:X.env.code= .ref c)(C:CodeHd X.base c P)(hr:ff 1 X.A)(S:aW N [y] scope)
  (fX: ∀(f c':Addr) (A:Around) (s:Shared) (H:Hp),PE (vq X.prog X.w X.K X.mg X.base N (X.env.qual ++ "<lambda>") scope f (.ref c') A X.stack s H E0).EJ body tb) (ha:PE X e ta)
  (hb: ∀(pm Fm u:Value) (c':Addr),bindArgs (kla_fn "<lambda>" (X.env.qual ++ "<lambda>") params body scope [] pm (.ref c') Fm) ⟨[u],[]⟩=pure ([y].zip [u]):=by intros; rfl)
  (O2:defaultsOf params X.env=([],[]):=by rfl) (qS:closureFor scope X.env=pure []:=by rfl)
  (he:backTo pos (starEach [e] X.env)=(false,eval e X.env) :: backTo pos (starEach [] X.env):=by rfl)
  (hs:starEach [e] X.env=(false,eval e X.env) :: starEach [] X.env:=by rfl) (uR:(backTo pos (starEach [e] X.env)).any (·.1)=false:=by rfl):
  PE X (.Call (.Name "sorted" p) [e] [⟨some "key",.Lambda params body scope JF,RM⟩] pos) (JE X.K P JF (X.env.qual ++ "<lambda>") N ta tb):=by
 intro pins s σ H Q I h
 refine eL (pG I hg hm (u:= .builtin "sorted") (by rfl) ?_)
 refine PyProof.Rows.callWith_kw (ee ((aa ha av hs) pos pins s σ H (fun vs H1=>match vs with|[x]=>Nk X.K P JF (X.env.qual ++ "<lambda>") N tb Q x H1|_=>False) I h) fun us s1 h1=>?_) he uR rfl rfl
 obtain⟨vs,H1,I1,rv,q1⟩:=h1
 cases vs with
 |nil=>exact q1.elim
 |cons x vs=>
 cases vs with
 |cons _ _=>exact q1.elim
 |nil=>
 obtain⟨a,xs,ts,key,rfl,hS,Dd,i7,ZT,jy,IK,hbd,fin⟩:=q1
 obtain⟨u,rfl,ru⟩:=vals1 rv
 obtain rfl:u=Value.ref a:=ru
 show wpAny _ _ (evalAll [(do let v ← eval (.Lambda params body scope JF) X.env; standAt pos; pure v)]) _ _ s1
 refine wpAny_evalAll_cons (az (JC I1 B Fl C ZT O2 qS fun f c' Fm H2 s2 I2 ZU tb2 Ln O0 Vl hle=>az (iC (bF (wpAny_evalAll_nil ?_)))))
 show wpAny _ _ (call (.builtin "sorted") [.ref a] [(Str.ofString "key",.ref f)]) _ _ s2
 have aP: ∀o,H1 a=some o->a∉[P]:=fun o z w=>by
  obtain⟨ps,hP,_⟩:=ZT
  have w':=ao.mp w
  rcases hS with(hS|⟨_,hS⟩)|⟨ob,_,_,hK,qS,_⟩
  ·rw[w',hP] at hS; cases hS
  ·rw[w',hP] at hS; cases hS
  ·have e1:=I1.gY _ _ hK
   have e2:s1.heap.get? P=some _:=I1.cz P _ hP
   rw[w',e2] at e1
   cases e1
   cases qS
 have O3:=ZU.sql hS aP
 obtain⟨b0,Xw,pl,hz⟩:=I2.list O3
 have hl:=Xw.length
 have lf:f < s2.heap.objs.size:=aN O0
 have Xp:s1.heap.objs.size<=s2.heap.objs.size:=a6 hle (di lf)
 refine sortedK pl.isList (by lia) fun D kS e1 h' kp d1 k1 ZV QU Vn=>?_
 have I3:=I2.kept (t':=s2.toks) kp
 have HD:H2 D=none:=I2.cz.fresh QU
 have HK:H2 kS=none:=I2.cz.fresh Vn
 have Nl:=I2.j9 QU
 have O4:=I2.j9 Vn
 have nwf:=I1.j9 hle
 have fD:f≠D:=a8 (bo lf QU)
 have fK:f≠kS:=a8 (bo lf Vn)
 have dp:X.A.in1.in1.depth < recursionLimit:=hr.depth
 generalize SU:kla_obj "<lambda>" (X.env.qual ++ "<lambda>") params body scope [] ((X.mg "__name__").getD .none) c' Fm=QV at O0
 have loop: ∀(r:List Value) (i:Nat) (ks:List Value) (bg:List V) (Hi:Hp) (si:Shared),r=b0.drop i->i<=xs.length->Inv X (pins ++ [(f,QV),(D,seqObj "list" #[] e1)]) σ Hi si->(∃e,si.heap.get? kS=some (seqObj "list" ks.toArray e))->Hi kS=none->
   Frame [P] H1 Hi->Tb Hi P JF (X.env.qual ++ "<lambda>")->Hi c'=some (yt c' (X.env.qual ++ "<lambda>"))->gz Hi (ts.take i) bg->Vals bg ks->
   tf X.prog X.w X.A.in1.in1 kS (.ref f) (GQ X.prog X.w X.A.in1.in1 D kS e1 b0 (fun s'=>EP X pins σ Q (.ref D) s')) r ks si:=by
  intro r
  induction r with
  |nil=>
   intro i ks bg Hi si hr hi Ii hk L5 Vo Xx Vp hT rk
   have ei:i=xs.length:=by
    have:=c9 List.length hr
    rw[wG,mG] at this
    lia
   have K7:gz Hi ts bg:=by rwa [ei,← i7,aY] at hT
   have lk:bg.length=xs.length:=by have:=K7.length; lia
   have lk2:=rk.length
   obtain⟨w1,w2,_⟩:=Ii.pin (D,seqObj "list" #[] e1) (List.mem_append_right _ (List.mem_append_right _ (by simp)))
   refine⟨tuples' true,fun i=>key (ts.getD i []),ZV,w1,fun h2 Q' q'=>?_,fun a b C ha hb q'=>?_,fun pr h5 n SV hUp hsz hD5 Fn=>?_⟩
   ·obtain⟨fs,f1,f2,f3⟩:=su Ii (fun _ _ z=>z) K7 rk jy
    refine kat_kind (T:= .type "int") f1 (by lia) (fun v hv=>?_) rfl q'
    obtain⟨n,t,rfl⟩:=f3 v hv
    exact Looks.of_pure rfl
   ·obtain⟨p1,g1,g2⟩:=K7.get (i:=a) (by lia)
    obtain⟨p2,g3,g4⟩:=K7.get (i:=b) (by lia)
    have v1:=jM rk a
    have v2:=jM rk b
    rw[g1] at v1
    rw[g3] at v2
    have v1':ks.getD a Value.none= .ref p1:=v1
    have v2':ks.getD b Value.none= .ref p2:=v2
    rw[v1',v2']
    obtain⟨o1,W6,n1,GJ,hc1,lE,Sn⟩:=Ii.tupI g2
    obtain⟨o2,Gv,n2,QM,LN,hd2,So⟩:=Ii.tupI g4
    refine kat_lt GJ lE QM hd2 ?_
    have l1:=Sn.length
    have l2:=So.length
    have m1:ts.getD a []∈ts:=by rw[aj,af (show a < ts.length by lia)]; exact bN _
    have m2:ts.getD b []∈ts:=by rw[aj,af (show b < ts.length by lia)]; exact bN _
    have kx:=mZ (prog:=X.prog) (w:=X.w) (A:=X.A.in1.in1) (b:=true) (Q:=C) (s:=si) 0 Sn So (by rw[IK _ m1 _ m2]; exact q')
    rw[bC,bC,l1,l2]
    exact kx
   ·have In:=Ii.jm
    have bt:ni (Dq X.stack) [D,kS] si.heap h5:=fun b o z nb=>by
     have n1:b≠D:=fun w=>nb (by simp[w])
     have n2:b≠kS:=fun w=>nb (by simp[w])
     have e:=(Fn b n1 n2).trans z
     exact⟨fun _=>e,o.slots,e⟩
    have I5:=In.but bt (fun cc hc=>by
     rcases aw.mp hc with rfl|hc
     ·exact⟨w2,Nl⟩
     ·rw[ao.mp hc]
      exact⟨L5,O4⟩)
    have mI:=SV.size
    have I6:=I5.SS (D:=D) (o:= .lst (pr.toList.map fun i=>xs.getD i .eD)) w2 ⟨by rw[ae,oz,mI]; exact a6 (iP hl.symm) hz,_,n,sq Xw pr.toList,hD5⟩ Nl (a6 I2.sz QU)
    refine⟨.ref D,_,I6,rfl,fin D pr.toList _ ?_ ?_ (Vo.new w2) (Xx.upd w2) (I1.cz.fresh (a6 Xp QU)) ag⟩
    ·have:=SV.list
     rwa [← hl] at this
    ·exact sV mI hUp
  |cons v r ih=>
   intro i ks bg Hi si hr hi Ii hk L5 Vo Xx Vp hT rk
   have wR:i < xs.length:=by
    have:=c9 List.length hr
    rw[bH,mG] at this
    lia
   have hv:v=b0.getD i Value.none/\r=b0.drop (i + 1):=by
    rw[NV (by lia)] at hr
    injection hr with h1 h2
    refine⟨?_,h2⟩
    rw[h1,aj,af (by lia)]
    rfl
   obtain⟨hv,Xy⟩:=hv
   obtain⟨ek,hk⟩:=hk
   have Ip:Inv X (pins ++ [(f,QV),(D,seqObj "list" #[] e1)] ++ [(kS,seqObj "list" ks.toArray ek)]) σ Hi si:=Ii.ui fun p hp=>by
    rcases bq.mp hp with hp|hp
    ·exact Ii.pin p (bz _ hp)
    ·rw[ao.mp hp]
     exact⟨hk,L5,O4.2.1,I2.Gh Vn,fun v z=>by cases z⟩
   have Xz:si.heap.get? f=some QV:=(Ip.pin (f,QV) (List.mem_append_right _ (List.mem_append_left _ (List.mem_append_right _ (by simp))))).1
   have rP:si.heap.CodeRec (.ref c') (X.env.qual ++ "<lambda>"):=(Ip.cz c' _ Vp).1
   have ZW:=jM Xw i
   rw[← hv] at ZW
   show wpAny _ _ (call (.ref f) [v]) _ _ si
   refine cm (JD (us:=[v]) (vs:=[xs.getD i .eD]) (R:=fun y H'=> ∃p,y= .ref p/\Hi p=none/\H'=upd Hi p (.tup ((ts.getD i []).map V.int))) (xe:=fun _ _=>False) Ip Ip.IQ.in1.in1 dp (by rw[Xz,← SU]) rP S (hb _ _ _ _) rfl (.cons ZW .nil) (fX _ _ _ _ _)
    (hbd i wR Hi Vo _ fun p hp=>⟨p,rfl,hp,rfl⟩)) (fun u s5 h5=>?_) fun _ _ z=>z
   obtain⟨y,H5,I5,ry,pp,rfl,zu,rfl⟩:=h5
   obtain rfl:u=Value.ref pp:=ry
   obtain⟨z1,z2,_⟩:=I5.pin (kS,seqObj "list" ks.toArray ek) (List.mem_append_right _ (List.mem_append_right _ (by simp)))
   refine⟨ek,z1,fun h6 cc sb hk6=>?_⟩
   have I6:Inv X (pins ++ [(f,QV),(D,seqObj "list" #[] e1)]) σ _ _:=Inv.jm I5
   have I7:=I6.turned (t':=s5.toks) (it:=kS) (h':=h6) (fun b o n z=>(sb.2 b n).trans z) z2 O4.2.1 O4.1 O4.2.2.1 (fun p hp=>by
    rcases bq.mp hp with hp|hp
    ·exact O4.2.2.2 p (cZ _ hp)
    ·rcases bq.mp hp with hp|hp
     ·exact O4.2.2.2 p (bz _ hp)
     ·rcases aw.mp hp with rfl|hp
      ·exact fK
      ·rw[ao.mp hp]
       exact ZV)
   have cpp:c'≠pp:=aK Vp zu
   refine ih (i + 1) (ks ++ [.ref pp]) (bg ++ [.ref pp]) _ _ Xy wR I7 ⟨cc,hk6⟩ z2 (Vo.new zu) (Xx.upd zu) (by rw[aA cpp]; exact Vp) ?_ (rk.append (show Vals [V.ref pp] [Value.ref pp] from .cons rfl .nil))
   rw[take_succ_getD (d:=[]) (by lia)]
   exact gz.snoc (hT.mono fun b xs z=>by rw[aA (aK z zu)]; exact z) ag
 have Ip:Inv X (pins ++ [(f,QV),(D,seqObj "list" #[] e1)]) σ H2 {s2 with heap:=h'}:=I3.ui fun p hp=>by
  rcases bq.mp hp with hp|hp
  ·exact I3.pin p (bz _ hp)
  ·rcases aw.mp hp with rfl|hp
   ·exact⟨kp _ _ O0,Ln,nwf.2.1,I1.Gh hle,fun v z=>by rw[← SU] at z; cases z⟩
   ·rw[ao.mp hp]
    exact⟨d1,HD,Nl.2.1,I2.Gh QU,fun v z=>by cases z⟩
 exact loop b0 0 [] [] H2 _ rfl (bp _) Ip ⟨0,k1⟩ HK ZU tb2 Vl .nil .nil
end
theorem G0 {P:Program}{w:World}{K:Frag}{mg mb:Str->Option Value}{CX:Gr}{k:Nat}{fa a:Addr}{fd:FuncData}{x:Str}{sp:Sp}{s₁:Shared}{vs:List Value}{ns:List Int}{cps:List (Addr×Addr)}
  (KX:K.In s₁.heap) (ZX:s₁.heap.Ns mainGlobals mg) (hb:s₁.heap.Ns builtinsNs mb) (hbb: ∀x:Str,x≠"__name__"->mb x=bootBuiltins x) (XA:s₁.heap.NoLimit) (hg:s₁.gens= #[])
  (ha:s₁.heap.get? a=some {cls:= .type "list",data:= .seq vs.toArray}) (hi:IntsAre vs ns) (hl:ns.length<=sizeLine) (hr:ff k callerA)
  (bm:BMain mg s₁.heap) (QT: ∀cp∈cps,s₁.heap.get? cp.2=some (tabObj #[])) (SW: ∀cp∈cps,codeHdIn K cp.1 cp.2=true/\K.lookup cp.2=none)
  (F: ∀base:Heap,K.In base->base.Ns mainGlobals mg->BMain mg base->l4 P w K mg base CX k fa fd [x] sp) (SX: ∀(s:Shared) (u:Value),BindsTo s fd ⟨[u],[]⟩ [(x,u)])
  (yd: ∀H:Hp,(∀cp∈cps,H cp.2=some (.mO #[]))->bw K H a (ns.map V.int)->sp [.ref a] H (fun v _=>v= .bl true) fun _ _ _=>False)
  (hCX: ∀H e s',CX [] H s₁ (fun _ _ _=>False) e s'->False):
  codeAny (model P w) callerA (.call (.ref fa) ⟨[.ref a],[]⟩) (fun r s'=>r= .ok (.ret (.bool true))/\OldK s₁.heap s'.heap/\s'.os=s₁.os/\AllBare s'.gens) s₁:=by
 have rv:=yi hi
 have SY:=hi.length
 have aT: ∀cp∈cps,cp.2≠a:=fun cp hc z=>by
  have e:=QT cp hc
  rw[z,ha] at e
  cases e
 have core: ∀H:Hp,(∀b,H b=none∨(b=a/\H b=some (.Dc {cls:= .type "list",data:= .seq vs.toArray} (.lst (ns.map V.int)))/\K.lookup a=none)∨ ∃cp∈cps,b=cp.2/\H b=some (.mO #[]))->(∀cp∈cps,H cp.2=some (.mO #[]))->bw K H a (ns.map V.int)->
   codeAny (model P w) callerA (.call (.ref fa) ⟨[.ref a],[]⟩) (fun r s'=>r= .ok (.ret (.bool true))/\OldK s₁.heap s'.heap/\s'.os=s₁.os/\AllBare s'.gens) s₁:=by
  intro H hO hT hS
  have cz:oC P w H s₁.heap:=fun b u z=>by
   rcases hO b with w|⟨rfl,w,_⟩|⟨cp,hc,rfl,w⟩
   ·rw[z] at w; cases w
   ·rw[z] at w
    cases w
    exact⟨ha,by rw[ae]; exact hl,vs,_,rv,ha⟩
   ·rw[z] at w
    cases w
    exact QT cp hc
  have zv: ∀{b:Addr} {o:Obj},s₁.heap.get? b=some o->H b=none->(wI s₁.heap H).get? b=some o:=fun e n=>IC e n
  have ZY: ∀{b:Addr} {o:Obj},s₁.heap.get? b=some o->((∃es ep,o.data= .dict es ep)∨o.data= .plain)->H b=none:=fun{b o} e d=>by
   rcases hO b with w|⟨rfl,w,_⟩|⟨cp,hc,rfl,w⟩
   ·exact w
   ·rw[ha] at e
    cases e
    rcases d with⟨es,ep,d⟩|d <;> cases d
   ·rw[QT cp hc] at e
    cases e
    rcases d with⟨es,ep,d⟩|d <;> cases d
  have Vq: ∀{b:Addr} {m:Str->Option Value},s₁.heap.Ns b m->(wI s₁.heap H).Ns b m:=fun{b m} ⟨o,es,ep,e,d,r⟩=>⟨o,es,ep,zv e (ZY e (.inl ⟨es,ep,d⟩)),d,r⟩
  have ZZ:K.In (wI s₁.heap H):=fun b o e=>zv (KX b o e) (by
   rcases hO b with w|⟨rfl,w,hk⟩|⟨cp,hc,rfl,w⟩
   ·exact w
   ·rw[hk] at e; cases e
   ·rw[(SW cp hc).2] at e; cases e)
  have hBb:BMain mg (wI s₁.heap H):=by
   obtain⟨b,o,b1,b2,b3,b4,b5,b6,b7⟩:=bm
   exact⟨b,o,b1,b2,b3,zv b4 (ZY b4 (.inr b7)),b5,b6,b7⟩
  have hM:Mod K mg (wI s₁.heap H):=⟨ZZ,Vq ZX,⟨mb,Vq hb,hbb⟩,let⟨mc,h1,h2⟩:=XA; ⟨mc,Vq h1,h2⟩⟩
  have e0:qA P w K mg (wI s₁.heap H) callerA [] s₁ H:=⟨rfl,hM,fun b o e=>Lj e,Nat.le_of_eq (Gg _ _),trivial,fun b hb=>absurd (show b∈([]:List Addr) from hb) (by simp),cz,.of_eq hg⟩
  refine Dn ((F _ ZZ (Vq ZX) hBb).run callerA [] s₁ H ⟨[.ref a],[]⟩ [.ref a] [.ref a] _ _ hr e0 (SX s₁ (.ref a)) (.cons rfl .nil) (yd H hT hS)) fun r s' h=>?_
  cases r with
  |error e=>exact(hCX H e s' h).elim
  |ok fl=>
   cases fl with
   |next=>exact False.elim h
   |brk=>exact False.elim h
   |cont=>exact False.elim h
   |ret u=>
    obtain⟨v,H',os,bare,un,S4,r',q⟩:=h
    have q':v= .bl true:=q
    subst q'
    obtain rfl:u=Value.bool true:=r'
    have old: ∀b o,s₁.heap.get? b=some o->asItWas s₁.heap s'.heap b o:=fun b o e=>by
     rcases hO b with z|⟨rfl,z,_⟩|⟨cp,hc,rfl,z⟩
     ·exact .inl (un.keep b o e z (by intro w; exact absurd (show b∈([]:List Addr) from w) (by simp)) (by simp))
     ·have z2:=un.pE b _ _ z
      obtain⟨e2,_⟩:=S4 b _ z2
      rw[ha] at e
      cases e
      exact .inl e2
     ·obtain⟨more,z2⟩:=un.pF _ _ z
      have e2:s'.heap.get? cp.2=some (tabObj (#[] ++ more)):=S4 _ _ z2
      have e1:=QT cp hc
      rw[e1] at e
      cases e
      obtain⟨oc,ws,_,_,_,_,_,_,_,c1,c2,c3,c4,_⟩:=codeHd_of_K KX (SW cp hc).1
      exact .inr (.inl ⟨⟨cp.1,oc,ws,c1,c2,c3,c4⟩,rfl,#[],more,rfl,e2⟩)
    refine⟨rfl,⟨old,fun b o e=>?_⟩,os,bare⟩
    exact un.there b o e (by simp)
 cases hk:K.lookup a with
 |some o=>
  have e:=KX a o hk
  rw[ha] at e
  cases e
  refine core (fun b=>if b∈cps.map (·.2) then some (.mO #[]) else none) (fun b=>?_) (fun cp hc=>if_pos (List.mem_map.mpr ⟨cp,hc,rfl⟩)) (.inr ⟨_,vs.toArray,_,hk,rfl,rfl,rfl,by rw[List.size_toArray,SY]; exact hl,by simpa using rv⟩)
  by_cases hb:b∈cps.map (·.2)
  ·obtain⟨cp,hc,rfl⟩:=bG.mp hb
   exact .inr (.inr ⟨cp,hc,rfl,aZ hb⟩)
  ·exact .inl (aO hb)
 |none=>
  have na:a∉cps.map (·.2):=fun h=>by
   obtain⟨cp,hc,z⟩:=bG.mp h
   exact aT cp hc z
  refine core (fun b=>if b=a then some (.Dc {cls:= .type "list",data:= .seq vs.toArray} (.lst (ns.map V.int))) else if b∈cps.map (·.2) then some (.mO #[]) else none) (fun b=>?_) (fun cp hc=>?_) (.inl (.inr ⟨{cls:= .type "list",data:= .seq vs.toArray},aZ rfl⟩))
  ·by_cases h1:b=a
   ·exact .inr (.inl ⟨h1,by rw[aZ h1],hk⟩)
   ·by_cases hb:b∈cps.map (·.2)
    ·obtain⟨cp,hc,rfl⟩:=bG.mp hb
     exact .inr (.inr ⟨cp,hc,rfl,by rw[aO h1,aZ hb]⟩)
    ·exact .inl (by rw[aO h1,aO hb])
  ·show(if cp.2=a then _ else if cp.2∈cps.map (·.2) then _ else _)=_
   rw[aO (aT cp hc),aZ (bG.mpr ⟨cp,hc,rfl⟩)]
theorem JG {l:PySem.W.OpenLaw}{n k:Nat}{q:Program}{loose:List Str}{XP:(Str->Option Value)->Heap->Prop}{YP:World->Heap->Prop}{d:DefRec}{K:Params->Frag}{ts:List Addr}{sp:Frag->List (Addr×Addr)->Sp}{x:Str}
  (hn:l.most=some n) (U7:n<=sizeLine) (WN:d.params.defaults=[]) (hr:ff k callerA)
  (hY: ∀(w:World) (h:Heap),YP w h->(K w.params).In h/\ ∀P∈ts,h.get? P=some (tabObj #[]))
  (F: ∀(w:World) (mg:Str->Option Value) (fa:Addr) (h:Heap),(K w.params).In h->h.Ns mainGlobals mg->mg d.name=some (.ref fa)->
   ∃(fd:FuncData) (cps:List (Addr×Addr)),(∀cp∈cps,cp.2∈ts)/\(∀cp∈cps,codeHdIn (K w.params) cp.1 cp.2=true/\(K w.params).lookup cp.2=none)/\(∀(s:Shared) (u:Value),BindsTo s fd ⟨[u],[]⟩ [(x,u)])/\
    ∀base:Heap,(K w.params).In base->base.Ns mainGlobals mg->BMain mg base->l4 l.prog w (K w.params) mg base sk k fa fd [x] (sp (K w.params) cps))
  (yd: ∀(K:Frag) (cps:List (Addr×Addr)) (H:Hp) (a:Addr) (ns:List Int),ns.length<=n->(∀cp∈cps,H cp.2=some (.mO #[]))->bw K H a (ns.map V.int)->sp K cps [.ref a] H (fun v _=>v= .bl true) fun _ _ _=>False):
  PySem.W.WalkO q loose XP YP l.row.toRowW d [] (fun f vs=>PySem.call f vs):=by
 refine Zx.Bs hn WN fun w s₀ s₁ mg mb fa o pm cd doc a vs ns G Y ho hd rP R5 OA hints hlen hg=>?_
 obtain⟨KX,hT⟩:=hY w _ Y
 obtain⟨fd,cps,h1,h2,hb,hF⟩:=F w mg fa _ KX G.T.g R5
 obtain⟨bm,ob,b1,b2,b3,b4,b5,b6⟩:=G.T.bmain
 have b7:bm≠mainGlobals:=fun z=>by
  obtain⟨o',es,ep,e,Io,_⟩:=G.T.g
  rw[z,e] at b3
  cases b3
  rw[Io] at b6
  cases b6
 exact G0 KX G.T.g G.T.b G.T.builtins G.T.nolimit hg OA hints (a6 hlen U7) hr ⟨bm,ob,b1,b2,b7,b3,b4,b5,b6⟩ (fun cp hc=>hT _ (h1 cp hc)) h2 hF hb (fun H hO hS=>yd _ cps H a ns hlen hO hS) fun H e s' z=>z
section
variable {X:Cx}{x:Str}{k n:Nat}{ps:List Str}{sp:Sp}{e:Expr}{es:List Expr}{t:TA}{p pos:Pos}
theorem fc (C:fb X.prog X.w X.K X.mg X.base x k ps sp)(hr:ff n X.A)(ha:PA X (e :: es) t)(hle:k<=n:=by decide)(hg:Gl X x:=by rfl)(qB:(x == ("__debug__":Str))=false:=by decide)
  (he:starEach (e :: es) X.env=(false,eval e X.env) :: starEach es X.env:=by rfl) (jb:(backTo pos (starEach es X.env)).any (·.1)=false:=by rfl):PE X (.Call (.Name x p) (e :: es) [] pos) (uO sp [] E0 t):=Se C (hr.mono hle) hg ha qB he jb
theorem sv (i:Nat){te:TE}{pos':Pos}(hN:X.N.Nodup)(he:PE X e te)(hi:X.N[i]? =some x:=by rfl)(hx:Loc X.env.scope x:=by first|exact Or.inl rfl|exact Or.inr rfl)(hs:swapsWith e (some (.Name x pos')) pos.line X.env=pure false:=by rfl)(hf:X.fn x=true∨X.env.scope.names.lookup x=some .local:=by first|exact .inl rfl|exact .inr rfl|assumption):
  PS X (.Assign [.Name x pos'] e pos) (Lp te (Bh i)):=N8 hN hi hx he hs hf
theorem gn (i:Nat)(hN:X.N.Nodup)(hi:X.N[i]? =some x:=by rfl)(hx:Loc X.env.scope x:=by first|exact Or.inl rfl|exact Or.inr rfl)(hf:X.fn x=true∨X.env.scope.names.lookup x=some .local:=by first|exact .inl rfl|exact .inr rfl|assumption):PG X (.Name x pos) (Bh i):=eE hN hi hx hf
theorem xl {a b:Expr}{ta tb:TE}(ha:PE X a ta)(hb:PE X b tb)(hs:y0 b:=by exact fun _ _=>rfl):PE X (.Subscript a b pos) (QJ (Oh X.K) ta tb):=iU y1 ha hb hs
theorem xt {a b:Expr}{ta tb:TE}(ha:PE X a ta)(hb:PE X b tb)(hs:y0 b:=by exact fun _ _=>rfl):PE X (.Subscript a b pos) (QJ (Oi X.K) ta tb):=iU DE ha hb hs
end
section
variable {X:Cx}{o e:Expr}{p pos apos gO:Pos}{to te:TE}
theorem mK (hm:X.mg "len"=none)(h:PE X e te)(hg:Gl X "len":=by rfl)(he:starEach [e] X.env=(false,eval e X.env) :: starEach [] X.env:=by rfl)(jb:(backTo pos (starEach [] X.env)).any (·.1)=false:=by rfl):PE X (.Call (.Name "len" p) [e] [] pos) (Wy (fun xs H Q=> ∃p ys,xs=[.ref p]/\(bw X.K H p ys∨cB X.K H p ys)/\Q (.int ys.length) H) (IP te DD)):=
 cE y4 hg hm PySem.boot_len (aa h av he) (by decide) (by decide) he jb
theorem pW (ho:PE X o to)(h:PE X e te)(qG:attributeBase o "append" X.env (eval o X.env)=eval o X.env:=by rfl)
  (Oo:((backTo gO (starEach [e] X.env)).all (fun x=> !x.1) && (backToKw gO (keywordEach [] X.env)).all (fun x=>x.1.isSome)
   && decide ([e].length + ([]:List Keyword).length + (if([]:List Keyword).isEmpty then 0 else 1) < 30))=true:=by rfl)
  (uQ:(apos.endLine == gO.line)=true:=by rfl) (hs:starEach [e] X.env=(false,eval e X.env) :: starEach [] X.env:=by rfl) (uR:(backTo gO (starEach [] X.env)).any (·.1)=false:=by rfl):PE X (.Call (.Attribute o "append" apos) [e] [] gO) (Zu X.K "list" EW to (IP te DD)):=
 RP PySem.F.plainAttrs_list PySem.F.slot_list_append PySem.F.type_list_append ye ho (aa h av hs) qG Oo uQ hs uR
end
theorem Df.fC {P:Program}{w:World}{K:Frag}{mg:Str->Option Value}{base:Heap}{x:Str}{st:Stmt}{N ps:List Str}{k:Nat}{sp:Sp}(D:Df K mg x st)(S:aW N ps (ax st))
  (fX: ∀(f:Addr) (cU:Value) (A:Around) (outer:List Env) (s:Shared) (H:Hp) (vs:List V) (Q:VK) (E:XK),ff k (A.deeper (envOfC x (ax st) s.heap.objs.size f cU))->sp vs H Q E->
   ∃t,oQ (ly sk P w K mg base N x (ax st) f cU A outer s H E).EJ (dF st) t/\t {nx:=fun _ H'=>Q .eD H',rt:=Q} (start N vs) H)
  (hb: ∀(kV doc pm:Value) (an:Option Addr) (cU ct:Value) (us:List Value),us.length=ps.length->bindArgs (fnOf x x (gP st) (dF st) (ax st) .none kV doc pm an cU ct) ⟨us,[]⟩=pure (ps.zip us):=by intro _ _ _ _ _ _ us hl; rcases us with _|⟨_,_|⟨_,_|⟨_,_|⟨_,_|⟨_,_|⟨_,_|⟨_,_⟩⟩⟩⟩⟩⟩⟩ <;> first|(cases hl; done)|rfl)
  (len: ∀vs H Q E,sp vs H Q E->vs.length=ps.length:=by intro _ _ _ _ h; first|(cases h; subst_vars; rfl)|(repeat (first|(obtain⟨rfl,_⟩:=h; rfl; done)|obtain⟨_,h⟩:=h))):fb P w K mg base x (k + 1) ps sp:=D.cal S hb len fX
end L2
namespace eN
open PySem L2 PyProof.Rows K3
seal L2.oQ L2.PS L2.PE L2.PT L2.PW L2.PA L2.PC L2.PG L2.KW L2.PI L2.LC L2.KZ L2.PO L2.oE L2.M8 L2.iT L2.IW L2.Og
def top (i:Nat):Stmt:=PySem.Challenge.pw_spikebook_k05_whole_nothing_lost.main.body.getD i (.Pass ⟨0,0,0,0⟩)
structure Txt (K:Frag)(mg:Str->Option Value):Prop where
 DX:Df K mg "place_of" (top 1)
 O5:Df K mg "fits" (top 15)
 wY:Df K mg "counts_from" (top 16)
 G1:Df K mg "bills_in_order" (top 17)
 DY:Df K mg "credits_in_order" (top 18)
 L6:Df K mg "alike" (top 20)
 wZ:Df K mg "first_alike" (top 21)
 zw:Df K mg "shared_out" (top 22)
 DZ:Df K mg "parts_of" (top 23)
 vw:Df K mg "check_amount" (top 26)
 w6:Df K mg "row_of_fits" (top 27)
 O6:Df K mg "done" (top 30)
 zx:Df K mg "done_again" (top 31)
 G2:Df K mg "answers" (top 33)
 zy:Df K mg "answers_in" (top 34)
 BE:Df K mg "answer_of" (top 35)
 G3:Df K mg "owed_at" (top 36)
 G4:Df K mg "free_at" (top 37)
 vx:Df K mg "remaining_at" (top 38)
 w9:Df K mg "counting_at" (top 39)
 BF:Df K mg "counts_at" (top 40)
 G5:Df K mg "ages_at" (top 41)
 BG:Df K mg "_law_room" (top 43)
 BH:Df K mg "_law_draw" (top 44)
 zz:Df K mg "_law_whole" (top 45)
 G6:Df K mg "_law_at" (top 46)
 zA:Df K mg "_law_alike" (top 47)
 xa:Df K mg "_law_people" (top 48)
 xc:Df K mg "_law_penned" (top 49)
 xg:Df K mg "_law_chosen" (top 50)
 zB:Df K mg "_law_hasty" (top 51)
 xh:Df K mg "_law_due_in" (top 52)
 zC:Df K mg "_law_deeds" (top 53)
 zD:Df K mg "_law_begun" (top 54)
 BI:Df K mg "_law_goes" (top 55)
 D0:Df K mg "_law_put" (top 56)
 vy:Df K mg "_law_in_turn" (top 57)
 zE:Df K mg "_law_swept" (top 58)
 xi:Df K mg "_law_barred" (top 59)
 zF:Df K mg "_law_enter" (top 60)
 xj:Df K mg "_law_worked" (top 61)
 zG:Df K mg "_law_tells" (top 62)
 BJ:Df K mg "_law_done" (top 63)
 xk:Df K mg "_law_at_day" (top 64)
 oH:Df K mg "_law_gone_through" (top 65)
 Z0:Df K mg "law" (top 66)
 dR:mg "len"=none
 dm:mg "isinstance"=none
 tj:mg "int"=none
 O7:mg "bool"=none
 Fo:mg "str"=none
 vz:mg "list"=none
 uo:mg "tuple"=none
 kM:mg "range"=none
 JH:mg "min"=none
 Nm:mg "max"=none
 BK:mg "sum"=none
 qT:mg "sorted"=none
 jr:mg "enumerate"=none
 O8:mg "dict"=none
 BL:mg "Exception"=none
end eN
namespace L2
open PySem PySem.Spec PySem.W PyProof.Rows K3
structure XB (P:Program)(w:World)(K:Frag)(mg:Str->Option Value)(base:Heap)(k:Nat)(fa:Addr)(sp:Sp):Prop where
 ex: ∃(fd:FuncData) (ps:List Str),l4 P w K mg base sk k fa fd ps sp/\keepIn K (.ref fa)=true/\Binds K fd ps []
theorem fb.Z1 {P:Program}{w:World}{K:Frag}{mg:Str->Option Value}{base:Heap}{x:Str}{k:Nat}{ps:List Str}{sp:Sp}(C:fb P w K mg base x k ps sp): ∃fa,mg x=some (.ref fa)/\XB P w K mg base k fa sp:=by
 obtain⟨f,fd,F,hm,hk,hb⟩:=C.ex
 exact⟨f,hm,⟨fd,ps,F,hk,hb⟩⟩
section
variable {X:Cx}{x:Str}{i k:Nat}{e:Expr}{es:List Expr}{t:TA}{p pos:Pos}
def O9 (P:Program)(w:World)(K:Frag)(mg:Str->Option Value)(base:Heap)(k i:Nat)(t:TA):TE:=fun σ H Q=> ∃fa sp,σ[i]? =some (some (.ref fa))/\XB P w K mg base k fa sp/\t σ H fun vs H1=>sp vs H1 Q E0
theorem Pa (hr:ff k X.A)(hN:X.N[i]? =some x)(hv:Rn X.env.scope x)(ha:PA X (e :: es) t)(hd:(x == ("__debug__":Str))=false:=by decide)(rP:(x == ("__classdict__":Str))=false:=by decide)
  (he:starEach (e :: es) X.env=(false,eval e X.env) :: starEach es X.env:=by rfl) (jb:(backTo pos (starEach es X.env)).any (·.1)=false:=by rfl):PE X (.Call (.Name x p) (e :: es) [] pos) (O9 X.prog X.w X.K X.mg X.base k i t):=by
 rintro pins s σ H Q I ⟨fa,sp,e1,⟨fd,ps,F,hk,hb⟩,h⟩
 refine eL (ee (Dr hN hv hd rP pins s σ H (fun v H'=>v= .ref fa/\H'=H) I ⟨_,e1,rfl,rfl⟩) ?_)
 rintro u s1 ⟨v,H1,I1,rv,rfl,rfl⟩
 obtain rfl:u=Value.ref fa:=rv
 refine kB (h₀:=X.base) I.ok.mod.Lk hk (ee (ha pos pins s1 σ H1 _ I1 h) fun us s2 ⟨vs,H2,I2,r,q⟩=>⟨I2.gY,?_⟩) he jb
 exact yX F hr hb .nil mX I2 r (by rw[bU]; exact q)
end
theorem BN {X:Cx}:iT X (.type "dict") (fun xs H Q=> ∃a bg,xs=[.ref a]/\H a=some (.dK bg)/\ ∀p,H p=none->Q (.ref p) (upd H p (.dK bg))):=by
 intro pins s σ H xs us Q I r h
 obtain⟨a,bg,rfl,e,q⟩:=h
 obtain⟨u,rfl,ru⟩:=vals1 r
 cases ru
 exact Jf I (.inl e) fun p s' hp I'=>⟨.ref p,_,I',rfl,q p hp⟩
def Fp (P:Program)(w:World)(d:Addr)(bg:List (Key×V))(φ:Heap->Prop):Prop:=(∀(H:Hp) (h:Heap),φ h->dE P w H h d (.dK bg))/\ ∀q:Str,φ≠fun h=>h.CodeRec (.ref d) q
def S5 (P:Program)(w:World)(td:TE)(g:TG)(tb:TS):TS:=fun D σ H=>td σ H fun v H1=> ∃d bg,v= .ref d/\H1 d=some (.dK bg)/\ ∀φ,Fp P w d bg φ->
 ∃W:Nat->Nat->St->Hp->Prop,(∃m,W 0 m σ (upd H1 d (.ext φ)))/\ ∀i m σ' H',W i m σ' H'->H' d=some (.ext φ)/\((bg.length<=i/\D.nx σ' (upd H' d (.dK bg)))∨
  ∃x,(bg.map (·.2))[i]? =some x/\ ∃N:St->Hp->Prop,(∀LI zf,N LI zf-> ∃m',m' < m/\W (i + 1) m' LI zf)/\g x σ' H' fun σ2 H2=>tb {D with nx:=N,ct:=N,bk:=fun _ _=>False} σ2 H2)
theorem L8 {X:Cx}{tg o:Expr}{apos gO pos:Pos}{body:List Stmt}{td:TE}{g:TG}{tb:TS}(hp:PassesOwn (model X.prog X.w) X.A X.env X.xe)(hc:X.calm=true)(ho:PE X o td)(hg:PG X tg g)(hb:oQ X body tb)
  (qG:attributeBase o "values" X.env (eval o X.env)=eval o X.env:=by rfl) (uQ:(apos.endLine == gO.line)=true:=by rfl)
  (hs: ∀x,foldedSetIterable (.Call (.Attribute o "values" apos) [] [] gO) X.env x=pure x:=by intro _; rfl):PS X (.For tg (.Call (.Attribute o "values" apos) [] [] gO) body [] pos) (S5 X.prog X.w td g tb):=by
 intro pins s σ H D I h
 refine wpAny_For (wpAny_Call_method0_late qG uQ (ee (ho pins s σ H _ I h) ?_)) hs
 rintro u s1 ⟨v,H1,I1,rv,d,bg,rfl,ed,h⟩
 obtain rfl:u=Value.ref d:=rv
 obtain⟨hz,hd,vs,rel,dd⟩:=EY I1.cz ed
 refine⟨"dict","dict.values",PySem.F.plainAttrs_dict,QD,PySem.F.type_dict_values,dd.typeIs,dd.mapOf.noDict,iX rfl (PySem.evalArgs_none ?_)⟩
 refine call_meetsIn QD dd.typeIs PySem.F.entry_dict_values (PySem.F.args_dict_values_1 _) (meets_dict_values (d8 X.prog X.w) d hd) ⟨⟨vs,dd⟩,?_⟩
 have I2:=I1.kept (t':=s1.toks) (h':=s1.heap.push {cls:= .type "dict_values",data:= .fields #[.ref d]}) (fun b ob e=>ay _ e)
 obtain⟨ep,da⟩:=dd.dictAt
 obtain⟨od,es,O1,r⟩:=id da
 have XC: ∀h:Heap,h.get? d=some od->h.DictAt (d8 X.prog X.w) d vs ep:=fun h e=>⟨od,es,e,r⟩
 have Z2:Fp X.prog X.w d bg (fun h=>h.get? d=some od):=⟨fun H h e=>⟨hz,hd,vs,rel,⟨od,es,ep,e,r⟩⟩,fun q z=>by
  have z1:(s1.heap.get? d=some od)=s1.heap.CodeRec (.ref d) q:=congrFun z s1.heap
  obtain⟨c,o,Xo,t,e1,e2,e3,_⟩:=Eq.mp z1 O1
  cases e1
  rw[O1] at e2
  cases e2
  rw[r.2.1] at e3
  cases e3⟩
 obtain⟨W,⟨m0,w0⟩,turn⟩:=h _ Z2
 generalize Z3:s1.heap.push {cls:= .type "dict_values",data:= .fields #[.ref d]}=h2 at I2
 have Pb:h2.IsValuesView s1.heap.objs.size d:=by
  rw[← Z3]
  exact⟨_,bO _ rfl,rfl,rfl⟩
 have S6:h2.get? d=some od:=by
  rw[← Z3]
  exact ay _ O1
 refine wpAny_pyIter_values (knd:=d8 X.prog X.w) Pb (XC _ S6) ?_
 have I3:=I2.kept (t':=s1.toks) (h':=h2.push {cls:= .type "dict_valueiterator",data:= .fields #[.ref d,.int 0 0,.int vs.length 0,.int ep 0]}) (fun b ob e=>ay _ e)
 have Pc:(h2.push {cls:= .type "dict_valueiterator",data:= .fields #[.ref d,.int 0 0,.int vs.length 0,.int ep 0]}).IsValIter h2.objs.size d 0 vs.length ep:=⟨_,bO _ rfl,rfl,rfl⟩
 have L9:(h2.push {cls:= .type "dict_valueiterator",data:= .fields #[.ref d,.int 0 0,.int vs.length 0,.int ep 0]}).get? d=some od:=ay _ S6
 have Dg:H1 h2.objs.size=none:=I2.cz.fresh (aI _)
 have jy:d≠h2.objs.size:=aK ed Dg
 have XD:=I2.Gj (aI _) Dg
 generalize h2.push {cls:= .type "dict_valueiterator",data:= .fields #[.ref d,.int 0 0,.int vs.length 0,.int ep 0]}=h3 at I3 Pc L9
 generalize h2.objs.size=it at Pc Dg jy XD
 have I4:Inv X pins σ (upd H1 d (.ext fun h=>h.get? d=some od)) {s1 with heap:=h3}:=by
  refine I3.write (x:=d) (e:=d) (t':=s1.toks) (h':=h3) (by rw[ed]; exact True.intro) (.inl rfl) (fun _ _ _ q=>q) ⟨od,L9⟩ ?_
  exact⟨L9,⟨od,L9⟩,fun h1 h2 q k=>k od q⟩
 have fit:upd H1 d (.ext fun h=>h.get? d=some od) it=none:=by
  rw[aA jy.symm]
  exact Dg
 have SY:vs.length=bg.length:=(aL rel).symm
 refine codeAny_forLoop_any (fun n s'=> ∃i σ' H',Inv X pins σ' H' s'/\s'.heap.IsValIter it d i vs.length ep/\H' it=none/\W i n σ' H') ?_ m0 ⟨0,σ,_,I4,Pc,fit,w0⟩
 rintro n s5 ⟨i,σ5,H5,I5,Z4,QI,w5⟩
 obtain⟨e5,tn⟩:=turn i n σ5 H5 w5
 have XE:s5.heap.get? d=some od:=(I5.cz d _ e5).1
 have f5:uK X pins H5 it:=⟨QI,XD.2⟩
 obtain⟨f0,f1,f2,f3,f4,f6⟩:=f5
 rcases tn with⟨hle,qn⟩|⟨x,hx,N,hN,step⟩
 ·refine dS hp (wpAny_pyNext_values_end (knd:=d8 X.prog X.w) (I5.ok.hd hc) Z4 (XC _ XE) (by rw[qt]; lia) fun h6 eb=>?_)
  have I6:Inv X pins σ5 H5 {s5 with heap:=h6}:=I5.turned (t':=s5.toks) (fun b o hb e=>eb b o hb e) f0 f1 f3 f4 f6
  have Z5:h6.get? d=some od:=eb d od jy XE
  have I7:=I6.write (x:=d) (e:=d) (t':=s5.toks) (h':=h6) (o:= .dK bg) (by rw[e5]; exact True.intro) (.inl rfl) (fun _ _ _ q=>q) ⟨od,Z5⟩ (Z2.1 _ _ Z5)
  exact jw ⟨σ5,_,I7,qn⟩
 ·rw[aB] at hx
  obtain⟨kv,Vr,rfl⟩:=br.mp hx
  obtain⟨ku,hku,e1,ru⟩:=bB rel Vr
  obtain⟨k1,u⟩:=ku
  refine dS hp (wpAny_pyNext_values_item (knd:=d8 X.prog X.w) Z4 (XC _ XE) hku fun h6 it6 sb=>?_)
  have I6:Inv X pins σ5 H5 {s5 with heap:=h6}:=I5.turned (t':=s5.toks) (fun b o hb e=>(sb.2 b hb).trans e) f0 f1 f3 f4 f6
  obtain⟨oi,GJ,QM,XF⟩:=id it6
  refine dS hp (EK (s:={s5 with heap:=h6}) GJ QM XF (by decide +kernel) ?_)
  have I6':Inv X (pins ++ pH [it] h6) σ5 H5 {s5 with heap:=h6}:=I6.pinned (fun b hb=>by rw[ao.mp hb]; exact⟨QI,XD.2⟩) (fun b hb=>by
   rw[ao.mp hb]
   exact⟨oi,GJ,fun v z=>by rw[XF] at z; cases z⟩)
  refine dS hp (ee (hg _ _ σ5 H5 kv.2 u _ I6' ru step) fun _ s7 ⟨σ7,H7,I7,q7⟩=>?_)
  refine dS hp (ee (hb _ s7 σ7 H7 _ I7 q7) fun f s8 q8=>?_)
  have again: ∀{σ8:St} {H8:Hp},Inv X (pins ++ pH [it] h6) σ8 H8 s8->N σ8 H8-> ∃m,m < n/\ ∃i σ' H',Inv X pins σ' H' s8/\s8.heap.IsValIter it d i vs.length ep/\H' it=none/\W i m σ' H':=fun{σ8 H8} I8 n8=>by
   obtain⟨m',hm,w8⟩:=hN σ8 H8 n8
   have pn:=I8.pin (it,oi) (List.mem_append_right _ (List.mem_append_right _ (jT (by simp) GJ)))
   exact⟨m',hm,i + 1,σ8,H8,I8.jm,⟨oi,pn.1,QM,XF⟩,pn.2.1,w8⟩
  cases f with
  |next=>obtain⟨σ8,H8,I8,n8⟩:=q8; exact again I8 n8
  |cont=>obtain⟨σ8,H8,I8,n8⟩:=q8; exact again I8 n8
  |brk=>obtain⟨σ8,H8,I8,q8⟩:=q8; exact q8.elim
  |ret v=>obtain⟨x8,σ8,H8,I8,r8,q8⟩:=q8; exact⟨x8,σ8,H8,I8.jm,r8,q8⟩
theorem JI {P:Program}{w:World}{td:TE}{g:TG}{tb:TS}{D:Ends}{σ:St}{H1:Hp}{d:Addr}{bg:List (Key×V)}(ed:H1 d=some (.dK bg))
  (h: ∀φ,Fp P w d bg φ-> ∃Pv:Nat->St->Hp->Prop,Pv 0 σ (upd H1 d (.ext φ))/\(∀i σ' H',Pv i σ' H'->H' d=some (.ext φ))/\(∀i x σ' H',(bg.map (·.2))[i]? =some x->Pv i σ' H'->g x σ' H' fun σ2 H2=>tb {D with nx:=Pv (i + 1),ct:=Pv (i + 1),bk:=fun _ _=>False} σ2 H2)/\
   ∀σ' H',Pv bg.length σ' H'->D.nx σ' (upd H' d (.dK bg))):
  ∃d' JJ,V.ref d= .ref d'/\H1 d'=some (.dK JJ)/\ ∀φ,Fp P w d' JJ φ->
 ∃W:Nat->Nat->St->Hp->Prop,(∃m,W 0 m σ (upd H1 d' (.ext φ)))/\ ∀i m σ' H',W i m σ' H'->H' d'=some (.ext φ)/\((JJ.length<=i/\D.nx σ' (upd H' d' (.dK JJ)))∨
  ∃x,(JJ.map (·.2))[i]? =some x/\ ∃N:St->Hp->Prop,(∀LI zf,N LI zf-> ∃m',m' < m/\W (i + 1) m' LI zf)/\g x σ' H' fun σ2 H2=>tb {D with nx:=N,ct:=N,bk:=fun _ _=>False} σ2 H2):=by
 refine⟨d,bg,rfl,ed,fun φ hφ=>?_⟩
 obtain⟨Pv,p0,pk,ps,pe⟩:=h φ hφ
 refine⟨fun i m σ' H'=>m=bg.length - i/\i<=bg.length/\Pv i σ' H',⟨bg.length,by simp,Nat.zero_le _,p0⟩,?_⟩
 rintro i m σ' H' ⟨rfl,hi,p⟩
 refine⟨pk i σ' H' p,?_⟩
 by_cases i7:i < bg.length
 ·have hg:(bg.map (·.2))[i]? =some bg[i].2:=by rw[aB,af i7]; rfl
  exact .inr ⟨_,hg,Pv (i + 1),fun LI zf p'=>⟨bg.length - (i + 1),by lia,rfl,i7,p'⟩,ps i _ σ' H' hg p⟩
 ·have e:i=bg.length:=by lia
  subst e
  exact .inl ⟨aI _,pe σ' H' p⟩
theorem nj {α:Type}(f:α->Int): ∀(l2 l1:List α),l1.Perm l2->l1.Pairwise (fun a b=>f a<=f b)->l2.Pairwise (fun a b=>f a < f b)->l1=l2
 |[],l1,p,_,_=>List.Perm.eq_nil p
 |b :: l2,[],p,_,_=>absurd p.length_eq (by simp)
 |b :: l2,a :: l1,p,h1,h2=>by
  rw[fq] at h1 h2
  have hb:b∈a :: l1:=p.mem_iff.mpr bc
  have e:a=b:=by
   rcases aw.mp (p.mem_iff.mp (bc (a:=a) (l:=l1))) with e|ha
   ·exact e
   ·rcases aw.mp hb with e|hb
    ·exact e.symm
    ·have z1:=h1.1 b hb
     have z2:=h2.1 a ha
     lia
  subst e
  rw[nj f l2 l1 (List.Perm.cons_inv p) h1.2 h2.2]
theorem Ma {x y:Int×Nat}(hx:x.2 < 1000)(hy:y.2 < 1000)(h:tY x=tY y):x.2=y.2:=by
 unfold tY at h
 lia
theorem BO {l:List (Int×Nat)}(h: ∀x∈l,x.2 < 1000)(nd:(l.map (·.2)).Nodup):(eG l).Pairwise (fun a b=>tY a < tY b):=by
 have p:=cS l
 have Vs:((eG l).map (·.2)).Nodup:=(p.map (·.2)).nodup_iff.mpr nd
 have h': ∀x∈eG l,x.2 < 1000:=fun x hx=>h x (p.mem_iff.mp hx)
 have le:=vb l
 generalize eG l=m at Vs h' le
 induction m with
 |nil=>exact .nil
 |cons a m ih=>
  rw[fq] at le ⊢
  rw[bM,eu] at Vs
  refine⟨fun b hb=>?_,ih Vs.2 (fun x hx=>h' x (aS _ hx)) le.2⟩
  have z:=le.1 b hb
  have n:tY a≠tY b:=fun e=>Vs.1 (by
   rw[Ma (h' a bc) (h' b (aS _ hb)) e]
   exact bG.mpr ⟨b,hb,rfl⟩)
  lia
def tZ (t:List Int):Int:=t.getD 0 0 * 1000 + t.getD 1 0
theorem qU {x y:Int×Nat}{u v:List Int}(hx:x.2 < 1000)(hy:y.2 < 1000)(h:x.2=y.2->u=v/\x=y)(hs:HT.lexLt u u=false):HT.lexLt (x.1 :: (x.2:Int) :: u) (y.1 :: (y.2:Int) :: v)=decide (tZ (x.1 :: (x.2:Int) :: u) < tZ (y.1 :: (y.2:Int) :: v)):=by
 show _ =decide (x.1 * 1000 + (x.2:Int) < y.1 * 1000 + (y.2:Int))
 rw[HT.l5]
 by_cases c:x.1=y.1
 ·rw[aZ c,HT.l5]
  by_cases d:x.2=y.2
  ·rw[aZ (by lia),← (h d).1,hs,ba (by lia)]
  ·rw[aO (by lia)]
   exact jC.mpr (by lia)
 ·rw[aO c]
  exact jC.mpr (by lia)
theorem tq {ks:List (Int×Nat)}{g:Int×Nat->List Int}{us:List (List Int)}(h: ∀x∈ks,x.2 < 1000)(nd:(ks.map (·.2)).Nodup)(hg: ∀x∈ks,tZ (g x)=tY x)(p:us.Perm (ks.map g))(le:us.Pairwise (fun t u=>tZ t<=tZ u)):us=(eG ks).map g:=by
 refine nj tZ _ _ (p.trans ((cS ks).map g).symm) le ?_
 rw[rW]
 refine(BO h nd).imp_of_mem fun{a b} ha hb z=>?_
 rw[hg a ((cS ks).mem_iff.mp ha),hg b ((cS ks).mem_iff.mp hb)]
 exact z
theorem dk.tk {H H':Hp}{sd:Addr}{S:Bk}{f:fH}(h:dk H sd S f)(k:Frame f.fp H H'):cG H H':=fun b xs e=>k b _ (fun hb=>by
 obtain⟨ms,m1,_⟩:=h.hm
 unfold fH.fp at hb
 rcases aw.mp hb with rfl|hb
 ·rw[h.hb] at e; cases e
 ·rcases aw.mp hb with rfl|hb
  ·rw[h.hc] at e; cases e
  ·rcases aw.mp hb with rfl|hb
   ·rw[m1] at e; cases e
   ·have rows: ∀(rs:List Rw) (ps:List Addr),eU H rs ps->b∈ps->False:=fun rs ps hr hp=>by
     obtain⟨i,hi⟩:=yU hp
     have i7:i < rs.length:=by
      rw[hr.length]
      exact(ak.mp hi).1
     obtain⟨q,e1,e2⟩:=hr.at i7
     rw[e1] at hi
     cases hi
     rw[e2] at e
     cases e
    rcases bq.mp hb with hb|hb
    ·exact rows _ _ h.rb hb
    ·exact rows _ _ h.rc hb) e
theorem Frame.mh {fp:List Addr}{H1 H2 H3:Hp}(a:aE H1 H2)(b:Frame fp H2 H3):Frame fp H1 H3:=fun x o hx e=>b x o hx (a x o e)
theorem Frame.df {fp:List Addr}{H1 H2 H3:Hp}(a:Frame fp H1 H2)(b:aE H2 H3):Frame fp H1 H3:=fun x o hx e=>b x o (a x o hx e)
theorem Frame.tr {fp:List Addr}{H1 H2 H3:Hp}(a:Frame fp H1 H2)(b:Frame fp H2 H3):Frame fp H1 H3:=fun x o hx e=>b x o hx (a x o hx e)
def yo.dt:yo->Dt
 | .int i=> .int i
 | .txt s=> .str s
 | .sets l=> .lst (l.map fun t=> .tup [.int t.1,.int t.2.1,.int t.2.2])
 | .pairs l=> .lst (l.map fun t=> .tup [.int t.1,.int t.2])
 | .ints l=> .lst (l.map Dt.int)
theorem ir.K8 {H:Hp}: ∀{ms:List (Nat×Nat×Int)} {vs:List V},ir H ms vs->il H (ms.map fun t=> .tup [.int t.1,.int t.2.1,.int t.2.2]) vs
 |_,_,.nil=>cM.mpr rfl
 |_,_,.cons ⟨p,e,q⟩ t=>by
  subst e
  exact bI.mpr ⟨_,_,rfl,eT q (bI.mpr ⟨_,_,rfl,dr.mpr rfl,bI.mpr ⟨_,_,rfl,dr.mpr rfl,bI.mpr ⟨_,_,rfl,dr.mpr rfl,cM.mpr rfl⟩⟩⟩),ir.K8 t⟩
def fH.iy (f:fH)(p:Addr):fH:={f with iA:=f.iA ++ [p]}
def fH.fS (f:fH)(p:Addr):fH:={f with cps:=f.cps ++ [p]}
theorem fH.JK (f:fH)(p:Addr):(f.iy p).fp.Perm (p :: f.fp):=by
 show(f.pb :: f.pc :: f.pm :: ((f.iA ++ [p]) ++ f.cps)).Perm (p :: f.pb :: f.pc :: f.pm :: (f.iA ++ f.cps))
 have h:((f.iA ++ [p]) ++ f.cps).Perm (p :: (f.iA ++ f.cps)):=by
  rw[dU]
  exact List.perm_middle
 exact(((h.cons f.pm).trans (List.Perm.swap _ _ _)).cons f.pc |>.trans (List.Perm.swap _ _ _)).cons f.pb |>.trans (List.Perm.swap _ _ _)
theorem fH.Fq (f:fH)(p:Addr):(f.fS p).fp.Perm (p :: f.fp):=by
 show(f.pb :: f.pc :: f.pm :: (f.iA ++ (f.cps ++ [p]))).Perm (p :: f.pb :: f.pc :: f.pm :: (f.iA ++ f.cps))
 have h:(f.iA ++ (f.cps ++ [p])).Perm (p :: (f.iA ++ f.cps)):=by
  rw[← dU]
  exact List.perm_append_singleton _ _
 exact(((h.cons f.pm).trans (List.Perm.swap _ _ _)).cons f.pc |>.trans (List.Perm.swap _ _ _)).cons f.pb |>.trans (List.Perm.swap _ _ _)
theorem dk.off {H:Hp}{sd D:Addr}{S:Bk}{f:fH}(h:dk H sd S f)(n:H D=none):D∉f.fp:=fun z=>by
 obtain⟨ms,m1,_⟩:=h.hm
 have rows: ∀(rs:List Rw) (ps:List Addr),eU H rs ps->D∈ps->False:=fun rs ps hr hp=>by
  obtain⟨i,hi⟩:=yU hp
  have i7:i < rs.length:=by
   rw[hr.length]
   exact(ak.mp hi).1
  obtain⟨q,e1,e2⟩:=hr.at i7
  rw[e1] at hi
  cases hi
  rw[n] at e2
  cases e2
 unfold fH.fp at z
 rcases aw.mp z with rfl|z
 ·have:=h.hb; rw[n] at this; cases this
 rcases aw.mp z with rfl|z
 ·have:=h.hc; rw[n] at this; cases this
 rcases aw.mp z with rfl|z
 ·rw[n] at m1; cases m1
 rcases bq.mp z with z|z
 ·exact rows _ _ h.rb z
 ·exact rows _ _ h.rc z
section
variable {H:Hp}{sd pr:Addr}{S:Bk}{f:fH}{r:Rw}
theorem dk.iy (h:dk H sd S f)(n:H pr=none):dk (upd (upd H pr (.lst r.vs)) f.pb (.lst (f.iA.map V.ref ++ [.ref pr]))) sd (S.iy r) (f.iy pr):=by
 have s1:aE H (upd H pr (.lst r.vs)):=aE.new n
 have h1:=h.same s1
 have g1:upd H pr (.lst r.vs) pr=some (.lst r.vs):=ag
 have np:=h.off n
 have Mb:sd≠pr:=aK h.dict n
 generalize upd H pr (.lst r.vs)=H1 at s1 h1 g1
 obtain⟨d1,d2,d3,d4,d5,d6,d7⟩:=fH.Su h.nd
 obtain⟨ms,m1,m2⟩:=h1.hm
 have es:sd≠f.pb:=fun z=>h.ns (by rw[z]; simp[fH.fp])
 have ep:pr≠f.pb:=fun z=>np (by rw[z]; simp[fH.fp])
 refine⟨by rw[aA es]; exact h1.dict,?_,by rw[show(f.iy pr).pc=f.pc from rfl,aA d1.symm]; exact h1.hc,⟨ms,by rw[show(f.iy pr).pm=f.pm from rfl,aA d2.symm]; exact m1,m2.mono (fj h1.hb)⟩,?_,?_,?_,?_⟩
 ·show upd H1 f.pb _ f.pb=some (.lst ((f.iA ++ [pr]).map V.ref))
  rw[ag,aJ]; rfl
 ·exact cy (h1.rb.iu fun z=>(d4 _ z).1 rfl) (by rw[aA ep]; exact g1)
 ·exact h1.rc.iu fun z=>(d5 _ z).1 rfl
 ·exact(f.JK pr).nodup_iff.mpr (eu.mpr ⟨np,h.nd⟩)
 ·intro z
  rcases aw.mp ((f.JK pr).mem_iff.mp z) with z|z
  ·exact Mb z
  ·exact h.ns z
theorem dk.fS (h:dk H sd S f)(n:H pr=none):dk (upd (upd H pr (.lst r.vs)) f.pc (.lst (f.cps.map V.ref ++ [.ref pr]))) sd (S.fS r) (f.fS pr):=by
 have s1:aE H (upd H pr (.lst r.vs)):=aE.new n
 have h1:=h.same s1
 have g1:upd H pr (.lst r.vs) pr=some (.lst r.vs):=ag
 have np:=h.off n
 have Mb:sd≠pr:=aK h.dict n
 generalize upd H pr (.lst r.vs)=H1 at s1 h1 g1
 obtain⟨d1,d2,d3,d4,d5,d6,d7⟩:=fH.Su h.nd
 obtain⟨ms,m1,m2⟩:=h1.hm
 have es:sd≠f.pc:=fun z=>h.ns (by rw[z]; simp[fH.fp])
 have ep:pr≠f.pc:=fun z=>np (by rw[z]; simp[fH.fp])
 refine⟨by rw[aA es]; exact h1.dict,by rw[show(f.fS pr).pb=f.pb from rfl,aA d1]; exact h1.hb,?_,⟨ms,by rw[show(f.fS pr).pm=f.pm from rfl,aA d3.symm]; exact m1,m2.mono (fj h1.hc)⟩,?_,?_,?_,?_⟩
 ·show upd H1 f.pc _ f.pc=some (.lst ((f.cps ++ [pr]).map V.ref))
  rw[ag,aJ]; rfl
 ·exact h1.rb.iu fun z=>(d4 _ z).2.1 rfl
 ·exact cy (h1.rc.iu fun z=>(d5 _ z).2.1 rfl) (by rw[aA ep]; exact g1)
 ·exact(f.Fq pr).nodup_iff.mpr (eu.mpr ⟨np,h.nd⟩)
 ·intro z
  rcases aw.mp ((f.Fq pr).mem_iff.mp z) with z|z
  ·exact Mb z
  ·exact h.ns z
end
structure eh where
 dY:Addr
 ej:Addr
 work:Addr
 book:Addr
 refusal:Addr
 ke:Addr
 pX:Addr
 jP:Addr
 iM:Addr
 tooEarly:Addr
 tooMuch:Addr
 jQ:Addr
 jf:Addr
def eI (H:Hp)(p C:Addr)(fs:List (Str×V)):Prop:= ∃dx,H p=some (.ins C dx fs)
theorem eI.same {H H':Hp}{p C:Addr}{fs:List (Str×V)}(h:eI H p C fs)(s:aE H H'):eI H' p C fs:=let⟨dx,e⟩:=h; ⟨dx,s _ _ e⟩
theorem eI.frame {H H':Hp}{p C:Addr}{fs:List (Str×V)}{fp:List Addr}(h:eI H p C fs)(s:Frame fp H H')(n:p∉fp):eI H' p C fs:=let⟨dx,e⟩:=h; ⟨dx,s _ _ n e⟩
def tu (c:Int):V:=if c= -1 then .eD else .int c
def fE (i:Nat)(r:Rw):List (Str×V):=[("number",.int i),("who",.str r.aC),("day",.int r.a),("due",.int r.b),("amount",.int r.c)]
def fk (i:Nat)(r:Rw):List (Str×V):=[("number",.int i),("who",.str r.aC),("day",.int r.a),("amount",.int r.b),("only",tu r.c)]
section
variable (i:Nat)(r:Rw)
theorem lI:(fE i r).lookup ("number":Str)=some (V.int i):=by rfl
theorem D3:(fE i r).lookup ("who":Str)=some (V.str r.aC):=by rfl
theorem Pd:(fE i r).lookup ("day":Str)=some (V.int r.a):=by rfl
theorem JL:(fE i r).lookup ("due":Str)=some (V.int r.b):=by rfl
theorem om:(fk i r).lookup ("number":Str)=some (V.int i):=by rfl
theorem JM:(fk i r).lookup ("who":Str)=some (V.str r.aC):=by rfl
theorem JN:(fk i r).lookup ("day":Str)=some (V.int r.a):=by rfl
theorem Mc:(fk i r).lookup ("only":Str)=some (tu r.c):=by rfl
end
structure eO where
 pb:Addr
 pc:Addr
 pl:Addr
 pf:Addr
 pm:Addr
 iA:List Addr
 cps:List Addr
def eO.fp (f:eO):List Addr:=[f.pb,f.pc,f.pl,f.pf,f.pm]
def lJ (f:eO):List (Str×V):=[("bills",.ref f.pb),("all_credits",.ref f.pc),("lefts",.ref f.pl),("frees",.ref f.pf),("made",.ref f.pm)]
theorem js (f:eO):(lJ f).lookup ("bills":Str)=some (V.ref f.pb):=by rfl
theorem hZ (f:eO):(lJ f).lookup ("all_credits":Str)=some (V.ref f.pc):=by rfl
theorem lK (f:eO):(lJ f).lookup ("lefts":Str)=some (V.ref f.pl):=by rfl
theorem lL (f:eO):(lJ f).lookup ("frees":Str)=some (V.ref f.pf):=by rfl
theorem Fs (f:eO):(lJ f).lookup ("made":Str)=some (V.ref f.pm):=by rfl
def gE (H:Hp)(C:Addr)(fs:Nat->Rw->List (Str×V))(rows:List Rw)(ps:List Addr):Prop:=ps.length=rows.length/\ ∀i p,ps[i]? =some p->eI H p C (fs i (rows.getD i default))
theorem gE.keep {H H':Hp}{C:Addr}{fs:Nat->Rw->List (Str×V)}{rows:List Rw}{ps:List Addr}(h:gE H C fs rows ps)(k: ∀p dx gs,H p=some (.ins C dx gs)->H' p=some (.ins C dx gs)):gE H' C fs rows ps:=
 ⟨h.1,fun i p e=>let⟨dx,z⟩:=h.2 i p e; ⟨dx,k _ _ _ z⟩⟩
theorem gE.get {H:Hp}{C:Addr}{fs:Nat->Rw->List (Str×V)}{rows:List Rw}{ps:List Addr}(h:gE H C fs rows ps){i:Nat}(hi:i < rows.length): ∃p,ps[i]? =some p/\eI H p C (fs i (rows.getD i default)):=by
 have i7:i < ps.length:=by rw[h.1]; exact hi
 exact⟨ps[i],af i7,h.2 i _ (af i7)⟩
theorem gE.rows {H:Hp}{C:Addr}{fs:Nat->Rw->List (Str×V)}{rows iI:List Rw}{ps:List Addr}(h:gE H C fs rows ps)(hl:iI.length=rows.length)(e: ∀i,fs i (iI.getD i default)=fs i (rows.getD i default)):gE H C fs iI ps:=
 ⟨h.1.trans hl.symm,fun i p z=>by rw[e]; exact h.2 i p z⟩
theorem gE.add {H:Hp}{C p:Addr}{fs:Nat->Rw->List (Str×V)}{rows:List Rw}{r:Rw}{ps:List Addr}(h:gE H C fs rows ps)(n:eI H p C (fs rows.length r)):gE H C fs (rows ++ [r]) (ps ++ [p]):=by
 refine⟨by rw[aH,aH,h.1]; rfl,fun i q e=>?_⟩
 by_cases hi:i < ps.length
 ·rw[NT hi] at e
  rw[getD_snoc (by rw[← h.1]; exact hi)]
  exact h.2 i q e
 ·rw[fW (by lia)] at e
  have e0:i - ps.length=0:=by
   have:=(ak.mp e).1
   simp at this
   lia
  rw[e0] at e
  obtain rfl:p=q:=by simpa using e
  obtain rfl:i=rows.length:=by have:=h.1; lia
  rw[getD_last]
  exact n
structure dI (A:eh)(H:Hp)(pw:Addr)(S:Bk)(f:eO):Prop where
 obj:eI H pw A.work (lJ f)
 hb:H f.pb=some (.lst (f.iA.map V.ref))
 hc:H f.pc=some (.lst (f.cps.map V.ref))
 hl:H f.pl=some (.lst (S.aF.map fun r=>V.int r.d))
 hf:H f.pf=some (.lst (S.credits.map fun r=>V.int r.d))
 hm: ∃ms,H f.pm=some (.lst ms)/\ir H S.made ms
 rb:gE H A.dY fE S.aF f.iA
 rc:gE H A.ej fk S.credits f.cps
 nd:f.fp.Nodup
section
variable {A:eh}{H H':Hp}{pw:Addr}{S:Bk}{f:eO}
theorem dI.lists (h:dI A H pw S f): ∀p∈f.fp,∃xs,H p=some (.lst xs):=fun p hp=>by
 obtain⟨ms,m1,_⟩:=h.hm
 simp only[eO.fp,List.mem_cons,List.not_mem_nil,or_false] at hp
 rcases hp with rfl|rfl|rfl|rfl|rfl
 ·exact⟨_,h.hb⟩
 ·exact⟨_,h.hc⟩
 ·exact⟨_,h.hl⟩
 ·exact⟨_,h.hf⟩
 ·exact⟨_,m1⟩
theorem dI.off (h:dI A H pw S f){p:Addr}(n: ∀xs,H p≠some (.lst xs)):p∉f.fp:=fun z=>by
 obtain⟨xs,e⟩:=h.lists p z
 exact n xs e
theorem dI.new (h:dI A H pw S f){p:Addr}(n:H p=none):p∉f.fp:=h.off fun xs e=>by rw[n] at e; cases e
theorem dI.ins (h:dI A H pw S f){p C:Addr}{fs:List (Str×V)}(n:eI H p C fs):p∉f.fp:=h.off fun xs e=>by
 obtain⟨dx,z⟩:=n
 rw[z] at e
 cases e
theorem dI.tk (h:dI A H pw S f)(k:Frame f.fp H H'):cG H H':=fun b xs e=>k b _ (h.off fun ys z=>by rw[e] at z; cases z) e
theorem dI.objs (h:dI A H pw S f)(k:Frame f.fp H H'):eI H' pw A.work (lJ f)/\gE H' A.dY fE S.aF f.iA/\gE H' A.ej fk S.credits f.cps:=by
 have go: ∀{p C:Addr} {dx:Addr} {gs:List (Str×V)},H p=some (.ins C dx gs)->H' p=some (.ins C dx gs):=fun e=>k _ _ (h.off fun ys z=>by rw[e] at z; cases z) e
 exact⟨let⟨dx,e⟩:=h.obj; ⟨dx,go e⟩,h.rb.keep fun _ _ _ e=>go e,h.rc.keep fun _ _ _ e=>go e⟩
theorem dI.same (h:dI A H pw S f)(s:aE H H'):dI A H' pw S f:=by
 obtain⟨o1,o2,o3⟩:=h.objs (s.frame (fp:=f.fp))
 obtain⟨ms,m1,m2⟩:=h.hm
 exact⟨o1,s _ _ h.hb,s _ _ h.hc,s _ _ h.hl,s _ _ h.hf,⟨ms,s _ _ m1,m2.mono s.tk⟩,o2,o3,h.nd⟩
theorem eO.ne (h:f.fp.Nodup):f.pb≠f.pc/\f.pb≠f.pl/\f.pb≠f.pf/\f.pb≠f.pm/\f.pc≠f.pl/\f.pc≠f.pf/\f.pc≠f.pm/\f.pl≠f.pf/\f.pl≠f.pm/\f.pf≠f.pm:=by
 simp only[eO.fp,List.nodup_cons,List.mem_cons,List.not_mem_nil,or_false,not_or] at h
 obtain⟨⟨h1,h2,h3,h4⟩,⟨h5,h6,h7⟩,⟨h8,h9⟩,K2,_⟩:=h
 exact⟨h1,h2,h3,h4,h5,h6,h7,h8,h9,K2⟩
theorem yu {rows:List Rw}{i:Nat}{x:Int}:(rows.set i ((rows.getD i default).less x)).map (fun r=>V.int r.d)=(rows.map fun r=>V.int r.d).set i (.int ((rows.getD i default).d - x)):=by
 rw[List.map_set]; rfl
theorem dI.put (h:dI A H pw S f){c b:Nat}{x:Int}{ms:List V}{p:Addr}(hc:c < S.credits.length)(hb:b < S.aF.length)(m1:H f.pm=some (.lst ms))(m2:ir H S.made ms)(np:H p=none):
  dI A (upd (upd (upd (upd H f.pf (.lst ((S.credits.map fun r=>V.int r.d).set c (.int ((S.cr c).d - x))))) f.pl (.lst ((S.aF.map fun r=>V.int r.d).set b (.int ((S.bl b).d - x))))) p (.tup [.int c,.int b,.int x])) f.pm (.lst (ms ++ [.ref p]))) pw (S.put c b x) f/\
  Frame f.fp H (upd (upd (upd (upd H f.pf (.lst ((S.credits.map fun r=>V.int r.d).set c (.int ((S.cr c).d - x))))) f.pl (.lst ((S.aF.map fun r=>V.int r.d).set b (.int ((S.bl b).d - x))))) p (.tup [.int c,.int b,.int x])) f.pm (.lst (ms ++ [.ref p]))):=by
 obtain⟨e1,e2,e3,e4,e5,e6,e7,e8,e9,Nn⟩:=eO.ne h.nd
 have pf: ∀q∈f.fp,q≠p:=fun q hq z=>h.new np (z▸hq)
 have i1:f.pb∈f.fp:=by simp[eO.fp]
 have i2:f.pc∈f.fp:=by simp[eO.fp]
 have i3:f.pl∈f.fp:=by simp[eO.fp]
 have i4:f.pf∈f.fp:=by simp[eO.fp]
 have i5:f.pm∈f.fp:=by simp[eO.fp]
 have t3: ∀(G:Hp) (q:Addr),q≠f.pf->q≠f.pl->q≠p->q≠f.pm-> ∀(a b c d:HO),upd (upd (upd (upd G f.pf a) f.pl b) p c) f.pm d q=G q:=fun G q h1 h2 h3 h4 a b c d=>by
  rw[aA h4,aA h3,aA h2,aA h1]
 have F:Frame f.fp H (upd (upd (upd (upd H f.pf (.lst ((S.credits.map fun r=>V.int r.d).set c (.int ((S.cr c).d - x))))) f.pl (.lst ((S.aF.map fun r=>V.int r.d).set b (.int ((S.bl b).d - x))))) p (.tup [.int c,.int b,.int x])) f.pm (.lst (ms ++ [.ref p]))):=fun q o hq e=>by
  rw[t3 H q (fun z=>hq (z▸i4)) (fun z=>hq (z▸i3)) (aK e np) (fun z=>hq (z▸i5))]
  exact e
 refine⟨?_,F⟩
 obtain⟨o1,o2,o3⟩:=h.objs F
 have tk:=h.tk F
 refine⟨o1,by rw[t3 H _ e3 e2 (pf _ i1) e4]; exact h.hb,by rw[t3 H _ e6 e5 (pf _ i2) e7]; exact h.hc,?_,?_,⟨_,ag,?_⟩,?_,?_,h.nd⟩
 ·rw[aA e9,aA (pf _ i3),ag]
  show _ =some (HO.lst ((S.aF.set b ((S.aF.getD b default).less x)).map fun r=>V.int r.d))
  rw[yu]; rfl
 ·rw[aA Nn,aA (pf _ i4),aA e8.symm,ag]
  show _ =some (HO.lst ((S.credits.set c ((S.credits.getD c default).less x)).map fun r=>V.int r.d))
  rw[yu]; rfl
 ·refine cy (m2.mono tk) ⟨p,rfl,?_⟩
  rw[aA (pf _ i5).symm,ag]
 ·refine o2.rows eY fun i=>?_
  show fE i ((S.put c b x).bl i)=fE i (S.bl i)
  rw[pO hb]
  split
  ·rename_i z; subst z; rfl
  ·rfl
 ·refine o3.rows eY fun i=>?_
  show fk i ((S.put c b x).cr i)=fk i (S.cr i)
  rw[pP hc]
  split
  ·rename_i z; subst z; rfl
  ·rfl
end
end L2
namespace eN
open PySem L2 PyProof.Rows K3
def Md:Stmt->List Stmt
 | .ClassDef _ _ _ b _ _ _ _ _ _ _=>b
 |_=>[]
def mem (i j:Nat):Stmt:=(Md (top i)).getD j (.Pass ⟨0,0,0,0⟩)
structure jJ (K:Frag)(mg:Str->Option Value)(A:eh):Prop where
 fT:mg "Refusal"=some (.ref A.refusal)
 D4:g8 K A.refusal A.refusal
 Pe:keepIn K (.ref A.refusal)=true
 gF: ∃f fd,gx K "__init__" "Refusal.__init__" (mem 3 0) f fd/\Fh K A.refusal f
 BP:mg "NoCredit"=some (.ref A.ke)
 tw:g8 K A.ke A.refusal
 BQ:keepIn K (.ref A.ke)=true
 BR: ∃f fd,gx K "__init__" "NoCredit.__init__" (mem 4 0) f fd/\findIn K (.ref A.ke) "__init__"=some (some (.ref f))/\typeIn K (.ref f)=some (.type "function")
 G7:mg "NoBill"=some (.ref A.pX)
 yw:g8 K A.pX A.refusal
 G8:keepIn K (.ref A.pX)=true
 G9: ∃f fd,gx K "__init__" "NoBill.__init__" (mem 5 0) f fd/\findIn K (.ref A.pX) "__init__"=some (some (.ref f))/\typeIn K (.ref f)=some (.type "function")
 zH:mg "NotTheirs"=some (.ref A.jP)
 qV:g8 K A.jP A.refusal
 zI:keepIn K (.ref A.jP)=true
 zJ: ∃f fd,gx K "__init__" "NotTheirs.__init__" (mem 6 0) f fd/\findIn K (.ref A.jP) "__init__"=some (some (.ref f))/\typeIn K (.ref f)=some (.type "function")
 BS:mg "NoAmount"=some (.ref A.iM)
 kN:g8 K A.iM A.refusal
 BU:keepIn K (.ref A.iM)=true
 BV: ∃f fd,gx K "__init__" "NoAmount.__init__" (mem 7 0) f fd/\findIn K (.ref A.iM) "__init__"=some (some (.ref f))/\typeIn K (.ref f)=some (.type "function")
 BW:mg "TooEarly"=some (.ref A.tooEarly)
 tF:g8 K A.tooEarly A.refusal
 BX:keepIn K (.ref A.tooEarly)=true
 BY: ∃f fd,gx K "__init__" "TooEarly.__init__" (mem 8 0) f fd/\findIn K (.ref A.tooEarly) "__init__"=some (some (.ref f))/\typeIn K (.ref f)=some (.type "function")
 vA:mg "TooMuch"=some (.ref A.tooMuch)
 pY:g8 K A.tooMuch A.refusal
 D5:keepIn K (.ref A.tooMuch)=true
 D7: ∃f fd,gx K "__init__" "TooMuch.__init__" (mem 9 0) f fd/\findIn K (.ref A.tooMuch) "__init__"=some (some (.ref f))/\typeIn K (.ref f)=some (.type "function")
 zK:mg "NoSetting"=some (.ref A.jQ)
 qW:g8 K A.jQ A.refusal
 zL:keepIn K (.ref A.jQ)=true
 zM: ∃f fd,gx K "__init__" "NoSetting.__init__" (mem 10 0) f fd/\findIn K (.ref A.jQ) "__init__"=some (some (.ref f))/\typeIn K (.ref f)=some (.type "function")
 yx:mg "Needed"=some (.ref A.jf)
 yy:g8 K A.jf A.refusal
 Hb:keepIn K (.ref A.jf)=true
 Hc: ∃f fd,gx K "__init__" "Needed.__init__" (mem 11 0) f fd/\findIn K (.ref A.jf) "__init__"=some (some (.ref f))/\typeIn K (.ref f)=some (.type "function")
 Me:mg "Bill"=some (.ref A.dY)
 en:wL K A.dY
 eV:cf K A.dY "number"
 kO:cf K A.dY "who"
 nu:cf K A.dY "day"
 nv:cf K A.dY "due"
 ny:cf K A.dY "amount"
 Mf: ∃f fd,gx K "__init__" "Bill.__init__" (mem 13 0) f fd/\Mk K A.dY f
 Hd:mg "Credit"=some (.ref A.ej)
 dg:wL K A.ej
 eP:cf K A.ej "number"
 k8:cf K A.ej "who"
 jk:cf K A.ej "day"
 lM:cf K A.ej "amount"
 kg:cf K A.ej "only"
 He: ∃f fd,gx K "__init__" "Credit.__init__" (mem 14 0) f fd/\Mk K A.ej f
 Mg:mg "Work"=some (.ref A.work)
 bJ:wL K A.work
 d9:cf K A.work "bills"
 cH:cf K A.work "all_credits"
 fF:cf K A.work "lefts"
 fG:cf K A.work "frees"
 mi:cf K A.work "made"
 Mh: ∃f fd,gx K "__init__" "Work.__init__" (mem 25 0) f fd/\Mk K A.work f
 qX: ∃f fd,gx K "tell_bill" "Work.tell_bill" (mem 25 1) f fd/\Meth K A.work "tell_bill" f
 nz: ∃f fd,gx K "tell_payment" "Work.tell_payment" (mem 25 2) f fd/\Meth K A.work "tell_payment" f
 qY: ∃f fd,gx K "tell_note" "Work.tell_note" (mem 25 3) f fd/\Meth K A.work "tell_note" f
 oJ: ∃f fd,gx K "tell_credit" "Work.tell_credit" (mem 25 4) f fd/\Meth K A.work "tell_credit" f
 oK: ∃f fd,gx K "set_by_hand" "Work.set_by_hand" (mem 25 5) f fd/\Meth K A.work "set_by_hand" f
 xm: ∃f fd,gx K "sweep" "Work.sweep" (mem 25 6) f fd/\Meth K A.work "sweep" f
 qZ: ∃f fd,gx K "one_round" "Work.one_round" (mem 25 7) f fd/\Meth K A.work "one_round" f
 BZ: ∃f fd,gx K "put" "Work.put" (mem 25 8) f fd/\Meth K A.work "put" f
 q0: ∃f fd,gx K "credit_at" "Work.credit_at" (mem 25 9) f fd/\Meth K A.work "credit_at" f
 ua: ∃f fd,gx K "bill_at" "Work.bill_at" (mem 25 10) f fd/\Meth K A.work "bill_at" f
 Mi:mg "Book"=some (.ref A.book)
 eW:wL K A.book
 gS:cf K A.book "kept"
 gT:cf K A.book "work"
 Mj: ∃f fd,gx K "__init__" "Book.__init__" (mem 29 0) f fd/\Mk K A.book f
 D8: ∃f fd,gx K "do" "Book.do" (mem 29 1) f fd/\Meth K A.book "do" f
 zN: ∃f fd,gx K "undo" "Book.undo" (mem 29 2) f fd/\Meth K A.book "undo" f
 sD: ∃f fd,gx K "in_force" "Book.in_force" (mem 29 3) f fd/\Meth K A.book "in_force" f
end eN
namespace L2
open PySem PySem.Spec PySem.W PyProof.Rows K3
structure g9 (CX:Gr)(P:Program)(w:World)(K:Frag)(mg:Str->Option Value)(base:Heap)(C:Addr)(m:Str)(k:Nat)(ps:List Str)(sp:Sp):Prop where
 ex: ∃(f:Addr) (fd:FuncData),wL K C/\Meth K C m f/\l4 P w K mg base CX k f fd ps sp/\Binds K fd ps []
structure vB (P:Program)(w:World)(K:Frag)(mg:Str->Option Value)(base:Heap)(x:Str)(k:Nat)(ps:List Str)(sp:Sp):Prop where
 ex: ∃(f:Addr) (fd:FuncData),l4 P w K mg base (mJ P w mg) k f fd ps sp/\mg x=some (.ref f)/\keepIn K (.ref f)=true/\Binds K fd ps []
structure ub (P:Program)(w:World)(K:Frag)(mg:Str->Option Value)(base:Heap)(x:Str)(C:Addr)(k:Nat)(ps:List Str)(sp:Sp):Prop where
 ex: ∃(f:Addr) (fd:FuncData),Mk K C f/\l4 P w K mg base sk k f fd ps sp/\Binds K fd ps []/\mg x=some (.ref C)
section
variable {X:Cx}{CX:Gr}{C:Addr}{x m:Str}{k:Nat}{ps:List Str}{sp:Sp}{o e:Expr}{es:List Expr}{ta:TE}{t:TA}{p pos apos:Pos}{E:XK}
theorem nA {pl:Sem Bool}(M:g9 CX X.prog X.w X.K X.mg X.base C m k ps sp)(hr:ff k X.A)(hx:Passes CX X E)(he:PE X o ta)(ha:PA X (e :: es) t)
  (oR:starEach (e :: es) X.env=(false,eval e X.env) :: starEach es X.env:=by rfl) (jb:(backTo pos (starEach es X.env)).any (·.1)=false:=by rfl)
  (ht:eval (.Call (.Attribute o m apos) (e :: es) [] pos) X.env=(do
   let ov ← eval o X.env
   standAt apos.atName
   let(f,first) ← holding [ov] (getMethod ov m pl)
   callWith pos f first (backTo pos (starEach (e :: es) X.env)) (backToKw pos (keywordEach [] X.env))):=by rfl):
  PE X (.Call (.Attribute o m apos) (e :: es) [] pos) (M9 C m sp [] E ta t):=by
 obtain⟨f,fd,hc,hm,F,hb⟩:=M.ex
 exact Lu he hc hm F hr hb .nil hx ha oR jb ht
theorem sE (M:vB X.prog X.w X.K X.mg X.base x k ps sp)(hr:ff k X.A)(hg:Gl X x)(hx:Passes (mJ X.prog X.w X.mg) X E)(ha:PA X (e :: es) t)(qB:(x == ("__debug__":Str))=false:=by decide)
  (he:starEach (e :: es) X.env=(false,eval e X.env) :: starEach es X.env:=by rfl) (jb:(backTo pos (starEach es X.env)).any (·.1)=false:=by rfl):PE X (.Call (.Name x p) (e :: es) [] pos) (uO sp [] E t):=by
 obtain⟨f,fd,F,hm,hk,hb⟩:=M.ex
 exact ES F hr hg hm hk hb .nil hx ha qB he jb
theorem S7 (M:ub X.prog X.w X.K X.mg X.base x C k ps sp)(hr:ff (k + 1) X.A)(hg:Gl X x)(ha:PA X (e :: es) t)(qB:(x == ("__debug__":Str))=false:=by decide)
  (he:starEach (e :: es) X.env=(false,eval e X.env) :: starEach es X.env:=by rfl) (jb:(backTo pos (starEach es X.env)).any (·.1)=false:=by rfl):PE X (.Call (.Name x p) (e :: es) [] pos) (ER C sp [] E0 t):=by
 obtain⟨f,fd,hk,F,hb,hm⟩:=M.ex
 exact Lv hk F hr hg hm hb .nil mX ha qB he jb
theorem JO (M:ub X.prog X.w X.K X.mg X.base x C k ps sp)(hr:ff (k + 1) X.A)(hg:Gl X x)(qB:(x == ("__debug__":Str))=false:=by decide):PE X (.Call (.Name x p) [] [] pos) (ER C sp [] E0 DD):=by
 obtain⟨f,fd,hk,F,hb,hm⟩:=M.ex
 exact IT hk F hr hg hm hb .nil mX qB
end
section
variable {P:Program}{w:World}{K:Frag}{mg:Str->Option Value}{base:Heap}{C:Addr}{x m qual:Str}{st:Stmt}{N ps:List Str}{k:Nat}{sp:Sp}
theorem Ml (D: ∃f fd,gx K m qual st f fd/\Meth K C m f)(hc:wL K C)(S:aW N ps (ax st))
  (fX: ∀(f:Addr) (cU:Value) (A:Around) (outer:List Env) (s:Shared) (H:Hp) (vs:List V) (Q:VK) (E:XK),ff k (A.deeper (envOfC qual (ax st) s.heap.objs.size f cU))->sp vs H Q E->
   ∃t,oQ (ly sk P w K mg base N qual (ax st) f cU A outer s H E).EJ (dF st) t/\t {nx:=fun _ H'=>Q .eD H',rt:=Q} (start N vs) H)
  (hb: ∀(kV doc pm:Value) (an:Option Addr) (cU ct:Value) (us:List Value),us.length=ps.length->bindArgs (fnOf m qual (gP st) (dF st) (ax st) .none kV doc pm an cU ct) ⟨us,[]⟩=pure (ps.zip us):=by intro _ _ _ _ _ _ us hl; rcases us with _|⟨_,_|⟨_,_|⟨_,_|⟨_,_|⟨_,_|⟨_,_|⟨_,_⟩⟩⟩⟩⟩⟩⟩ <;> first|(cases hl; done)|rfl)
  (len: ∀vs H Q E,sp vs H Q E->vs.length=ps.length:=by intro _ _ _ _ h; first|(cases h; subst_vars; rfl)|(repeat (first|(obtain⟨rfl,_⟩:=h; rfl; done)|obtain⟨_,h⟩:=h))):g9 sk P w K mg base C m (k + 1) ps sp:=by
 obtain⟨f,fd,F,hm⟩:=D
 exact⟨f,fd,hc,hm,F.ok S len (fX f),F.binds hb⟩
theorem ra (D: ∃f fd,gx K m qual st f fd/\Meth K C m f)(hc:wL K C)(S:aW N ps (ax st))
  (fX: ∀(f:Addr) (cU:Value) (A:Around) (outer:List Env) (s:Shared) (H:Hp) (vs:List V) (Q:VK) (E:XK),ff k (A.deeper (envOfC qual (ax st) s.heap.objs.size f cU))->QQ (ly (mJ P w mg) P w K mg base N qual (ax st) f cU A outer s H E) E->sp vs H Q E->
   ∃t,oQ (ly (mJ P w mg) P w K mg base N qual (ax st) f cU A outer s H E) (dF st) t/\t {nx:=fun _ H'=>Q .eD H',rt:=Q} (start N vs) H)
  (hb: ∀(kV doc pm:Value) (an:Option Addr) (cU ct:Value) (us:List Value),us.length=ps.length->bindArgs (fnOf m qual (gP st) (dF st) (ax st) .none kV doc pm an cU ct) ⟨us,[]⟩=pure (ps.zip us):=by intro _ _ _ _ _ _ us hl; rcases us with _|⟨_,_|⟨_,_|⟨_,_|⟨_,_|⟨_,_|⟨_,_|⟨_,_⟩⟩⟩⟩⟩⟩⟩ <;> first|(cases hl; done)|rfl)
  (len: ∀vs H Q E,sp vs H Q E->vs.length=ps.length:=by intro _ _ _ _ h; first|(cases h; subst_vars; rfl)|(repeat (first|(obtain⟨rfl,_⟩:=h; rfl; done)|obtain⟨_,h⟩:=h))):g9 (mJ P w mg) P w K mg base C m (k + 1) ps sp:=by
 obtain⟨f,fd,F,hm⟩:=D
 exact⟨f,fd,hc,hm,F.ZQ S len (fX f),F.binds hb⟩
theorem Pf (D:Df K mg x st)(S:aW N ps (ax st))
  (fX: ∀(f:Addr) (cU:Value) (A:Around) (outer:List Env) (s:Shared) (H:Hp) (vs:List V) (Q:VK) (E:XK),ff k (A.deeper (envOfC x (ax st) s.heap.objs.size f cU))->QQ (ly (mJ P w mg) P w K mg base N x (ax st) f cU A outer s H E) E->sp vs H Q E->
   ∃t,oQ (ly (mJ P w mg) P w K mg base N x (ax st) f cU A outer s H E) (dF st) t/\t {nx:=fun _ H'=>Q .eD H',rt:=Q} (start N vs) H)
  (hb: ∀(kV doc pm:Value) (an:Option Addr) (cU ct:Value) (us:List Value),us.length=ps.length->bindArgs (fnOf x x (gP st) (dF st) (ax st) .none kV doc pm an cU ct) ⟨us,[]⟩=pure (ps.zip us):=by intro _ _ _ _ _ _ us hl; rcases us with _|⟨_,_|⟨_,_|⟨_,_|⟨_,_|⟨_,_|⟨_,_|⟨_,_⟩⟩⟩⟩⟩⟩⟩ <;> first|(cases hl; done)|rfl)
  (len: ∀vs H Q E,sp vs H Q E->vs.length=ps.length:=by intro _ _ _ _ h; first|(cases h; subst_vars; rfl)|(repeat (first|(obtain⟨rfl,_⟩:=h; rfl; done)|obtain⟨_,h⟩:=h))):vB P w K mg base x (k + 1) ps sp:=by
 obtain⟨f,fd,F,hm⟩:=D.ex
 exact⟨f,fd,F.ZQ S len (fX f),hm,F.kp,F.binds hb⟩
theorem Mm (D: ∃f fd,gx K "__init__" qual st f fd/\Mk K C f)(hm:mg x=some (.ref C))(S:aW N ps (ax st))
  (fX: ∀(f:Addr) (cU:Value) (A:Around) (outer:List Env) (s:Shared) (H:Hp) (vs:List V) (Q:VK) (E:XK),ff k (A.deeper (envOfC qual (ax st) s.heap.objs.size f cU))->sp vs H Q E->
   ∃t,oQ (ly sk P w K mg base N qual (ax st) f cU A outer s H E).EJ (dF st) t/\t {nx:=fun _ H'=>Q .eD H',rt:=Q} (start N vs) H)
  (hb: ∀(kV doc pm:Value) (an:Option Addr) (cU ct:Value) (us:List Value),us.length=ps.length->bindArgs (fnOf "__init__" qual (gP st) (dF st) (ax st) .none kV doc pm an cU ct) ⟨us,[]⟩=pure (ps.zip us):=by intro _ _ _ _ _ _ us hl; rcases us with _|⟨_,_|⟨_,_|⟨_,_|⟨_,_|⟨_,_|⟨_,_|⟨_,_⟩⟩⟩⟩⟩⟩⟩ <;> first|(cases hl; done)|rfl)
  (len: ∀vs H Q E,sp vs H Q E->vs.length=ps.length:=by intro _ _ _ _ h; first|(cases h; subst_vars; rfl)|(repeat (first|(obtain⟨rfl,_⟩:=h; rfl; done)|obtain⟨_,h⟩:=h))):ub P w K mg base x C (k + 1) ps sp:=by
 obtain⟨f,fd,F,hk⟩:=D
 exact⟨f,fd,hk,F.ok S len (fX f),F.binds hb,hm⟩
end
end L2
namespace eN
open PySem L2 PyProof.Rows K3
seal L2.oQ L2.PS L2.PE L2.PT L2.PW L2.PA L2.PC L2.PG L2.KW L2.PI L2.LC L2.KZ L2.PO L2.oE L2.M8 L2.iT L2.IW L2.Og
section
variable {P:Program}{w:World}{K:Frag}{mg:Str->Option Value}{base:Heap}
theorem Hf {H:Hp}{e dx:Addr}{a b c:HO}(h:dx≠e):upd (upd (upd H e a) dx b) e c=upd (upd H dx b) e c:=by
 funext q
 by_cases h1:q=e
 ·rw[h1,ag,ag]
 ·rw[aA h1,aA h1]
  by_cases h2:q=dx
  ·rw[h2,ag,ag]
  ·rw[aA h2,aA h2,aA h1]
inductive Np (K:Frag)(vs:List V)(H:Hp)(Q:VK)(E':XK):Prop
 |mk (e C R t0:Addr)(txt:Str)(h1:vs=[.ref e,.str txt])(h2:H e=some (xo e C none (v0 t0)))(h3:g8 K C R)(h4: ∀dx t',H dx=none->Q .eD (upd (upd H dx (.xd [("text",.str txt)])) e (xo e C (some dx) (v0 t')))):Np K vs H Q E'
theorem D9:aW ["self","text"] ["self","text"] (ax (mem 3 0)):={}
theorem gG (T:Txt K mg){f:Addr}{fd:FuncData}(F:gx K "__init__" "Refusal.__init__" (mem 3 0) f fd):SI P w K mg base 1 f fd ["self","text"] (Np K):=by
 refine mf (k:=0) F D9 (fun vs H Q E h=>?_) (fun cU A outer s H vs Q E hr h=>?_)
 ·obtain⟨e,C,R,t0,txt,rfl,_⟩:=h
  rfl
 ·obtain⟨e,C,R,t0,txt,rfl,he,ek,k⟩:=h
  refine⟨_,(ah (bK (Jx rfl T.BL (aa (pv 0) (aa (pv 1) av)))) (au (L0 (pv 0) (pv 1) rfl))),?_⟩
  refine⟨_,rfl,_,rfl,e,C,R,t0,none,v0 t0,_,rfl,he,ek,rfl,fun t'=>?_⟩
  refine⟨_,rfl,_,rfl,e,C,R,v0 t',rfl,ag,ek,fun dx JP=>?_⟩
  have ne:dx≠e:=fun z=>by rw[z,ag] at JP; cases JP
  rw[aA ne] at JP
  have q:=k dx t' JP
  rw[← Hf (a:=xo e C none (v0 t')) ne] at q
  exact q
theorem B0:aW ["self"] ["self"] (ax (mem 4 0)):={}
theorem B4 (T:Txt K mg){A:eh}(G:jJ K mg A):Jy P w K mg base 2 "NoCredit" A.ke A.refusal "no credit":=by
 obtain⟨f,fd,F,hi,ht⟩:=G.BR
 obtain⟨f0,Pg,F0,ik⟩:=G.gF
 refine⟨G.BP,G.tw,G.BQ,f,fd,hi,ht,?_,F.binds (fun _ _ _ _ _ _ us hl=>match us,hl with|[_],_=>rfl)⟩
 refine mf (k:=1) F B0 (fun vs H Q E h=>?_) (fun cU A' outer s H vs Q E hr h=>?_)
 ·obtain⟨e,C,R,t0,rfl,_⟩:=h
  rfl
 ·obtain⟨e,C,R,t0,rfl,he,ek,k⟩:=h
  refine⟨_,(au (bK (jq ik (gG T F0) hr (F0.binds (fun _ _ _ _ _ _ us hl=>match us,hl with|[_,_],_=>rfl)) rfl G.fT (aa (pv 0) (aa aV av))))),?_⟩
  exact⟨_,rfl,e,C,R,t0,_,rfl,he,ek,fun dx t' n=>k dx t' n⟩
theorem Hg:aW ["self"] ["self"] (ax (mem 5 0)):={}
theorem Hh (T:Txt K mg){A:eh}(G:jJ K mg A):Jy P w K mg base 2 "NoBill" A.pX A.refusal "no bill":=by
 obtain⟨f,fd,F,hi,ht⟩:=G.G9
 obtain⟨f0,Pg,F0,ik⟩:=G.gF
 refine⟨G.G7,G.yw,G.G8,f,fd,hi,ht,?_,F.binds (fun _ _ _ _ _ _ us hl=>match us,hl with|[_],_=>rfl)⟩
 refine mf (k:=1) F Hg (fun vs H Q E h=>?_) (fun cU A' outer s H vs Q E hr h=>?_)
 ·obtain⟨e,C,R,t0,rfl,_⟩:=h
  rfl
 ·obtain⟨e,C,R,t0,rfl,he,ek,k⟩:=h
  refine⟨_,(au (bK (jq ik (gG T F0) hr (F0.binds (fun _ _ _ _ _ _ us hl=>match us,hl with|[_,_],_=>rfl)) rfl G.fT (aa (pv 0) (aa aV av))))),?_⟩
  exact⟨_,rfl,e,C,R,t0,_,rfl,he,ek,fun dx t' n=>k dx t' n⟩
theorem zO:aW ["self"] ["self"] (ax (mem 6 0)):={}
theorem zP (T:Txt K mg){A:eh}(G:jJ K mg A):Jy P w K mg base 2 "NotTheirs" A.jP A.refusal "not theirs":=by
 obtain⟨f,fd,F,hi,ht⟩:=G.zJ
 obtain⟨f0,Pg,F0,ik⟩:=G.gF
 refine⟨G.zH,G.qV,G.zI,f,fd,hi,ht,?_,F.binds (fun _ _ _ _ _ _ us hl=>match us,hl with|[_],_=>rfl)⟩
 refine mf (k:=1) F zO (fun vs H Q E h=>?_) (fun cU A' outer s H vs Q E hr h=>?_)
 ·obtain⟨e,C,R,t0,rfl,_⟩:=h
  rfl
 ·obtain⟨e,C,R,t0,rfl,he,ek,k⟩:=h
  refine⟨_,(au (bK (jq ik (gG T F0) hr (F0.binds (fun _ _ _ _ _ _ us hl=>match us,hl with|[_,_],_=>rfl)) rfl G.fT (aa (pv 0) (aa aV av))))),?_⟩
  exact⟨_,rfl,e,C,R,t0,_,rfl,he,ek,fun dx t' n=>k dx t' n⟩
theorem B6:aW ["self"] ["self"] (ax (mem 7 0)):={}
theorem B7 (T:Txt K mg){A:eh}(G:jJ K mg A):Jy P w K mg base 2 "NoAmount" A.iM A.refusal "no amount":=by
 obtain⟨f,fd,F,hi,ht⟩:=G.BV
 obtain⟨f0,Pg,F0,ik⟩:=G.gF
 refine⟨G.BS,G.kN,G.BU,f,fd,hi,ht,?_,F.binds (fun _ _ _ _ _ _ us hl=>match us,hl with|[_],_=>rfl)⟩
 refine mf (k:=1) F B6 (fun vs H Q E h=>?_) (fun cU A' outer s H vs Q E hr h=>?_)
 ·obtain⟨e,C,R,t0,rfl,_⟩:=h
  rfl
 ·obtain⟨e,C,R,t0,rfl,he,ek,k⟩:=h
  refine⟨_,(au (bK (jq ik (gG T F0) hr (F0.binds (fun _ _ _ _ _ _ us hl=>match us,hl with|[_,_],_=>rfl)) rfl G.fT (aa (pv 0) (aa aV av))))),?_⟩
  exact⟨_,rfl,e,C,R,t0,_,rfl,he,ek,fun dx t' n=>k dx t' n⟩
theorem B8:aW ["self"] ["self"] (ax (mem 8 0)):={}
theorem Ca (T:Txt K mg){A:eh}(G:jJ K mg A):Jy P w K mg base 2 "TooEarly" A.tooEarly A.refusal "too early":=by
 obtain⟨f,fd,F,hi,ht⟩:=G.BY
 obtain⟨f0,Pg,F0,ik⟩:=G.gF
 refine⟨G.BW,G.tF,G.BX,f,fd,hi,ht,?_,F.binds (fun _ _ _ _ _ _ us hl=>match us,hl with|[_],_=>rfl)⟩
 refine mf (k:=1) F B8 (fun vs H Q E h=>?_) (fun cU A' outer s H vs Q E hr h=>?_)
 ·obtain⟨e,C,R,t0,rfl,_⟩:=h
  rfl
 ·obtain⟨e,C,R,t0,rfl,he,ek,k⟩:=h
  refine⟨_,(au (bK (jq ik (gG T F0) hr (F0.binds (fun _ _ _ _ _ _ us hl=>match us,hl with|[_,_],_=>rfl)) rfl G.fT (aa (pv 0) (aa aV av))))),?_⟩
  exact⟨_,rfl,e,C,R,t0,_,rfl,he,ek,fun dx t' n=>k dx t' n⟩
theorem Ea:aW ["self"] ["self"] (ax (mem 9 0)):={}
theorem Eb (T:Txt K mg){A:eh}(G:jJ K mg A):Jy P w K mg base 2 "TooMuch" A.tooMuch A.refusal "too much":=by
 obtain⟨f,fd,F,hi,ht⟩:=G.D7
 obtain⟨f0,Pg,F0,ik⟩:=G.gF
 refine⟨G.vA,G.pY,G.D5,f,fd,hi,ht,?_,F.binds (fun _ _ _ _ _ _ us hl=>match us,hl with|[_],_=>rfl)⟩
 refine mf (k:=1) F Ea (fun vs H Q E h=>?_) (fun cU A' outer s H vs Q E hr h=>?_)
 ·obtain⟨e,C,R,t0,rfl,_⟩:=h
  rfl
 ·obtain⟨e,C,R,t0,rfl,he,ek,k⟩:=h
  refine⟨_,(au (bK (jq ik (gG T F0) hr (F0.binds (fun _ _ _ _ _ _ us hl=>match us,hl with|[_,_],_=>rfl)) rfl G.fT (aa (pv 0) (aa aV av))))),?_⟩
  exact⟨_,rfl,e,C,R,t0,_,rfl,he,ek,fun dx t' n=>k dx t' n⟩
theorem zQ:aW ["self"] ["self"] (ax (mem 10 0)):={}
theorem zR (T:Txt K mg){A:eh}(G:jJ K mg A):Jy P w K mg base 2 "NoSetting" A.jQ A.refusal "no setting":=by
 obtain⟨f,fd,F,hi,ht⟩:=G.zM
 obtain⟨f0,Pg,F0,ik⟩:=G.gF
 refine⟨G.zK,G.qW,G.zL,f,fd,hi,ht,?_,F.binds (fun _ _ _ _ _ _ us hl=>match us,hl with|[_],_=>rfl)⟩
 refine mf (k:=1) F zQ (fun vs H Q E h=>?_) (fun cU A' outer s H vs Q E hr h=>?_)
 ·obtain⟨e,C,R,t0,rfl,_⟩:=h
  rfl
 ·obtain⟨e,C,R,t0,rfl,he,ek,k⟩:=h
  refine⟨_,(au (bK (jq ik (gG T F0) hr (F0.binds (fun _ _ _ _ _ _ us hl=>match us,hl with|[_,_],_=>rfl)) rfl G.fT (aa (pv 0) (aa aV av))))),?_⟩
  exact⟨_,rfl,e,C,R,t0,_,rfl,he,ek,fun dx t' n=>k dx t' n⟩
theorem Hj:aW ["self"] ["self"] (ax (mem 11 0)):={}
theorem Hl (T:Txt K mg){A:eh}(G:jJ K mg A):Jy P w K mg base 2 "Needed" A.jf A.refusal "needed":=by
 obtain⟨f,fd,F,hi,ht⟩:=G.Hc
 obtain⟨f0,Pg,F0,ik⟩:=G.gF
 refine⟨G.yx,G.yy,G.Hb,f,fd,hi,ht,?_,F.binds (fun _ _ _ _ _ _ us hl=>match us,hl with|[_],_=>rfl)⟩
 refine mf (k:=1) F Hj (fun vs H Q E h=>?_) (fun cU A' outer s H vs Q E hr h=>?_)
 ·obtain⟨e,C,R,t0,rfl,_⟩:=h
  rfl
 ·obtain⟨e,C,R,t0,rfl,he,ek,k⟩:=h
  refine⟨_,(au (bK (jq ik (gG T F0) hr (F0.binds (fun _ _ _ _ _ _ us hl=>match us,hl with|[_,_],_=>rfl)) rfl G.fT (aa (pv 0) (aa aV av))))),?_⟩
  exact⟨_,rfl,e,C,R,t0,_,rfl,he,ek,fun dx t' n=>k dx t' n⟩
def oW (rc rb:Rw)(b:Nat):Bool:=if rc.c= -1 then decide (rc.aC=rb.aC) else decide (rc.c=(b:Int))
def EX (E:XK)(C:Addr)(txt:Str)(H:Hp):Prop:= ∀(dx:Addr) (H':Hp),aE H H'->H dx=none->H' dx=some (.xd [("text",.str txt)])->E (.ref C) (some dx) H'
theorem EX.at {E:XK}{C dx:Addr}{txt:Str}{H:Hp}(h:EX E C txt H)(n:H dx=none):E (.ref C) (some dx) (upd H dx (.xd [("text",.str txt)])):=h dx _ (aE.new n) n ag
inductive rg (A:eh)(vs:List V)(H:Hp)(Q:VK)(E:XK):Prop
 |mk (a:Int)(h1:vs=[.int a])(h2:(1<=a->Q .eD H))(h3:(a < 1->EX E A.iM "no amount" H)):rg A vs H Q E
theorem uc:aW ["amount"] ["amount"] (ax (top 26)):={}
theorem kh (T:Txt K mg){A:eh}(G:jJ K mg A):vB P w K mg base "check_amount" 4 ["amount"] (rg A):=by
 refine Pf (k:=3) T.vw uc (fun f cU A' outer s H vs Q E hr mz h=>?_)
 ·obtain⟨a,rfl,k1,k2⟩:=h
  refine⟨_,(au (bP (aX jU (pv 0) ai (a0 _)) (au (ka mz (B7 T G) hr.h rfl rfl)) bh)),?_⟩
  refine⟨_,rfl,_,_,rfl,rfl,_,rfl,cv (fun z=>?_) (fun z=>?_)⟩
  ·exact fun dx n=>(k2 (aM z)).at n
  ·exact k1 (by have: ¬ a < 1:=fun q=>z (aG q); lia)
inductive zS (A:eh)(vs:List V)(H:Hp)(Q:VK)(E':XK):Prop
 |mk (p q:Addr)(c b:Nat)(rc rb:Rw)(h1:vs=[.ref p,.ref q])(h2:eI H p A.ej (fk c rc))(h3:eI H q A.dY (fE b rb))(h4:Q (.bl (oW rc rb b)) H):zS A vs H Q E'
theorem Mn:aW ["credit","bill"] ["credit","bill"] (ax (top 15)):={}
theorem JQ (T:Txt K mg){A:eh}(G:jJ K mg A):fb P w K mg base "fits" 1 ["credit","bill"] (zS A):=by
 refine T.O5.fC (k:=0) Mn (fun f cU A' outer s H vs Q E hr h=>?_)
 ·obtain⟨p,q,c,b,rc,rb,rfl,⟨dp,hp⟩,⟨dq,hq⟩,k⟩:=h
  refine⟨_,(ah (bP (yV (ID (bZ (pv 0) rfl)))
(au (a9 (eF cK (bZ (pv 0) rfl) (bZ (pv 1) rfl) (a0 _))))
bh)
(au (a9 (eF cK (bZ (pv 0) rfl) (bZ (pv 1) rfl) (a0 _))))),?_⟩
  have fo:=Mc c rc
  refine⟨_,rfl,p,_,dp,_,_,rfl,hp,G.dg,G.kg,fo,?_⟩
  by_cases z:rc.c= -1
  ·have e:tu rc.c= .eD:=aZ z
   refine⟨true,by rw[e]; rfl,fJ ?_⟩
   refine⟨_,rfl,p,_,dp,_,_,rfl,hp,G.dg,G.k8,JM c rc,_,rfl,q,_,dq,_,_,rfl,hq,G.en,G.kO,D3 b rb,rfl,?_⟩
   have e2:oW rc rb b=decide (V.str rc.aC=V.str rb.aC):=by
    unfold oW
    rw[aZ z]
    exact jC.mpr ⟨fun h=>by rw[h],fun h=>by injection h⟩
   rw[e2] at k
   exact k
  ·have e:tu rc.c= .int rc.c:=aO z
   refine⟨false,by rw[e]; rfl,bV ?_⟩
   rw[e] at fo
   refine⟨_,rfl,p,_,dp,_,_,rfl,hp,G.dg,G.kg,fo,_,rfl,q,_,dq,_,_,rfl,hq,G.en,G.eV,lI b rb,rfl,?_⟩
   have e2:oW rc rb b=decide (V.int rc.c=V.int (b:Int)):=by
    unfold oW
    rw[aO z]
    exact jC.mpr ⟨fun h=>by rw[h],fun h=>by injection h⟩
   rw[e2] at k
   exact k
inductive Ec (A:eh)(vs:List V)(H:Hp)(Q:VK)(E':XK):Prop
 |mk (p q:Addr)(c b:Nat)(rc rb:Rw)(h1:vs=[.ref p,.ref q])(h2:eI H p A.ej (fk c rc))(h3:eI H q A.dY (fE b rb))(h4:Q (.int (if rb.a > rc.a then rb.a else rc.a)) H):Ec A vs H Q E'
theorem vC:aW ["credit","bill"] ["credit","bill"] (ax (top 16)):={}
theorem xn (T:Txt K mg){A:eh}(G:jJ K mg A):fb P w K mg base "counts_from" 1 ["credit","bill"] (Ec A):=by
 refine T.wY.fC (k:=0) vC (fun f cU A' outer s H vs Q E hr h=>?_)
 ·obtain⟨p,q,c,b,rc,rb,rfl,⟨dp,hp⟩,⟨dq,hq⟩,k⟩:=h
  refine⟨_,(au (a9 (cE (xX rfl) (by rfl) T.Nm boot_max (aa (bZ (pv 0) rfl) (aa (bZ (pv 1) rfl) av))))),?_⟩
  exact⟨_,rfl,p,_,dp,_,_,rfl,hp,G.dg,G.jk,JN c rc,_,rfl,q,_,dq,_,_,rfl,hq,G.en,G.nu,Pd b rb,_,_,rfl,k⟩
theorem getD_at {α:Type}{xs:List α}{d:α}{i:Nat}(h:i < xs.length):xs.getD i d=xs[i]:=by rw[aj,af h]; rfl
theorem pZ {g:Int->V}{xs:List Int}{i:Nat}(h:i < xs.length):sj (xs.map g) (i:Int)=some (g (xs.getD i 0)):=by
 rw[getD_at h]
 exact cg (by rw[aB,af h]; rfl)
theorem uq {n j:Nat}(h:j < n):Lx n (j:Int)=some j:=by
 unfold Lx
 rw[if_pos (by lia),if_pos (by lia)]; simp
theorem gh {H H':Hp}(s:aE H H'): ∀b xs,H b=some (.tup xs)->H' b=some (.tup xs):=fun b xs e=>s _ _ e
theorem gX {α:Type}{xs:List α}{m:Nat}(h:m < xs.length):xs.take (m + 1)=xs.take m ++ [xs[m]]:=by
 rw[AX,af h]; rfl
theorem S8 (cs:List Int)(lo hi:Option Int): ∃ds:List Int,qE (cs.map V.int) lo hi=ds.map V.int/\ds.length<=cs.length:=by
 unfold qE
 refine⟨_,by rw[← List.map_drop,← List.map_take],?_⟩
 rw[bb,mG]
 lia
theorem zT (x m:Int)(h:0 < m): ∃n:Nat,x % m=(n:Int)/\(n:Int) < m:=by
 have h1:=kC x (show m≠0 by lia)
 have h2:=qo x h
 exact⟨(x % m).toNat,by lia,by lia⟩
theorem kP {α:Type}{g:α->V}{xs:List α}{m:Int}{x:Int}(hm:m=(xs.length:Int))(h:0 < m): ∃y∈xs,sj (xs.map g) (x % m)=some (g y):=by
 obtain⟨n,e,hn⟩:=zT x m h
 have hl:n < xs.length:=by lia
 exact⟨xs[n],bN _,by rw[e]; exact cg (by rw[aB,af hl]; rfl)⟩
inductive Ed (vs:List V)(H:Hp)(Q:VK)(E':XK):Prop
 |mk (n p m:Int)(h1:vs=[.int n,.int p,.int m])(h2:0 < p)(h3:0 < m)(h4: ∀r,0<=r->r < m->Q (.int r) H):Ed vs H Q E'
theorem zU:aW ["_law_number","_law_prime","_law_many"] ["_law_number","_law_prime","_law_many"] (ax (top 44)):={}
theorem Cb (T:Txt K mg):fb P w K mg base "_law_draw" 1 ["_law_number","_law_prime","_law_many"] Ed:=by
 refine T.BH.fC (k:=0) zU (fun f cU A outer s H vs Q E hr h=>?_)
 ·obtain⟨n,p,m,rfl,hp,hm,k⟩:=h
  refine⟨_,(au (a9 (aQ b9 (aQ b9 (aQ jx (pv 0) ai) (pv 1)) (pv 2)))),?_⟩
  refine⟨_,rfl,_,_,rfl,rfl,.inr ⟨by decide,by decide⟩,_,rfl,_,_,rfl,rfl,hp,_,rfl,_,_,rfl,rfl,hm,?_⟩
  exact k _ (kC _ (by lia)) (qo _ hm)
inductive vF (K:Frag)(vs:List V)(H:Hp)(Q:VK)(E':XK):Prop
 |mk (a:Addr)(cs:List Int)(h1:vs=[.ref a])(h2:bw K H a (cs.map V.int))(h3: ∀(pn:Addr) (names:List Str) (H':Hp),aE H H'->H' pn=some (.lst (names.map V.str))->names≠[]->names.length<=6->Q (.ref pn) H'):vF K vs H Q E'
theorem nE:aW ["_law_cells","_law_spot","_law_made"] ["_law_cells"] (ax (top 48)):={}
theorem oX (T:Txt K mg):fb P w K mg base "_law_people" 1 ["_law_cells"] (vF K):=by
 refine T.xa.fC (k:=0) nE (fun f cU A outer s H vs Q E hr h=>?_)
 ·obtain⟨a,cs,rfl,hS,k⟩:=h
  have nd:=nE.nd
  refine⟨_,(ah (sv 1 nd (aQ b9 (aQ jH (cE (lF rfl) (by rfl) T.BK boot_sum (aa (qD uj (pv 0) yZ (qC ai)) av)) ai) ai))
(ah (sv 2 nd (bQ (aa (bQ (aa aV (aa aV (aa aV av)))) (aa (bQ (aa aV (aa aV (aa aV av)))) av))))
(ah (bK (pW (pv 2) (bQ (aa (aQ zk aV ai) (aa (aQ uL (aQ uL (aQ zk aV (pv 1)) aV) (aQ zk aV (aQ eM ai (pv 1)))) (aa aV av))))))
(au (a9 (xl (aQ l6 (pv 2) (bQ (aa (bQ (aa aV (aa aV (aa aV (aa aV (aa aV (aa aV av))))))) av))) (aQ b9 (aQ jH (cE (lF rfl) (by rfl) T.BK boot_sum (aa (qD uj (pv 0) yZ (qC ai)) av)) ai) ai))))))),?_⟩
  refine⟨_,rfl,_,rfl,a,_,rfl,hS,fun p1 n1=>?_⟩
  obtain⟨ds,ed,_⟩:=S8 cs none (some 1)
  rw[ed]
  have s1:aE H (upd H p1 (.lst (ds.map V.int))):=aE.new n1
  refine⟨p1,ds,rfl,bw.of ag,_,_,rfl,rfl,⟨by decide,by decide⟩,_,_,rfl,rfl,(by show(0:Int) < 60; decide),?_⟩
  obtain⟨sp,Vt,yd⟩:=zT (ds.sum / 28) 60 (by decide)
  show _
  generalize upd H p1 (.lst (ds.map V.int))=H1 at s1 ⊢
  refine⟨(by show 3<=sizeLine; decide),fun p2 n2=>⟨(by show 3<=sizeLine; decide),fun p3 n3=>⟨(by show 2<=sizeLine; decide),fun p4 n4=>?_⟩⟩⟩
  have t2:=aE.new (o:= .lst [V.str "ann",.str "",.str "bo"]) n2
  have t3:=aE.new (o:= .lst [V.str "ann",.str "ann lee",.str "Ann"]) n3
  have t4:=aE.new (o:= .lst [V.ref p2,.ref p3]) n4
  have s4:=((s1.trans t2).trans t3).trans t4
  have g2:=(t3.trans t4) _ _ (ag (H:=H1) (a:=p2) (o:= .lst [V.str "ann",.str "",.str "bo"]))
  have g3:=t4 _ _ (ag (H:=upd H1 p2 (.lst [V.str "ann",.str "",.str "bo"])) (a:=p3) (o:= .lst [V.str "ann",.str "ann lee",.str "Ann"]))
  have g4:=ag (H:=upd (upd H1 p2 (.lst [V.str "ann",.str "",.str "bo"])) p3 (.lst [V.str "ann",.str "ann lee",.str "Ann"])) (a:=p4) (o:= .lst [V.ref p2,.ref p3])
  have m4:H p4=none:=((s1.trans t2).trans t3).free n4
  generalize upd (upd (upd H1 p2 (.lst [V.str "ann",.str "",.str "bo"])) p3 (.lst [V.str "ann",.str "ann lee",.str "Ann"])) p4 (.lst [V.ref p2,.ref p3])=H4 at s4 g2 g3 g4 ⊢
  clear t2 t3 t4
  refine⟨_,rfl,.inl ⟨rfl,_,bw.of g4⟩,?_⟩
  refine⟨_,_,rfl,rfl,rfl,(by decide),(by decide),fun z1 hz1=>?_⟩
  refine⟨_,rfl,_,_,rfl,rfl,rfl,(by rw[Vt]; lia),(by rw[Vt]; lia),fun z2 hz2=>?_⟩
  refine⟨_,_,rfl,rfl,di (jj (by show z2.length + 1<=_; lia)),?_⟩
  refine⟨_,rfl,_,_,rfl,rfl,_,_,rfl,rfl,rfl,(by rw[Vt]; lia),(by rw[Vt]; lia),fun z3 hz3=>?_⟩
  refine⟨_,_,rfl,rfl,di (jj (by
   have:(z2 ++ ("y":Str)).length=z2.length + 1:=by
    show(z2.cps ++ _).size=_
    rw[Array.size_append]; rfl
   rw[this]; lia)),?_⟩
  refine⟨(by show 3<=sizeLine; decide),fun p5 n5=>?_⟩
  generalize (z2 ++ ("y":Str)) ++ z3=z4
  have t5:=aE.new (o:= .lst [V.str z1,.str z4,.str " ~"]) n5
  refine⟨p4,_,_,rfl,rfl,t5 _ _ g4,(by show 2 < sizeLine; decide),?_⟩
  have s5:aE H (upd (upd H4 p5 (.lst [V.str z1,.str z4,.str " ~"])) p4 (.lst ([V.ref p2,.ref p3] ++ [.ref p5]))):=(s4.trans t5).cY m4
  have XG:p2≠p4:=fun e=>by rw[e,g4] at g2; cases g2
  have XH:p3≠p4:=fun e=>by rw[e,g4] at g3; cases g3
  have XI:p5≠p4:=(aK g4 n5).symm
  have j2:upd (upd H4 p5 (.lst [V.str z1,.str z4,.str " ~"])) p4 (.lst ([V.ref p2,.ref p3] ++ [.ref p5])) p2=some (.lst [V.str "ann",.str "",.str "bo"]):=by rw[aA XG]; exact t5 _ _ g2
  have j3:upd (upd H4 p5 (.lst [V.str z1,.str z4,.str " ~"])) p4 (.lst ([V.ref p2,.ref p3] ++ [.ref p5])) p3=some (.lst [V.str "ann",.str "ann lee",.str "Ann"]):=by rw[aA XH]; exact t5 _ _ g3
  have j5:upd (upd H4 p5 (.lst [V.str z1,.str z4,.str " ~"])) p4 (.lst ([V.ref p2,.ref p3] ++ [.ref p5])) p5=some (.lst [V.str z1,.str z4,.str " ~"]):=by rw[aA XI]; exact ag
  have j4:upd (upd H4 p5 (.lst [V.str z1,.str z4,.str " ~"])) p4 (.lst ([V.ref p2,.ref p3] ++ [.ref p5])) p4=some (.lst ([V.ref p2,.ref p3] ++ [.ref p5])):=ag
  generalize upd (upd H4 p5 (.lst [V.str z1,.str z4,.str " ~"])) p4 (.lst ([V.ref p2,.ref p3] ++ [.ref p5]))=H5 at s5 j2 j3 j4 j5 ⊢
  clear t5
  refine⟨_,rfl,?_⟩
  refine⟨(by show 6<=sizeLine; decide),fun p6 n6=>⟨(by show 1<=sizeLine; decide),fun p7 n7=>?_⟩⟩
  have t6:=aE.new (o:= .lst [V.str "ann",.str "",.str "bo",.str "Cy ~",.str "ann ",.str "dee"]) n6
  have t7:=aE.new (o:= .lst [V.ref p6]) n7
  have Z6:=t6.trans t7
  have j6:=t7 _ _ (ag (H:=H5) (a:=p6) (o:= .lst [V.str "ann",.str "",.str "bo",.str "Cy ~",.str "ann ",.str "dee"]))
  refine⟨p4,p7,_,_,rfl,rfl,Z6 _ _ j4,ag,(by show 4<=sizeLine; decide),fun p8 n8=>?_⟩
  have t8:=aE.new (o:= .lst (([V.ref p2,.ref p3] ++ [.ref p5]) ++ [.ref p6])) n8
  have Z7:=Z6.trans t8
  have s8:=s5.trans Z7
  refine⟨_,rfl,_,rfl,a,_,rfl,s8.seq hS,fun p9 n9=>?_⟩
  rw[ed]
  have t9:=aE.new (o:= .lst (ds.map V.int)) n9
  refine⟨p9,ds,rfl,bw.of ag,_,_,rfl,rfl,⟨by decide,by decide⟩,_,_,rfl,rfl,(by show(0:Int) < 4; decide),?_⟩
  obtain⟨r,er,XJ⟩:=zT (ds.sum / 7) 4 (by decide)
  have XM:r < 4:=by lia
  have fin: ∀(pn:Addr) (names:List Str),H5 pn=some (.lst (names.map V.str))∨upd (upd H5 p6 (.lst [V.str "ann",.str "",.str "bo",.str "Cy ~",.str "ann ",.str "dee"])) p7 (.lst [V.ref p6]) pn=some (.lst (names.map V.str))->names≠[]->names.length<=6->Q (.ref pn) _:=fun pn names h h1 h2=>
   k pn names _ (s8.trans t9) (by
    rcases h with h|h
    ·exact(Z7.trans t9) _ _ h
    ·exact(t8.trans t9) _ _ h) h1 h2
  have Vu:=t9 _ _ (ag (H:=upd (upd H5 p6 (.lst [V.str "ann",.str "",.str "bo",.str "Cy ~",.str "ann ",.str "dee"])) p7 (.lst [V.ref p6])) (a:=p8) (o:= .lst (([V.ref p2,.ref p3] ++ [.ref p5]) ++ [.ref p6])))
  match r,XM,er with
  |0,_,er=>exact⟨p8,_,_,.ref p2,rfl,rfl,bw.of Vu,by show sj _ (ds.sum / 7 % 4)=_; rw[er]; rfl,fin p2 [_,_,_] (.inl j2) (by simp) (by simp)⟩
  |1,_,er=>exact⟨p8,_,_,.ref p3,rfl,rfl,bw.of Vu,by show sj _ (ds.sum / 7 % 4)=_; rw[er]; rfl,fin p3 [_,_,_] (.inl j3) (by simp) (by simp)⟩
  |2,_,er=>exact⟨p8,_,_,.ref p5,rfl,rfl,bw.of Vu,by show sj _ (ds.sum / 7 % 4)=_; rw[er]; rfl,fin p5 [_,_,_] (.inl j5) (by simp) (by simp)⟩
  |3,_,er=>exact⟨p8,_,_,.ref p6,rfl,rfl,bw.of Vu,by show sj _ (ds.sum / 7 % 4)=_; rw[er]; rfl,fin p6 [_,_,_,_,_,_] (.inr j6) (by simp) (by simp)⟩
  |r + 4,h,_=>lia
theorem at4 (a b c d x:Int): ∃y,sj [V.int a,V.int b,V.int c,V.int d] (x % 4)=some (V.int y):=by
 obtain⟨y,_,h⟩:=kP (g:=V.int) (xs:=[a,b,c,d]) (m:=4) (x:=x) rfl (by decide)
 exact⟨y,h⟩
theorem Z8 (a b c x:Int): ∃y,(y=a∨y=b∨y=c)/\sj [V.int a,V.int b,V.int c] (x % 3)=some (V.int y):=by
 obtain⟨y,hy,h⟩:=kP (g:=V.int) (xs:=[a,b,c]) (m:=3) (x:=x) rfl (by decide)
 exact⟨y,by simpa using hy,h⟩
theorem Cc {x:Int}(h:x<=1000000000):x<=vm:=Fc (lX h (by decide +kernel))
theorem XN (a b x:Int): ∃y,(y=a∨y=b)/\sj [V.int a,V.int b] (x % 2)=some (V.int y):=by
 obtain⟨y,hy,h⟩:=kP (g:=V.int) (xs:=[a,b]) (m:=2) (x:=x) rfl (by decide)
 exact⟨y,by simpa using hy,h⟩
inductive vG (K:Frag)(vs:List V)(H:Hp)(Q:VK)(E':XK):Prop
 |mk (a:Addr)(cs:List Int)(i:Nat)(h1:vs=[.ref a,.int i])(h2:bw K H a (cs.map V.int))(h3:i < cs.length)(h4: ∀(p:Addr) (aC:Str) (day dO:Int) (H':Hp),aE H H'->H' p=some (.tup [.str aC,.int day,.int dO])->day<=vm->Q (.ref p) H'):vG K vs H Q E'
theorem nF:aW ["_law_cells","_law_k","_law_cell","_law_rest","_law_names","_law_who","_law_day","_law_amount"] ["_law_cells","_law_k"] (ax (top 49)):={}
theorem xp (T:Txt K mg):fb P w K mg base "_law_penned" 2 ["_law_cells","_law_k"] (vG K):=by
 have k9:fb P w K mg base "_law_people" 1 ["_law_cells"] (vF K):=oX T
 have nG:fb P w K mg base "_law_draw" 1 ["_law_number","_law_prime","_law_many"] Ed:=Cb T
 refine T.xc.fC (k:=1) nF (fun f cU A outer s H vs Q E hr h=>?_)
 ·obtain⟨a,cs,i,rfl,hS,hi,k⟩:=h
  have nd:=nF.nd
  refine⟨_,(ah (sv 2 nd (xl (pv 0) (pv 1)))
(ah (sv 3 nd (aQ jH (pv 2) ai))
(ah (sv 4 nd (fc k9 hr (aa (pv 0) av)))
(ah (sv 5 nd (xl (pv 4) (aQ b9 (aQ cJ (pv 3) (pv 1)) (mK T.dR (pv 4)))))
(ah (sv 6 nd (aQ eM (fc nG hr (aa (aQ cJ (pv 2) (aQ jx ai (pv 1))) (aa ai (aa ai av)))) ai))
(ah (sv 7 nd (aQ cJ ai (fc nG hr (aa (aQ cJ (pv 2) (aQ jx ai (pv 1))) (aa ai (aa ai av))))))
(ji (bP (aX cK (aQ b9 (pv 2) ai) ai (a0 _))
(au (sv 7 nd (aQ cJ ai (aQ jx (fc nG hr (aa (aQ cJ (pv 2) (aQ jx ai (pv 1))) (aa ai (aa ai av)))) ai))))
bh)
(ji (bP (aX cK (aQ b9 (pv 2) ai) ai (a0 _))
(au (sv 7 nd (aQ cJ ai (aQ b9 (pv 2) (aQ eM (aQ LK (aQ i9 ai ai) (aQ i9 ai ai)) ai)))))
bh)
(ji (bP (aX cK (aQ b9 (pv 2) ai) ai (a0 _))
(au (sv 7 nd (xl (bQ (aa ai (aa (oS kZ ai) (aa (aQ i9 ai ai) (aa (aQ eM ai (aQ b9 (pv 2) (aQ i9 ai ai))) av))))) (aQ b9 (pv 3) ai))))
bh)
(ji (bP (aX cK (aQ b9 (pv 2) ai) ai (a0 _))
(au (sv 6 nd (xl (bQ (aa (aQ i9 ai ai) (aa (oS kZ (aQ i9 ai ai)) (aa (aQ eM (aQ b9 (pv 2) ai) ai) av)))) (aQ b9 (pv 3) ai))))
bh)
(ji (bP (aX cK (aQ b9 (pv 2) ai) ai (a0 _))
(au (sv 6 nd (aQ jx (aQ b9 (pv 2) (aQ i9 ai ai)) (xl (bQ (aa ai (aa (oS kZ ai) av))) (aQ b9 (pv 1) ai)))))
bh)
(au (a9 (cQ (aa (pv 5) (aa (pv 6) (aa (pv 7) av))))))))))))))))),?_⟩
  refine⟨_,rfl,_,rfl,a,_,_,.int (cs.getD i 0),rfl,rfl,hS,pZ hi,?_⟩
  generalize cs.getD i 0=cell
  refine⟨_,rfl,_,_,rfl,rfl,⟨by decide,by decide⟩,?_⟩
  refine⟨_,rfl,a,cs,rfl,hS,fun pn names H1 s1 Hm hn0 hn6=>?_⟩
  have S9:0 < names.length:=List.length_pos_iff.mpr hn0
  obtain⟨aC,_,Ta⟩:=kP (g:=V.str) (xs:=names) (m:=((names.map V.str).length:Int)) (x:=cell / 16 + (i:Int)) (by rw[ae]) (by rw[ae]; lia)
  refine⟨_,rfl,_,rfl,_,rfl,_,_,rfl,rfl,_,rfl,pn,_,rfl,.inl (bw.of Hm),_,_,rfl,rfl,(by rw[ae]; show(0:Int) < _; lia),pn,_,_,.str aC,rfl,rfl,bw.of Hm,Ta,?_⟩
  refine⟨_,rfl,_,rfl,_,_,rfl,rfl,.inl ⟨by decide,by decide⟩,_,_,rfl,rfl,_,_,_,rfl,by decide,by decide,fun r1 _ K9=>⟨_,_,rfl,rfl,?_⟩⟩
  refine⟨_,rfl,_,rfl,_,_,rfl,rfl,.inl ⟨by decide,by decide⟩,_,_,rfl,rfl,_,_,_,rfl,by decide,by decide,fun r2 _ _=>⟨_,_,rfl,rfl,?_⟩⟩
  refine⟨fun σ' H'=> ∃day dO:Int,σ'=[some (.ref a),some (.int i),some (.int cell),some (.int (cell / 16)),some (.ref pn),some (.str aC),some (.int day),some (.int dO)]/\aE H H'/\day<=vm,?_,?_⟩
  ·refine⟨_,rfl,_,_,rfl,rfl,(by show(0:Int) < 7; decide),rfl,_,rfl,cv (fun c=>?_) (fun c=>⟨_,_,rfl,s1,Cc (by lia)⟩)⟩
   refine⟨_,rfl,_,rfl,_,_,rfl,rfl,.inl ⟨by decide,by decide⟩,_,_,rfl,rfl,_,_,_,rfl,by decide,by decide,fun r3 _ _=>⟨_,_,rfl,rfl,.inr ⟨by decide,by decide⟩,_,_,rfl,rfl,?_⟩⟩
   exact⟨_,_,rfl,s1,Cc (by lia)⟩
  rintro σ' H2 ⟨day,dO,rfl,s2,oM⟩
  clear Hm Ta s1
  refine⟨fun σ' H'=> ∃day dO:Int,σ'=[some (.ref a),some (.int i),some (.int cell),some (.int (cell / 16)),some (.ref pn),some (.str aC),some (.int day),some (.int dO)]/\aE H H'/\day<=vm,?_,?_⟩
  ·refine⟨_,rfl,_,_,rfl,rfl,(by show(0:Int) < 41; decide),rfl,_,rfl,cv (fun c=>?_) (fun c=>⟨_,_,rfl,s2,oM⟩)⟩
   refine⟨_,rfl,_,_,rfl,rfl,⟨by decide,by decide,by decide⟩,_,_,rfl,rfl,⟨by decide,by decide,by decide⟩,_,_,rfl,rfl,⟨by decide +kernel,by decide +kernel⟩,_,_,rfl,rfl,_,_,rfl,rfl,(by show(0:Int) < _; decide +kernel),_,_,rfl,rfl,?_⟩
   exact⟨_,_,rfl,s2,oM⟩
  rintro σ' H3 ⟨day,dO,rfl,s3,oM⟩
  refine⟨fun σ' H'=> ∃day dO:Int,σ'=[some (.ref a),some (.int i),some (.int cell),some (.int (cell / 16)),some (.ref pn),some (.str aC),some (.int day),some (.int dO)]/\aE H H'/\day<=vm,?_,?_⟩
  ·refine⟨_,rfl,_,_,rfl,rfl,(by show(0:Int) < 41; decide),rfl,_,rfl,cv (fun c=>?_) (fun c=>⟨_,_,rfl,s3,oM⟩)⟩
   refine⟨_,rfl,_,_,rfl,rfl,⟨by decide,by decide,by decide⟩,_,rfl,_,_,rfl,rfl,⟨by decide,by decide,by decide⟩,_,_,rfl,rfl,(by show(0:Int) < _; decide +kernel),_,_,rfl,rfl,(by show 4<=sizeLine; decide),fun p4 n4=>?_⟩
   obtain⟨y,hy⟩:=at4 0 (-1) (10 ^ (12:Int).toNat) (0 - cell % 10 ^ (60:Int).toNat) (cell / 16)
   refine⟨_,rfl,_,_,rfl,rfl,(by show(0:Int) < 4; decide),p4,_,_,.int y,rfl,rfl,bw.of ag,hy,?_⟩
   exact⟨_,_,rfl,s3.trans (aE.new n4),oM⟩
  rintro σ' H4 ⟨day,dO,rfl,s4,oM⟩
  refine⟨fun σ' H'=> ∃day dO:Int,σ'=[some (.ref a),some (.int i),some (.int cell),some (.int (cell / 16)),some (.ref pn),some (.str aC),some (.int day),some (.int dO)]/\aE H H'/\day<=vm,?_,?_⟩
  ·refine⟨_,rfl,_,_,rfl,rfl,(by show(0:Int) < 43; decide),rfl,_,rfl,cv (fun c=>?_) (fun c=>⟨_,_,rfl,s4,oM⟩)⟩
   refine⟨_,_,rfl,rfl,⟨by decide,by decide,by decide⟩,_,_,rfl,rfl,⟨by decide,by decide,by decide⟩,_,rfl,_,rfl,_,_,rfl,rfl,(by show(0:Int) < 2001; decide),_,_,rfl,rfl,(by show 3<=sizeLine; decide),fun p4 n4=>?_⟩
   obtain⟨y,hy3,hy⟩:=Z8 (10 ^ (9:Int).toNat) (-(10 ^ (9:Int).toNat)) (cell % 2001 - 1000) (cell / 16)
   refine⟨_,rfl,_,_,rfl,rfl,(by show(0:Int) < 3; decide),p4,_,_,.int y,rfl,rfl,bw.of ag,hy,?_⟩
   refine⟨_,_,rfl,s4.trans (aE.new n4),?_⟩
   rcases hy3 with rfl|rfl|rfl
   ·exact Cc (by decide +kernel)
   ·exact Cc (by decide +kernel)
   ·exact Cc (by lia)
  rintro σ' H5 ⟨day,dO,rfl,s5,oM⟩
  refine⟨fun σ' H'=> ∃day dO:Int,σ'=[some (.ref a),some (.int i),some (.int cell),some (.int (cell / 16)),some (.ref pn),some (.str aC),some (.int day),some (.int dO)]/\aE H H'/\day<=vm,?_,?_⟩
  ·refine⟨_,rfl,_,_,rfl,rfl,(by show(0:Int) < 43; decide),rfl,_,rfl,cv (fun c=>?_) (fun c=>⟨_,_,rfl,s5,oM⟩)⟩
   refine⟨_,rfl,_,_,rfl,rfl,⟨by decide,by decide,by decide⟩,_,_,rfl,rfl,(by show(0:Int) < _; decide +kernel),_,rfl,(by show 2<=sizeLine; decide),fun p4 n4=>?_⟩
   obtain⟨y,XO,hy⟩:=XN 1 (-1) (i:Int)
   refine⟨_,rfl,_,_,rfl,rfl,(by show(0:Int) < 2; decide),p4,_,_,.int y,rfl,rfl,bw.of ag,hy,_,_,rfl,rfl,.inr (by rcases XO with rfl|rfl <;> exact⟨by decide,by decide⟩),?_⟩
   refine⟨_,_,rfl,s5.trans (aE.new n4),?_⟩
   have m1:0<=cell % 10 ^ (60:Int).toNat:=kC _ (by decide +kernel)
   have m2:cell % 10 ^ (60:Int).toNat < 10 ^ 60:=qo _ (by decide +kernel)
   have m3:(0:Int)<=10 ^ 60:=by decide +kernel
   refine Fc ?_
   generalize (10:Int) ^ 60=b60 at m2 m3 ⊢
   rcases XO with rfl|rfl <;> lia
  rintro σ' H6 ⟨day,dO,rfl,s6,oM⟩
  refine⟨_,rfl,_,rfl,_,rfl,(by show 3<=sizeLine; decide),fun p n=>?_⟩
  exact k p aC day dO _ (s6.trans (aE.new n)) ag oM
theorem gi {H:Hp}{a:Addr}{o o':HO}:upd (upd H a o) a o'=upd H a o':=by
 funext b
 by_cases h:b=a
 ·rw[h,ag,ag]
 ·rw[aA h,aA h,aA h]
theorem pl {f:Str}{v:V}{fs:List (Str×V)}{n:Nat}(h:fs.length<=n):(eK f v fs).length<=n + 1:=a6 (mS f v fs) (Nat.add_le_add_right h 1)
theorem Cd:([]:List (Str×V)).length<=0:=aI _
theorem lt1000 {fs:List (Str×V)}{n:Nat}(h:fs.length<=n)(k:n < 1000):fs.length < 1000:=qm h k
theorem JR (n:Nat)(r:Rw):eK "amount" (.int r.c) (eK "due" (.int r.b) (eK "day" (.int r.a) (eK "who" (.str r.aC) (eK "number" (.int n) []))))=fE n r:=by rfl
theorem JS (n:Nat)(r:Rw):eK "only" (tu r.c) (eK "amount" (.int r.b) (eK "day" (.int r.a) (eK "who" (.str r.aC) (eK "number" (.int n) []))))=fk n r:=by rfl
inductive zV (A:eh)(vs:List V)(H:Hp)(Q:VK)(E':XK):Prop
 |mk (x dx:Addr)(n:Nat)(r:Rw)(h1:vs=[.ref x,.int n,.str r.aC,.int r.a,.int r.b,.int r.c])(h2:H x=some (.ins A.dY dx []))(h3:Q .eD (upd H x (.ins A.dY dx (fE n r)))):zV A vs H Q E'
theorem Mo:aW ["self","number","who","day","due","amount"] ["self","number","who","day","due","amount"] (ax (mem 13 0)):={}
theorem Ph {A:eh}(G:jJ K mg A):ub P w K mg base "Bill" A.dY 1 ["self","number","who","day","due","amount"] (zV A):=by
 refine Mm (k:=0) G.Mf G.Me Mo (fun f cU A' outer s H vs Q E hr h=>?_)
 ·obtain⟨x,dx,n,r,rfl,hx,k⟩:=h
  refine⟨_,(ah (fR (pv 0) (pv 1) rfl)
(ah (fR (pv 0) (pv 2) rfl)
(ah (fR (pv 0) (pv 3) rfl)
(ah (fR (pv 0) (pv 4) rfl)
(au (fR (pv 0) (pv 5) rfl)))))),?_⟩
  refine⟨_,rfl,_,rfl,x,_,dx,_,rfl,hx,G.en,G.eV,lt1000 Cd (by decide),?_⟩
  refine⟨_,rfl,_,rfl,x,_,dx,_,rfl,ag,G.en,G.kO,lt1000 (pl Cd) (by decide),?_⟩
  refine⟨_,rfl,_,rfl,x,_,dx,_,rfl,ag,G.en,G.nu,lt1000 (pl (pl Cd)) (by decide),?_⟩
  refine⟨_,rfl,_,rfl,x,_,dx,_,rfl,ag,G.en,G.nv,lt1000 (pl (pl (pl Cd))) (by decide),?_⟩
  refine⟨_,rfl,_,rfl,x,_,dx,_,rfl,ag,G.en,G.ny,lt1000 (pl (pl (pl (pl Cd)))) (by decide),?_⟩
  rw[gi,gi,gi,gi,JR]
  exact k
inductive zW (A:eh)(vs:List V)(H:Hp)(Q:VK)(E':XK):Prop
 |mk (x dx:Addr)(n:Nat)(r:Rw)(h1:vs=[.ref x,.int n,.str r.aC,.int r.a,.int r.b,tu r.c])(h2:H x=some (.ins A.ej dx []))(h3:Q .eD (upd H x (.ins A.ej dx (fk n r)))):zW A vs H Q E'
theorem Hn:aW ["self","number","who","day","amount","only"] ["self","number","who","day","amount","only"] (ax (mem 14 0)):={}
theorem JT {A:eh}(G:jJ K mg A):ub P w K mg base "Credit" A.ej 1 ["self","number","who","day","amount","only"] (zW A):=by
 refine Mm (k:=0) G.He G.Hd Hn (fun f cU A' outer s H vs Q E hr h=>?_)
 ·obtain⟨x,dx,n,r,rfl,hx,k⟩:=h
  refine⟨_,(ah (fR (pv 0) (pv 1) rfl)
(ah (fR (pv 0) (pv 2) rfl)
(ah (fR (pv 0) (pv 3) rfl)
(ah (fR (pv 0) (pv 4) rfl)
(au (fR (pv 0) (pv 5) rfl)))))),?_⟩
  refine⟨_,rfl,_,rfl,x,_,dx,_,rfl,hx,G.dg,G.eP,lt1000 Cd (by decide),?_⟩
  refine⟨_,rfl,_,rfl,x,_,dx,_,rfl,ag,G.dg,G.k8,lt1000 (pl Cd) (by decide),?_⟩
  refine⟨_,rfl,_,rfl,x,_,dx,_,rfl,ag,G.dg,G.jk,lt1000 (pl (pl Cd)) (by decide),?_⟩
  refine⟨_,rfl,_,rfl,x,_,dx,_,rfl,ag,G.dg,G.lM,lt1000 (pl (pl (pl Cd))) (by decide),?_⟩
  refine⟨_,rfl,_,rfl,x,_,dx,_,rfl,ag,G.dg,G.kg,lt1000 (pl (pl (pl (pl Cd)))) (by decide),?_⟩
  rw[gi,gi,gi,gi,JS]
  exact k
inductive zX (A:eh)(vs:List V)(H:Hp)(Q:VK)(E':XK):Prop
 |mk (pw:Addr)(S:Bk)(f:eO)(c b:Nat)(x:Int)(h1:vs=[.ref pw,.int c,.int b,.int x])(h2:dI A H pw S f)(h3:c < S.credits.length)(h4:b < S.aF.length)(h5:S.made.length < sizeLine)(h6: ∀H',Frame f.fp H H'->dI A H' pw (S.put c b x) f->Q .eD H'):zX A vs H Q E'
theorem Ce:aW ["self","credit_number","bill_number","amount"] ["self","credit_number","bill_number","amount"] (ax (mem 25 8)):={}
theorem Mp {rows:List Rw}{i:Nat}(h:i < rows.length):sj (rows.map fun r=>V.int r.d) (i:Int)=some (.int (rows.getD i default).d):=cg (by
 rw[aB,aj,af h]; rfl)
theorem Nq {A:eh}(G:jJ K mg A):g9 sk P w K mg base A.work "put" 1 ["self","credit_number","bill_number","amount"] (zX A):=by
 refine Ml (k:=0) G.BZ G.bJ Ce (fun f cU A' outer s H vs Q E hr h=>?_)
 ·obtain⟨pw,S,g,c,b,x,rfl,hW,hc,hb,hz,k⟩:=h
  obtain⟨dw,hw⟩:=hW.obj
  obtain⟨ms,m1,m2⟩:=hW.hm
  obtain⟨e1,e2,e3,e4,e5,e6,e7,e8,e9,Nn⟩:=eO.ne hW.nd
  have nw: ∀q∈g.fp,pw≠q:=fun q hq z=>hW.ins hW.obj (z▸hq)
  have w3:=nw g.pl (by simp[eO.fp])
  have w4:=nw g.pf (by simp[eO.fp])
  refine⟨_,(ah (l0 (aQ eM (xl (bZ (pv 0) rfl) (pv 1)) (pv 3)) (r9 (bZ (pv 0) rfl) (pv 1) set_list))
(ah (l0 (aQ eM (xl (bZ (pv 0) rfl) (pv 2)) (pv 3)) (r9 (bZ (pv 0) rfl) (pv 2) set_list))
(au (bK (pW (bZ (pv 0) rfl) (cQ (aa (pv 1) (aa (pv 2) (aa (pv 3) av))))))))),?_⟩
  refine⟨_,rfl,pw,_,dw,_,_,rfl,hw,G.bJ,G.fG,lL g,_,rfl,g.pf,_,_,_,rfl,rfl,bw.of hW.hf,Mp hc,_,rfl,_,_,rfl,rfl,?_⟩
  refine⟨_,rfl,pw,_,dw,_,_,rfl,hw,G.bJ,G.fG,lL g,_,rfl,g.pf,_,_,c,rfl,rfl,hW.hf,uq (by rw[ae]; exact hc),?_⟩
  have Tc:upd H g.pf (.lst ((S.credits.map fun r=>V.int r.d).set c (.int ((S.cr c).d - x)))) pw=some (.ins A.work dw (lJ g)):=by rw[aA w4]; exact hw
  have La:upd H g.pf (.lst ((S.credits.map fun r=>V.int r.d).set c (.int ((S.cr c).d - x)))) g.pl=some (.lst (S.aF.map fun r=>V.int r.d)):=by rw[aA e8]; exact hW.hl
  refine⟨_,rfl,pw,_,dw,_,_,rfl,Tc,G.bJ,G.fF,lK g,_,rfl,g.pl,_,_,_,rfl,rfl,bw.of La,Mp hb,_,rfl,_,_,rfl,rfl,?_⟩
  refine⟨_,rfl,pw,_,dw,_,_,rfl,Tc,G.bJ,G.fF,lK g,_,rfl,g.pl,_,_,b,rfl,rfl,La,uq (by rw[ae]; exact hb),?_⟩
  have QW:upd (upd H g.pf (.lst ((S.credits.map fun r=>V.int r.d).set c (.int ((S.cr c).d - x))))) g.pl (.lst ((S.aF.map fun r=>V.int r.d).set b (.int ((S.bl b).d - x)))) pw=some (.ins A.work dw (lJ g)):=by rw[aA w3]; exact Tc
  have Td:upd (upd H g.pf (.lst ((S.credits.map fun r=>V.int r.d).set c (.int ((S.cr c).d - x))))) g.pl (.lst ((S.aF.map fun r=>V.int r.d).set b (.int ((S.bl b).d - x)))) g.pm=some (.lst ms):=by rw[aA e9.symm,aA Nn.symm]; exact m1
  refine⟨_,rfl,pw,_,dw,_,_,rfl,QW,G.bJ,G.mi,Fs g,.inl ⟨rfl,_,bw.of Td⟩,_,rfl,_,rfl,_,rfl,(by show 3<=sizeLine; decide),fun p8 n8=>?_⟩
  have n8':H p8=none:=by
   by_cases z1:p8=g.pl
   ·rw[z1,ag] at n8; cases n8
   ·rw[aA z1] at n8
    by_cases z2:p8=g.pf
    ·rw[z2,ag] at n8; cases n8
    ·rw[aA z2] at n8; exact n8
  refine⟨g.pm,ms,_,rfl,rfl,aE.new n8 _ _ Td,by rw[← aL m2]; exact hz,?_⟩
  obtain⟨W,F⟩:=hW.put (x:=x) hc hb m1 m2 n8'
  exact k _ F W
end
end eN
namespace L2
open PySem PySem.Spec PySem.W PyProof.Rows
section
variable {A:eh}{H H':Hp}{pw x:Addr}{S:Bk}{f:eO}{r:Rw}
def eO.iy (f:eO)(p:Addr):eO:={f with iA:=f.iA ++ [p]}
def eO.fS (f:eO)(p:Addr):eO:={f with cps:=f.cps ++ [p]}
theorem dI.iy (h:dI A H pw S f)(hx:eI H x A.dY (fE S.aF.length r)):
  dI A (upd (upd H f.pb (.lst (f.iA.map V.ref ++ [.ref x]))) f.pl (.lst ((S.aF.map fun r=>V.int r.d) ++ [.int r.d]))) pw (S.iy r) (f.iy x)/\Frame f.fp H (upd (upd H f.pb (.lst (f.iA.map V.ref ++ [.ref x]))) f.pl (.lst ((S.aF.map fun r=>V.int r.d) ++ [.int r.d]))):=by
 obtain⟨e1,e2,e3,e4,e5,e6,e7,e8,e9,Nn⟩:=eO.ne h.nd
 have F:Frame f.fp H (upd (upd H f.pb (.lst (f.iA.map V.ref ++ [.ref x]))) f.pl (.lst ((S.aF.map fun r=>V.int r.d) ++ [.int r.d]))):=(Frame.upd (by simp[eO.fp])).tr (Frame.upd (by simp[eO.fp]))
 refine⟨?_,F⟩
 obtain⟨o1,o2,o3⟩:=h.objs F
 have tk:=h.tk F
 obtain⟨ms,m1,m2⟩:=h.hm
 have t: ∀q,q≠f.pb->q≠f.pl->upd (upd H f.pb (.lst (f.iA.map V.ref ++ [.ref x]))) f.pl (.lst ((S.aF.map fun r=>V.int r.d) ++ [.int r.d])) q=H q:=fun q z1 z2=>by rw[aA z2,aA z1]
 refine⟨o1,?_,?_,?_,?_,⟨ms,?_,m2.mono tk⟩,o2.add (hx.frame F (h.ins hx)),o3,h.nd⟩
 ·show upd (upd H f.pb _) f.pl _ f.pb=some (.lst ((f.iA ++ [x]).map V.ref))
  rw[aA e2,ag,aJ]; rfl
 ·exact(t f.pc e1.symm e5).trans h.hc
 ·show upd (upd H f.pb _) f.pl _ f.pl=some (.lst ((S.aF ++ [r]).map fun r=>V.int r.d))
  rw[ag,aJ]; rfl
 ·exact(t f.pf e3.symm e8.symm).trans h.hf
 ·exact(t f.pm e4.symm e9.symm).trans m1
theorem dI.fS (h:dI A H pw S f)(hx:eI H x A.ej (fk S.credits.length r)):
  dI A (upd (upd H f.pc (.lst (f.cps.map V.ref ++ [.ref x]))) f.pf (.lst ((S.credits.map fun r=>V.int r.d) ++ [.int r.d]))) pw (S.fS r) (f.fS x)/\Frame f.fp H (upd (upd H f.pc (.lst (f.cps.map V.ref ++ [.ref x]))) f.pf (.lst ((S.credits.map fun r=>V.int r.d) ++ [.int r.d]))):=by
 obtain⟨e1,e2,e3,e4,e5,e6,e7,e8,e9,Nn⟩:=eO.ne h.nd
 have F:Frame f.fp H (upd (upd H f.pc (.lst (f.cps.map V.ref ++ [.ref x]))) f.pf (.lst ((S.credits.map fun r=>V.int r.d) ++ [.int r.d]))):=(Frame.upd (by simp[eO.fp])).tr (Frame.upd (by simp[eO.fp]))
 refine⟨?_,F⟩
 obtain⟨o1,o2,o3⟩:=h.objs F
 have tk:=h.tk F
 obtain⟨ms,m1,m2⟩:=h.hm
 have t: ∀q,q≠f.pc->q≠f.pf->upd (upd H f.pc (.lst (f.cps.map V.ref ++ [.ref x]))) f.pf (.lst ((S.credits.map fun r=>V.int r.d) ++ [.int r.d])) q=H q:=fun q z1 z2=>by rw[aA z2,aA z1]
 refine⟨o1,?_,?_,?_,?_,⟨ms,?_,m2.mono tk⟩,o2,o3.add (hx.frame F (h.ins hx)),h.nd⟩
 ·exact(t f.pb e1 e3).trans h.hb
 ·show upd (upd H f.pc _) f.pf _ f.pc=some (.lst ((f.cps ++ [x]).map V.ref))
  rw[aA e6,ag,aJ]; rfl
 ·exact(t f.pl e5.symm e8).trans h.hl
 ·show upd (upd H f.pc _) f.pf _ f.pf=some (.lst ((S.credits ++ [r]).map fun r=>V.int r.d))
  rw[ag,aJ]; rfl
 ·exact(t f.pm e7.symm Nn.symm).trans m1
end
end L2
namespace eN
open PySem L2 PyProof.Rows K3
seal L2.oQ L2.PS L2.PE L2.PT L2.PW L2.PA L2.PC L2.PG L2.KW L2.PI L2.LC L2.KZ L2.PO L2.oE L2.M8 L2.iT L2.IW L2.Og
section
variable {P:Program}{w:World}{K:Frag}{mg:Str->Option Value}{base:Heap}
def Mq (A:eh)(K:Frag)(E:XK)(t:Str)(H:Hp):Prop:= ∀C,g8 K C A.refusal->(t="too much"->C=A.tooMuch)->EX E C t H
inductive JU (A:eh)(K:Frag)(vs:List V)(H:Hp)(Q:VK)(E:XK):Prop
 |mk (pw:Addr)(S:Bk)(f:eO)(n:Int)(h1:vs=[.ref pw,.int n])(h2:dI A H pw S f)(h3:(qp n S.credits.length-> ∀p,eI H p A.ej (fk n.toNat (S.cr n.toNat))->Q (.ref p) H))(h4:(¬ qp n S.credits.length->Mq A K E "no credit" H)):JU A K vs H Q E
inductive Ft (A:eh)(K:Frag)(vs:List V)(H:Hp)(Q:VK)(E:XK):Prop
 |mk (pw:Addr)(S:Bk)(f:eO)(n:Int)(h1:vs=[.ref pw,.int n])(h2:dI A H pw S f)(h3:(qp n S.aF.length-> ∀p,eI H p A.dY (fE n.toNat (S.bl n.toNat))->Q (.ref p) H))(h4:(¬ qp n S.aF.length->Mq A K E "no bill" H)):Ft A K vs H Q E
theorem rh:aW ["self","number"] ["self","number"] (ax (mem 25 9)):={}
theorem Cf (T:Txt K mg){A:eh}(G:jJ K mg A):g9 (mJ P w mg) P w K mg base A.work "credit_at" 4 ["self","number"] (JU A K):=by
 refine ra (k:=3) G.q0 G.bJ rh (fun f cU A' outer s H vs Q E hr mz h=>?_)
 ·obtain⟨pw,S,g,n,rfl,hW,k1,k2⟩:=h
  obtain⟨dw,hw⟩:=hW.obj
  have hlen:(g.cps.map V.ref).length=S.credits.length:=by rw[ae]; exact hW.rc.1
  refine⟨_,(ah (bP (PW.pt (pw_or (aX jU (pv 1) ai (a0 _)) (pw_or1 (aX IH (pv 1) (mK T.dR (bZ (pv 0) rfl)) (a0 _)))))
(au (ka mz (B4 T G) (hr.h.mono (by decide)) rfl rfl))
bh)
(au (a9 (xl (bZ (pv 0) rfl) (pv 1))))),?_⟩
  have no: ¬ qp n S.credits.length-> ∀dx,H dx=none->E (.ref A.ke) (some dx) (upd H dx (.xd [("text",.str "no credit")])):=fun z dx hd=>(k2 z A.ke G.tw (fun q=>absurd q (by decide +kernel))).at hd
  refine⟨_,rfl,_,_,rfl,rfl,_,rfl,cv (fun z=>fJ (no fun q=>?_)) (fun z=>?_)⟩
  ·have z':n < 0:=aM z
   have:=q.1
   lia
  have z1: ¬ n < 0:=fun q=>z (aG q)
  refine⟨_,rfl,_,rfl,pw,_,dw,_,_,rfl,hw,G.bJ,G.cH,hZ g,g.pc,_,rfl,.inl (bw.of hW.hc),_,_,rfl,rfl,_,rfl,cv (fun z=>no fun q=>?_) (fun z=>?_)⟩
  ·have z':((g.cps.map V.ref).length:Int)<=n:=aM z
   have:=q.2
   lia
  have z2: ¬ ((g.cps.map V.ref).length:Int)<=n:=fun q=>z (aG q)
  have j8:qp n S.credits.length:=⟨by lia,by lia⟩
  obtain⟨c,rfl⟩:=cw j8.1
  have hc:c < S.credits.length:=by have:=j8.2; lia
  obtain⟨p,XQ,tU⟩:=hW.rc.get hc
  refine⟨_,rfl,pw,_,dw,_,_,rfl,hw,G.bJ,G.cH,hZ g,_,rfl,g.pc,_,_,.ref p,rfl,rfl,bw.of hW.hc,cg (by rw[aB,XQ]; rfl),?_⟩
  exact k1 j8 p tU
theorem ud:aW ["self","number"] ["self","number"] (ax (mem 25 10)):={}
theorem yz (T:Txt K mg){A:eh}(G:jJ K mg A):g9 (mJ P w mg) P w K mg base A.work "bill_at" 4 ["self","number"] (Ft A K):=by
 refine ra (k:=3) G.ua G.bJ ud (fun f cU A' outer s H vs Q E hr mz h=>?_)
 ·obtain⟨pw,S,g,n,rfl,hW,k1,k2⟩:=h
  obtain⟨dw,hw⟩:=hW.obj
  have hlen:(g.iA.map V.ref).length=S.aF.length:=by rw[ae]; exact hW.rb.1
  refine⟨_,(ah (bP (PW.pt (pw_or (aX jU (pv 1) ai (a0 _)) (pw_or1 (aX IH (pv 1) (mK T.dR (bZ (pv 0) rfl)) (a0 _)))))
(au (ka mz (Hh T G) (hr.h.mono (by decide)) rfl rfl))
bh)
(au (a9 (xl (bZ (pv 0) rfl) (pv 1))))),?_⟩
  have no: ¬ qp n S.aF.length-> ∀dx,H dx=none->E (.ref A.pX) (some dx) (upd H dx (.xd [("text",.str "no bill")])):=fun z dx hd=>(k2 z A.pX G.yw (fun q=>absurd q (by decide +kernel))).at hd
  refine⟨_,rfl,_,_,rfl,rfl,_,rfl,cv (fun z=>fJ (no fun q=>?_)) (fun z=>?_)⟩
  ·have z':n < 0:=aM z
   have:=q.1
   lia
  have z1: ¬ n < 0:=fun q=>z (aG q)
  refine⟨_,rfl,_,rfl,pw,_,dw,_,_,rfl,hw,G.bJ,G.d9,js g,g.pb,_,rfl,.inl (bw.of hW.hb),_,_,rfl,rfl,_,rfl,cv (fun z=>no fun q=>?_) (fun z=>?_)⟩
  ·have z':((g.iA.map V.ref).length:Int)<=n:=aM z
   have:=q.2
   lia
  have z2: ¬ ((g.iA.map V.ref).length:Int)<=n:=fun q=>z (aG q)
  have j8:qp n S.aF.length:=⟨by lia,by lia⟩
  obtain⟨c,rfl⟩:=cw j8.1
  have hc:c < S.aF.length:=by have:=j8.2; lia
  obtain⟨p,XQ,tU⟩:=hW.rb.get hc
  refine⟨_,rfl,pw,_,dw,_,_,rfl,hw,G.bJ,G.d9,js g,_,rfl,g.pb,_,_,.ref p,rfl,rfl,bw.of hW.hb,cg (by rw[aB,XQ]; rfl),?_⟩
  exact k1 j8 p tU
def Te (A:eh)(Q:VK)(H:Hp)(pw:Addr)(f:eO)(S':Bk)(v:V):Prop:= ∀f' H',f'.fp=f.fp->Frame f.fp H H'->dI A H' pw S' f'->Q v H'
inductive ur (A:eh)(K:Frag)(vs:List V)(H:Hp)(Q:VK)(E:XK):Prop
 |mk (pw:Addr)(S:Bk)(f:eO)(aC:Str)(day dO only:Int)(h1:vs=[.ref pw,.str aC,.int day,.int dO,tu only])(h2:dI A H pw S f)(h3:S.credits.length<=900)(h4:(1<=dO->Te A Q H pw f (S.fS ⟨aC,day,dO,only,dO⟩) (.int S.credits.length)))(h5:(dO < 1->Mq A K E "no amount" H)):ur A K vs H Q E
theorem jD:aW ["self","who","day","amount","only","number"] ["self","who","day","amount","only"] (ax (mem 25 4)):={}
theorem lN {H:Hp}{x dx C:Addr}{fs:List (Str×V)}(nx:H x=none)(nd:H dx=none)(ne:dx≠x):aE H (upd (upd H dx (.own x)) x (.ins C dx fs)):=(aE.new nd).trans (aE.new (by rw[aA ne.symm]; exact nx))
theorem oY (T:Txt K mg){A:eh}(G:jJ K mg A):g9 (mJ P w mg) P w K mg base A.work "tell_credit" 5 ["self","who","day","amount","only"] (ur A K):=by
 have gH:vB P w K mg base "check_amount" 4 ["amount"] (rg A):=kh T G
 have JV:ub P w K mg base "Credit" A.ej 1 ["self","number","who","day","amount","only"] (zW A):=JT G
 refine ra (k:=4) G.oJ G.bJ jD (fun f cU A' outer s H vs Q E hr mz h=>?_)
 ·obtain⟨pw,S,g,aC,day,dO,only,rfl,hW,hl,k1,k2⟩:=h
  have nd:=jD.nd
  obtain⟨dw,hw⟩:=hW.obj
  have hlen:(g.cps.map V.ref).length=S.credits.length:=by rw[ae]; exact hW.rc.1
  refine⟨_,(ah (bK (sE gH (hr.mono (by decide)) rfl mz.pass (aa (pv 3) av)))
(ah (sv 5 nd (mK T.dR (bZ (pv 0) rfl)))
(ah (bK (pW (bZ (pv 0) rfl) (S7 JV (hr.mono (by decide)) rfl (aa (pv 5) (aa (pv 1) (aa (pv 2) (aa (pv 3) (aa (pv 4) av))))))))
(ah (bK (pW (bZ (pv 0) rfl) (pv 3)))
(au (a9 (pv 5))))))),?_⟩
  refine⟨_,rfl,dO,rfl,fun h1=>?_,fun h2=>k2 h2 A.iM G.kN (fun q=>absurd q (by decide +kernel))⟩
  refine⟨_,rfl,pw,_,dw,_,_,rfl,hw,G.bJ,G.cH,hZ g,g.pc,_,rfl,.inl (bw.of hW.hc),?_⟩
  refine⟨_,rfl,pw,_,dw,_,_,rfl,hw,G.bJ,G.cH,hZ g,.inl ⟨rfl,_,bw.of hW.hc⟩,_,rfl,_,rfl,_,rfl,_,rfl,_,rfl,fun x dx nx JP ne=>?_⟩
  refine⟨x,dx,(g.cps.map V.ref).length,⟨aC,day,dO,only,dO⟩,rfl,ag,rfl,?_⟩
  rw[gi,hlen]
  have s1:=lN (C:=A.ej) (fs:=fk S.credits.length ⟨aC,day,dO,only,dO⟩) nx JP ne
  have hx:eI (upd (upd H dx (.own x)) x (.ins A.ej dx (fk S.credits.length ⟨aC,day,dO,only,dO⟩))) x A.ej (fk S.credits.length ⟨aC,day,dO,only,dO⟩):=⟨dx,ag⟩
  generalize upd (upd H dx (.own x)) x (.ins A.ej dx (fk S.credits.length ⟨aC,day,dO,only,dO⟩))=H3 at s1 hx
  have zY:=hW.same s1
  obtain⟨W4,F4⟩:=zY.fS hx
  refine⟨g.pc,_,_,rfl,rfl,zY.hc,bf (by lia),?_⟩
  have ew:pw≠g.pc:=fun z=>zY.ins zY.obj (z▸(by simp[eO.fp]))
  obtain⟨e1,e2,e3,e4,e5,e6,e7,e8,e9,Nn⟩:=eO.ne zY.nd
  refine⟨_,rfl,pw,_,dw,_,_,rfl,(by rw[aA ew]; exact s1 _ _ hw),G.bJ,G.fG,lL g,.inl ⟨rfl,_,bw.of (by rw[aA e6.symm]; exact zY.hf)⟩,_,rfl,g.pf,_,_,rfl,rfl,(by rw[aA e6.symm]; exact zY.hf),bf (by rw[ae]; lia),?_⟩
  refine⟨_,rfl,?_⟩
  exact k1 h1 (g.fS x) _ rfl (F4.mh s1) W4
inductive zZ (A:eh)(K:Frag)(vs:List V)(H:Hp)(Q:VK)(E:XK):Prop
 |mk (pw:Addr)(S:Bk)(f:eO)(aC:Str)(day A0 dO:Int)(h1:vs=[.ref pw,.str aC,.int day,.int A0,.int dO])(h2:dI A H pw S f)(h3:S.aF.length<=900)(h4:(S.bar (.dY aC day A0 dO)=""->Te A Q H pw f (S.enter (.dY aC day A0 dO)) (.int S.aF.length)))(h5:(S.bar (.dY aC day A0 dO)≠""->Mq A K E (S.bar (.dY aC day A0 dO)) H)):zZ A K vs H Q E
theorem kQ:aW ["self","who","day","due","amount","number"] ["self","who","day","due","amount"] (ax (mem 25 1)):={}
theorem Cg (T:Txt K mg){A:eh}(G:jJ K mg A):g9 (mJ P w mg) P w K mg base A.work "tell_bill" 5 ["self","who","day","due","amount"] (zZ A K):=by
 have gH:vB P w K mg base "check_amount" 4 ["amount"] (rg A):=kh T G
 have Pj:ub P w K mg base "Bill" A.dY 1 ["self","number","who","day","due","amount"] (zV A):=Ph G
 refine ra (k:=4) G.qX G.bJ kQ (fun f cU A' outer s H vs Q E hr mz h=>?_)
 ·obtain⟨pw,S,g,aC,day,A0,dO,rfl,hW,hl,k1,k2⟩:=h
  have nd:=kQ.nd
  obtain⟨dw,hw⟩:=hW.obj
  have oN:S.bar (.dY aC day A0 dO)=(if dO < 1 then("no amount":Str) else if A0 < day then("too early":Str) else("":Str)):=rfl
  rw[oN] at k1 k2
  have hlen:(g.iA.map V.ref).length=S.aF.length:=by rw[ae]; exact hW.rb.1
  refine⟨_,(ah (bK (sE gH (hr.mono (by decide)) rfl mz.pass (aa (pv 4) av)))
(ah (bP (aX jU (pv 3) (pv 2) (a0 _))
(au (ka mz (Ca T G) (hr.h.mono (by decide)) rfl rfl))
bh)
(ah (sv 5 nd (mK T.dR (bZ (pv 0) rfl)))
(ah (bK (pW (bZ (pv 0) rfl) (S7 Pj (hr.mono (by decide)) rfl (aa (pv 5) (aa (pv 1) (aa (pv 2) (aa (pv 3) (aa (pv 4) av))))))))
(ah (bK (pW (bZ (pv 0) rfl) (pv 4)))
(au (a9 (pv 5)))))))),?_⟩
  refine⟨_,rfl,dO,rfl,fun h1=>?_,fun h2=>?_⟩
  ·have n1': ¬ dO < 1:=by lia
   rw[aO n1'] at k1 k2
   refine⟨_,rfl,_,rfl,_,_,rfl,rfl,_,rfl,cv (fun z=>?_) (fun z=>?_)⟩
   ·have z':A0 < day:=aM z
    rw[aZ z'] at k2
    exact fun dx n=>(k2 (by decide +kernel) A.tooEarly G.tF (fun q=>absurd q (by decide +kernel))).at n
   have z': ¬ A0 < day:=fun q=>z (aG q)
   rw[aO z'] at k1
   refine⟨_,rfl,pw,_,dw,_,_,rfl,hw,G.bJ,G.d9,js g,g.pb,_,rfl,.inl (bw.of hW.hb),?_⟩
   refine⟨_,rfl,pw,_,dw,_,_,rfl,hw,G.bJ,G.d9,js g,.inl ⟨rfl,_,bw.of hW.hb⟩,_,rfl,_,rfl,_,rfl,_,rfl,_,rfl,fun x dx nx JP ne=>?_⟩
   refine⟨x,dx,(g.iA.map V.ref).length,⟨aC,day,A0,dO,dO⟩,rfl,ag,rfl,?_⟩
   rw[gi,hlen]
   have s1:=lN (C:=A.dY) (fs:=fE S.aF.length ⟨aC,day,A0,dO,dO⟩) nx JP ne
   have hx:eI (upd (upd H dx (.own x)) x (.ins A.dY dx (fE S.aF.length ⟨aC,day,A0,dO,dO⟩))) x A.dY (fE S.aF.length ⟨aC,day,A0,dO,dO⟩):=⟨dx,ag⟩
   generalize upd (upd H dx (.own x)) x (.ins A.dY dx (fE S.aF.length ⟨aC,day,A0,dO,dO⟩))=H3 at s1 hx
   have zY:=hW.same s1
   obtain⟨W4,F4⟩:=zY.iy hx
   refine⟨g.pb,_,_,rfl,rfl,zY.hb,bf (by lia),?_⟩
   have ew:pw≠g.pb:=fun z=>zY.ins zY.obj (z▸(by simp[eO.fp]))
   obtain⟨e1,e2,e3,e4,e5,e6,e7,e8,e9,Nn⟩:=eO.ne zY.nd
   refine⟨_,rfl,pw,_,dw,_,_,rfl,(by rw[aA ew]; exact s1 _ _ hw),G.bJ,G.fF,lK g,.inl ⟨rfl,_,bw.of (by rw[aA e2.symm]; exact zY.hl)⟩,_,rfl,g.pl,_,_,rfl,rfl,(by rw[aA e2.symm]; exact zY.hl),bf (by rw[ae]; lia),?_⟩
   refine⟨_,rfl,?_⟩
   exact k1 rfl (g.iy x) _ rfl (F4.mh s1) W4
  ·rw[aZ h2] at k2
   exact k2 (by decide +kernel) A.iM G.kN (fun q=>absurd q (by decide +kernel))
theorem nH (g:eO):(lJ g).lookup ("tell_credit":Str)=none:=by rfl
theorem vH (g:eO):(lJ g).lookup ("bill_at":Str)=none:=by rfl
theorem z5 (g:eO):(lJ g).lookup ("credit_at":Str)=none:=by rfl
theorem JW (g:eO):(lJ g).lookup ("put":Str)=none:=by rfl
inductive z6 (A:eh)(K:Frag)(vs:List V)(H:Hp)(Q:VK)(E:XK):Prop
 |mk (pw:Addr)(S:Bk)(f:eO)(aC:Str)(day dO:Int)(h1:vs=[.ref pw,.str aC,.int day,.int dO])(h2:dI A H pw S f)(h3:S.credits.length<=900)(h4:(S.bar (.qN aC day dO)=""->Te A Q H pw f (S.enter (.qN aC day dO)) (.int S.credits.length)))(h5:(S.bar (.qN aC day dO)≠""->Mq A K E (S.bar (.qN aC day dO)) H)):z6 A K vs H Q E
theorem nI:aW ["self","who","day","amount"] ["self","who","day","amount"] (ax (mem 25 2)):={}
theorem vI (T:Txt K mg){A:eh}(G:jJ K mg A):g9 (mJ P w mg) P w K mg base A.work "tell_payment" 6 ["self","who","day","amount"] (z6 A K):=by
 have lg:g9 (mJ P w mg) P w K mg base A.work "tell_credit" 5 ["self","who","day","amount","only"] (ur A K):=oY T G
 refine ra (k:=5) G.nz G.bJ nI (fun f cU A' outer s H vs Q E hr mz h=>?_)
 ·obtain⟨pw,S,g,aC,day,dO,rfl,hW,hl,k1,k2⟩:=h
  obtain⟨dw,hw⟩:=hW.obj
  have oN:S.bar (.qN aC day dO)=(if dO < 1 then("no amount":Str) else("":Str)):=rfl
  rw[oN] at k1 k2
  refine⟨_,(au (a9 (nA lg (hr.mono (by decide)) mz.pass (pv 0) (aa (pv 1) (aa (pv 2) (aa (pv 3) (aa Du av))))))),?_⟩
  refine⟨_,rfl,pw,dw,_,rfl,hw,nH g,_,rfl,_,rfl,_,rfl,pw,S,g,aC,day,dO,-1,rfl,hW,hl,fun h1=>?_,fun h2=>?_⟩
  ·rw[aO (by lia)] at k1
   exact k1 rfl
  ·rw[aZ h2] at k2
   exact k2 (by decide +kernel)
inductive z7 (A:eh)(K:Frag)(vs:List V)(H:Hp)(Q:VK)(E:XK):Prop
 |mk (pw:Addr)(S:Bk)(f:eO)(b day dO:Int)(h1:vs=[.ref pw,.int b,.int day,.int dO])(h2:dI A H pw S f)(h3:S.credits.length<=900)(h4:(S.bar (.note b day dO)=""->Te A Q H pw f (S.enter (.note b day dO)) (.int S.credits.length)))(h5:(S.bar (.note b day dO)≠""->Mq A K E (S.bar (.note b day dO)) H)):z7 A K vs H Q E
theorem kW:aW ["self","bill_number","day","amount","bill"] ["self","bill_number","day","amount"] (ax (mem 25 3)):={}
theorem Ci (T:Txt K mg){A:eh}(G:jJ K mg A):g9 (mJ P w mg) P w K mg base A.work "tell_note" 6 ["self","bill_number","day","amount"] (z7 A K):=by
 have lg:g9 (mJ P w mg) P w K mg base A.work "tell_credit" 5 ["self","who","day","amount","only"] (ur A K):=oY T G
 have sF:g9 (mJ P w mg) P w K mg base A.work "bill_at" 4 ["self","number"] (Ft A K):=yz T G
 refine ra (k:=5) G.qY G.bJ kW (fun f cU A' outer s H vs Q E hr mz h=>?_)
 ·obtain⟨pw,S,g,b,day,dO,rfl,hW,hl,k1,k2⟩:=h
  have nd:=kW.nd
  obtain⟨dw,hw⟩:=hW.obj
  rw[vh] at k1 k2
  refine⟨_,(ah (sv 4 nd (nA sF (hr.mono (by decide)) mz.pass (pv 0) (aa (pv 1) av)))
(au (a9 (nA lg (hr.mono (by decide)) mz.pass (pv 0) (aa (bZ (pv 4) rfl) (aa (pv 2) (aa (pv 3) (aa (pv 1) av)))))))),?_⟩
  refine⟨_,rfl,pw,dw,_,rfl,hw,vH g,_,rfl,pw,S,g,b,rfl,hW,fun j8 p hp=>?_,fun hn=>?_⟩
  ·obtain⟨dp,Tf⟩:=hp
   have zb: ¬ ¬ qp b S.aF.length:=fun z=>z j8
   rw[aO zb] at k1 k2
   have ho:tu b=V.int b:=aO (fun z=>by have:=j8.1; lia)
   refine⟨_,rfl,pw,dw,_,rfl,hw,nH g,_,rfl,p,_,dp,_,_,rfl,Tf,G.en,G.kO,D3 _ _,_,rfl,_,rfl,_,rfl,pw,S,g,(S.bl b.toNat).aC,day,dO,b,(by rw[ho]; rfl),hW,hl,fun h1=>?_,fun h2=>?_⟩
   ·rw[aO (by lia)] at k1
    exact k1 rfl
   ·rw[aZ h2] at k2
    exact k2 (by decide +kernel)
  ·rw[aZ hn] at k2
   exact k2 (by decide +kernel)
theorem yA {S:Bk}{n c b:Nat}(wf:WF S n)(hc:c < S.credits.length)(hb:b < S.aF.length):oW (S.cr c) (S.bl b) b=S.dQ c b:=by
 unfold oW Bk.dQ
 by_cases z:(S.cr c).c= -1
 ·rw[aZ z,aG z,Bool.true_or,Bool.and_true]
 ·rw[aO z,ba z,Bool.false_or]
  rcases wf.o c hc with q|⟨b',e1,e2,e3⟩
  ·exact absurd q z
  ·by_cases y:(S.cr c).c=(b:Int)
   ·have:b'=b:=by lia
    subst this
    rw[aG y,aG e3]; rfl
   ·rw[ba y,ig]
inductive JX (A:eh)(K:Frag)(vs:List V)(H:Hp)(Q:VK)(E:XK):Prop
 |mk (pw:Addr)(S:Bk)(f:eO)(n:Nat)(ci bi dO:Int)(h1:vs=[.ref pw,.int ci,.int bi,.int dO])(h2:dI A H pw S f)(h3:WF S n)(h4:S.made.length < sizeLine)(h5:(S.bar (.set ci bi dO)=""->Te A Q H pw f (S.enter (.set ci bi dO)) (.int dO)))(h6:(S.bar (.set ci bi dO)≠""->Mq A K E (S.bar (.set ci bi dO)) H)):JX A K vs H Q E
theorem jE:aW ["self","credit_number","bill_number","amount","credit","bill"] ["self","credit_number","bill_number","amount"] (ax (mem 25 5)):={}
theorem xq (T:Txt K mg){A:eh}(G:jJ K mg A):g9 (mJ P w mg) P w K mg base A.work "set_by_hand" 5 ["self","credit_number","bill_number","amount"] (JX A K):=by
 have Cj:g9 (mJ P w mg) P w K mg base A.work "credit_at" 4 ["self","number"] (JU A K):=Cf T G
 have sF:g9 (mJ P w mg) P w K mg base A.work "bill_at" 4 ["self","number"] (Ft A K):=yz T G
 have JY:g9 sk P w K mg base A.work "put" 1 ["self","credit_number","bill_number","amount"] (zX A):=Nq G
 have Ee:fb P w K mg base "fits" 1 ["credit","bill"] (zS A):=JQ T G
 have gH:vB P w K mg base "check_amount" 4 ["amount"] (rg A):=kh T G
 refine ra (k:=4) G.oK G.bJ jE (fun f cU A' outer s H vs Q E hr mz h=>?_)
 ·obtain⟨pw,S,g,n,ci,bi,dO,rfl,hW,wf,hz,k1,k2⟩:=h
  have nd:=jE.nd
  obtain⟨dw,hw⟩:=hW.obj
  rw[zq] at k1 k2
  refine⟨_,(ah (sv 4 nd (nA Cj (hr.mono (by decide)) mz.pass (pv 0) (aa (pv 1) av)))
(ah (sv 5 nd (nA sF (hr.mono (by decide)) mz.pass (pv 0) (aa (pv 2) av)))
(ah (bP (jS (gp (fc Ee hr (aa (pv 4) (aa (pv 5) av)))))
(au (ka mz (zP T G) (hr.h.mono (by decide)) rfl rfl))
bh)
(ah (bK (sE gH (hr.mono (by decide)) rfl mz.pass (aa (pv 3) av)))
(ah (bP (PW.pt (pw_or (aX jn (pv 3) (xl (bZ (pv 0) rfl) (pv 1)) (a0 _)) (pw_or1 (aX jn (pv 3) (xl (bZ (pv 0) rfl) (pv 2)) (a0 _)))))
(au (ka mz (Eb T G) (hr.h.mono (by decide)) rfl rfl))
bh)
(ah (bK (nA JY (hr.mono (by decide)) mX (pv 0) (aa (pv 1) (aa (pv 2) (aa (pv 3) av)))))
(au (a9 (pv 3))))))))),?_⟩
  refine⟨_,rfl,pw,dw,_,rfl,hw,z5 g,_,rfl,pw,S,g,ci,rfl,hW,fun ic p hp=>?_,fun hn=>?_⟩
  case refine_2=>
   rw[aZ hn] at k2
   exact k2 (by decide +kernel)
  have zc: ¬ ¬ qp ci S.credits.length:=fun z=>z ic
  rw[aO zc] at k1 k2
  refine⟨_,rfl,pw,dw,_,rfl,hw,vH g,_,rfl,pw,S,g,bi,rfl,hW,fun ib q hq=>?_,fun hn=>?_⟩
  case refine_2=>
   rw[aZ hn] at k2
   exact k2 (by decide +kernel)
  have zb: ¬ ¬ qp bi S.aF.length:=fun z=>z ib
  rw[aO zb] at k1 k2
  obtain⟨c,rfl⟩:=cw ic.1
  obtain⟨b,rfl⟩:=cw ib.1
  have hc:c < S.credits.length:=by have:=ic.2; lia
  have hb:b < S.aF.length:=by have:=ib.2; lia
  rw[dz] at hp hq k1 k2
  rw[dz] at k1 k2
  have hfg:=yA wf hc hb
  refine⟨_,rfl,_,rfl,p,q,c,b,_,_,rfl,hp,hq,_,rfl,?_⟩
  rw[hfg]
  refine cv (fun z=>?_) (fun z=>?_)
  ·have z':S.dQ c b=false:=by simpa using z
   rw[aZ z'] at k2
   exact fun dx nn=>(k2 (by decide +kernel) A.jP G.qV (fun q=>absurd q (by decide +kernel))).at nn
  have zg: ¬ S.dQ c b=false:=by simpa using z
  rw[aO zg] at k1 k2
  refine⟨_,rfl,dO,rfl,fun h1=>?_,fun h2=>?_⟩
  case refine_2=>
   rw[aZ h2] at k2
   exact k2 (by decide +kernel) A.iM G.kN (fun q=>absurd q (by decide +kernel))
  rw[aO (by lia: ¬ dO < 1)] at k1 k2
  have Tg:gQ (S.cr c).d (S.bl b).d < dO-> ∀dx,H dx=none->E (.ref A.tooMuch) (some dx) (upd H dx (.xd [("text",.str "too much")])):=fun z dx nn=>by
   rw[aZ z] at k2
   exact(k2 (by decide +kernel) A.tooMuch G.pY (fun _=>rfl)).at nn
  refine⟨_,rfl,_,rfl,pw,_,dw,_,_,rfl,hw,G.bJ,G.fG,lL g,_,rfl,g.pf,_,_,_,rfl,rfl,bw.of hW.hf,Mp hc,_,_,rfl,rfl,_,rfl,cv (fun z=>fJ (Tg ?_)) (fun z=>?_)⟩
  ·have z':(S.cr c).d < dO:=aM z
   unfold gQ
   split <;> lia
  have z1: ¬ (S.cr c).d < dO:=fun q=>z (aG q)
  refine⟨_,rfl,_,rfl,pw,_,dw,_,_,rfl,hw,G.bJ,G.fF,lK g,_,rfl,g.pl,_,_,_,rfl,rfl,bw.of hW.hl,Mp hb,_,_,rfl,rfl,_,rfl,cv (fun z=>Tg ?_) (fun z=>?_)⟩
  ·have z':(S.bl b).d < dO:=aM z
   unfold gQ
   split <;> lia
  have z2: ¬ (S.bl b).d < dO:=fun q=>z (aG q)
  have zm: ¬ gQ (S.cr c).d (S.bl b).d < dO:=by
   unfold gQ
   split <;> lia
  rw[aO zm] at k1
  refine⟨_,rfl,pw,dw,_,rfl,hw,JW g,_,rfl,_,rfl,_,rfl,pw,S,g,c,b,dO,rfl,hW,hc,hb,hz,fun H2 F2 W2=>?_⟩
  exact⟨_,rfl,k1 rfl g H2 rfl F2 W2⟩
def Fu:Sp:=fun vs H Q _=>vs=[]/\ ∀(sd:Addr) (f:fH) (H':Hp),aE H H'->dk H' sd Bk.new f->H sd=none->(∀b∈f.fp,H b=none)->Q (.ref sd) H'
theorem xr:aW [] [] (ax (top 54)):={}
theorem rj (T:Txt K mg):fb P w K mg base "_law_begun" 1 [] Fu:=by
 refine T.zD.fC (k:=0) xr (fun f cU A outer s H vs Q E hr h=>?_)
 ·obtain⟨rfl,k⟩:=h
  refine⟨_,(au (a9 (LG (uV aV (bQ av) (uV aV (bQ av) (uV aV (bQ av) LF))) (by rfl) rfl (by simp) (by decide)))),?_⟩
  intro sd Mb
  refine⟨bp _,fun pb nb=>⟨bp _,fun pc nc=>⟨bp _,fun pm nm=>?_⟩⟩⟩
  have t0:=aE.new (o:= .dK []) Mb
  have t1:=aE.new (o:= .lst []) nb
  have t2:=aE.new (o:= .lst []) nc
  have t3:=aE.new (o:= .lst []) nm
  have g0:=((t1.trans t2).trans t3) _ _ (ag (H:=H) (a:=sd) (o:= .dK []))
  have gb:=(t2.trans t3) _ _ (ag (H:=upd H sd (.dK [])) (a:=pb) (o:= .lst []))
  have gc:=t3 _ _ (ag (H:=upd (upd H sd (.dK [])) pb (.lst [])) (a:=pc) (o:= .lst []))
  have gm:=ag (H:=upd (upd (upd H sd (.dK [])) pb (.lst [])) pc (.lst [])) (a:=pm) (o:= .lst [])
  have nb0:=t0.free nb
  have nc0:=(t0.trans t1).free nc
  have XR:=((t0.trans t1).trans t2).free nm
  have e1:sd≠pb:=aK ag nb
  have e2:sd≠pc:=aK (t1 _ _ ag) nc
  have e3:sd≠pm:=aK ((t1.trans t2) _ _ ag) nm
  have e4:pb≠pc:=aK ag nc
  have e5:pb≠pm:=aK (t2 _ _ ag) nm
  have e6:pc≠pm:=aK ag nm
  have s3:=((t0.trans t1).trans t2).trans t3
  generalize upd (upd (upd (upd H sd (.dK [])) pb (.lst [])) pc (.lst [])) pm (.lst [])=H3 at g0 gb gc gm s3 ⊢
  refine⟨g0,[(Sum.inr "bills",.ref pb),(Sum.inr "credits",.ref pc),(Sum.inr "made",.ref pm)],rfl,(by show 3<=15; lia),?_⟩
  refine k sd ⟨pb,pc,pm,[],[]⟩ _ (s3.cY Mb) ⟨?_,by rw[aA e1.symm]; exact gb,by rw[aA e2.symm]; exact gc,⟨[],by rw[aA e3.symm]; exact gm,.nil⟩,.nil,.nil,?_,?_⟩ Mb ?_
  ·rw[ag,ON]; rfl
  ·simp[fH.fp,e4,e5,e6]
  ·simp[fH.fp,e1,e2,e3]
  ·intro b hb
   simp only[fH.fp,List.append_nil,List.mem_cons,List.not_mem_nil,or_false] at hb
   rcases hb with rfl|rfl|rfl
   ·exact nb0
   ·exact nc0
   ·exact XR
inductive z8 (vs:List V)(H:Hp)(Q:VK)(E':XK):Prop
 |mk (sd:Addr)(S:Bk)(f:fH)(c b:Nat)(h1:vs=[.ref sd,.int c,.int b])(h2:dk H sd S f)(h3:c < S.credits.length)(h4:b < S.aF.length)(h5: ∀H',aE H H'->Q (.bl (S.dQ c b)) H'):z8 vs H Q E'
theorem rm:aW ["_law_state","_law_credit","_law_bill","_law_one"] ["_law_state","_law_credit","_law_bill"] (ax (top 55)):={}
theorem tG (T:Txt K mg):fb P w K mg base "_law_goes" 1 ["_law_state","_law_credit","_law_bill"] z8:=by
 refine T.BI.fC (k:=0) rm (fun f cU A outer s H vs Q E hr h=>?_)
 ·obtain⟨sd,S,g,c,b,rfl,hB,hc,hb,k⟩:=h
  have hu:=jV hr
  have nd:=rm.nd
  obtain⟨p,_,ap,hp⟩:=hB.lc hc
  obtain⟨q,_,aq,hq⟩:=hB.lb hb
  refine⟨_,(ah (sv 3 nd (xl (cD hu (pv 0) aV (fun _ _=>rfl)) (pv 1)))
(au (a9 (mQ (eF cK (xl (pv 3) ai) (xl (xl (cD hu (pv 0) aV (fun _ _=>rfl)) (pv 2)) ai) (a0 _)) (lZ (eF og (xl (pv 3) ai) (bQ (aa (oS kZ ai) (aa (pv 2) av))) (by rfl))))))),?_⟩
  refine⟨_,rfl,sd,_,rfl,hB.gC,_,rfl,g.pc,_,_,.ref p,rfl,rfl,bw.of hB.hc,ap,?_⟩
  refine⟨_,rfl,p,_,_,.str (S.cr c).aC,rfl,rfl,bw.of hp,rfl,_,rfl,sd,_,rfl,hB.gB,_,rfl,g.pb,_,_,.ref q,rfl,rfl,bw.of hB.hb,aq,q,_,_,.str (S.bl b).aC,rfl,rfl,bw.of hq,rfl,rfl,_,rfl,cv (fun d=>?_) (fun d=>?_)⟩
  ·have d':(S.cr c).aC=(S.bl b).aC:=by have:=aM d; injection this
   refine⟨_,rfl,p,_,_,.int (S.cr c).c,rfl,rfl,bw.of hp,rfl,_,rfl,_,rfl,(by show 2<=sizeLine; decide),fun p9 n9=>?_⟩
   refine⟨p9,_,rfl,.inl (bw.of ag),rfl,rfl,?_⟩
   have e:S.dQ c b=wN (V.int (S.cr c).c) [V.int (-1),V.int (b:Int)]:=by
    unfold Bk.dQ
    rw[aG d',Bool.true_and]
    rw[ow]
    simp[wN,Ly]
    lia
   have q9:=k _ (aE.new (o:= .lst [V.int (-1),V.int (b:Int)]) n9)
   rw[e] at q9
   exact q9
  ·have d': ¬ (S.cr c).aC=(S.bl b).aC:=fun z=>d (aG (by rw[z]))
   have e:S.dQ c b=false:=by
    unfold Bk.dQ
    rw[ba d',qu]
   have q9:=k H (aE.refl _)
   rw[e] at q9
   exact q9
theorem jK {A:Hp->Prop}{H H':Hp}(e:H=H')(h:A H'):A H:=e▸h
inductive Ck (vs:List V)(H:Hp)(Q:VK)(E':XK):Prop
 |mk (sd:Addr)(S:Bk)(f:fH)(c b:Nat)(x:Int)(h1:vs=[.ref sd,.int c,.int b,.int x])(h2:dk H sd S f)(h3:c < S.credits.length)(h4:b < S.aF.length)(h5:S.made.length < sizeLine)(h6: ∀H',Frame f.fp H H'->dk H' sd (S.put c b x) f->Q .eD H'):Ck vs H Q E'
theorem tH:aW ["_law_state","_law_credit","_law_bill","_law_amount"] ["_law_state","_law_credit","_law_bill","_law_amount"] (ax (top 56)):={}
theorem vJ (T:Txt K mg):fb P w K mg base "_law_put" 1 ["_law_state","_law_credit","_law_bill","_law_amount"] Ck:=by
 refine T.D0.fC (k:=0) tH (fun f cU A outer s H vs Q E hr h=>?_)
 ·obtain⟨sd,S,g,c,b,x,rfl,hB,hc,hb,hz,k⟩:=h
  have hu:=jV hr
  have nd:=tH.nd
  obtain⟨p,pi,ap,hp⟩:=hB.lc hc
  refine⟨_,(ah (l0 (aQ eM (xl (xl (cD hu (pv 0) aV (fun _ _=>rfl)) (pv 1)) ai) (pv 3)) (r9 (xl (cD hu (pv 0) aV (fun _ _=>rfl)) (pv 1)) ai set_list))
(ah (l0 (aQ eM (xl (xl (cD hu (pv 0) aV (fun _ _=>rfl)) (pv 2)) ai) (pv 3)) (r9 (xl (cD hu (pv 0) aV (fun _ _=>rfl)) (pv 2)) ai set_list))
(au (bK (pW (cD hu (pv 0) aV (fun _ _=>rfl)) (cQ (aa (pv 1) (aa (pv 2) (aa (pv 3) av))))))))),?_⟩
  refine⟨_,rfl,sd,_,rfl,hB.gC,_,rfl,g.pc,_,_,.ref p,rfl,rfl,bw.of hB.hc,ap,p,_,_,.int (S.cr c).d,rfl,rfl,bw.of hp,rfl,_,rfl,_,_,rfl,rfl,?_⟩
  refine⟨_,rfl,sd,_,rfl,hB.gC,_,rfl,g.pc,_,_,.ref p,rfl,rfl,bw.of hB.hc,ap,p,_,4,4,rfl,rfl,hp,rfl,?_⟩
  have B1:=hB.setC (r:=(S.cr c).less x) pi ⟨_,hp⟩
  have F1:Frame g.fp H (upd H p (.lst ((S.cr c).less x).vs)):=Frame.upd (by have:=List.mem_of_getElem? pi; simp[fH.fp,this])
  refine jK (H':=upd H p (.lst ((S.cr c).less x).vs)) rfl ?_
  generalize upd H p (.lst ((S.cr c).less x).vs)=H1 at B1 F1 ⊢
  obtain⟨q,qi,aq,hq⟩:=B1.lb (b:=b) hb
  change H1 q=some (.lst (S.bl b).vs) at hq
  refine⟨_,rfl,sd,_,rfl,B1.gB,_,rfl,g.pb,_,_,.ref q,rfl,rfl,bw.of B1.hb,aq,q,_,_,.int (S.bl b).d,rfl,rfl,bw.of hq,rfl,_,rfl,_,_,rfl,rfl,?_⟩
  refine⟨_,rfl,sd,_,rfl,B1.gB,_,rfl,g.pb,_,_,.ref q,rfl,rfl,bw.of B1.hb,aq,q,_,4,4,rfl,rfl,hq,rfl,?_⟩
  have B2:=B1.setB (r:=(S.bl b).less x) qi ⟨_,hq⟩
  have F2:Frame g.fp H1 (upd H1 q (.lst ((S.bl b).less x).vs)):=Frame.upd (by have:=List.mem_of_getElem? qi; simp[fH.fp,this])
  refine jK (H':=upd H1 q (.lst ((S.bl b).less x).vs)) rfl ?_
  generalize upd H1 q (.lst ((S.bl b).less x).vs)=H2 at B2 F2 ⊢
  obtain⟨ms,m1,m2⟩:=B2.hm
  refine⟨_,rfl,sd,_,rfl,B2.gM,.inl ⟨rfl,_,bw.of m1⟩,_,rfl,_,rfl,_,rfl,(by show 3<=sizeLine; decide),fun p8 n8=>?_⟩
  have t8:=aE.new (o:= .tup [V.int c,.int b,.int x]) n8
  refine⟨g.pm,ms,_,rfl,rfl,t8 _ _ m1,?_,?_⟩
  ·rw[← aL m2]
   exact hz
  ·refine k _ ((F1.tr F2).tr ((t8.frame).tr (Frame.upd (by simp[fH.fp])))) ?_
   exact(B2.same t8).Xb (t:=(c,b,x)) (t8 _ _ m1) (m2.mono t8.tk) ag
def Fv (x:Int×Nat):List Int:=[x.1,(x.2:Int)]
def Cm (rows:List Rw)(aC:Str)(key:Rw->Int)(i:Nat):List (Int×Nat):=
 ((List.range i).filter fun k=>decide ((rows.getD k default).aC=aC) && decide (0 < (rows.getD k default).d)).map fun k=>(key (rows.getD k default),k)
theorem Mr {rows:List Rw}{aC:Str}{key:Rw->Int}{i:Nat}(h:(rows.getD i default).aC=aC)(h2:0 < (rows.getD i default).d):Cm rows aC key (i + 1)=Cm rows aC key i ++ [(key (rows.getD i default),i)]:=by
 unfold Cm
 rw[oB,gj,aJ]
 congr 1
 rw[bS (by rw[aG h,aG h2]; rfl)]
 rfl
theorem Pk {rows:List Rw}{aC:Str}{key:Rw->Int}{i:Nat}(h: ¬ ((rows.getD i default).aC=aC/\0 < (rows.getD i default).d)):Cm rows aC key (i + 1)=Cm rows aC key i:=by
 unfold Cm
 rw[List.range_succ,List.filter_append,List.map_append,List.filter_cons_of_neg (by simpa using h)]
 simp
theorem Pl {rows:List Rw}{aC:Str}{key:Rw->Int}{i:Nat}: ∀x∈Cm rows aC key i,x.2 < i:=by
 intro x hx
 obtain⟨k,hk,rfl⟩:=bG.mp hx
 exact cW.mp (dM.mp hk).1
theorem Pm {rows:List Rw}{aC:Str}{key:Rw->Int}{i:Nat}:((Cm rows aC key i).map (·.2)).Nodup:=by
 unfold Cm
 rw[dD]
 have e:((fun x:Int×Nat=>x.2) ∘ fun k=>(key (rows.getD k default),k))=id:=rfl
 rw[e,tS]
 exact jB.filter _
theorem z9 {rows:List Rw}{aC:Str}{key:Rw->Int}{i:Nat}:(Cm rows aC key i).length<=i:=by
 unfold Cm
 rw[ae]
 exact a6 (a7 _ _) (by rw[dA]; exact aI _)
theorem uu {x y:Str}(d:decide (V.str x=V.str y)=true):x=y:=by
 have:=aM d
 injection this
theorem rn {x y:Str}(d: ¬ decide (V.str x=V.str y)=true): ¬ x=y:=fun z=>d (aG (by rw[z]))
theorem lO: ∀{l:List (Int×Nat)} {x y:Int×Nat},(l.map (·.2)).Nodup->x∈l->y∈l->x.2=y.2->x=y
 |[],_,_,_,h,_,_=>by cases h
 |z :: l,x,y,nd,hx,hy,e=>by
  rw[bM,eu] at nd
  rcases aw.mp hx with yp|yp
  ·rcases aw.mp hy with Aa|Aa
   ·rw[yp,Aa]
   ·exact absurd (bG.mpr ⟨y,Aa,by rw[← e,yp]⟩) nd.1
  ·rcases aw.mp hy with Aa|Aa
   ·exact absurd (bG.mpr ⟨x,yp,by rw[e,Aa]⟩) nd.1
   ·exact lO nd.2 yp Aa e
inductive vK (vs:List V)(H:Hp)(Q:VK)(E':XK):Prop
 |mk (p:Addr)(ps:List Addr)(rows:List Rw)(aC:Str)(Ab:Int)(key:Rw->Int)(h1:vs=[.ref p,.str aC,.int Ab])(h2:H p=some (.lst (ps.map V.ref)))(h3:eU H rows ps)(h4:rows.length < 64)(h5:(∀r:Rw,sj r.vs Ab=some (.int (key r))))(h6: ∀D H',aE H H'->H D=none->H' D=some (.lst ((inTurn rows aC key).map fun(k:Nat)=>V.int (k:Int)))->Q (.ref D) H'):vK vs H Q E'
theorem mB:aW ["_law_rows","_law_who","_law_spot","_law_keys","_law_k"] ["_law_rows","_law_who","_law_spot"] (ax (top 57)):={}
theorem vL (T:Txt K mg):fb P w K mg base "_law_in_turn" 1 ["_law_rows","_law_who","_law_spot"] vK:=by
 refine T.vy.fC (k:=0) mB (fun f cU A outer s H vs Q E hr h=>?_)
 ·obtain⟨p,ps,rows,aC,Ab,key,rfl,hp,hR,hl,hk,k⟩:=h
  have nd:=mB.nd
  have hlen:=hR.length
  refine⟨_,(ah (sv 3 nd (bQ av))
(ah (dW bu rfl (ij rfl T.kM (aa (mK T.dR (pv 0)) av)) (gn 4 nd)
(au (bP (PW.pt (pw_and (aX cK (xl (xl (pv 0) (pv 4)) ai) (pv 1) (a0 _)) (pw_and1 (aX jn (xl (xl (pv 0) (pv 4)) ai) ai (a0 _)))))
(au (bK (pW (pv 3) (cQ (aa (xl (xl (pv 0) (pv 4)) (pv 2)) (aa (pv 4) av))))))
bh)))
(au (a9 (gy (tn:=["_law_key"]) (cn:=[]) (cj:=[]) rfl um (cF (cE qM (by rfl) T.qT boot_sorted (aa (pv 3) av))) (fun _ _ _ _=>(eE (i:=0) (show(["_law_key"]:List Str).Nodup by decide +kernel) rfl (Or.inl rfl))) (fun _ _ _ _=>k4) (fun _ _ _ _=>(iU (kJ (K:=K) rfl) (pv 0) ai (fun _ _=>rfl)))))))),?_⟩
  refine⟨bp _,fun pk nk=>?_⟩
  have s1:aE H (upd H pk (.lst [])):=aE.new nk
  refine⟨_,rfl,p,_,rfl,.inl (bw.of (s1 _ _ hp)),((ps.map V.ref).length:Int),rfl,by lia,by rw[ae]; lia,?_⟩
  rw[dz]
  refine i8 (lo:=0) (n:=(ps.map V.ref).length) (fun i σ H2=> ∃(xs:List V) (x4:Option V),σ=[some (.ref p),some (.str aC),some (.int Ab),some (.ref pk),x4]/\aE H H2/\H2 pk=some (.lst xs)/\gz H2 ((Cm rows aC key i).map Fv) xs)
   ⟨[],none,rfl,s1,ag,.nil⟩ ?_ ?_
  ·rintro i σ H2 hi ⟨xs,x4,rfl,s2,hx,hT⟩
   rw[gZ]
   have wR:i < rows.length:=by rw[ae] at hi; lia
   obtain⟨r,ri,K9⟩:=hR.at wR
   have ar:sj (ps.map V.ref) (i:Int)=some (.ref r):=cg (by rw[aB,ri]; rfl)
   have tU:=s2 _ _ hp
   have yB:=s2 _ _ K9
   have Pn:xs.length<=i:=by
    have:=aL hT
    rw[ae] at this
    have:=z9 (rows:=rows) (aC:=aC) (key:=key) (i:=i)
    lia
   have no: ¬ ((rows.getD i default).aC=aC/\0 < (rows.getD i default).d)-> ∃(xs:List V) (x4:Option V),[some (V.ref p),some (.str aC),some (.int Ab),some (.ref pk),some (.int (i:Int))]=[some (.ref p),some (.str aC),some (.int Ab),some (.ref pk),x4]/\aE H H2/\H2 pk=some (.lst xs)/\gz H2 ((Cm rows aC key (i + 1)).map Fv) xs:=fun n=>
    ⟨xs,_,rfl,s2,hx,by rw[Pk n]; exact hT⟩
   generalize Ho:rows.getD i default=row at yB no
   refine⟨_,rfl,_,rfl,p,_,_,.ref r,rfl,rfl,bw.of tU,ar,r,_,_,.str row.aC,rfl,rfl,bw.of yB,rfl,_,rfl,rfl,_,rfl,cv (fun d1=>?_) (fun d1=>bV (no fun z=>rn d1 z.1))⟩
   refine⟨_,rfl,_,rfl,p,_,_,.ref r,rfl,rfl,bw.of tU,ar,r,_,_,.int row.d,rfl,rfl,bw.of yB,rfl,_,_,rfl,rfl,_,rfl,cv (fun d2=>?_) (fun d2=>no fun z=>d2 (aG z.2))⟩
   have Th:=uu d1
   have XS:0 < row.d:=aM d2
   refine⟨_,rfl,.inl ⟨rfl,_,bw.of hx⟩,_,rfl,_,rfl,p,_,_,.ref r,rfl,rfl,bw.of tU,ar,_,rfl,r,_,_,.int (key row),rfl,rfl,bw.of yB,hk row,_,rfl,(by show 2<=sizeLine; decide),fun p8 n8=>?_⟩
   have t8:=aE.new (o:= .tup [V.int (key row),.int (i:Int)]) n8
   refine⟨pk,xs,_,rfl,rfl,t8 _ _ hx,bf (by lia),xs ++ [.ref p8],_,rfl,(s2.trans t8).cY nk,ag,?_⟩
   rw[Mr (by rw[Ho]; exact Th) (by rw[Ho]; exact XS),aJ,Ho]
   exact gz.snoc (hT.mono (t8.tk.trans (fj (t8 _ _ hx)))) (dG (t8 _ _ hx) _ _ ag)
  ·rintro σ H2 ⟨xs,x4,rfl,s2,hx,hT⟩
   have Pn:=aL hT
   have Vv:=z9 (rows:=rows) (aC:=aC) (key:=key) (i:=(ps.map V.ref).length)
   have Fw:=Pl (rows:=rows) (aC:=aC) (key:=key) (i:=(ps.map V.ref).length)
   have mI:(ps.map V.ref).length=rows.length:=by rw[ae]; lia
   have hle: ∀x∈Cm rows aC key (ps.map V.ref).length,x.2 < 1000:=fun x hx=>by have:=Fw x hx; lia
   have j8:inTurn rows aC key=(eG (Cm rows aC key (ps.map V.ref).length)).map (·.2):=by rw[mI]; rfl
   have hnd:=Pm (rows:=rows) (aC:=aC) (key:=key) (i:=(ps.map V.ref).length)
   generalize Cm rows aC key (ps.map V.ref).length=ks at hT Pn Vv hle j8 hnd
   rw[ae] at Pn
   refine⟨_,rfl,pk,xs,_,tZ,rfl,bw.of hx,(by lia),hT,(fun t ht=>?_),(fun t ht u hu=>?_),fun D ys us nD K7 perm le=>?_⟩
   ·obtain⟨x,_,rfl⟩:=bG.mp ht
    simp[Fv]
   ·obtain⟨x,yp,rfl⟩:=bG.mp ht
    obtain⟨y,Aa,rfl⟩:=bG.mp hu
    refine qU (hle x yp) (hle y Aa) (fun e=>⟨rfl,?_⟩) rfl
    exact lO hnd yp Aa e
   ·have RS:=tq hle hnd (fun x _=>rfl) perm le
    subst RS
    have tD:=aE.new (o:= .lst ys) nD
    refine⟨D,rfl,⟨_,bw.of ag⟩,?_⟩
    have Fx:=K7.mono tD.tk
    generalize Ms:upd H2 D (.lst ys)=H3 at tD Fx
    have XT:H3 D=some (.lst ys):=by rw[← Ms]; exact ag
    have s3:=s2.trans tD
    clear Ms K7 perm le hT
    have Ti:=aL Fx
    refine dX (K:=K) (a:=D) (xs:=ys) (fun D' i σ H6=>H3 D'=none/\ ∃v,σ=[v]/\aE H3 H6/\H6 D'=some (.lst (((eG ks).take i).map fun x=>V.int (x.2:Int)))) (fun D' vM=>⟨vM,none,rfl,aE.new vM,ag⟩) (fun D' i σ H6 _ ⟨_,_,_,t3,_⟩=>bw.of (t3 _ _ XT)) ?_ ?_
    ·rintro D' i x σ H6 JZ ⟨vM,v,rfl,t3,gJ⟩
     have hi:i < (eG ks).length:=by
      have:=(ak.mp JZ).1
      rw[ae] at Ti
      lia
     have g0:((eG ks).map Fv)[i]? =some (Fv (eG ks)[i]):=by rw[aB,af hi]; rfl
     obtain⟨v',hv,pp,e1,zu⟩:=bB Fx g0
     rw[JZ] at hv
     obtain rfl:x=v':=aD hv
     subst e1
     have kE:=gX hi
     have xu:=t3 _ _ zu
     generalize (eG ks)[i]=z at xu kE
     have Ir:((eG ks).take i).length<=100:=by
      rw[bb]
      have:=(cS ks).length_eq
      lia
     refine⟨_,rfl,pp,_,_,.int (z.2:Int),rfl,rfl,cB.of xu,rfl,_,gJ,bf (by rw[ae]; lia),vM,_,rfl,t3.cY vM,?_⟩
     rw[ag,kE,aJ]
     rfl
    ·rintro D' σ H6 vM ⟨_,v,rfl,t3,gJ⟩
     refine k D' H6 (s3.trans t3) (s3.free vM) ?_
     rw[gJ,j8,dD,Ti.symm,ae,aY]
     rfl
theorem tI {α β:Type}{F:α->β->Prop}: ∀{l₁:List α} {l₂:List β} (n:Nat),Paired F l₁ l₂->Paired F (l₁.drop n) (l₂.drop n)
 |_,_,0,h=>by rwa [List.drop_zero,List.drop_zero]
 |_,_,_ + 1,.nil=> .nil
 |_,_,n + 1,.cons _ t=>by rw[List.drop_succ_cons,List.drop_succ_cons]; exact tI n t
theorem Hq (xs:List V)(n:Nat)(h:n<=xs.length):qE xs (some (n:Int)) none=xs.drop n:=by
 unfold qE
 rw[HT.IV,HT.yY,Nat.min_eq_left h,List.take_of_length_le]
 rw[mG]
 exact aI _
structure Ac (H0:Hp)(sd:Addr)(S:Bk)(f:fH)(H2:Hp)(S2:Bk)(m:Nat):Prop where
 fr:Frame f.fp H0 H2
 bk:dk H2 sd S2 f
 bl:S2.aF.length=S.aF.length
 cl:S2.credits.length=S.credits.length
 ml:S2.made.length<=S.made.length + m
theorem Ac.put {H0:Hp}{sd:Addr}{S:Bk}{f:fH}{H2 H':Hp}{S2:Bk}{m c b:Nat}{x:Int}(I:Ac H0 sd S f H2 S2 m)(fr:Frame f.fp H2 H')(bk:dk H' sd (S2.put c b x) f):Ac H0 sd S f H' (S2.put c b x) (m + 1):=by
 refine⟨I.fr.tr fr,bk,?_,?_,?_⟩
 ·show(S2.aF.set _ _).length=_
  rw[eY]; exact I.bl
 ·show(S2.credits.set _ _).length=_
  rw[eY]; exact I.cl
 ·show(S2.made ++ [_]).length<=_
  rw[aH]
  have:=I.ml
  simp
  lia
theorem Ac.up {H0:Hp}{sd:Addr}{S:Bk}{f:fH}{H2:Hp}{S2:Bk}{m n:Nat}(I:Ac H0 sd S f H2 S2 m)(h:m<=n):Ac H0 sd S f H2 S2 n:=⟨I.fr,I.bk,I.bl,I.cl,a6 I.ml (by lia)⟩
theorem Ac.from {H0 H1:Hp}{sd:Addr}{S:Bk}{f:fH}{H2:Hp}{S2:Bk}{m:Nat}(I:Ac H0 sd S f H2 S2 m)(s:aE H2 H1):Ac H1 sd S f H1 S2 m:=⟨Frame.refl,I.bk.same s,I.bl,I.cl,I.ml⟩
theorem Ac.back {H0 H1:Hp}{sd:Addr}{S:Bk}{f:fH}{H2 H3:Hp}{S2 S3:Bk}{m n:Nat}(I:Ac H0 sd S f H2 S2 m)(s:aE H2 H1)(J:Ac H1 sd S f H3 S3 n):Ac H0 sd S f H3 S3 n:=⟨(I.fr.df s).tr J.fr,J.bk,J.bl,J.cl,J.ml⟩
theorem _root_.L2.dk.uv {H:Hp}{sd D:Addr}{S:Bk}{f:fH}(h:dk H sd S f)(n:H D=none):D∉f.fp:=fun z=>by
 obtain⟨ms,m1,_⟩:=h.hm
 have rows: ∀(rs:List Rw) (ps:List Addr),eU H rs ps->D∈ps->False:=fun rs ps hr hp=>by
  obtain⟨i,hi⟩:=yU hp
  have i7:i < rs.length:=by
   rw[hr.length]
   exact(ak.mp hi).1
  obtain⟨q,e1,e2⟩:=hr.at i7
  rw[e1] at hi
  cases hi
  rw[n] at e2
  cases e2
 unfold fH.fp at z
 rcases aw.mp z with rfl|z
 ·have:=h.hb; rw[n] at this; cases this
 rcases aw.mp z with rfl|z
 ·have:=h.hc; rw[n] at this; cases this
 rcases aw.mp z with rfl|z
 ·rw[n] at m1; cases m1
 rcases bq.mp z with z|z
 ·exact rows _ _ h.rb z
 ·exact rows _ _ h.rc z
theorem j7 (rows:List Rw)(aC:Str)(key:Rw->Int):(inTurn rows aC key).length<=rows.length:=by
 have e:inTurn rows aC key=(eG (Cm rows aC key rows.length)).map (·.2):=rfl
 rw[e,ae,(cS _).length_eq]
 exact z9
theorem lP {α β:Type}(g:β->α->β)(l:List α)(s:β){i:Nat}{x:α}(h:l[i]? =some x):(l.take (i + 1)).foldl g s=g ((l.take i).foldl g s) x:=by
 rw[F6,h,rX]
 rfl
theorem _root_.L2.Frame.free {fp:List Addr}{H H':Hp}{p:Addr}(a:Frame fp H H')(h:p∉fp)(n:H' p=none):H p=none:=by
 cases e:H p with
 |none=>rfl
 |some o=>have:=a p o h e; rw[n] at this; cases this
inductive Ad (vs:List V)(H:Hp)(Q:VK)(E':XK):Prop
 |mk (sd:Addr)(S:Bk)(f:fH)(aC:Str)(h1:vs=[.ref sd,.str aC])(h2:dk H sd S f)(h3:S.credits.length < 64)(h4:S.aF.length < 64)(h5:S.made.length + 10000 < sizeLine)(h6: ∀D ms H',Frame f.fp H H'->dk H' sd (S.iV aC) f->H D=none->H' D=some (.lst ms)->ir H' ((S.iV aC).made.drop S.made.length) ms->Q (.ref D) H'):Ad vs H Q E'
theorem oZ:aW ["_law_state","_law_who","_law_many","_law_exact","_law_credit","_law_bill","_law_free","_law_left"] ["_law_state","_law_who"] (ax (top 58)):={}
theorem Ae (T:Txt K mg):fb P w K mg base "_law_swept" 2 ["_law_state","_law_who"] Ad:=by
 have nJ:fb P w K mg base "_law_in_turn" 1 ["_law_rows","_law_who","_law_spot"] vK:=vL T
 have nK:fb P w K mg base "_law_goes" 1 ["_law_state","_law_credit","_law_bill"] z8:=tG T
 have qa:fb P w K mg base "_law_put" 1 ["_law_state","_law_credit","_law_bill","_law_amount"] Ck:=vJ T
 refine T.zE.fC (k:=1) oZ (fun f cU A outer s H vs Q E hr h=>?_)
 ·obtain⟨sd,S,g,aC,rfl,hB,qS,Mt,Fy,k⟩:=h
  have hu:=jV hr
  have nd:=oZ.nd
  obtain⟨ms,m1,m2⟩:=hB.hm
  have XU:S.made.length=ms.length:=aL m2
  refine⟨_,(ah (sv 2 nd (mK T.dR (cD hu (pv 0) aV (fun _ _=>rfl))))
(ah (dW bu rfl (cF (bQ (aa kH (aa kH av)))) (gn 3 nd)
(au (dW bu rfl (cF (fc nJ hr (aa (cD hu (pv 0) aV (fun _ _=>rfl)) (aa (pv 1) (aa ai av))))) (gn 4 nd)
(au (dW bu rfl (cF (fc nJ hr (aa (cD hu (pv 0) aV (fun _ _=>rfl)) (aa (pv 1) (aa ai av))))) (gn 5 nd)
(ah (sv 6 nd (xl (xl (cD hu (pv 0) aV (fun _ _=>rfl)) (pv 4)) ai))
(ah (sv 7 nd (xl (xl (cD hu (pv 0) aV (fun _ _=>rfl)) (pv 5)) ai))
(au (bP (PW.pt (pw_and (aX jn (pv 6) ai (a0 _)) (pw_and1 (gp (fc nK hr (aa (pv 0) (aa (pv 4) (aa (pv 5) av))))))))
(au (bP (PW.pt (pw_or (aX cK (pv 6) (pv 7) (a0 _)) (pw_or1 (jS (gp (pv 3))))))
(au (bK (fc qa hr (aa (pv 0) (aa (pv 4) (aa (pv 5) (aa (cE (sf rfl) (by rfl) T.JH boot_min (aa (pv 6) (aa (pv 7) av))) av)))))))
bh))
bh)))))))))
(au (a9 (qD uj (cD hu (pv 0) aV (fun _ _=>rfl)) (qC (pv 2)) yZ))))),?_⟩
  refine⟨_,rfl,sd,_,rfl,hB.gM,g.pm,_,rfl,.inl (bw.of m1),?_⟩
  refine⟨(by show 2<=sizeLine; decide),fun pl nl=>⟨pl,rfl,⟨_,bw.of ag⟩,?_⟩⟩
  have s1:aE H (upd H pl (.lst ([true,false].map V.bl))):=aE.new nl
  have nlf:=hB.uv nl
  have jb:upd H pl (.lst ([true,false].map V.bl)) pl=some (.lst ([true,false].map V.bl)):=ag
  have Nr:=hB.same s1
  refine jK (H':=upd H pl (.lst ([true,false].map V.bl))) rfl ?_
  generalize upd H pl (.lst ([true,false].map V.bl))=H1 at s1 jb Nr
  refine eQ (K:=K) (a:=pl) (xs:=[true,false].map V.bl) (fun i σ H2=> ∃x3 x4 x5 x6 x7:Option V,σ=[some (.ref sd),some (.str aC),some (.int (ms.length:Int)),x3,x4,x5,x6,x7]/\Ac H1 sd S g H2 (([true,false].take i).foldl (bR aC) S) (i * 4096))
   ⟨none,none,none,none,none,rfl,Frame.refl,Nr,rfl,rfl,Nat.le_add_right _ _⟩ (fun i σ H2 _ ⟨_,_,_,_,_,_,I⟩=>bw.of (I.fr _ _ nlf jb)) ?_ ?_
  ·rintro i x σ H2 hx ⟨x3,x4,x5,x6,x7,rfl,I⟩
   rw[aB] at hx
   obtain⟨ex,hex,rfl⟩:=br.mp hx
   have hi:i < 2:=(ak.mp hex).1
   rw[lP (bR aC) [true,false] S hex]
   generalize ([true,false].take i).foldl (bR aC) S=S1 at I ⊢
   have c1:=I.cl
   have b1:=I.bl
   refine⟨_,rfl,sd,_,rfl,I.bk.gC,_,rfl,g.pc,g.cps,S1.credits,aC,1,(·.a),rfl,I.bk.hc,I.bk.rc,by lia,(fun _=>rfl),fun D1 H3 t3 n3 Hr=>?_⟩
   have D1f:=I.bk.uv n3
   have I3:=I.from t3
   refine⟨D1,rfl,⟨_,bw.of Hr⟩,?_⟩
   have hcs:(inTurn S1.credits aC (·.a)).length<=63:=by have:=j7 S1.credits aC (·.a); lia
   have Z9: ∀c∈inTurn S1.credits aC (·.a),c < S.credits.length:=fun c hc=>by have:=(dv.mp hc).1; lia
   have Zy:bR aC S1 ex=(inTurn S1.credits aC (·.a)).foldl (cq aC ex) S1:=rfl
   rw[Zy]
   generalize inTurn S1.credits aC (·.a)=cs at Hr hcs Z9
   refine eQ (K:=K) (a:=D1) (xs:=cs.map fun(k:Nat)=>V.int (k:Int)) (fun j σ H4=> ∃x4 x5 x6 x7:Option V,σ=[some (.ref sd),some (.str aC),some (.int (ms.length:Int)),some (.bl ex),x4,x5,x6,x7]/\Ac H3 sd S g H4 ((cs.take j).foldl (cq aC ex) S1) (i * 4096 + j * 64))
    ⟨_,_,_,_,rfl,I3.up (by lia)⟩ (fun j σ H4 _ ⟨_,_,_,_,_,J⟩=>bw.of (J.fr _ _ D1f Hr)) ?_ ?_
   ·rintro j x σ H4 hx ⟨x4,x5,x6,x7,rfl,J⟩
    rw[aB] at hx
    obtain⟨c,hc,rfl⟩:=br.mp hx
    have acE:=Z9 c (gI hc)
    have hj:j < cs.length:=(ak.mp hc).1
    rw[lP (cq aC ex) cs S1 hc]
    generalize (cs.take j).foldl (cq aC ex) S1=S2 at J ⊢
    have b2:=J.bl
    refine⟨_,rfl,sd,_,rfl,J.bk.gB,_,rfl,g.pb,g.iA,S2.aF,aC,2,(·.b),rfl,J.bk.hb,J.bk.rb,by lia,(fun _=>rfl),fun D2 H5 t5 n5 Hs=>?_⟩
    have D2f:=J.bk.uv n5
    have J5:=J.from t5
    refine⟨D2,rfl,⟨_,bw.of Hs⟩,?_⟩
    have hbs:(inTurn S2.aF aC (·.b)).length<=63:=by have:=j7 S2.aF aC (·.b); lia
    have LL: ∀b∈inTurn S2.aF aC (·.b),b < S.aF.length:=fun b hb=>by have:=(dv.mp hb).1; lia
    have rP:cq aC ex S2 c=(inTurn S2.aF aC (·.b)).foldl (bT ex c) S2:=rfl
    rw[rP]
    generalize inTurn S2.aF aC (·.b)=bs at Hs hbs LL
    refine eQ (K:=K) (a:=D2) (xs:=bs.map fun(k:Nat)=>V.int (k:Int)) (fun l σ H6=> ∃x5 x6 x7:Option V,σ=[some (.ref sd),some (.str aC),some (.int (ms.length:Int)),some (.bl ex),some (.int (c:Int)),x5,x6,x7]/\Ac H5 sd S g H6 ((bs.take l).foldl (bT ex c) S2) (i * 4096 + j * 64 + l))
     ⟨_,_,_,rfl,J5.up (by lia)⟩ (fun l σ H6 _ ⟨_,_,_,_,L⟩=>bw.of (L.fr _ _ D2f Hs)) ?_ ?_
    ·rintro l x σ H6 hx ⟨x5,x6,x7,rfl,L⟩
     rw[aB] at hx
     obtain⟨b,hb,rfl⟩:=br.mp hx
     have acH:=LL b (gI hb)
     have hl:l < bs.length:=(ak.mp hb).1
     rw[lP (bT ex c) bs S2 hb]
     generalize (bs.take l).foldl (bT ex c) S2=S3 at L ⊢
     have b3:=L.bl
     have c3:=L.cl
     have m3:=L.ml
     obtain⟨p,_,ap,hp⟩:=L.bk.lc (b:=c) (by lia)
     obtain⟨q,_,aq,hq⟩:=L.bk.lb (b:=b) (by lia)
     have no: ¬ (0 < (S3.cr c).d/\S3.dQ c b=true/\((S3.cr c).d=(S3.bl b).d∨ex=false))-> ∀H7,aE H6 H7-> ∃x5 x6 x7:Option V,[some (V.ref sd),some (.str aC),some (.int (ms.length:Int)),some (.bl ex),some (.int (c:Int)),some (.int (b:Int)),some (.int (S3.cr c).d),some (.int (S3.bl b).d)]=[some (.ref sd),some (.str aC),some (.int (ms.length:Int)),some (.bl ex),some (.int (c:Int)),x5,x6,x7]/\Ac H5 sd S g H7 (bT ex c S3 b) (i * 4096 + j * 64 + (l + 1)):=fun n H7 t7=>by
      refine⟨_,_,_,rfl,?_⟩
      unfold bT
      rw[aO n]
      exact(L.back t7 (L.from t7)).up (by lia)
     refine⟨_,rfl,sd,_,rfl,L.bk.gC,_,rfl,g.pc,_,_,.ref p,rfl,rfl,bw.of L.bk.hc,ap,p,_,_,.int (S3.cr c).d,rfl,rfl,bw.of hp,rfl,?_⟩
     refine⟨_,rfl,sd,_,rfl,L.bk.gB,_,rfl,g.pb,_,_,.ref q,rfl,rfl,bw.of L.bk.hb,aq,q,_,_,.int (S3.bl b).d,rfl,rfl,bw.of hq,rfl,?_⟩
     refine⟨_,rfl,_,_,rfl,rfl,_,rfl,cv (fun d1=>?_) (fun d1=>bV (no (fun z=>d1 (aG z.1)) _ (aE.refl _)))⟩
     have Th:0 < (S3.cr c).d:=aM d1
     refine⟨_,rfl,_,rfl,_,rfl,sd,S3,g,c,b,rfl,L.bk,by lia,by lia,fun H7 t7=>⟨_,rfl,cv (fun d2=>?_) (fun d2=>no (fun z=>d2 z.2.1) _ t7)⟩⟩
     have L7:=L.bk.same t7
     have Tj:((S3.cr c).d=(S3.bl b).d∨ex=false)-> ∀H',Frame g.fp H7 H'->dk H' sd (S3.put c b (gQ (S3.cr c).d (S3.bl b).d)) g-> ∃x5 x6 x7:Option V,[some (V.ref sd),some (.str aC),some (.int (ms.length:Int)),some (.bl ex),some (.int (c:Int)),some (.int (b:Int)),some (.int (S3.cr c).d),some (.int (S3.bl b).d)]=[some (.ref sd),some (.str aC),some (.int (ms.length:Int)),some (.bl ex),some (.int (c:Int)),x5,x6,x7]/\Ac H5 sd S g H' (bT ex c S3 b) (i * 4096 + j * 64 + (l + 1)):=fun z H' QO XW=>by
      refine⟨_,_,_,rfl,?_⟩
      unfold bT
      rw[aZ ⟨Th,d2,z⟩]
      exact(L.put (t7.frame.tr QO) XW).up (by lia)
     have Fz:((S3.cr c).d=(S3.bl b).d∨ex=false)->Ck [.ref sd,.int (c:Int),.int (b:Int),.int (if(S3.bl b).d < (S3.cr c).d then(S3.bl b).d else(S3.cr c).d)] H7 (fun _ H'=> ∃x5 x6 x7:Option V,[some (V.ref sd),some (.str aC),some (.int (ms.length:Int)),some (.bl ex),some (.int (c:Int)),some (.int (b:Int)),some (.int (S3.cr c).d),some (.int (S3.bl b).d)]=[some (.ref sd),some (.str aC),some (.int (ms.length:Int)),some (.bl ex),some (.int (c:Int)),x5,x6,x7]/\Ac H5 sd S g H' (bT ex c S3 b) (i * 4096 + j * 64 + (l + 1))) (fun _ _ _=>False):=fun z=>
      ⟨sd,S3,g,c,b,_,rfl,L7,by lia,by lia,by lia,fun H' QO XW=>Tj z H' QO XW⟩
     refine⟨_,rfl,_,rfl,rfl,_,rfl,cv (fun d3=>fJ ?_) (fun d3=>?_)⟩
     ·have d3':(S3.cr c).d=(S3.bl b).d:=by have:=aM d3; injection this
      exact⟨_,rfl,_,rfl,_,rfl,_,rfl,_,rfl,_,_,rfl,Fz (.inl d3')⟩
     ·refine⟨_,rfl,_,rfl,cv (fun d4=>?_) (fun d4=>no (fun z=>?_) _ t7)⟩
      ·have d4':ex=false:=by simpa using d4
       exact⟨_,rfl,_,rfl,_,rfl,_,rfl,_,rfl,_,_,rfl,Fz (.inr d4')⟩
      ·rcases z.2.2 with z|z
       ·exact d3 (aG (by rw[z]))
       ·exact d4 (by rw[z]; rfl)
    ·rintro σ H6 ⟨x5,x6,x7,rfl,L⟩
     rw[ae,aY] at L
     exact⟨_,_,_,_,rfl,(J.back t5 L).up (by lia)⟩
   ·rintro σ H4 ⟨x4,x5,x6,x7,rfl,J⟩
    rw[ae,aY] at J
    exact⟨_,_,_,_,_,rfl,(I.back t3 J).up (by lia)⟩
  ·rintro σ H2 ⟨x3,x4,x5,x6,x7,rfl,I⟩
   have WR:([true,false].take ([true,false].map V.bl).length).foldl (bR aC) S=S.iV aC:=rfl
   rw[WR] at I
   obtain⟨Nt,k1,k2⟩:=I.bk.hm
   refine⟨_,rfl,sd,_,rfl,I.bk.gM,_,rfl,_,rfl,g.pm,Nt,rfl,bw.of k1,fun p np=>?_⟩
   have tp:=aE.new (o:= .lst (qE Nt (some (ms.length:Int)) none)) np
   have hle:ms.length<=Nt.length:=by
    have e0:=aL k2
    obtain⟨_,l,e1,_⟩:=qP S aC
    rw[e1,aH] at e0
    lia
   refine k p (Nt.drop ms.length) _ ((s1.frame.tr I.fr).df tp) (I.bk.same tp) ?_ ?_ ?_
   ·exact s1.free (Frame.free I.fr (I.bk.uv np) np)
   ·rw[ag,Hq _ _ hle]
   ·rw[XU]
    exact tI _ (k2.mono tp.tk)
inductive uw (A:eh)(vs:List V)(H:Hp)(Q:VK)(E':XK):Prop
 |mk (x dx:Addr)(h1:vs=[.ref x])(h2:H x=some (.ins A.work dx []))(h3: ∀f H',Frame [x] H H'->dI A H' x Bk.new f->(∀b∈f.fp,H b=none)->Q .eD H'):uw A vs H Q E'
theorem J0 (f:eO):eK "made" (.ref f.pm) (eK "frees" (.ref f.pf) (eK "lefts" (.ref f.pl) (eK "all_credits" (.ref f.pc) (eK "bills" (.ref f.pb) []))))=lJ f:=by rfl
theorem Cn {H Hk:Hp}{x dx p C:Addr}{fs:List (Str×V)}{f:Str}(F:Frame [x] H Hk)(hx:Hk x=some (.ins C dx fs))(n:Hk p=none):p≠x/\H p=none/\Frame [x] H (upd (upd Hk p (.lst [])) x (.ins C dx (eK f (.ref p) fs)))/\
  upd (upd Hk p (.lst [])) x (.ins C dx (eK f (.ref p) fs)) x=some (.ins C dx (eK f (.ref p) fs))/\upd (upd Hk p (.lst [])) x (.ins C dx (eK f (.ref p) fs)) p=some (.lst [])/\
  (∀q o,q≠x->Hk q=some o->upd (upd Hk p (.lst [])) x (.ins C dx (eK f (.ref p) fs)) q=some o/\q≠p):=by
 have ne:p≠x:=(aK hx n).symm
 refine⟨ne,F.free (by simpa using ne) n,(F.tr (aE.new n).frame).tr (Frame.upd (by simp)),ag,by rw[aA ne,ag],fun q o hq e=>⟨?_,aK e n⟩⟩
 rw[aA hq]
 exact aE.new n _ _ e
theorem Mu:aW ["self"] ["self"] (ax (mem 25 0)):={}
theorem J1 {A:eh}(G:jJ K mg A):ub P w K mg base "Work" A.work 1 ["self"] (uw A):=by
 refine Mm (k:=0) G.Mh G.Mg Mu (fun f cU A' outer s H vs Q E hr h=>?_)
 ·obtain⟨x,dx,rfl,hx,k⟩:=h
  refine⟨_,(ah (fR (pv 0) (bQ av) rfl)
(ah (fR (pv 0) (bQ av) rfl)
(ah (fR (pv 0) (bQ av) rfl)
(ah (fR (pv 0) (bQ av) rfl)
(au (fR (pv 0) (bQ av) rfl)))))),?_⟩
  have F0:Frame [x] H H:=Frame.refl
  refine⟨bp _,fun p1 n1=>⟨_,rfl,x,_,dx,_,rfl,aE.new n1 _ _ hx,G.bJ,G.d9,lt1000 Cd (by decide),?_⟩⟩
  obtain⟨ne1,f1,F1,x1,g1,t1⟩:=Cn (f:="bills") F0 hx n1
  generalize hH1:upd (upd H p1 (.lst [])) x (.ins A.work dx (eK "bills" (.ref p1) _))=H1 at F1 x1 g1
  clear hH1 t1
  refine⟨bp _,fun p2 n2=>⟨_,rfl,x,_,dx,_,rfl,aE.new n2 _ _ x1,G.bJ,G.cH,lt1000 (pl Cd) (by decide),?_⟩⟩
  obtain⟨ne2,f2,F2,x2,g2,t2⟩:=Cn (f:="all_credits") F1 x1 n2
  obtain⟨g1,Tn⟩:=t2 p1 _ ne1 g1
  generalize U9:upd (upd H1 p2 (.lst [])) x (.ins A.work dx (eK "all_credits" (.ref p2) _))=H2 at F2 x2 g1 g2
  clear U9 t2
  refine⟨bp _,fun p3 n3=>⟨_,rfl,x,_,dx,_,rfl,aE.new n3 _ _ x2,G.bJ,G.fF,lt1000 (pl (pl Cd)) (by decide),?_⟩⟩
  obtain⟨ne3,f3,F3,x3,g3,t3⟩:=Cn (f:="lefts") F2 x2 n3
  obtain⟨g1,To⟩:=t3 p1 _ ne1 g1
  obtain⟨g2,Tp⟩:=t3 p2 _ ne2 g2
  generalize Ms:upd (upd H2 p3 (.lst [])) x (.ins A.work dx (eK "lefts" (.ref p3) _))=H3 at F3 x3 g1 g2 g3
  clear Ms t3
  refine⟨bp _,fun p4 n4=>⟨_,rfl,x,_,dx,_,rfl,aE.new n4 _ _ x3,G.bJ,G.fG,lt1000 (pl (pl (pl Cd))) (by decide),?_⟩⟩
  obtain⟨ne4,f4,F4,x4,g4,t4⟩:=Cn (f:="frees") F3 x3 n4
  obtain⟨g1,Tq⟩:=t4 p1 _ ne1 g1
  obtain⟨g2,Tr⟩:=t4 p2 _ ne2 g2
  obtain⟨g3,Ts⟩:=t4 p3 _ ne3 g3
  generalize hH4:upd (upd H3 p4 (.lst [])) x (.ins A.work dx (eK "frees" (.ref p4) _))=H4 at F4 x4 g1 g2 g3 g4
  clear hH4 t4
  refine⟨bp _,fun p5 n5=>⟨_,rfl,x,_,dx,_,rfl,aE.new n5 _ _ x4,G.bJ,G.mi,lt1000 (pl (pl (pl (pl Cd)))) (by decide),?_⟩⟩
  obtain⟨ne5,f5,F5,x5,g5,t5⟩:=Cn (f:="made") F4 x4 n5
  obtain⟨g1,Tt⟩:=t5 p1 _ ne1 g1
  obtain⟨g2,Tu⟩:=t5 p2 _ ne2 g2
  obtain⟨g3,Tv⟩:=t5 p3 _ ne3 g3
  obtain⟨g4,Tw⟩:=t5 p4 _ ne4 g4
  refine k ⟨p1,p2,p3,p4,p5,[],[]⟩ _ F5 ⟨⟨dx,?_⟩,g1,g2,g3,g4,⟨[],g5,.nil⟩,⟨rfl,fun i p e=>by simp at e⟩,⟨rfl,fun i p e=>by simp at e⟩,?_⟩ ?_
  ·rw[x5]
   exact c9 (fun z=>some (HO.ins A.work dx z)) (J0 ⟨p1,p2,p3,p4,p5,[],[]⟩)
  ·simp[eO.fp,Tn,To,Tq,Tt,Tp,Tr,Tu,Ts,Tv,Tw]
  ·intro b hb
   simp only[eO.fp,List.mem_cons,List.not_mem_nil,or_false] at hb
   rcases hb with rfl|rfl|rfl|rfl|rfl
   ·exact f1
   ·exact f2
   ·exact f3
   ·exact f4
   ·exact f5
def iN (A:eh)(H:Hp)(S:Bk)(bs:List Nat)(qs:List Addr):Prop:=Paired (fun(b:Nat) q=>eI H q A.dY (fE b (S.bl b))) bs qs
def gU (A:eh)(H:Hp)(S:Bk)(cs:List Nat)(qs:List Addr):Prop:=Paired (fun(c:Nat) q=>eI H q A.ej (fk c (S.cr c))) cs qs
theorem iN.same {A:eh}{H H':Hp}{S:Bk}{bs:List Nat}{qs:List Addr}(h:iN A H S bs qs)(s:aE H H'):iN A H' S bs qs:=Paired.iD h fun _ _ z=>z.same s
theorem gU.same {A:eh}{H H':Hp}{S:Bk}{bs:List Nat}{qs:List Addr}(h:gU A H S bs qs)(s:aE H H'):gU A H' S bs qs:=Paired.iD h fun _ _ z=>z.same s
inductive J2 (A:eh)(vs:List V)(H:Hp)(Q:VK)(E':XK):Prop
 |mk (p pt:Addr)(S:Bk)(c:Nat)(bs:List Nat)(qs:List Addr)(h1:vs=[.ref p,.ref pt])(h2:eI H p A.ej (fk c (S.cr c)))(h3:H pt=some (.lst (qs.map V.ref)))(h4:iN A H S bs qs)(h5:bs.length<=100)(h6: ∀D H',aE H H'->H D=none->H' D=some (.lst ((bs.map fun b=>oW (S.cr c) (S.bl b) b).map V.bl))->Q (.ref D) H'):J2 A vs H Q E'
theorem vN:aW ["credit","bills"] ["credit","bills"] (ax (top 27)):={}
theorem xv (T:Txt K mg){A:eh}(G:jJ K mg A):fb P w K mg base "row_of_fits" 2 ["credit","bills"] (J2 A):=by
 have Ee:fb P w K mg base "fits" 1 ["credit","bill"] (zS A):=JQ T G
 refine T.w6.fC (k:=1) vN (fun f cU A' outer s H vs Q E hr h=>?_)
 ·obtain⟨p,pt,S,c,bs,qs,rfl,hp,ux,hB,hl,k⟩:=h
  have hlen:=aL hB
  refine⟨_,(au (a9 (gy (tn:=["bill"]) (cn:=["credit"]) (cj:=[0]) rfl (jh (AZ:=[(".0",.local),("bill",.local),("fits",.globalImplicit),("credit",.cell)])) (cF (pv 1)) (fun _ _ _ _=>(eE (i:=0) (show(["bill","credit"]:List Str).Nodup by decide +kernel) rfl (Or.inl rfl))) (fun _ _ _ _=>k4) (fun _ _ _ _=>(fc Ee hr (aa (pv 1) (aa (pv 0) av))))))),?_⟩
  refine⟨_,rfl,pt,rfl,⟨_,bw.of ux⟩,?_⟩
  refine dX (K:=K) (a:=pt) (xs:=qs.map V.ref) (fun D i σ H6=>H D=none/\ ∃v,σ=[v,some (.ref p)]/\aE H H6/\H6 D=some (.lst (((bs.take i).map fun b=>oW (S.cr c) (S.bl b) b).map V.bl))) (fun D hD=>⟨hD,none,rfl,aE.new hD,ag⟩) (fun D i σ H6 _ ⟨_,_,_,t3,_⟩=>bw.of (t3 _ _ ux)) ?_ ?_
  ·rintro D i x σ H6 hx ⟨hD,v,rfl,t3,gJ⟩
   rw[aB] at hx
   obtain⟨q,hq,rfl⟩:=br.mp hx
   have hi:i < bs.length:=by have:=(ak.mp hq).1; lia
   obtain⟨q',sS,lQ⟩:=bB hB (af hi)
   rw[hq] at sS
   obtain rfl:q=q':=aD sS
   have kE:=gX hi
   generalize bs[i]=b at lQ kE
   refine⟨_,rfl,_,rfl,p,q,c,b,_,_,rfl,hp.same t3,lQ.same t3,_,gJ,bf (by rw[ae,ae,bb]; lia),hD,_,rfl,t3.cY hD,?_⟩
   rw[ag,kE,aJ,aJ]
   rfl
  ·rintro D σ H6 hD ⟨_,v,rfl,t3,gJ⟩
   refine k D H6 t3 hD ?_
   rw[gJ,ae,← hlen,aY]
def bD.vs:bD->List V
 | .dY w d u a=>[.str "bill",.str w,.int d,.int u,.int a]
 | .qN w d a=>[.str "pay",.str w,.int d,.int a]
 | .note b d a=>[.str "note",.int b,.int d,.int a]
 | .set c b a=>[.str "set",.int c,.int b,.int a]
 | .fP w=>[.str "sweep",.str w]
 | .jd n=>[.str "undo",.int n]
 | .ask o w d=>[.str (if o then "owed" else "free"),.str w,.int d]
 | .iH _ _ _=>[]
theorem jL {x y:Str}(h:x≠y):V.bl (decide (V.str x=V.str y))=V.bl false:=c9 V.bl (ba fun z=>h (by injection z))
theorem A1 (x:Str):V.bl (decide (V.str x=V.str x))=V.bl true:=c9 V.bl (aG rfl)
theorem Tx {x y:Str}(h:x≠y):V.bl (!decide (V.str x=V.str y))=V.bl true:=by rw[show decide (V.str x=V.str y)=false from ba fun z=>h (by injection z)]; rfl
theorem btN (x:Str):V.bl (!decide (V.str x=V.str x))=V.bl false:=by rw[show decide (V.str x=V.str x)=true from aG rfl]; rfl
theorem vO {x:Int}{n:Nat}{ta tc:TE}{σ:L2.St}{H:Hp}{Q:Bool->Hp->Prop}(ha: ∀R:VK,R (.int x) H->ta σ H R)(hc: ∀R:VK,R (.int (n:Int)) H->tc σ H R)(q:Q (decide (qp x n)) H):
  II (IJ (KY fun i j=> .bl (decide (i<=j))) (KY fun i j=> .bl (decide (i < j))) (tC (.int 0)) ta tc) σ H Q:=by
 refine ha _ ⟨_,_,rfl,rfl,_,rfl,cv (fun d=>hc _ ⟨_,_,rfl,rfl,_,rfl,?_⟩) (fun d=>⟨_,rfl,?_⟩)⟩
 ·have d':(0:Int)<=x:=aM d
  have e:decide (qp x n)=decide (x < (n:Int)):=jC.mpr ⟨fun z=>z.2,fun z=>⟨d',z⟩⟩
  rw[e] at q
  exact q
 ·have d': ¬ (0:Int)<=x:=fun z=>d (aG z)
  have e:decide (qp x n)=false:=ba fun z=>d' z.1
  rw[e] at q
  exact q
inductive vP (vs:List V)(H:Hp)(Q:VK)(E':XK):Prop
 |mk (sd pd:Addr)(S:Bk)(f:fH)(d:bD)(h1:vs=[.ref sd,.ref pd])(h2:dk H sd S f)(h3:H pd=some (.tup (bD.vs d)))(h4:d.tells=true)(h5: ∀H',aE H H'->Q (.str (S.bar d)) H'):vP vs H Q E'
theorem nL:aW ["_law_state","_law_deed","_law_word","_law_spot"] ["_law_state","_law_deed"] (ax (top 59)):={}
theorem xx (T:Txt K mg):fb P w K mg base "_law_barred" 2 ["_law_state","_law_deed"] vP:=by
 have nK:fb P w K mg base "_law_goes" 1 ["_law_state","_law_credit","_law_bill"] z8:=tG T
 refine T.xi.fC (k:=1) nL (fun f cU A outer s H vs Q E hr h=>?_)
 ·obtain⟨sd,pd,S,g,d,rfl,hB,hd,ht,k⟩:=h
  have hu:=jV hr
  have nd:=nL.nd
  refine⟨_,(ah (sv 2 nd (xt (pv 1) ai))
(ah (sv 3 nd (gg ja (by rfl) T.tj NW (aa (eF cK (pv 2) aV (a0 _)) av)))
(ah (bP (PW.pt (pw_and (aX cK (pv 3) ai (a0 _)) (pw_and1 (jS (Bi oU jU ai (xt (pv 1) ai) (mK T.dR (cD hu (pv 0) aV (fun _ _=>rfl))))))))
(au (a9 aV))
bh)
(ah (bP (PW.pt (pw_and (aX og (pv 2) (bQ (aa aV (aa aV av))) (by rfl)) (pw_and1 (jS (Bi oU jU ai (xt (pv 1) (aQ cJ ai (pv 3))) (mK T.dR (cD hu (pv 0) aV (fun _ _=>rfl))))))))
(au (a9 aV))
bh)
(ah (bP (PW.pt (pw_and (aX cK (pv 2) aV (a0 _)) (pw_and1 (jS (gp (fc nK hr (aa (pv 0) (aa (xt (pv 1) ai) (aa (xt (pv 1) ai) av)))))))))
(au (a9 aV))
bh)
(ah (bP (PW.pt (pw_and (aX oT (pv 2) aV (a0 _)) (pw_and1 (aX jU (xt (pv 1) (oS kZ ai)) ai (a0 _)))))
(au (a9 aV))
bh)
(ah (bP (PW.pt (pw_and (aX cK (pv 2) aV (a0 _)) (pw_and1 (aX jU (xt (pv 1) ai) (xt (pv 1) ai) (a0 _)))))
(au (a9 aV))
bh)
(ah (bP (aX cK (pv 2) aV (a0 _))
(au (bP (aX jn (xt (pv 1) ai) (cE (sf rfl) (by rfl) T.JH boot_min (aa (xl (xl (cD hu (pv 0) aV (fun _ _=>rfl)) (xt (pv 1) ai)) ai) (aa (xl (xl (cD hu (pv 0) aV (fun _ _=>rfl)) (xt (pv 1) ai)) ai) av))) (a0 _))
(au (a9 aV))
bh))
bh)
(au (a9 aV)))))))))),?_⟩
  have kk: ∀(t:Str) (H':Hp),S.bar d=t->aE H H'->Q (.str t) H':=fun t H' e z=>e▸k H' z
  clear k
  cases d with
  |jd n=>cases ht
  |ask o w d=>cases ht
  |iH w d l=>cases ht
  |dY wh dy du am=>
   refine⟨_,rfl,pd,_,_,.str "bill",rfl,rfl,cB.of hd,rfl,_,rfl,rfl,.inr ⟨false,(by rw[jL (show("bill":Str)≠"set" by decide +kernel)]),?_⟩⟩
   refine⟨_,rfl,rfl,false,c9 V.bl (by decide +kernel),bV (bV ?_)⟩
   refine⟨_,rfl,(by show 2<=sizeLine; decide),fun p9 n9=>⟨p9,_,rfl,.inl (bw.of ag),rfl,rfl,false,c9 V.bl (by decide +kernel),bV (bV ?_)⟩⟩
   have s9:=aE.new (o:= .lst [V.str "set",.str "note"]) n9
   have Co:=s9 _ _ hd
   refine jK (H':=upd H p9 (.lst [V.str "set",.str "note"])) rfl ?_
   generalize upd H p9 (.lst [V.str "set",.str "note"])=H9 at s9 Co
   refine⟨_,rfl,rfl,false,jL (show("bill":Str)≠"set" by decide +kernel),bV (bV ?_)⟩
   refine⟨_,rfl,rfl,true,Tx (show("bill":Str)≠"sweep" by decide +kernel),fJ ⟨_,rfl,_,rfl,pd,_,_,.int am,rfl,rfl,cB.of Co,rfl,_,_,rfl,rfl,_,rfl,cv (fun z=>?_) (fun z=>?_)⟩⟩
   ·have z':am < 1:=aM z
    exact kk _ _ (aZ z') s9
   have z1: ¬ am < 1:=fun q=>z (aG q)
   refine⟨_,rfl,rfl,true,A1 _,fJ ⟨_,rfl,pd,_,_,.int du,rfl,rfl,cB.of Co,rfl,_,rfl,pd,_,_,.int dy,rfl,rfl,cB.of Co,rfl,_,_,rfl,rfl,_,rfl,cv (fun z=>?_) (fun z=>?_)⟩⟩
   ·have z':du < dy:=aM z
    exact kk _ _ ((aO z1).trans (aZ z')) s9
   have z2: ¬ du < dy:=fun q=>z (aG q)
   refine⟨_,rfl,rfl,false,jL (show("bill":Str)≠"set" by decide +kernel),bV ?_⟩
   exact kk _ _ ((aO z1).trans (aO z2)) s9
  |qN wh dy am=>
   refine⟨_,rfl,pd,_,_,.str "pay",rfl,rfl,cB.of hd,rfl,_,rfl,rfl,.inr ⟨false,(by rw[jL (show("pay":Str)≠"set" by decide +kernel)]),?_⟩⟩
   refine⟨_,rfl,rfl,false,c9 V.bl (by decide +kernel),bV (bV ?_)⟩
   refine⟨_,rfl,(by show 2<=sizeLine; decide),fun p9 n9=>⟨p9,_,rfl,.inl (bw.of ag),rfl,rfl,false,c9 V.bl (by decide +kernel),bV (bV ?_)⟩⟩
   have s9:=aE.new (o:= .lst [V.str "set",.str "note"]) n9
   have Co:=s9 _ _ hd
   refine jK (H':=upd H p9 (.lst [V.str "set",.str "note"])) rfl ?_
   generalize upd H p9 (.lst [V.str "set",.str "note"])=H9 at s9 Co
   refine⟨_,rfl,rfl,false,jL (show("pay":Str)≠"set" by decide +kernel),bV (bV ?_)⟩
   refine⟨_,rfl,rfl,true,Tx (show("pay":Str)≠"sweep" by decide +kernel),fJ ⟨_,rfl,_,rfl,pd,_,_,.int am,rfl,rfl,cB.of Co,rfl,_,_,rfl,rfl,_,rfl,cv (fun z=>?_) (fun z=>?_)⟩⟩
   ·have z':am < 1:=aM z
    exact kk _ _ (aZ z') s9
   have z1: ¬ am < 1:=fun q=>z (aG q)
   refine⟨_,rfl,rfl,false,jL (show("pay":Str)≠"bill" by decide +kernel),bV (bV ?_)⟩
   refine⟨_,rfl,rfl,false,jL (show("pay":Str)≠"set" by decide +kernel),bV ?_⟩
   exact kk _ _ (aO z1) s9
  |fP wh=>
   refine⟨_,rfl,pd,_,_,.str "sweep",rfl,rfl,cB.of hd,rfl,_,rfl,rfl,.inr ⟨false,(by rw[jL (show("sweep":Str)≠"set" by decide +kernel)]),?_⟩⟩
   refine⟨_,rfl,rfl,false,c9 V.bl (by decide +kernel),bV (bV ?_)⟩
   refine⟨_,rfl,(by show 2<=sizeLine; decide),fun p9 n9=>⟨p9,_,rfl,.inl (bw.of ag),rfl,rfl,false,c9 V.bl (by decide +kernel),bV (bV ?_)⟩⟩
   have s9:=aE.new (o:= .lst [V.str "set",.str "note"]) n9
   refine jK (H':=upd H p9 (.lst [V.str "set",.str "note"])) rfl ?_
   generalize upd H p9 (.lst [V.str "set",.str "note"])=H9 at s9
   refine⟨_,rfl,rfl,false,jL (show("sweep":Str)≠"set" by decide +kernel),bV (bV ?_)⟩
   refine⟨_,rfl,rfl,false,btN _,bV (bV ?_)⟩
   refine⟨_,rfl,rfl,false,jL (show("sweep":Str)≠"bill" by decide +kernel),bV (bV ?_)⟩
   refine⟨_,rfl,rfl,false,jL (show("sweep":Str)≠"set" by decide +kernel),bV ?_⟩
   exact kk _ _ rfl s9
  |note bi dy am=>
   refine⟨_,rfl,pd,_,_,.str "note",rfl,rfl,cB.of hd,rfl,_,rfl,rfl,.inr ⟨false,(by rw[jL (show("note":Str)≠"set" by decide +kernel)]),?_⟩⟩
   refine⟨_,rfl,rfl,false,c9 V.bl (by decide +kernel),bV (bV ?_)⟩
   refine⟨_,rfl,(by show 2<=sizeLine; decide),fun p9 n9=>⟨p9,_,rfl,.inl (bw.of ag),rfl,rfl,true,c9 V.bl (by decide +kernel),fJ ?_⟩⟩
   have s9:=aE.new (o:= .lst [V.str "set",.str "note"]) n9
   have Co:=s9 _ _ hd
   have B9:=hB.same s9
   generalize upd H p9 (.lst [V.str "set",.str "note"])=H9 at s9 Co B9
   have hlen:g.iA.length=S.aF.length:=B9.rb.length.symm
   refine vO (x:=bi) (n:=S.aF.length) (fun R q=>⟨_,rfl,_,rfl,_,_,rfl,rfl,pd,_,_,.int bi,rfl,rfl,cB.of Co,rfl,q⟩) (fun R q=>⟨_,rfl,sd,_,rfl,B9.gB,g.pb,_,rfl,.inl (bw.of B9.hb),by rw[ae,hlen]; exact q⟩) (cv (fun z=>?_) (fun z=>?_))
   ·have z': ¬ qp bi S.aF.length:=by simpa using z
    exact kk _ _ (aZ z') s9
   have z0: ¬ ¬ qp bi S.aF.length:=by simpa using z
   refine⟨_,rfl,rfl,false,jL (show("note":Str)≠"set" by decide +kernel),bV (bV ?_)⟩
   refine⟨_,rfl,rfl,true,Tx (show("note":Str)≠"sweep" by decide +kernel),fJ ⟨_,rfl,_,rfl,pd,_,_,.int am,rfl,rfl,cB.of Co,rfl,_,_,rfl,rfl,_,rfl,cv (fun z=>?_) (fun z=>?_)⟩⟩
   ·have z':am < 1:=aM z
    exact kk _ _ ((aO z0).trans (aZ z')) s9
   have z1: ¬ am < 1:=fun q=>z (aG q)
   refine⟨_,rfl,rfl,false,jL (show("note":Str)≠"bill" by decide +kernel),bV (bV ?_)⟩
   refine⟨_,rfl,rfl,false,jL (show("note":Str)≠"set" by decide +kernel),bV ?_⟩
   exact kk _ _ ((aO z0).trans (aO z1)) s9
  |set ci bi am=>
   have XX:g.cps.length=S.credits.length:=hB.rc.length.symm
   refine⟨_,rfl,pd,_,_,.str "set",rfl,rfl,cB.of hd,rfl,_,rfl,rfl,.inr ⟨true,(by rw[A1]),?_⟩⟩
   refine⟨_,rfl,rfl,true,c9 V.bl (by decide +kernel),fJ ?_⟩
   refine vO (x:=ci) (n:=S.credits.length) (fun R q=>⟨_,rfl,pd,_,_,.int ci,rfl,rfl,cB.of hd,rfl,q⟩) (fun R q=>⟨_,rfl,sd,_,rfl,hB.gC,g.pc,_,rfl,.inl (bw.of hB.hc),by rw[ae,XX]; exact q⟩) (cv (fun z=>?_) (fun z=>?_))
   ·have z': ¬ qp ci S.credits.length:=by simpa using z
    exact kk _ _ (aZ z') (aE.refl _)
   have zc: ¬ ¬ qp ci S.credits.length:=by simpa using z
   refine⟨_,rfl,(by show 2<=sizeLine; decide),fun p9 n9=>⟨p9,_,rfl,.inl (bw.of ag),rfl,rfl,true,c9 V.bl (by decide +kernel),fJ ?_⟩⟩
   have s9:=aE.new (o:= .lst [V.str "set",.str "note"]) n9
   have Co:=s9 _ _ hd
   have B9:=hB.same s9
   generalize upd H p9 (.lst [V.str "set",.str "note"])=H9 at s9 Co B9
   have hlen:g.iA.length=S.aF.length:=B9.rb.length.symm
   refine vO (x:=bi) (n:=S.aF.length) (fun R q=>⟨_,rfl,_,rfl,_,_,rfl,rfl,pd,_,_,.int bi,rfl,rfl,cB.of Co,rfl,q⟩) (fun R q=>⟨_,rfl,sd,_,rfl,B9.gB,g.pb,_,rfl,.inl (bw.of B9.hb),by rw[ae,hlen]; exact q⟩) (cv (fun z=>?_) (fun z=>?_))
   ·have z': ¬ qp bi S.aF.length:=by simpa using z
    exact kk _ _ ((aO zc).trans (aZ z')) s9
   have zb: ¬ ¬ qp bi S.aF.length:=by simpa using z
   have ic:=F9.mp zc
   have ib:=F9.mp zb
   obtain⟨c,rfl⟩:=cw ic.1
   obtain⟨b,rfl⟩:=cw ib.1
   have hc:c < S.credits.length:=by have:=ic.2; lia
   have hb:b < S.aF.length:=by have:=ib.2; lia
   refine⟨_,rfl,rfl,true,A1 _,fJ ⟨_,rfl,_,rfl,pd,_,_,.int (c:Int),rfl,rfl,cB.of Co,rfl,_,rfl,pd,_,_,.int (b:Int),rfl,rfl,cB.of Co,rfl,sd,S,g,c,b,rfl,B9,hc,hb,fun Iu Ka=>⟨_,rfl,cv (fun z=>?_) (fun z=>?_)⟩⟩⟩
   ·have z':S.dQ c b=false:=by simpa using z
    exact kk _ _ ((if_neg zc).trans ((if_neg zb).trans (if_pos (by simpa using z')))) (s9.trans Ka)
   have zg: ¬ S.dQ (c:Int).toNat (b:Int).toNat=false:=by simpa using z
   have Mv:=Ka _ _ Co
   have QX:=B9.same Ka
   have Cp:=s9.trans Ka
   refine⟨_,rfl,rfl,true,Tx (show("set":Str)≠"sweep" by decide +kernel),fJ ⟨_,rfl,_,rfl,pd,_,_,.int am,rfl,rfl,cB.of Mv,rfl,_,_,rfl,rfl,_,rfl,cv (fun z=>?_) (fun z=>?_)⟩⟩
   ·have z':am < 1:=aM z
    exact kk _ _ ((aO zc).trans ((aO zb).trans ((aO zg).trans (aZ z')))) Cp
   have z1: ¬ am < 1:=fun q=>z (aG q)
   refine⟨_,rfl,rfl,false,jL (show("set":Str)≠"bill" by decide +kernel),bV (bV ?_)⟩
   obtain⟨p,_,ap,hp⟩:=QX.lc hc
   obtain⟨q,_,aq,hq⟩:=QX.lb hb
   refine⟨_,rfl,rfl,true,A1 _,fJ ?_⟩
   refine⟨_,rfl,pd,_,_,.int am,rfl,rfl,cB.of Mv,rfl,_,rfl,sd,_,rfl,QX.gC,_,rfl,pd,_,_,.int (c:Int),rfl,rfl,cB.of Mv,rfl,g.pc,_,_,.ref p,rfl,rfl,bw.of QX.hc,ap,p,_,_,.int (S.cr c).d,rfl,rfl,bw.of hp,rfl,?_⟩
   refine⟨_,rfl,sd,_,rfl,QX.gB,_,rfl,pd,_,_,.int (b:Int),rfl,rfl,cB.of Mv,rfl,g.pb,_,_,.ref q,rfl,rfl,bw.of QX.hb,aq,q,_,_,.int (S.bl b).d,rfl,rfl,bw.of hq,rfl,_,_,rfl,_,_,rfl,rfl,_,rfl,cv (fun z=>?_) (fun z=>?_)⟩
   ·have z':gQ (S.cr (c:Int).toNat).d (S.bl (b:Int).toNat).d < am:=aM z
    exact kk _ _ ((aO zc).trans ((aO zb).trans ((aO zg).trans ((aO z1).trans (aZ z'))))) Cp
   ·have z': ¬ gQ (S.cr (c:Int).toNat).d (S.bl (b:Int).toNat).d < am:=fun q=>z (aG q)
    exact kk _ _ ((aO zc).trans ((aO zb).trans ((aO zg).trans ((aO z1).trans (aO z'))))) Cp
def Pp (H:Hp)(f f':fH):Prop:= ∀x∈f'.fp,x∈f.fp∨H x=none
def XY (Q:VK)(H:Hp)(sd:Addr)(S:Bk)(f:fH)(d:bD):Prop:=
 ∀v f' H',Frame f.fp H H'->dk H' sd (S.enter d) f'->Pp H f f'->Rp H' (S.LQ d).dt v->Q v H'
inductive uy (vs:List V)(H:Hp)(Q:VK)(E':XK):Prop
 |mk (sd pd:Addr)(S:Bk)(f:fH)(d:bD)(h1:vs=[.ref sd,.ref pd])(h2:dk H sd S f)(h3:H pd=some (.tup (bD.vs d)))(h4:d.tells=true)(h5:S.credits.length < 64)(h6:S.aF.length < 64)(h7:S.made.length + 10000 < sizeLine)(h8:(S.bar d≠""-> ∀H',aE H H'->Q (.str (S.bar d)) H'))(h9:(S.bar d=""->XY Q H sd S f d)):uy vs H Q E'
theorem o4:aW ["_law_state","_law_deed","_law_text","_law_who"] ["_law_state","_law_deed"] (ax (top 60)):={}
theorem rq (T:Txt K mg):fb P w K mg base "_law_enter" 3 ["_law_state","_law_deed"] uy:=by
 have xy:fb P w K mg base "_law_barred" 2 ["_law_state","_law_deed"] vP:=xx T
 have qa:fb P w K mg base "_law_put" 1 ["_law_state","_law_credit","_law_bill","_law_amount"] Ck:=vJ T
 have Af:fb P w K mg base "_law_swept" 2 ["_law_state","_law_who"] Ad:=Ae T
 refine T.zF.fC (k:=2) o4 (fun f cU A outer s H vs Q E hr h=>?_)
 ·obtain⟨sd,pd,S,g,d,rfl,hB,hd,ht,qS,Mt,Fy,kn,ky⟩:=h
  have hu:=jV hr
  have nd:=o4.nd
  refine⟨_,(ah (sv 2 nd (fc xy hr (aa (pv 0) (aa (pv 1) av))))
(ah (bP (aX oT (pv 2) aV (a0 _))
(au (a9 (pv 2)))
bh)
(ah (bP (aX cK (xt (pv 1) ai) aV (a0 _))
(ah (bK (pW (cD hu (pv 0) aV (fun _ _=>rfl)) (bQ (aa (xt (pv 1) ai) (aa (xt (pv 1) ai) (aa (xt (pv 1) ai) (aa (xt (pv 1) ai) (aa (xt (pv 1) ai) av))))))))
(au (a9 (aQ eM (mK T.dR (cD hu (pv 0) aV (fun _ _=>rfl))) ai))))
bh)
(ah (bP (aX cK (xt (pv 1) ai) aV (a0 _))
(ah (bK (pW (cD hu (pv 0) aV (fun _ _=>rfl)) (bQ (aa (xt (pv 1) ai) (aa (xt (pv 1) ai) (aa (xt (pv 1) ai) (aa (oS kZ ai) (aa (xt (pv 1) ai) av))))))))
(au (a9 (aQ eM (mK T.dR (cD hu (pv 0) aV (fun _ _=>rfl))) ai))))
bh)
(ah (bP (aX cK (xt (pv 1) ai) aV (a0 _))
(ah (sv 3 nd (xl (xl (cD hu (pv 0) aV (fun _ _=>rfl)) (xt (pv 1) ai)) ai))
(ah (bK (pW (cD hu (pv 0) aV (fun _ _=>rfl)) (bQ (aa (pv 3) (aa (xt (pv 1) ai) (aa (xt (pv 1) ai) (aa (xt (pv 1) ai) (aa (xt (pv 1) ai) av))))))))
(au (a9 (aQ eM (mK T.dR (cD hu (pv 0) aV (fun _ _=>rfl))) ai)))))
bh)
(ah (bP (aX cK (xt (pv 1) ai) aV (a0 _))
(ah (bK (fc qa hr (aa (pv 0) (aa (xt (pv 1) ai) (aa (xt (pv 1) ai) (aa (xt (pv 1) ai) av))))))
(au (a9 (xt (pv 1) ai))))
bh)
(au (a9 (fc Af hr (aa (pv 0) (aa (xt (pv 1) ai) av))))))))))),?_⟩
  refine⟨_,rfl,_,rfl,sd,pd,S,g,d,rfl,hB,hd,ht,fun H1 s1=>?_⟩
  by_cases oN:S.bar d=""
  case neg=>exact⟨_,rfl,rfl,true,Tx oN,fJ ⟨_,rfl,kn oN H1 s1⟩⟩
  refine⟨_,rfl,rfl,false,(by rw[oN]; exact btN _),bV ?_⟩
  have B1:=hB.same s1
  have lE:=s1 _ _ hd
  have Tz: ∀v f' H',Frame g.fp H1 H'->dk H' sd (S.enter d) f'->Pp H1 g f'->Rp H' (S.LQ d).dt v->Q v H':=fun v f' H' fr b fi r=>ky oN v f' H' (fr.mh s1) b (fun x hx=>(fi x hx).elim .inl fun z=> .inr (s1.free z)) r
  clear ky kn
  have lb:=B1.rb.length
  have lc:=B1.rc.length
  cases d with
  |jd n=>cases ht
  |ask o w d=>cases ht
  |iH w d l=>cases ht
  |dY wh dy du am=>
   refine⟨_,rfl,pd,_,_,.str "bill",rfl,rfl,cB.of lE,rfl,rfl,true,A1 _,fJ ?_⟩
   refine⟨_,rfl,sd,_,rfl,B1.gB,.inl ⟨rfl,_,bw.of B1.hb⟩,_,rfl,pd,_,_,.str wh,rfl,rfl,cB.of lE,rfl,_,rfl,pd,_,_,.int dy,rfl,rfl,cB.of lE,rfl,_,rfl,pd,_,_,.int du,rfl,rfl,cB.of lE,rfl,_,rfl,pd,_,_,.int am,rfl,rfl,cB.of lE,rfl,_,rfl,pd,_,_,.int am,rfl,rfl,cB.of lE,rfl,(by show 5<=sizeLine; decide),fun pr nr=>?_⟩
   have t1:=aE.new (o:= .lst (Rw.vs ⟨wh,dy,du,am,am⟩)) nr
   refine⟨g.pb,_,_,rfl,rfl,t1 _ _ B1.hb,bf (by rw[ae]; lia),?_⟩
   have B2:=B1.iy (r:=⟨wh,dy,du,am,am⟩) nr
   have F2:Frame g.fp H1 (upd (upd H1 pr (.lst (Rw.vs ⟨wh,dy,du,am,am⟩))) g.pb (.lst (g.iA.map V.ref ++ [.ref pr]))):=t1.frame.tr (Frame.upd (by simp[fH.fp]))
   refine jK (H':=upd (upd H1 pr (.lst (Rw.vs ⟨wh,dy,du,am,am⟩))) g.pb (.lst (g.iA.map V.ref ++ [.ref pr]))) rfl ?_
   generalize upd (upd H1 pr (.lst (Rw.vs ⟨wh,dy,du,am,am⟩))) g.pb (.lst (g.iA.map V.ref ++ [.ref pr]))=H2 at B2 F2
   refine⟨_,rfl,sd,_,rfl,B2.gB,_,_,rfl,.inl (bw.of B2.hb),_,_,rfl,rfl,?_⟩
   refine Tz _ (g.iy pr) H2 F2 B2 (fun x hx=>?_) (dr.mpr ?_)
   ·rcases aw.mp ((g.JK pr).mem_iff.mp hx) with rfl|hx
    ·exact .inr nr
    ·exact .inl hx
   ·show V.int _ =V.int (S.aF.length:Int)
    congr 1
    rw[ae]
    show((g.iA ++ [pr]).length:Int) - 1=_
    rw[aH,lb]
    simp
  |qN wh dy am=>
   refine⟨_,rfl,pd,_,_,.str "pay",rfl,rfl,cB.of lE,rfl,rfl,false,jL (show("pay":Str)≠"bill" by decide +kernel),bV ?_⟩
   refine⟨_,rfl,pd,_,_,.str "pay",rfl,rfl,cB.of lE,rfl,rfl,true,A1 _,fJ ?_⟩
   refine⟨_,rfl,sd,_,rfl,B1.gC,.inl ⟨rfl,_,bw.of B1.hc⟩,_,rfl,pd,_,_,.str wh,rfl,rfl,cB.of lE,rfl,_,rfl,pd,_,_,.int dy,rfl,rfl,cB.of lE,rfl,_,rfl,pd,_,_,.int am,rfl,rfl,cB.of lE,rfl,_,rfl,_,rfl,pd,_,_,.int am,rfl,rfl,cB.of lE,rfl,(by show 5<=sizeLine; decide),fun pr nr=>?_⟩
   have t1:=aE.new (o:= .lst (Rw.vs ⟨wh,dy,am,-1,am⟩)) nr
   refine⟨g.pc,_,_,rfl,rfl,t1 _ _ B1.hc,bf (by rw[ae]; lia),?_⟩
   have B2:=B1.fS (r:=⟨wh,dy,am,-1,am⟩) nr
   have F2:Frame g.fp H1 (upd (upd H1 pr (.lst (Rw.vs ⟨wh,dy,am,-1,am⟩))) g.pc (.lst (g.cps.map V.ref ++ [.ref pr]))):=t1.frame.tr (Frame.upd (by simp[fH.fp]))
   refine jK (H':=upd (upd H1 pr (.lst (Rw.vs ⟨wh,dy,am,-1,am⟩))) g.pc (.lst (g.cps.map V.ref ++ [.ref pr]))) rfl ?_
   generalize upd (upd H1 pr (.lst (Rw.vs ⟨wh,dy,am,-1,am⟩))) g.pc (.lst (g.cps.map V.ref ++ [.ref pr]))=H2 at B2 F2
   refine⟨_,rfl,sd,_,rfl,B2.gC,_,_,rfl,.inl (bw.of B2.hc),_,_,rfl,rfl,?_⟩
   refine Tz _ (g.fS pr) H2 F2 B2 (fun x hx=>?_) (dr.mpr ?_)
   ·rcases aw.mp ((g.Fq pr).mem_iff.mp hx) with rfl|hx
    ·exact .inr nr
    ·exact .inl hx
   ·show V.int _ =V.int (S.credits.length:Int)
    congr 1
    rw[ae]
    show((g.cps ++ [pr]).length:Int) - 1=_
    rw[aH,lc]
    simp
  |note bi dy am=>
   obtain⟨ib,ia⟩:=oh oN
   obtain⟨b,rfl⟩:=cw ib.1
   have hb:b < S.aF.length:=by have:=ib.2; lia
   obtain⟨q,_,aq,hq⟩:=B1.lb hb
   refine⟨_,rfl,pd,_,_,.str "note",rfl,rfl,cB.of lE,rfl,rfl,false,jL (show("note":Str)≠"bill" by decide +kernel),bV ?_⟩
   refine⟨_,rfl,pd,_,_,.str "note",rfl,rfl,cB.of lE,rfl,rfl,false,jL (show("note":Str)≠"pay" by decide +kernel),bV ?_⟩
   refine⟨_,rfl,pd,_,_,.str "note",rfl,rfl,cB.of lE,rfl,rfl,true,A1 _,fJ ?_⟩
   refine⟨_,rfl,sd,_,rfl,B1.gB,_,rfl,pd,_,_,.int (b:Int),rfl,rfl,cB.of lE,rfl,g.pb,_,_,.ref q,rfl,rfl,bw.of B1.hb,aq,q,_,_,.str (S.bl b).aC,rfl,rfl,bw.of hq,rfl,?_⟩
   refine⟨_,rfl,sd,_,rfl,B1.gC,.inl ⟨rfl,_,bw.of B1.hc⟩,_,rfl,_,rfl,pd,_,_,.int dy,rfl,rfl,cB.of lE,rfl,_,rfl,pd,_,_,.int am,rfl,rfl,cB.of lE,rfl,_,rfl,pd,_,_,.int (b:Int),rfl,rfl,cB.of lE,rfl,_,rfl,pd,_,_,.int am,rfl,rfl,cB.of lE,rfl,(by show 5<=sizeLine; decide),fun pr nr=>?_⟩
   have t1:=aE.new (o:= .lst (Rw.vs ⟨(S.bl b).aC,dy,am,b,am⟩)) nr
   refine⟨g.pc,_,_,rfl,rfl,t1 _ _ B1.hc,bf (by rw[ae]; lia),?_⟩
   have B2:=B1.fS (r:=⟨(S.bl b).aC,dy,am,b,am⟩) nr
   have F2:Frame g.fp H1 (upd (upd H1 pr (.lst (Rw.vs ⟨(S.bl b).aC,dy,am,b,am⟩))) g.pc (.lst (g.cps.map V.ref ++ [.ref pr]))):=t1.frame.tr (Frame.upd (by simp[fH.fp]))
   refine jK (H':=upd (upd H1 pr (.lst (Rw.vs ⟨(S.bl b).aC,dy,am,b,am⟩))) g.pc (.lst (g.cps.map V.ref ++ [.ref pr]))) rfl ?_
   generalize upd (upd H1 pr (.lst (Rw.vs ⟨(S.bl b).aC,dy,am,b,am⟩))) g.pc (.lst (g.cps.map V.ref ++ [.ref pr]))=H2 at B2 F2
   refine⟨_,rfl,sd,_,rfl,B2.gC,_,_,rfl,.inl (bw.of B2.hc),_,_,rfl,rfl,?_⟩
   refine Tz _ (g.fS pr) H2 F2 B2 (fun x hx=>?_) (dr.mpr ?_)
   ·rcases aw.mp ((g.Fq pr).mem_iff.mp hx) with rfl|hx
    ·exact .inr nr
    ·exact .inl hx
   ·show V.int _ =V.int (S.credits.length:Int)
    congr 1
    rw[ae]
    show((g.cps ++ [pr]).length:Int) - 1=_
    rw[aH,lc]
    simp
  |set ci bi am=>
   obtain⟨ic,ib,_,_,_,_⟩:=m9 oN
   obtain⟨c,rfl⟩:=cw ic.1
   obtain⟨b,rfl⟩:=cw ib.1
   have hc:c < S.credits.length:=by have:=ic.2; lia
   have hb:b < S.aF.length:=by have:=ib.2; lia
   refine⟨_,rfl,pd,_,_,.str "set",rfl,rfl,cB.of lE,rfl,rfl,false,jL (show("set":Str)≠"bill" by decide +kernel),bV ?_⟩
   refine⟨_,rfl,pd,_,_,.str "set",rfl,rfl,cB.of lE,rfl,rfl,false,jL (show("set":Str)≠"pay" by decide +kernel),bV ?_⟩
   refine⟨_,rfl,pd,_,_,.str "set",rfl,rfl,cB.of lE,rfl,rfl,false,jL (show("set":Str)≠"note" by decide +kernel),bV ?_⟩
   refine⟨_,rfl,pd,_,_,.str "set",rfl,rfl,cB.of lE,rfl,rfl,true,A1 _,fJ ?_⟩
   refine⟨_,rfl,_,rfl,pd,_,_,.int (c:Int),rfl,rfl,cB.of lE,rfl,_,rfl,pd,_,_,.int (b:Int),rfl,rfl,cB.of lE,rfl,_,rfl,pd,_,_,.int am,rfl,rfl,cB.of lE,rfl,sd,S,g,c,b,am,rfl,B1,hc,hb,by lia,fun H2 F2 B2=>?_⟩
   have hd2:=B1.tk F2 _ _ lE
   refine⟨_,rfl,pd,_,_,.int am,rfl,rfl,cB.of hd2,rfl,?_⟩
   exact Tz _ g H2 F2 B2 (fun x hx=> .inl hx) (dr.mpr rfl)
  |fP wh=>
   refine⟨_,rfl,pd,_,_,.str "sweep",rfl,rfl,cB.of lE,rfl,rfl,false,jL (show("sweep":Str)≠"bill" by decide +kernel),bV ?_⟩
   refine⟨_,rfl,pd,_,_,.str "sweep",rfl,rfl,cB.of lE,rfl,rfl,false,jL (show("sweep":Str)≠"pay" by decide +kernel),bV ?_⟩
   refine⟨_,rfl,pd,_,_,.str "sweep",rfl,rfl,cB.of lE,rfl,rfl,false,jL (show("sweep":Str)≠"note" by decide +kernel),bV ?_⟩
   refine⟨_,rfl,pd,_,_,.str "sweep",rfl,rfl,cB.of lE,rfl,rfl,false,jL (show("sweep":Str)≠"set" by decide +kernel),bV ?_⟩
   refine⟨_,rfl,_,rfl,pd,_,_,.str wh,rfl,rfl,cB.of lE,rfl,sd,S,g,wh,rfl,B1,qS,Mt,Fy,fun D ms H2 F2 B2 nD hD hT=>?_⟩
   exact Tz _ g H2 F2 B2 (fun x hx=> .inl hx) (jX.mpr ⟨D,ms,rfl,hD,hT.K8⟩)
def bD.word:bD->Str
 | .dY _ _ _ _=>"bill"
 | .qN _ _ _=>"pay"
 | .note _ _ _=>"note"
 | .set _ _ _=>"set"
 | .fP _=>"sweep"
 | .jd _=>"undo"
 | .ask o _ _=>if o then "owed" else "free"
 | .iH _ _ _=>"ages"
theorem uz {d:bD}(h:d.tells=true∨ ∃m,d= .jd m): ∃r,bD.vs d= .str (bD.word d) :: r:=by
 cases d with
 |iH w d l=>rcases h with h|⟨m,h⟩ <;> cases h
 |_=>exact⟨_,rfl⟩
theorem FA {d:bD}(h:d.tells=true):wN (.str (bD.word d)) [.str "set",.str "sweep"]=d.isSet:=by
 cases d with
 |dY _ _ _ _=>show wN (.str "bill") _ =false; decide +kernel
 |qN _ _ _=>show wN (.str "pay") _ =false; decide +kernel
 |note _ _ _=>show wN (.str "note") _ =false; decide +kernel
 |set _ _ _=>show wN (.str "set") _ =true; decide +kernel
 |fP _=>show wN (.str "sweep") _ =true; decide +kernel
 |jd _=>cases h
 |ask _ _ _=>cases h
 |iH _ _ _=>cases h
def gW (H:Hp)(ss:List (Int×bD))(vs:List V):Prop:=Paired (fun(st:Int×bD) v=> ∃p pd,v= .ref p/\H p=some (.tup [.int st.1,.ref pd])/\H pd=some (.tup (bD.vs st.2))/\st.2.tells=true) ss vs
theorem gW.mono {H H':Hp}{ss:List (Int×bD)}{vs:List V}(h:gW H ss vs)(k:cG H H'):gW H' ss vs:=
 Paired.iD h fun _ _ ⟨p,pd,e,q1,q2,t⟩=>⟨p,pd,e,k _ _ q1,k _ _ q2,t⟩
inductive vQ (vs:List V)(H:Hp)(Q:VK)(E':XK):Prop
 |mk (ps:Addr)(ss:List (Int×bD))(us:List V)(h1:vs=[.ref ps])(h2:H ps=some (.lst us))(h3:gW H ss us)(h4:ss.length<=59)(h5:(cI ss Bk.new=none-> ∀H',aE H H'->Q .eD H'))(h6:(∀S,cI ss Bk.new=some S-> ∀sd f H',aE H H'->dk H' sd S f->(∀b∈f.fp,H b=none)->Q (.ref sd) H')):vQ vs H Q E'
theorem nM:aW ["_law_steps","_law_state","_law_number","_law_deed"] ["_law_steps"] (ax (top 61)):={}
theorem xA (T:Txt K mg):fb P w K mg base "_law_worked" 4 ["_law_steps"] vQ:=by
 have mj:fb P w K mg base "_law_begun" 1 [] Fu:=rj T
 have mm:fb P w K mg base "_law_enter" 3 ["_law_state","_law_deed"] uy:=rq T
 refine T.xj.fC (k:=3) nM (fun f cU A outer s H vs Q E hr h=>?_)
 ·obtain⟨ps,ss,us,rfl,mI,Mw,hl,kn,ky⟩:=h
  have nd:=nM.nd
  have hlen:=aL Mw
  refine⟨_,(ah (sv 1 nd (Jh mj (hr.mono (by decide)) rfl))
(ah (dW bu rfl (cF (pv 0)) (iE rfl (bX (gn 2 nd) (bX (gn 3 nd) gr)))
(au (bP (gp (cE eR (by rfl) T.dm eB (aa (fc mm hr (aa (pv 1) (aa (pv 3) av))) (aa (gN (v:= .ty "str") (by rfl) T.Fo boot_str rfl) av))))
(au (a9 Du))
bh)))
(au (a9 (pv 1))))),?_⟩
  refine⟨rfl,fun sd f0 H1 s1 B1 Mb nf=>?_⟩
  refine⟨_,rfl,ps,rfl,⟨_,bw.of (s1 _ _ mI)⟩,?_⟩
  refine eQ (K:=K) (a:=ps) (xs:=us) (fun i σ H2=> ∃(S:Bk) (f:fH) (x2 x3:Option V),σ=[some (.ref ps),some (.ref sd),x2,x3]/\aE H H2/\dk H2 sd S f/\(∀b∈f.fp,H b=none)/\WF S i/\cI ss Bk.new=cI (ss.drop i) S)
   ⟨Bk.new,f0,none,none,rfl,s1,B1,nf,WF.new,rfl⟩ (fun i σ H2 _ ⟨_,_,_,_,_,s2,_⟩=>bw.of (s2 _ _ mI)) ?_ ?_
  ·rintro i x σ H2 hx ⟨S,f2,x2,x3,rfl,s2,B2,Vw,wf,hw⟩
   have hi:i < ss.length:=by have:=(ak.mp hx).1; lia
   obtain⟨v,hv,p,pd,rfl,hp,Cq,ht⟩:=bB Mw (af hi)
   rw[hx] at hv
   obtain rfl:x= .ref p:=aD hv
   have hdr:=NV hi
   rw[hdr] at hw
   generalize ss[i]=st at hp Cq ht hw
   obtain⟨n,d⟩:=st
   have tU:=s2 _ _ hp
   have Pq:=s2 _ _ Cq
   refine⟨p,_,rfl,cB.of tU,rfl,_,_,rfl,_,_,rfl,rfl,?_⟩
   refine⟨_,rfl,_,rfl,sd,pd,S,f2,d,rfl,B2,Pq,ht,by have:=wf.lc; lia,by have:=wf.lb; lia,by have:=wf.lm; rw[fe]; lia,fun hb H3 s3=>?_,fun hb v f3 H3 F3 B3 fi r=>?_⟩
   ·refine⟨_,_,_,true,rfl,.str _,yl (.str (S.bar d)),_,rfl,fJ ?_⟩
    refine kn ?_ _ (s2.trans s3)
    rw[hw]
    show(if S.bar d="" then _ else none)=none
    rw[aO hb]
   ·have hS:Vb (S.LQ d).dt=false:=by cases d <;> first|rfl|cases ht
    refine⟨_,_,_,false,rfl,r.ty,(yl _).trans (c9 some hS),_,rfl,bV ?_⟩
    refine⟨S.enter d,f3,_,_,rfl,F3.same s2 Vw,B3,fun b tW=>?_,wf.enter (by lia) hb,?_⟩
    ·rcases fi b tW with z|z
     ·exact Vw b z
     ·exact s2.free z
    ·rw[hw]
     show(if S.bar d="" then _ else none)=_
     rw[aZ hb]
  ·rintro σ H2 ⟨S,f2,x2,x3,rfl,s2,B2,Vw,wf,hw⟩
   rw[← hlen,List.drop_length] at hw
   exact⟨_,rfl,ky S hw sd f2 H2 s2 B2 Vw⟩
inductive FC (vs:List V)(H:Hp)(Q:VK)(E':XK):Prop
 |mk (pd:Addr)(wd:Str)(r:List V)(h1:vs=[.ref pd])(h2:H pd=some (.tup (.str wd :: r)))(h3: ∀H',aE H H'->Q (.bl (wN (.str wd) [.str "bill",.str "pay",.str "note",.str "set",.str "sweep"])) H'):FC vs H Q E'
theorem xB:aW ["_law_deed"] ["_law_deed"] (ax (top 62)):={}
theorem Ag (T:Txt K mg):fb P w K mg base "_law_tells" 1 ["_law_deed"] FC:=by
 refine T.zG.fC (k:=0) xB (fun f cU A outer s H vs Q E hr h=>?_)
 ·obtain⟨pd,wd,r,rfl,hd,k⟩:=h
  refine⟨_,(au (a9 (eF og (xt (pv 0) ai) (bQ (aa aV (aa aV (aa aV (aa aV (aa aV av)))))) (by rfl)))),?_⟩
  refine⟨_,rfl,pd,_,_,.str wd,rfl,rfl,cB.of hd,cg (j:=0) rfl,(by show 5<=sizeLine; decide),fun p9 n9=>⟨p9,_,rfl,.inl (bw.of ag),rfl,rfl,?_⟩⟩
  exact k _ (aE.new n9)
def Nu (Q:VK)(H:Hp)(ps:Addr)(f:fH)(r:yo×gR):Prop:=
 ∀(t:Addr) (v:V) (vR Di:Addr) (f':fH) (Dj:List V) (H':Hp),H' t=some (.tup [v,.ref vR,.ref Di])->Rp H' r.1.dt v->H' vR=some (.lst Dj)->gW H' r.2.steps Dj->dk H' Di r.2.bk f'->Frame f.fp H H'->Pp H f f'->vR∉f'.fp->(∀a o,a∉f.fp->H a=some o->vR=a->vR=ps)->Q (.ref t) H'
inductive Kb (vs:List V)(H:Hp)(Q:VK)(E':XK):Prop
 |mk (ps sd pd:Addr)(n:Nat)(T:gR)(us:List V)(f:fH)(d:bD)(h1:vs=[.ref ps,.ref sd,.int n,.ref pd])(h2:H ps=some (.lst us))(h3:gW H T.steps us)(h4:dk H sd T.bk f)(h5:ps∉f.fp)(h6:H pd=some (.tup (bD.vs d)))(h7:(d.tells=true∨ ∃m,d= .jd m))(h8:Good T n)(h9:n<=59)(K2:Nu Q H ps f (dZ T n d)):Kb vs H Q E'
theorem vS {T:gR}{n:Int}{d:bD}(h:d.tells=true):dZ T n d=if T.bk.bar d="" then(T.bk.LQ d,(⟨T.steps ++ [(n,d)],T.bk.enter d⟩:gR)) else(.txt (T.bk.bar d),T):=by
 cases d <;> first|rfl|cases h
theorem rz:aW ["_law_steps","_law_state","_law_number","_law_deed","_law_rest","_law_step","_law_later","_law_answer"] ["_law_steps","_law_state","_law_number","_law_deed"] (ax (top 63)):={}
theorem fQ {α:Type}(p:α->Bool){l:List α}{i:Nat}{x:α}(h:l[i]? =some x):(l.take (i + 1)).filter p=(l.take i).filter p ++ (if p x=true then[x] else[]):=by
 rw[F6,h,gj]
 congr 1
 show[x].filter p=_
 by_cases c:p x=true
 ·rw[aZ c,bS c]; rfl
 ·rw[aO c,eA c]; rfl
theorem Cr (T:Txt K mg):fb P w K mg base "_law_done" 5 ["_law_steps","_law_state","_law_number","_law_deed"] Kb:=by
 have xC:fb P w K mg base "_law_worked" 4 ["_law_steps"] vQ:=xA T
 have mm:fb P w K mg base "_law_enter" 3 ["_law_state","_law_deed"] uy:=rq T
 refine T.BJ.fC (k:=4) rz (fun f cU A outer s H vs Q E hr h=>?_)
 ·obtain⟨ps,sd,pd,n,T0,us,g,d,rfl,mI,Mw,hB,Nv,hd,hk,good,hn,k⟩:=h
  have nd:=rz.nd
  have hlen:=aL Mw
  have hT:=good.len
  obtain⟨rr,hvs⟩:=uz hk
  have Vx:H pd=some (.tup (.str (bD.word d) :: rr)):=hvs▸hd
  refine⟨_,(ah (bP (aX cK (xt (pv 3) ai) aV (a0 _))
(ah (sv 4 nd (bQ av))
(ah (dW bu rfl (cF (pv 0)) (gn 5 nd)
(au (bP (PW.pt (pw_or (aX oT (xt (pv 5) ai) (xt (pv 3) ai) (a0 _)) (pw_or1 (aX y3 (xt (xt (pv 5) ai) ai) (bQ (aa aV (aa aV av))) (by rfl)))))
(au (bK (pW (pv 4) (pv 5))))
bh)))
(ah (bP (aX cK (mK T.dR (pv 4)) (mK T.dR (pv 0)) (a0 _))
(au (a9 (cQ (aa aV (aa (pv 0) (aa (pv 1) av))))))
bh)
(ah (sv 6 nd (fc xC hr (aa (pv 4) av)))
(ah (bP (yV (ID (pv 6)))
(au (a9 (cQ (aa aV (aa (pv 0) (aa (pv 1) av))))))
bh)
(au (a9 (cQ (aa aV (aa (pv 4) (aa (pv 6) av)))))))))))
bh)
(ah (sv 7 nd (fc mm hr (aa (pv 1) (aa (pv 3) av))))
(ah (bP (gp (cE eR (by rfl) T.dm eB (aa (pv 7) (aa (gN (v:= .ty "str") (by rfl) T.Fo boot_str rfl) av))))
(au (a9 (cQ (aa (pv 7) (aa (pv 0) (aa (pv 1) av))))))
bh)
(au (a9 (cQ (aa (pv 7) (aa (aQ l6 (pv 0) (bQ (aa (cQ (aa (pv 2) (aa (pv 3) av))) av))) (aa (pv 1) av))))))))),?_⟩
  refine⟨_,rfl,pd,_,_,.str (bD.word d),rfl,rfl,cB.of Vx,cg (j:=0) rfl,rfl,?_⟩
  clear Vx hvs rr
  by_cases ht:d.tells=true
  ·
   have hw:bD.word d≠"undo":=by
    cases d with
    |jd m=>cases ht
    |ask _ _ _=>cases ht
    |iH _ _ _=>cases ht
    |dY _ _ _ _=>show("bill":Str)≠"undo"; decide +kernel
    |qN _ _ _=>show("pay":Str)≠"undo"; decide +kernel
    |note _ _ _=>show("note":Str)≠"undo"; decide +kernel
    |set _ _ _=>show("set":Str)≠"undo"; decide +kernel
    |fP _=>show("sweep":Str)≠"undo"; decide +kernel
   refine⟨false,jL hw,bV ?_⟩
   have wf:=good.wf (by lia)
   rw[vS ht] at k
   refine⟨_,rfl,_,rfl,sd,pd,T0.bk,g,d,rfl,hB,hd,ht,by have:=wf.lc; lia,by have:=wf.lb; lia,by have:=wf.lm; rw[fe]; lia,fun hb H3 s3=>?_,fun hb v f3 H3 F3 B3 fi r=>?_⟩
   ·rw[aO hb] at k
    refine⟨_,rfl,_,_,_,true,rfl,.str _,yl (.str (T0.bk.bar d)),_,rfl,fJ ?_⟩
    refine⟨_,rfl,_,rfl,_,rfl,(by show 3<=sizeLine; decide),fun t nt=>?_⟩
    have s4:=s3.trans (aE.new (o:= .tup [V.str (T0.bk.bar d),.ref ps,.ref sd]) nt)
    exact k t _ ps sd g us _ ag (fL.mpr rfl) (s4 _ _ mI) (Mw.mono s4.tk) (hB.same s4) s4.frame (fun x hx=> .inl hx) Nv (fun _ _ _ _ _=>rfl)
   ·rw[aZ hb] at k
    have hS:Vb (T0.bk.LQ d).dt=false:=by cases d <;> first|rfl|cases ht
    refine⟨_,rfl,_,_,_,false,rfl,r.ty,(yl _).trans (c9 some hS),_,rfl,bV ?_⟩
    have tk3:=hB.tk F3
    have Ht:=F3 _ _ Nv mI
    have XZ:=Mw.mono tk3
    have Nw:=tk3 _ _ hd
    refine⟨_,rfl,_,rfl,_,rfl,_,rfl,(by show 2<=sizeLine; decide),fun p1 n1=>⟨(by show 1<=sizeLine; decide),fun p2 n2=>?_⟩⟩
    have t1:=aE.new (o:= .tup [V.int (n:Int),.ref pd]) n1
    have t2:=aE.new (o:= .lst [V.ref p1]) n2
    have g1:upd (upd H3 p1 (.tup [V.int (n:Int),.ref pd])) p2 (.lst [V.ref p1]) p1=some (.tup [V.int (n:Int),.ref pd]):=t2 _ _ ag
    have g2:upd (upd H3 p1 (.tup [V.int (n:Int),.ref pd])) p2 (.lst [V.ref p1]) p2=some (.lst [V.ref p1]):=ag
    have qd:=t1.trans t2
    refine⟨ps,p2,_,_,rfl,rfl,qd _ _ Ht,g2,?_,fun p4 n4=>?_⟩
    ·refine di (bf ?_)
     show us.length + 1<=1000
     lia
    generalize upd (upd H3 p1 (.tup [V.int (n:Int),.ref pd])) p2 (.lst [V.ref p1])=H4 at qd g1 g2 n4
    have t4:=aE.new (o:= .lst (us ++ [V.ref p1])) n4
    refine⟨_,rfl,(by show 3<=sizeLine; decide),fun t nt=>?_⟩
    have t5:=aE.new (o:= .tup [v,V.ref p4,.ref sd]) nt
    have TB:=(qd.trans t4).trans t5
    have B5:=B3.same TB
    refine k t v p4 sd f3 (us ++ [.ref p1]) _ ag (Rp.mono TB _ r) (t5 _ _ ag) ?_ B5 (F3.df TB) fi (B3.off ?_) (fun a o ha e q=>absurd q.symm (aK (qd _ _ (F3 _ _ ha e)) n4))
    ·exact cy (XZ.mono TB.tk) ⟨p1,pd,rfl,(t4.trans t5) _ _ g1,TB _ _ Nw,ht⟩
    ·exact qd.free n4
  ·
   obtain⟨m,rfl⟩: ∃m,d= .jd m:=hk.resolve_left ht
   refine⟨true,A1 _,fJ ?_⟩
   refine⟨bp _,fun pr nr=>?_⟩
   have s1:aE H (upd H pr (.lst [])):=aE.new nr
   refine⟨_,rfl,ps,rfl,⟨_,bw.of (s1 _ _ mI)⟩,?_⟩
   refine eQ (K:=K) (a:=ps) (xs:=us) (fun i σ H2=> ∃(rs:List V) (x5:Option V),σ=[some (.ref ps),some (.ref sd),some (.int (n:Int)),some (.ref pd),some (.ref pr),x5,none,none]/\aE H H2/\H2 pr=some (.lst rs)/\gW H2 ((T0.steps.take i).filter (cA m)) rs)
    ⟨[],none,rfl,s1,ag,.nil⟩ (fun i σ H2 _ ⟨_,_,_,s2,_⟩=>bw.of (s2 _ _ mI)) ?_ ?_
   ·rintro i x σ H2 hx ⟨rs,x5,rfl,s2,Lb,Lc⟩
    have hi:i < T0.steps.length:=by have:=(ak.mp hx).1; lia
    have qq:=af hi
    obtain⟨v,hv,p,pe,rfl,hp,hpe,Vy⟩:=bB Mw qq
    rw[hx] at hv
    obtain rfl:x= .ref p:=aD hv
    have mC:=fQ (cA m) qq
    generalize T0.steps[i]=st at hp hpe Vy mC
    obtain⟨n0,e⟩:=st
    have tU:=s2 _ _ hp
    have Pr:=s2 _ _ hpe
    have hd2:=s2 _ _ hd
    have Bv:rs.length<=100:=by
     have:=aL Lc
     have:=a7 (cA m) (T0.steps.take i)
     rw[bb] at this
     lia
    have yes:cA m (n0,e)=true-> ∀H3,aE H2 H3->(WD (V.ref pr) [V.ref p] H3 fun l xs y=> ∃(rs:List V) (x5:Option V),[some (V.ref ps),some (.ref sd),some (.int (n:Int)),some (.ref pd),some (.ref pr),some (.ref p),none,none]=[some (.ref ps),some (.ref sd),some (.int (n:Int)),some (.ref pd),some (.ref pr),x5,none,none]/\aE H (upd H3 l (.lst (xs ++ [y])))/\upd H3 l (.lst (xs ++ [y])) pr=some (.lst rs)/\gW (upd H3 l (.lst (xs ++ [y]))) ((T0.steps.take (i + 1)).filter (cA m)) rs):=fun z H3 s3=>by
     refine⟨pr,rs,_,rfl,rfl,s3 _ _ Lb,bf (by lia),rs ++ [.ref p],_,rfl,(s2.trans s3).cY nr,ag,?_⟩
     rw[mC,aZ z]
     have tk:=s3.tk.trans (fj (o:= .lst (rs ++ [.ref p])) (s3 _ _ Lb))
     exact cy (Lc.mono tk) ⟨p,pe,rfl,tk _ _ tU,tk _ _ Pr,Vy⟩
    refine⟨_,rfl,p,_,_,.int n0,rfl,rfl,cB.of tU,rfl,_,rfl,pd,_,_,.int m,rfl,rfl,cB.of hd2,rfl,rfl,_,rfl,cv (fun z=>fJ ?_) (fun z=>?_)⟩
    ·have z':n0≠m:=fun q=>by rw[q] at z; simp at z
     refine⟨_,rfl,.inl ⟨rfl,_,bw.of Lb⟩,_,rfl,yes ?_ H2 (aE.refl _)⟩
     show(!(decide (n0=m) && e.isSet))=true
     rw[ba z']; rfl
    ·have z':n0=m:=by
      by_cases q:n0=m
      ·exact q
      ·exact absurd (by rw[ba (fun w=>q (by injection w))]; rfl) z
     obtain⟨re,hev⟩:=uz (d:=e) (.inl Vy)
     rw[hev] at Pr
     refine⟨_,rfl,p,_,_,.ref pe,rfl,rfl,cB.of tU,rfl,pe,_,_,.str (bD.word e),rfl,rfl,cB.of Pr,cg (j:=0) rfl,(by show 2<=sizeLine; decide),fun p9 n9=>⟨p9,_,rfl,.inl (bw.of ag),rfl,rfl,!e.isSet,c9 V.bl (by rw[aZ rfl,FA Vy]),cv (fun q=>?_) (fun q=>?_)⟩⟩
     ·have t9:=aE.new (o:= .lst [V.str "set",.str "sweep"]) n9
      refine⟨_,rfl,.inl ⟨rfl,_,bw.of (t9 _ _ Lb)⟩,_,rfl,yes ?_ _ t9⟩
      show(!(decide (n0=m) && e.isSet))=true
      rw[aG z',Bool.true_and]; exact q
     ·have t9:=aE.new (o:= .lst [V.str "set",.str "sweep"]) n9
      refine⟨rs,_,rfl,s2.trans t9,t9 _ _ Lb,?_⟩
      have no: ¬ cA m (n0,e)=true:=by
       show ¬ (!(decide (n0=m) && e.isSet))=true
       rw[aG z',Bool.true_and]; exact q
      rw[mC,aO no,bU]
      exact Lc.mono t9.tk
   ·rintro σ H2 ⟨rs,x5,rfl,s2,Lb,Lc⟩
    rw[← hlen,aY] at Lc
    have Bv:=aL Lc
    have Vz:=a7 (cA m) T0.steps
    have o5:dZ T0 n (.jd m)=if(T0.steps.filter (cA m)).length=T0.steps.length then(.txt "no setting",T0) else
      match cI (T0.steps.filter (cA m)) Bk.new with
      |none=>(.txt "needed",T0)
      |some S=>(.txt "undone",⟨T0.steps.filter (cA m),S⟩):=rfl
    have Ld:=hB.same s2
    refine⟨_,rfl,pr,_,rfl,.inl (bw.of Lb),_,rfl,ps,_,rfl,.inl (bw.of (s2 _ _ mI)),rfl,_,rfl,cv (fun z=>?_) (fun z=>?_)⟩
    ·have z':(T0.steps.filter (cA m)).length=T0.steps.length:=by
      have:=aM z
      injection this with this
      lia
     rw[o5,aZ z'] at k
     refine⟨_,rfl,_,rfl,(by show 3<=sizeLine; decide),fun t nt=>?_⟩
     have s4:=s2.trans (aE.new (o:= .tup [V.str "no setting",.ref ps,.ref sd]) nt)
     exact k t _ ps sd g us _ ag (fL.mpr rfl) (s4 _ _ mI) (Mw.mono s4.tk) (hB.same s4) s4.frame (fun x hx=> .inl hx) Nv (fun _ _ _ _ _=>rfl)
    have z': ¬ (T0.steps.filter (cA m)).length=T0.steps.length:=fun q=>z (aG (by congr 1; lia))
    rw[o5,aO z'] at k
    refine⟨_,rfl,pr,T0.steps.filter (cA m),rs,rfl,Lb,Lc,by lia,fun hw H3 s3=>?_,fun S hw sd3 f3 H3 s3 B3 nf=>?_⟩
    ·rw[hw] at k
     refine⟨_,rfl,true,rfl,fJ ⟨_,rfl,_,rfl,(by show 3<=sizeLine; decide),fun t nt=>?_⟩⟩
     have s4:=(s2.trans s3).trans (aE.new (o:= .tup [V.str "needed",.ref ps,.ref sd]) nt)
     exact k t _ ps sd g us _ ag (fL.mpr rfl) (s4 _ _ mI) (Mw.mono s4.tk) (hB.same s4) s4.frame (fun x hx=> .inl hx) Nv (fun _ _ _ _ _=>rfl)
    ·rw[hw] at k
     refine⟨_,rfl,false,rfl,bV ⟨_,rfl,_,rfl,(by show 3<=sizeLine; decide),fun t nt=>?_⟩⟩
     have t4:=aE.new (o:= .tup [V.str "undone",.ref pr,.ref sd3]) nt
     have s4:=(s2.trans s3).trans t4
     refine k t _ pr sd3 f3 rs _ ag (fL.mpr rfl) ((s3.trans t4) _ _ Lb) (Lc.mono (s3.trans t4).tk) (B3.same t4) s4.frame (fun x hx=> .inr (s2.free (nf x hx))) (fun q=>?_) (fun a o ha e q=>absurd q.symm (aK e nr))
     have:=nf pr q
     rw[Lb] at this
     cases this
end
end eN
namespace L2
open PySem PySem.Spec PyProof.Rows
theorem Ah {X:Cx}{scope:Scope}{x y:Str}{c d:Addr}{j k:Nat}(GD:closureFor scope X.env=pure [(x,c),(y,d)]:=by rfl)(my: ∀z∈scope.names,z.2≠ .cell:=by decide +kernel)(mU:scope.kind= .function:=by rfl)(uZ: ∀x∈scope.names,x.2= .local->scope.names.lookup x.1=some .local:=by decide +kernel)
  (hx:X.env.cells.lookup x=some c:=by rfl) (hy:X.env.cells.lookup y=some d:=by rfl) (AZ:List (Str×NameKind)) (Sf:(relabel scope X.env).names=AZ:=by rfl) (Bv: ∀z∈AZ,(z.2= .cell∨z.2= .free)->z.1=x∨z.1=y:=by decide +kernel)
  (hN:X.N[j]? =some x:=by rfl) (hN2:X.N[k]? =some y:=by rfl) (hk:X.env.kindOf x=some .cell∨X.env.kindOf x=some .free:=by exact Or.inl rfl) (K0:X.env.kindOf y=some .cell∨X.env.kindOf y=some .free:=by exact Or.inl rfl)
  (Nb:(relabel scope X.env).names.lookup x=some .cell∨(relabel scope X.env).names.lookup x=some .free:=by exact Or.inl rfl) (X0:(relabel scope X.env).names.lookup y=some .cell∨(relabel scope X.env).names.lookup y=some .free:=by exact Or.inl rfl):sm X scope [(x,c),(y,d)] [x,y] [j,k]:=by
 refine⟨GD,my,mU,uZ,fun z c' h=>?_,fun z h=>?_,.cons ⟨hN,hk,Nb⟩ (.cons ⟨hN2,K0,X0⟩ .nil)⟩
 ·rcases aw.mp (ck h) with e|e
  ·cases e; exact hx
  ·rcases aw.mp e with e|e
   ·cases e; exact hy
   ·cases e
 ·have e:z=x∨z=y:=by
   rcases h with h|h
   ·rw[Sf] at h
    exact Bv _ (ck h) (.inl rfl)
   ·rw[Sf] at h
    exact Bv _ (ck h) (.inr rfl)
  by_cases q:z=x
  ·exact⟨c,by rw[q]; simp[List.lookup]⟩
  ·have q2:z=y:=e.resolve_left q
   have q3:(z == x)=false:=by simpa using q
   exact⟨d,by rw[List.lookup,q3,q2]; simp[List.lookup]⟩
end L2
namespace eN
open PySem L2 PyProof.Rows K3
seal L2.oQ L2.PS L2.PE L2.PT L2.PW L2.PA L2.PC L2.PG L2.KW L2.PI L2.LC L2.KZ L2.PO L2.oE L2.M8 L2.iT L2.IW L2.Og
section
variable {P:Program}{w:World}{K:Frag}{mg:Str->Option Value}{base:Heap}
inductive qe (A:eh)(vs:List V)(H:Hp)(Q:VK)(E':XK):Prop
 |mk (pw p:Addr)(S:Bk)(f:eO)(t:Nat×Nat×Int)(day:Int)(h1:vs=[.ref pw,.ref p,.int day])(h2:dI A H pw S f)(h3:H p=some (.tup [.int t.1,.int t.2.1,.int t.2.2]))(h4:t.1 < S.credits.length)(h5:t.2.1 < S.aF.length)(h6:Q (.bl (decide (S.fh t<=day))) H):qe A vs H Q E'
theorem Ai:aW ["work","setting","day"] ["work","setting","day"] (ax (top 40)):={}
theorem Cs (T:Txt K mg){A:eh}(G:jJ K mg A):fb P w K mg base "counts_at" 2 ["work","setting","day"] (qe A):=by
 have xD:fb P w K mg base "counts_from" 1 ["credit","bill"] (Ec A):=xn T G
 refine T.BF.fC (k:=1) Ai (fun f cU A' outer s H vs Q E hr h=>?_)
 ·obtain⟨pw,p,S,g,t,day,rfl,hW,hp,hc,hb,k⟩:=h
  obtain⟨dw,hw⟩:=hW.obj
  obtain⟨pc,c1,c2⟩:=hW.rc.get hc
  obtain⟨pb,b1,b2⟩:=hW.rb.get hb
  refine⟨_,(au (a9 (eF oU (fc xD hr (aa (xl (bZ (pv 0) rfl) (xt (pv 1) ai)) (aa (xl (bZ (pv 0) rfl) (xt (pv 1) ai)) av))) (pv 2) (a0 _)))),?_⟩
  refine⟨_,rfl,pw,_,dw,_,_,rfl,hw,G.bJ,G.cH,hZ g,_,rfl,p,_,_,.int t.1,rfl,rfl,cB.of hp,rfl,g.pc,_,_,.ref pc,rfl,rfl,bw.of hW.hc,cg (by rw[aB,c1]; rfl),?_⟩
  refine⟨_,rfl,pw,_,dw,_,_,rfl,hw,G.bJ,G.d9,js g,_,rfl,p,_,_,.int t.2.1,rfl,rfl,cB.of hp,rfl,g.pb,_,_,.ref pb,rfl,rfl,bw.of hW.hb,cg (by rw[aB,b1]; rfl),?_⟩
  exact⟨pc,pb,t.1,t.2.1,S.cr t.1,S.bl t.2.1,rfl,c2,b2,_,rfl,_,_,rfl,rfl,k⟩
inductive qf (A:eh)(vs:List V)(H:Hp)(Q:VK)(E':XK):Prop
 |mk (pw:Addr)(S:Bk)(f:eO)(n:Nat)(day:Int)(h1:vs=[.ref pw,.int day])(h2:dI A H pw S f)(h3:WF S n)(h4:S.made.length<=1000000)(h5: ∀D ms H',aE H H'->H D=none->H' D=some (.lst ms)->ir H' (S.made.filter fun t=>decide (S.fh t<=day)) ms->Q (.ref D) H'):qf A vs H Q E'
theorem vT:aW ["work","day"] ["work","day"] (ax (top 39)):={}
theorem xE (T:Txt K mg){A:eh}(G:jJ K mg A):fb P w K mg base "counting_at" 3 ["work","day"] (qf A):=by
 have Ct:fb P w K mg base "counts_at" 2 ["work","setting","day"] (qe A):=Cs T G
 refine T.w9.fC (k:=2) vT (fun f cU A' outer s H vs Q E hr h=>?_)
 ·obtain⟨pw,S,g,n,day,rfl,hW,wf,hz,k⟩:=h
  obtain⟨dw,hw⟩:=hW.obj
  obtain⟨ms,m1,m2⟩:=hW.hm
  have hlen:=aL m2
  refine⟨_,(au (a9 (gy (tn:=["setting"]) (cn:=["work","day"]) (cj:=[0,1]) rfl (Ah (AZ:=[(".0",.local),("setting",.local),("counts_at",.globalImplicit),("day",.cell),("work",.cell)])) (cF (bZ (pv 0) rfl)) (fun _ _ _ _=>(eE (i:=0) (show(["setting","work","day"]:List Str).Nodup by decide +kernel) rfl (Or.inl rfl))) (fun _ _ _ _=>(pK (gp (fc Ct hr (aa (pv 1) (aa (pv 0) (aa (pv 2) av))))))) (fun _ _ _ _=>(pv 0))))),?_⟩
  refine⟨_,rfl,pw,_,dw,_,_,rfl,hw,G.bJ,G.mi,Fs g,g.pm,rfl,⟨_,bw.of m1⟩,?_⟩
  refine dX (K:=K) (a:=g.pm) (xs:=ms) (fun D i σ H6=>H D=none/\ ∃v rs,σ=[v,some (.ref pw),some (.int day)]/\aE H H6/\H6 D=some (.lst rs)/\ir H6 ((S.made.take i).filter fun t=>decide (S.fh t<=day)) rs) (fun D hD=>⟨hD,none,[],rfl,aE.new hD,ag,.nil⟩) (fun D i σ H6 _ ⟨_,_,_,_,t3,_⟩=>bw.of (t3 _ _ m1)) ?_ ?_
  ·rintro D i x σ H6 hx ⟨hD,v,rs,rfl,t3,gJ,hT⟩
   have hi:i < S.made.length:=by have:=(ak.mp hx).1; lia
   have qq:=af hi
   obtain⟨v',hv,p,rfl,hp⟩:=bB m2 qq
   rw[hx] at hv
   obtain rfl:x= .ref p:=aD hv
   have hm:=wf.m _ (bN hi)
   have mC:=fQ (fun t=>decide (S.fh t<=day)) qq
   generalize S.made[i]=t at hp hm mC
   have Lc:rs.length<=1000000:=by
    have:=aL hT
    have:=a7 (fun t=>decide (S.fh t<=day)) (S.made.take i)
    rw[bb] at this
    lia
   refine⟨_,rfl,_,rfl,_,rfl,pw,p,S,g,t,day,rfl,hW.same t3,t3 _ _ hp,hm.1,hm.2,_,rfl,cv (fun z=>?_) (fun z=>?_)⟩
   ·rw[aZ z] at mC
    refine⟨_,rfl,_,gJ,jj Lc,hD,_,rs ++ [.ref p],rfl,t3.cY hD,ag,?_⟩
    rw[mC]
    have tk:=fj (o:= .lst (rs ++ [.ref p])) gJ
    exact cy (hT.mono tk) ⟨p,rfl,tk _ _ (t3 _ _ hp)⟩
   ·rw[aO z,bU] at mC
    refine⟨hD,_,rs,rfl,t3,gJ,?_⟩
    rw[mC]
    exact hT
  ·rintro D σ H6 hD ⟨_,v,rs,rfl,t3,gJ,hT⟩
   rw[← hlen,aY] at hT
   exact k D rs H6 t3 hD gJ hT
def fZ (H:Hp)(l:List (Nat×Int))(vs:List V):Prop:=Paired (fun(t:Nat×Int) v=> ∃p,v= .ref p/\H p=some (.tup [.int t.1,.int t.2])) l vs
theorem fZ.mono {H H':Hp}{l:List (Nat×Int)}{vs:List V}(h:fZ H l vs)(k:cG H H'):fZ H' l vs:=Paired.iD h fun _ _ ⟨p,e,q⟩=>⟨p,e,k _ _ q⟩
theorem fZ.K8 {H:Hp}: ∀{l:List (Nat×Int)} {vs:List V},fZ H l vs->il H (l.map fun t=> .tup [.int t.1,.int t.2]) vs
 |_,_,.nil=>cM.mpr rfl
 |_,_,.cons ⟨p,e,q⟩ t=>by
  subst e
  exact bI.mpr ⟨_,_,rfl,eT q (bI.mpr ⟨_,_,rfl,dr.mpr rfl,bI.mpr ⟨_,_,rfl,dr.mpr rfl,cM.mpr rfl⟩⟩),fZ.K8 t⟩
section
variable (S:Bk)(aU:Bool)(aC:Str)(day:Int)
def pD (k:Nat):Bool:=decide (((S.rows aU).getD k default).aC=aC) && (decide (((S.rows aU).getD k default).a<=day) && decide (0 < S.rest aU k day))
def kD (i:Nat):List (Int×Nat):=((List.range i).filter (pD S aU aC day)).map fun k=>(keyOf aU ((S.rows aU).getD k default),k)
def gD (x:Int×Nat):List Int:=[x.1,(x.2:Int),S.rest aU x.2 day]
end
section
variable {S:Bk}{aU:Bool}{aC:Str}{day:Int}{i:Nat}
theorem FD:kD S aU aC day (i + 1)=kD S aU aC day i ++ (if pD S aU aC day i=true then[(keyOf aU ((S.rows aU).getD i default),i)] else[]):=by
 unfold kD
 rw[oB,gj,aJ]
 congr 1
 by_cases c:pD S aU aC day i=true
 ·rw[aZ c,bS c]; rfl
 ·rw[aO c,eA c]; rfl
theorem TC: ∀x∈kD S aU aC day i,x.2 < i:=by
 intro x hx
 obtain⟨k,hk,rfl⟩:=bG.mp hx
 exact cW.mp (dM.mp hk).1
theorem TF:((kD S aU aC day i).map (·.2)).Nodup:=by
 unfold kD
 rw[dD]
 have e:((fun x:Int×Nat=>x.2) ∘ fun k=>(keyOf aU ((S.rows aU).getD k default),k))=id:=rfl
 rw[e,tS]
 exact jB.filter _
theorem Ef:(kD S aU aC day i).length<=i:=by
 unfold kD
 rw[ae]
 exact a6 (a7 _ _) (by rw[dA]; exact aI _)
theorem Cu:S.dH aU aC day=(eG (kD S aU aC day (S.rows aU).length)).map fun x=>(x.2,S.rest aU x.2 day):=by
 have e:kD S aU aC day (S.rows aU).length=(gq (S.rows aU) aC (keyOf aU)).filter fun x=>decide (((S.rows aU).getD x.2 default).a<=day) && decide (0 < S.rest aU x.2 day):=by
  unfold kD gq
  rw[Lh,iz]
  congr 1
  apply i6
  intro k _
  show pD S aU aC day k=_
  unfold pD
  rw[Bool.and_comm]
  rfl
 rw[e,l8]
 unfold Bk.dH inOrder
 rw[← sX (fun x:Int×Nat=>x.2) (fun k=>decide (((S.rows aU).getD k default).a<=day) && decide (0 < S.rest aU k day)),dD]
 rfl
end
inductive FE (vs:List V)(H:Hp)(Q:VK)(E':XK):Prop
 |mk (sd:Addr)(S:Bk)(f:fH)(n:Nat)(aU:Bool)(aC:Str)(day:Int)(h1:vs=[.ref sd,.str aC,.int day,.int (if aU=true then 1 else 0)])(h2:dk H sd S f)(h3:WF S n)(h4:n<=60)(h5: ∀D ms H',aE H H'->H D=none->H' D=some (.lst ms)->fZ H' (S.dH aU aC day) ms->Q (.ref D) H'):FE vs H Q E'
theorem Pt (aU:Bool)(r:Rw):sj r.vs (2 + (if aU=true then(1:Int) else 0))=some (.int (qO aU r)):=by cases aU <;> rfl
theorem Pu (aU:Bool)(r:Rw):sj r.vs (1 + (if aU=true then(1:Int) else 0))=some (.int (keyOf aU r)):=by cases aU <;> rfl
theorem FF (aU:Bool)(t:Nat×Nat×Int):sj [V.int t.1,.int t.2.1,.int t.2.2] (if aU=true then(1:Int) else 0)=some (.int (spotOf aU t:Int)):=by cases aU <;> rfl
theorem nN:aW ["_law_state","_law_who","_law_day","_law_spot","_law_rows","_law_keys","_law_k","_law_amount","_law_setting","_law_late"] ["_law_state","_law_who","_law_day","_law_spot"] (ax (top 64)):={}
theorem xF (T:Txt K mg):fb P w K mg base "_law_at_day" 1 ["_law_state","_law_who","_law_day","_law_spot"] FE:=by
 refine T.xk.fC (k:=0) nN (fun f cU A outer s H vs Q E hr h=>?_)
 ·obtain⟨sd,S,g,n,aU,aC,day,rfl,hB,wf,hn,k⟩:=h
  have hu:=jV hr
  have nd:=nN.nd
  refine⟨_,(ji (sv 4 nd (cD hu (pv 0) (xl (bQ (aa aV (aa aV av))) (pv 3)) (fun _ _=>rfl)))
(ah (sv 5 nd (bQ av))
(ah (dW bu rfl (ij rfl T.kM (aa (mK T.dR (pv 4)) av)) (gn 6 nd)
(ah (sv 7 nd (xl (xl (pv 4) (pv 6)) (aQ cJ ai (pv 3))))
(ah (dW bu rfl (cF (cD hu (pv 0) aV (fun _ _=>rfl))) (gn 8 nd)
(ah (sv 9 nd (cE (xX rfl) (by rfl) T.Nm boot_max (aa (xl (xl (cD hu (pv 0) aV (fun _ _=>rfl)) (xt (pv 8) ai)) ai) (aa (xl (xl (cD hu (pv 0) aV (fun _ _=>rfl)) (xt (pv 8) ai)) ai) av))))
(au (bP (PW.pt (pw_and (aX cK (xt (pv 8) (pv 3)) (pv 6) (a0 _)) (pw_and1 (aX oU (pv 9) (pv 2) (a0 _)))))
(au (sv 7 nd (aQ eM (pv 7) (xt (pv 8) ai))))
bh))))
(au (bP (PW.pt (pw_and (aX cK (xl (xl (pv 4) (pv 6)) ai) (pv 1) (a0 _)) (pw_and (aX oU (xl (xl (pv 4) (pv 6)) ai) (pv 2) (a0 _)) (pw_and1 (aX jn (pv 7) ai (a0 _))))))
(au (bK (pW (pv 5) (cQ (aa (xl (xl (pv 4) (pv 6)) (aQ cJ ai (pv 3))) (aa (pv 6) (aa (pv 7) av)))))))
bh)))))
(au (a9 (gy (tn:=["_law_key"]) (cn:=[]) (cj:=[]) rfl um (cF (cE qM (by rfl) T.qT boot_sorted (aa (pv 5) av))) (fun _ _ _ _=>(eE (i:=0) (show(["_law_key"]:List Str).Nodup by decide +kernel) rfl (Or.inl rfl))) (fun _ _ _ _=>k4) (fun _ _ _ _=>(cQ (aa (iU (kJ (K:=K) rfl) (pv 0) ai (fun _ _=>rfl)) (aa (iU (kJ (K:=K) rfl) (pv 0) ai (fun _ _=>rfl)) av)))))))))),?_⟩
  refine⟨fun σ' H'=> ∃(pR:Addr) (Hu:List Addr),σ'=[some (.ref sd),some (.str aC),some (.int day),some (.int (if aU=true then 1 else 0)),some (.ref pR),none,none,none,none,none]/\aE H H'/\H' pR=some (.lst (Hu.map V.ref))/\eU H' (S.rows aU) Hu,?_,?_⟩
  ·refine⟨_,rfl,(by show 2<=sizeLine; decide),fun p9 n9=>⟨_,rfl,?_⟩⟩
   have t9:=aE.new (o:= .lst [V.str "credits",.str "bills"]) n9
   have B9:=hB.same t9
   cases aU with
   |true=>exact⟨p9,_,_,.str "bills",rfl,rfl,bw.of ag,rfl,sd,_,rfl,B9.gB,g.pb,g.iA,rfl,t9,B9.hb,B9.rb⟩
   |false=>exact⟨p9,_,_,.str "credits",rfl,rfl,bw.of ag,rfl,sd,_,rfl,B9.gC,g.pc,g.cps,rfl,t9,B9.hc,B9.rc⟩
  rintro σ H1 ⟨pR,Hu,rfl,s1,hpR,hrR⟩
  refine⟨bp _,fun pk nk=>?_⟩
  have X1:=s1.free nk
  have s1k:aE H (upd H1 pk (.lst [])):=(s1.trans (aE.new nk))
  have hlR:=hrR.length
  have Bv:(S.rows aU).length<=60:=by
   cases aU with
   |true=>exact a6 wf.lb hn
   |false=>exact a6 wf.lc hn
  refine⟨_,rfl,pR,_,rfl,.inl (bw.of (aE.new nk _ _ hpR)),((Hu.map V.ref).length:Int),rfl,by lia,by rw[ae]; lia,?_⟩
  rw[dz]
  refine i8 (lo:=0) (n:=(Hu.map V.ref).length) (fun i σ H2=> ∃(xs:List V) (x6 x7 x8 x9:Option V),σ=[some (.ref sd),some (.str aC),some (.int day),some (.int (if aU=true then 1 else 0)),some (.ref pR),some (.ref pk),x6,x7,x8,x9]/\aE H1 H2/\H2 pk=some (.lst xs)/\gz H2 ((kD S aU aC day i).map (gD S aU day)) xs)
   ⟨[],none,none,none,none,rfl,aE.new nk,ag,.nil⟩ ?_ ?_
  ·rintro i σ H2 hi ⟨xs,x6,x7,x8,x9,rfl,s2,hx,hT⟩
   rw[gZ]
   have wR:i < (S.rows aU).length:=by rw[ae] at hi; lia
   obtain⟨r,ri,K9⟩:=hrR.at wR
   have ar:sj (Hu.map V.ref) (i:Int)=some (.ref r):=cg (by rw[aB,ri]; rfl)
   have tU:=s2 _ _ hpR
   have yB:=s2 _ _ K9
   have B2:=hB.same (s1.trans s2)
   obtain⟨ms,m1,m2⟩:=B2.hm
   have Pn:xs.length<=i:=by
    have:=aL hT
    rw[ae] at this
    have:=Ef (S:=S) (aU:=aU) (aC:=aC) (day:=day) (i:=i)
    lia
   refine⟨_,rfl,_,rfl,pR,_,_,.ref r,rfl,rfl,bw.of tU,ar,_,rfl,_,_,rfl,rfl,r,_,_,_,rfl,rfl,bw.of yB,Pt aU _,?_⟩
   refine⟨_,rfl,sd,_,rfl,B2.gM,g.pm,rfl,⟨_,bw.of m1⟩,?_⟩
   refine eQ (K:=K) (a:=g.pm) (xs:=ms) (fun j σ H3=> ∃(x8 x9:Option V),σ=[some (.ref sd),some (.str aC),some (.int day),some (.int (if aU=true then 1 else 0)),some (.ref pR),some (.ref pk),some (.int (i:Int)),some (.int (qO aU ((S.rows aU).getD i default) - (((S.made.take j).filter (S.cnt aU i day)).map (·.2.2)).sum)),x8,x9]/\H3=H2)
    ⟨x8,x9,by simp[List.take_zero],rfl⟩ (fun j σ H3 _ ⟨_,_,_,e⟩=>by rw[e]; exact bw.of m1) ?_ ?_
   ·rintro j x σ H3 hx3 ⟨x8,x9,rfl,rfl⟩
    have hj:j < S.made.length:=by have:=(ak.mp hx3).1; have:=aL m2; lia
    have TH:=af hj
    obtain⟨v,hv,p8,rfl,TJ⟩:=bB m2 TH
    rw[hx3] at hv
    obtain rfl:x= .ref p8:=aD hv
    have Aj:=wf.m _ (bN hj)
    have mC:=fQ (S.cnt aU i day) TH
    generalize S.made[j]=t at TJ Aj mC
    obtain⟨qc,_,ac,hqc⟩:=B2.lc Aj.1
    obtain⟨qb,_,ab,hqb⟩:=B2.lb Aj.2
    refine⟨_,rfl,sd,_,rfl,B2.gC,_,rfl,p8,_,_,.int t.1,rfl,rfl,cB.of TJ,rfl,g.pc,_,_,.ref qc,rfl,rfl,bw.of B2.hc,ac,qc,_,_,.int (S.cr t.1).a,rfl,rfl,bw.of hqc,rfl,?_⟩
    refine⟨_,rfl,sd,_,rfl,B2.gB,_,rfl,p8,_,_,.int t.2.1,rfl,rfl,cB.of TJ,rfl,g.pb,_,_,.ref qb,rfl,rfl,bw.of B2.hb,ab,qb,_,_,.int (S.bl t.2.1).a,rfl,rfl,bw.of hqb,rfl,_,_,rfl,?_⟩
    have no:S.cnt aU i day t=false-> ∃(y8 y9:Option V),[some (V.ref sd),some (.str aC),some (.int day),some (.int (if aU=true then 1 else 0)),some (.ref pR),some (.ref pk),some (.int (i:Int)),some (.int (qO aU ((S.rows aU).getD i default) - (((S.made.take j).filter (S.cnt aU i day)).map (·.2.2)).sum)),some (.ref p8),some (.int (if(S.cr t.1).a < (S.bl t.2.1).a then(S.bl t.2.1).a else(S.cr t.1).a))]=[some (.ref sd),some (.str aC),some (.int day),some (.int (if aU=true then 1 else 0)),some (.ref pR),some (.ref pk),some (.int (i:Int)),some (.int (qO aU ((S.rows aU).getD i default) - (((S.made.take (j + 1)).filter (S.cnt aU i day)).map (·.2.2)).sum)),y8,y9]/\H3=H3:=fun z=>by
     refine⟨some (.ref p8),some (.int (if(S.cr t.1).a < (S.bl t.2.1).a then(S.bl t.2.1).a else(S.cr t.1).a)),?_,rfl⟩
     rw[aO (by rw[z]; exact aR),bU] at mC
     rw[mC]
    refine⟨_,rfl,_,rfl,p8,_,_,_,rfl,rfl,cB.of TJ,FF aU t,_,rfl,rfl,_,rfl,cv (fun z1=>?_) (fun z1=>bV (no ?_))⟩
    ·refine⟨_,rfl,_,rfl,_,_,rfl,rfl,_,rfl,cv (fun z2=>?_) (fun z2=>no ?_)⟩
     ·refine⟨_,rfl,_,rfl,p8,_,_,.int t.2.2,rfl,rfl,cB.of TJ,rfl,_,_,rfl,rfl,some (.ref p8),some (.int (if(S.cr t.1).a < (S.bl t.2.1).a then(S.bl t.2.1).a else(S.cr t.1).a)),?_,rfl⟩
      have e1:spotOf aU t=i:=by
       have:=aM z1
       injection this with this
       lia
      have e2:S.fh t<=day:=aM z2
      have yes:S.cnt aU i day t=true:=by
       unfold Bk.cnt
       rw[aG e1,aG e2]; rfl
      rw[aZ yes] at mC
      rw[mC,aJ,oA]
      show[_,_,_,_,_,_,_,some (V.int (_ - _ - t.2.2)),_,_]=_
      simp only[List.map_cons,List.map_nil,List.sum_cons,List.sum_nil,Int.add_zero,Int.sub_sub]
     ·unfold Bk.cnt
      have e2: ¬ S.fh t<=day:=fun q=>z2 (aG q)
      rw[ba e2,ig]
    ·unfold Bk.cnt
     have e1: ¬ spotOf aU t=i:=fun q=>z1 (aG (by rw[q]))
     rw[ba e1,qu]
   ·rintro σ H3 ⟨x8,x9,rfl,rfl⟩
    have Fy:ms.length=S.made.length:=(aL m2).symm
    have Fn:qO aU ((S.rows aU).getD i default) - (((S.made.take ms.length).filter (S.cnt aU i day)).map (·.2.2)).sum=S.rest aU i day:=by
     rw[Fy,aY]; rfl
    rw[Fn]
    have no:pD S aU aC day i=false-> ∃(ys:List V) (y6 y7 y8 y9:Option V),[some (V.ref sd),some (.str aC),some (.int day),some (.int (if aU=true then 1 else 0)),some (.ref pR),some (.ref pk),some (.int (i:Int)),some (.int (S.rest aU i day)),x8,x9]=[some (.ref sd),some (.str aC),some (.int day),some (.int (if aU=true then 1 else 0)),some (.ref pR),some (.ref pk),y6,y7,y8,y9]/\aE H1 H3/\H3 pk=some (.lst ys)/\gz H3 ((kD S aU aC day (i + 1)).map (gD S aU day)) ys:=fun z=>
     ⟨xs,_,_,_,_,rfl,s2,hx,by rw[FD,aO (by rw[z]; exact aR),bU]; exact hT⟩
    generalize Ho:(S.rows aU).getD i default=row at yB
    have Pw:pD S aU aC day i=(decide (row.aC=aC) && (decide (row.a<=day) && decide (0 < S.rest aU i day))):=by unfold pD; rw[Ho]
    refine⟨_,rfl,_,rfl,pR,_,_,.ref r,rfl,rfl,bw.of tU,ar,r,_,_,.str row.aC,rfl,rfl,bw.of yB,rfl,_,rfl,rfl,_,rfl,cv (fun d1=>?_) (fun d1=>bV (no (by rw[Pw,ba (rn d1)]; rfl)))⟩
    refine⟨_,rfl,_,rfl,pR,_,_,.ref r,rfl,rfl,bw.of tU,ar,r,_,_,.int row.a,rfl,rfl,bw.of yB,rfl,_,rfl,_,_,rfl,rfl,_,rfl,cv (fun d2=>?_) (fun d2=>bV (no (by rw[Pw,ba (fun q=>d2 (aG q)),qu,ig])))⟩
    refine⟨_,rfl,_,_,rfl,rfl,_,rfl,cv (fun d3=>?_) (fun d3=>no (by rw[Pw,ba (fun q=>d3 (aG q)),ig,ig]))⟩
    have yes:pD S aU aC day i=true:=by
     rw[Pw,aG (uu d1),aG (aM d2),aG (aM d3)]; rfl
    refine⟨_,rfl,.inl ⟨rfl,_,bw.of hx⟩,_,rfl,_,rfl,pR,_,_,.ref r,rfl,rfl,bw.of tU,ar,_,rfl,_,_,rfl,rfl,r,_,_,_,rfl,rfl,bw.of yB,Pu aU row,_,rfl,_,rfl,(by show 3<=sizeLine; decide),fun p8 n8=>?_⟩
    have t8:=aE.new (o:= .tup [V.int (keyOf aU row),.int (i:Int),.int (S.rest aU i day)]) n8
    refine⟨pk,xs,_,rfl,rfl,t8 _ _ hx,bf (by lia),xs ++ [.ref p8],_,_,_,_,rfl,(s2.trans t8).cY nk,ag,?_⟩
    rw[FD,aZ yes,aJ,Ho]
    exact gz.snoc (hT.mono (t8.tk.trans (fj (t8 _ _ hx)))) (dG (t8 _ _ hx) _ _ ag)
  ·rintro σ H2 ⟨xs,x6,x7,x8,x9,rfl,s2,hx,hT⟩
   have Pn:=aL hT
   have Vv:=Ef (S:=S) (aU:=aU) (aC:=aC) (day:=day) (i:=(Hu.map V.ref).length)
   have Fw:=TC (S:=S) (aU:=aU) (aC:=aC) (day:=day) (i:=(Hu.map V.ref).length)
   have mI:(Hu.map V.ref).length=(S.rows aU).length:=by rw[ae]; lia
   have hle: ∀x∈kD S aU aC day (Hu.map V.ref).length,x.2 < 1000:=fun x hx=>by have:=Fw x hx; lia
   have j8:S.dH aU aC day=(eG (kD S aU aC day (Hu.map V.ref).length)).map fun x=>(x.2,S.rest aU x.2 day):=by rw[mI]; exact Cu
   have hnd:=TF (S:=S) (aU:=aU) (aC:=aC) (day:=day) (i:=(Hu.map V.ref).length)
   generalize kD S aU aC day (Hu.map V.ref).length=ks at hT Pn Vv hle j8 hnd
   rw[ae] at Pn
   refine⟨_,rfl,pk,xs,_,tZ,rfl,bw.of hx,(by lia),hT,(fun t ht=>?_),(fun t ht u hu=>?_),fun D ys us nD K7 perm le=>?_⟩
   ·obtain⟨x,_,rfl⟩:=bG.mp ht
    simp[gD]
   ·obtain⟨x,yp,rfl⟩:=bG.mp ht
    obtain⟨y,Aa,rfl⟩:=bG.mp hu
    refine qU (u:=[S.rest aU x.2 day]) (v:=[S.rest aU y.2 day]) (hle x yp) (hle y Aa) (fun e=>⟨by rw[e],lO hnd yp Aa e⟩) ?_
    rw[HT.l5,aZ rfl]; rfl
   ·have RS:=tq hle hnd (fun x _=>rfl) perm le
    subst RS
    have tD:=aE.new (o:= .lst ys) nD
    refine⟨D,rfl,⟨_,bw.of ag⟩,?_⟩
    have Fx:=K7.mono tD.tk
    generalize Ms:upd H2 D (.lst ys)=H3 at tD Fx
    have XT:H3 D=some (.lst ys):=by rw[← Ms]; exact ag
    have s3:=(s1.trans s2).trans tD
    clear Ms K7 perm le hT
    have Ti:=aL Fx
    refine dX (K:=K) (a:=D) (xs:=ys) (fun D' i σ H6=>H3 D'=none/\ ∃v rs,σ=[v]/\aE H3 H6/\H6 D'=some (.lst rs)/\fZ H6 (((eG ks).take i).map fun x=>(x.2,S.rest aU x.2 day)) rs) (fun D' vM=>⟨vM,none,[],rfl,aE.new vM,ag,.nil⟩) (fun D' i σ H6 _ ⟨_,_,_,_,t3,_⟩=>bw.of (t3 _ _ XT)) ?_ ?_
    ·rintro D' i x σ H6 JZ ⟨vM,v,rs,rfl,t3,gJ,hP⟩
     have hi:i < (eG ks).length:=by
      have:=(ak.mp JZ).1
      rw[ae] at Ti
      lia
     have g0:((eG ks).map (gD S aU day))[i]? =some (gD S aU day (eG ks)[i]):=by rw[aB,af hi]; rfl
     obtain⟨v',hv,pp,e1,zu⟩:=bB Fx g0
     rw[JZ] at hv
     obtain rfl:x=v':=aD hv
     subst e1
     have kE:=gX hi
     have xu:=t3 _ _ zu
     generalize (eG ks)[i]=z at xu kE
     have Ir:rs.length<=100:=by
      have:=aL hP
      rw[ae,bb] at this
      have:=(cS ks).length_eq
      lia
     refine⟨_,rfl,pp,_,_,.int (z.2:Int),rfl,rfl,cB.of xu,rfl,_,rfl,pp,_,_,.int (S.rest aU z.2 day),rfl,rfl,cB.of xu,rfl,(by show 2<=sizeLine; decide),fun r6 m6=>?_⟩
     have t6:=aE.new (o:= .tup [V.int (z.2:Int),.int (S.rest aU z.2 day)]) m6
     refine⟨rs,t6 _ _ gJ,bf (by lia),vM,_,rs ++ [.ref r6],rfl,(t3.trans t6).cY vM,ag,?_⟩
     rw[kE,aJ]
     have tk:=t6.tk.trans (fj (o:= .lst (rs ++ [.ref r6])) (t6 _ _ gJ))
     exact cy (hP.mono tk) ⟨r6,rfl,fj (o:= .lst (rs ++ [.ref r6])) (t6 _ _ gJ) _ _ ag⟩
    ·rintro D' σ H6 vM ⟨_,v,rs,rfl,t3,gJ,hP⟩
     refine k D' rs H6 (s3.trans t3) (s3.free vM) gJ ?_
     rw[j8]
     rw[← Ti,ae,aY] at hP
     exact hP
theorem Hv {S:Bk}{aU:Bool}{aC:Str}{day:Int}{t:Nat×Int}(h:t∈S.dH aU aC day):t.1 < (S.rows aU).length:=by
 unfold Bk.dH at h
 obtain⟨k,hk,rfl⟩:=bG.mp h
 exact(jo.mp (dM.mp hk).1).1
theorem sG {S:Bk}{aU:Bool}{aC:Str}{day:Int}:(S.dH aU aC day).length<=(S.rows aU).length:=by
 rw[Cu,ae,(cS _).length_eq]
 exact Ef
theorem Eg (fh:Int)(dh:List Int):L2.placeOf fh dh < dh.length + 2:=by
 unfold L2.placeOf
 split
 ·lia
 ·have:=a7 (fun l=>decide (l < fh)) dh
  lia
theorem Hw (l:List Int)(i:Nat)(x:Int):(sZ l i x).length=l.length:=by unfold sZ; rw[List.length_set]
theorem Mx (n:Nat)(b:Int):(List.replicate n [V.int b]).flatten=(List.replicate n b).map V.int:=by
 induction n with
 |zero=>rfl
 |succ n ih=>rw[dj,iY,ih,dj]; rfl
def sH (H:Hp)(ok:Addr->Prop):yo->V->Prop
 | .int i,v=>v= .int i
 | .txt s,v=>v= .str s
 | .sets l,v=> ∃D ms,v= .ref D/\ok D/\H D=some (.lst ms)/\ir H l ms
 | .pairs l,v=> ∃D ms,v= .ref D/\ok D/\H D=some (.lst ms)/\fZ H l ms
 | .ints l,v=> ∃D,v= .ref D/\ok D/\H D=some (.lst (l.map V.int))
theorem sH.keep {H H':Hp}{ok ok':Addr->Prop}{a:yo}{v:V}(h:sH H ok a v)(kl: ∀D xs,ok D->H D=some (.lst xs)->ok' D/\H' D=some (.lst xs))(kt:cG H H'):sH H' ok' a v:=by
 cases a with
 |int i=>exact h
 |txt s=>exact h
 |sets l=>
  obtain⟨D,ms,e,o,z,t⟩:=h
  obtain⟨o',z'⟩:=kl _ _ o z
  exact⟨D,ms,e,o',z',t.mono kt⟩
 |pairs l=>
  obtain⟨D,ms,e,o,z,t⟩:=h
  obtain⟨o',z'⟩:=kl _ _ o z
  exact⟨D,ms,e,o',z',fZ.mono t kt⟩
 |«ints» l=>
  obtain⟨D,e,o,z⟩:=h
  obtain⟨o',z'⟩:=kl _ _ o z
  exact⟨D,e,o',z'⟩
theorem Cv {H:Hp}: ∀l:List Int,il H (l.map Dt.int) (l.map V.int)
 |[]=>cM.mpr rfl
 |x :: l=>bI.mpr ⟨_,_,rfl,dr.mpr rfl,Cv l⟩
theorem fB {X:Cx}{K:Frag}{e:Expr}{f:Str}{pos:Pos}{ta:TE}(h:X.K=K)(he:PE X e ta)(hb:attributeBase e f X.env (eval e X.env)=eval e X.env):PE X (.Attribute e f pos) (RL K ta f):=by subst h; exact bZ he hb
def Cw (A:eh)(aU:Bool):Addr:=if aU=true then A.dY else A.ej
def Ak (aU:Bool)(k:Nat)(r:Rw):List (Str×V):=if aU=true then fE k r else fk k r
theorem yC (aU:Bool)(k:Nat)(r:Rw):(Ak aU k r).lookup ("number":Str)=some (V.int k):=by cases aU <;> rfl
theorem Px (aU:Bool)(k:Nat)(r:Rw):(Ak aU k r).lookup ("day":Str)=some (V.int r.a):=by cases aU <;> rfl
theorem Hx (aU:Bool)(k:Nat)(r:Rw):(Ak aU k r).lookup ("amount":Str)=some (V.int (qO aU r)):=by cases aU <;> rfl
theorem Al {A:eh}(G:jJ K mg A)(aU:Bool):wL K (Cw A aU):=by cases aU; exact G.dg; exact G.en
theorem yD {A:eh}(G:jJ K mg A)(aU:Bool):cf K (Cw A aU) "number":=by cases aU; exact G.eP; exact G.eV
theorem Py {A:eh}(G:jJ K mg A)(aU:Bool):cf K (Cw A aU) "day":=by cases aU; exact G.jk; exact G.nu
theorem Hy {A:eh}(G:jJ K mg A)(aU:Bool):cf K (Cw A aU) "amount":=by cases aU; exact G.lM; exact G.ny
def My (A:eh)(H:Hp)(S:Bk)(aU:Bool)(ks:List Nat)(qs:List Addr):Prop:=Paired (fun(k:Nat) q=>eI H q (Cw A aU) (Ak aU k ((S.rows aU).getD k default))) ks qs
def pR (S:Bk)(aU:Bool)(day:Int)(k:Nat):Bool:=decide (((S.rows aU).getD k default).a<=day) && decide (0 < S.rest aU k day)
inductive rA (A:eh)(vs:List V)(H:Hp)(Q:VK)(E':XK):Prop
 |mk (pw pt:Addr)(S:Bk)(f:eO)(n:Nat)(aU:Bool)(day:Int)(ks:List Nat)(qs:List Addr)(h1:vs=[.ref pw,.ref pt,.int (if aU=true then 1 else 0),.int day])(h2:dI A H pw S f)(h3:WF S n)(h4:S.made.length<=1000000)(h5:H pt=some (.lst (qs.map V.ref)))(h6:My A H S aU ks qs)(h7:ks.length<=100)(h8: ∀D ms H',aE H H'->H D=none->H' D=some (.lst ms)->fZ H' ((ks.filter (pR S aU day)).map fun k=>(k,S.rest aU k day)) ms->Q (.ref D) H'):rA A vs H Q E'
theorem mD:aW ["work","told","place","day","counting","remaining","item","rest"] ["work","told","place","day"] (ax (top 38)):={}
theorem nO (T:Txt K mg){A:eh}(G:jJ K mg A):fb P w K mg base "remaining_at" 4 ["work","told","place","day"] (rA A):=by
 have xG:fb P w K mg base "counting_at" 3 ["work","day"] (qf A):=xE T G
 refine T.vx.fC (k:=3) mD (fun f cU A' outer s H vs Q E hr h=>?_)
 ·obtain⟨pw,pt,S,g,n,aU,day,ks,qs,rfl,hW,wf,hz,ux,hI,Fw,k⟩:=h
  have nd:=mD.nd
  have hlen:=aL hI
  refine⟨_,(ah (sv 4 nd (fc xG hr (aa (pv 0) (aa (pv 3) av))))
(ah (sv 5 nd (bQ av))
(ah (dW bu rfl (cF (pv 1)) (gn 6 nd)
(ah (sv 7 nd (aQ eM (bZ (pv 6) rfl) (cE (lF rfl) (by rfl) T.BK boot_sum (aa (gy (tn:=["setting"]) (cn:=["place","item"]) (cj:=[2,6]) rfl (Ah (AZ:=[(".0",.local),("setting",.local),("item",.cell),("place",.cell)])) (cF (pv 4)) (fun _ _ _ _=>(eE (i:=0) (show(["setting","place","item"]:List Str).Nodup by decide +kernel) rfl (Or.inl rfl))) (fun _ _ _ _=>(pK (aX cK (iU (kJ (K:=K) rfl) (pv 0) (pv 1) (fun _ _=>rfl)) (fB (K:=K) rfl (pv 2) rfl) (a0 _)))) (fun _ _ _ _=>(iU (kJ (K:=K) rfl) (pv 0) ai (fun _ _=>rfl)))) av))))
(au (bP (PW.pt (pw_and (aX oU (bZ (pv 6) rfl) (pv 3) (a0 _)) (pw_and1 (aX jn (pv 7) ai (a0 _)))))
(au (bK (pW (pv 5) (cQ (aa (bZ (pv 6) rfl) (aa (pv 7) av))))))
bh))))
(au (a9 (pv 5)))))),?_⟩
  refine⟨_,rfl,_,rfl,pw,S,g,n,day,rfl,hW,wf,hz,fun pc cs H1 s1 nc hc hT=>?_⟩
  refine⟨bp _,fun pr nr=>?_⟩
  have nr0:=s1.free nr
  have sr:=aE.new (o:= .lst []) nr
  refine⟨_,rfl,pt,rfl,⟨_,bw.of ((s1.trans sr) _ _ ux)⟩,?_⟩
  refine eQ (K:=K) (a:=pt) (xs:=qs.map V.ref) (fun i σ H2=> ∃(rs:List V) (x6 x7:Option V),σ=[some (.ref pw),some (.ref pt),some (.int (if aU=true then 1 else 0)),some (.int day),some (.ref pc),some (.ref pr),x6,x7]/\aE H1 H2/\H2 pr=some (.lst rs)/\fZ H2 (((ks.take i).filter (pR S aU day)).map fun k=>(k,S.rest aU k day)) rs)
   ⟨[],none,none,rfl,sr,ag,.nil⟩ (fun i σ H2 _ ⟨_,_,_,_,s2,_⟩=>bw.of ((s1.trans s2) _ _ ux)) ?_ ?_
  ·rintro i x σ H2 hx ⟨rs,x6,x7,rfl,s2,yB,hP⟩
   rw[aB] at hx
   obtain⟨q,hq,rfl⟩:=br.mp hx
   have hi:i < ks.length:=by have:=(ak.mp hq).1; lia
   have qq:=af hi
   obtain⟨q',sS,lQ⟩:=bB hI qq
   rw[hq] at sS
   obtain rfl:q=q':=aD sS
   have mC:=fQ (pR S aU day) qq
   generalize ks[i]=kk at lQ mC
   have s02:=s1.trans s2
   obtain⟨dq,A2⟩:=lQ.same s02
   have LN:=s2 _ _ hc
   have GH:=hT.mono s2.tk
   have qS:=aL GH
   have Vz:=a7 (fun t=>decide (S.fh t<=day)) S.made
   have Bv:rs.length<=100:=by
    have e1:=aL hP
    have e2:=a7 (pR S aU day) (ks.take i)
    rw[ae] at e1
    rw[bb] at e2
    lia
   refine⟨_,rfl,q,_,dq,_,_,rfl,A2,Al G aU,Hy G aU,Hx aU _ _,_,rfl,pc,rfl,⟨_,bw.of LN⟩,?_⟩
   refine dX (K:=K) (a:=pc) (xs:=cs) (fun D j σ H6=>H2 D=none/\ ∃v,σ=[v,some (.int (if aU=true then 1 else 0)),some (.ref q)]/\aE H2 H6/\H6 D=some (.lst (((((S.made.filter fun t=>decide (S.fh t<=day)).take j).filter fun t=>decide (spotOf aU t=kk)).map (·.2.2)).map V.int))) (fun D hD=>⟨hD,none,rfl,aE.new hD,ag⟩) (fun D j σ H6 _ ⟨_,_,_,t3,_⟩=>bw.of (t3 _ _ LN)) ?_ ?_
   ·rintro D j x σ H6 JZ ⟨hD,v,rfl,t3,gJ⟩
    have hj:j < (S.made.filter fun t=>decide (S.fh t<=day)).length:=by have:=(ak.mp JZ).1; lia
    have TH:=af hj
    obtain⟨v',hv,p,rfl,hp⟩:=bB GH TH
    rw[JZ] at hv
    obtain rfl:x= .ref p:=aD hv
    have Kc:=fQ (fun t=>decide (spotOf aU t=kk)) TH
    generalize (S.made.filter fun t=>decide (S.fh t<=day))[j]=t at hp Kc
    have hsz:((((S.made.filter fun t=>decide (S.fh t<=day)).take j).filter fun t=>decide (spotOf aU t=kk)).map (·.2.2)).length<=1000000:=by
     rw[ae]
     have e1:=a7 (fun t=>decide (spotOf aU t=kk)) ((S.made.filter fun t=>decide (S.fh t<=day)).take j)
     rw[bb] at e1
     lia
    have Nx:=t3 _ _ hp
    refine⟨_,rfl,_,rfl,p,_,_,_,rfl,rfl,cB.of Nx,FF aU t,_,rfl,q,_,dq,_,_,rfl,t3 _ _ A2,Al G aU,yD G aU,yC aU _ _,rfl,_,rfl,cv (fun z=>?_) (fun z=>?_)⟩
    ·have z':spotOf aU t=kk:=by
      have:=aM z
      injection this with this
      lia
     rw[aZ (aG z')] at Kc
     refine⟨_,rfl,p,_,_,.int t.2.2,rfl,rfl,cB.of Nx,rfl,_,gJ,jj (by rw[ae]; exact hsz),hD,_,rfl,t3.cY hD,?_⟩
     rw[ag,Kc,aJ,aJ]
     rfl
    ·have z': ¬ spotOf aU t=kk:=fun e=>z (aG (by rw[e]))
     rw[aO (by rw[ba z']; exact aR),bU] at Kc
     refine⟨hD,_,rfl,t3,?_⟩
     rw[Kc]
     exact gJ
   ·rintro D σ H6 hD ⟨_,v,rfl,t3,gJ⟩
    rw[← qS,aY,iz] at gJ
    refine⟨D,_,rfl,bw.of gJ,_,_,rfl,rfl,?_⟩
    have Fn:qO aU ((S.rows aU).getD kk default) - ((S.made.filter fun t=>decide (spotOf aU t=kk) && decide (S.fh t<=day)).map (·.2.2)).sum=S.rest aU kk day:=rfl
    have Ny:=t3 _ _ yB
    have QY:=hP.mono t3.tk
    have s6:=s2.trans t3
    have no:pR S aU day kk=false-> ∃(rs:List V) (x6 x7:Option V),[some (V.ref pw),some (.ref pt),some (.int (if aU=true then 1 else 0)),some (.int day),some (.ref pc),some (.ref pr),some (.ref q),some (.int (S.rest aU kk day))]=[some (.ref pw),some (.ref pt),some (.int (if aU=true then 1 else 0)),some (.int day),some (.ref pc),some (.ref pr),x6,x7]/\aE H1 H6/\H6 pr=some (.lst rs)/\fZ H6 (((ks.take (i + 1)).filter (pR S aU day)).map fun k=>(k,S.rest aU k day)) rs:=fun z=>by
     rw[aO (by rw[z]; exact aR),bU] at mC
     exact⟨rs,some (.ref q),some (.int (S.rest aU kk day)),rfl,s6,Ny,by rw[mC]; exact QY⟩
    refine⟨_,rfl,q,_,dq,_,_,rfl,t3 _ _ A2,Al G aU,Py G aU,Px aU _ _,_,rfl,_,_,rfl,rfl,_,rfl,cv (fun z1=>?_) (fun z1=>bV (no ?_))⟩
    ·refine⟨_,rfl,_,_,rfl,rfl,_,rfl,cv (fun z2=>?_) (fun z2=>no ?_)⟩
     ·have yes:pR S aU day kk=true:=by
       unfold pR
       rw[aG (aM z1),aG (show 0 < S.rest aU kk day from aM z2)]; rfl
      rw[aZ yes] at mC
      refine⟨_,rfl,.inl ⟨rfl,_,bw.of Ny⟩,_,rfl,q,_,dq,_,_,rfl,t3 _ _ A2,Al G aU,yD G aU,yC aU _ _,_,rfl,(by show 2<=sizeLine; decide),fun p8 n8=>?_⟩
      have t8:=aE.new (o:= .tup [V.int (kk:Int),.int (S.rest aU kk day)]) n8
      refine⟨pr,rs,_,rfl,rfl,t8 _ _ Ny,bf (by lia),rs ++ [.ref p8],some (.ref q),some (.int (S.rest aU kk day)),rfl,(s6.trans t8).cY nr,ag,?_⟩
      rw[mC,aJ]
      have tk:=t8.tk.trans (fj (o:= .lst (rs ++ [.ref p8])) (t8 _ _ Ny))
      have fin:fZ (upd (upd H6 p8 (.tup [V.int (kk:Int),.int (S.rest aU kk day)])) pr (.lst (rs ++ [.ref p8]))) ((((ks.take i).filter (pR S aU day)).map fun k=>(k,S.rest aU k day)) ++ [(kk,S.rest aU kk day)]) (rs ++ [.ref p8]):=cy (QY.mono tk) ⟨p8,rfl,fj (o:= .lst (rs ++ [.ref p8])) (t8 _ _ Ny) _ _ ag⟩
      exact fin
     ·unfold pR
      rw[ba (show ¬ 0 < S.rest aU kk day from fun e=>z2 (aG e)),ig]
    ·unfold pR
     rw[ba (fun e=>z1 (aG e)),qu]
  ·rintro σ H2 ⟨rs,x6,x7,rfl,s2,yB,hP⟩
   rw[ae,← hlen,aY] at hP
   exact⟨_,rfl,k pr rs H2 (s1.trans s2) nr0 yB hP⟩
structure qr (K:Frag)(mg:Str->Option Value)(x:Str)(st:Stmt)(tb:Addr):Prop where
 ex: ∃(f c:Addr) (oc:Value) (od:Option Addr) (kV doc pm:Value) (an:Option Addr) (ct:Value) (Gs:Array (Option Value)),K.lookup f=some ⟨oc,od,.func (fnOf x x (gP st) (dF st) (ax st) .none kV doc pm an (.ref c) ct),Gs⟩/\codeIn K (.ref c) x=true/\
  keepIn K (.ref f)=true/\mg x=some (.ref f)/\codeHdIn K c tb=true
theorem qr.fC {x:Str}{st:Stmt}{tb:Addr}{N ps:List Str}{k:Nat}{sp:Sp}(D:qr K mg x st tb)(KB:K.In base)(S:aW N ps (ax st))
  (fX: ∀(f c:Addr) (A:Around) (outer:List Env) (s:Shared) (H:Hp) (vs:List V) (Q:VK) (E:XK),PySem.W.CodeHd base c tb->ff k (A.deeper (envOfC x (ax st) s.heap.objs.size f (.ref c)))->sp vs H Q E->
   ∃t,oQ (ly sk P w K mg base N x (ax st) f (.ref c) A outer s H E).EJ (dF st) t/\t {nx:=fun _ H'=>Q .eD H',rt:=Q} (L2.start N vs) H)
  (hb: ∀(kV doc pm:Value) (an:Option Addr) (cU ct:Value) (us:List Value),us.length=ps.length->bindArgs (fnOf x x (gP st) (dF st) (ax st) .none kV doc pm an cU ct) ⟨us,[]⟩=pure (ps.zip us):=by intro _ _ _ _ _ _ us hl; rcases us with _|⟨_,_|⟨_,_|⟨_,_⟩⟩⟩ <;> first|(cases hl; done)|rfl)
  (len: ∀vs H Q E,sp vs H Q E->vs.length=ps.length:=by intro _ _ _ _ h; first|(cases h; subst_vars; rfl)|(repeat (first|(obtain⟨rfl,_⟩:=h; rfl; done)|obtain⟨_,h⟩:=h))):fb P w K mg base x (k + 1) ps sp:=by
 obtain⟨f,c,oc,od,kV,doc,pm,an,ct,Gs,lk,rP,hk,hm,hh⟩:=D.ex
 have F:gx K x x st f _:=pJ lk rP hk
 refine⟨f,_,IU lk rP S len fun A outer s H vs Q E hr yd=>?_,hm,hk,F.binds hb⟩
 obtain⟨t,h,q⟩:=fX f c A outer s H vs Q E (PySem.W.codeHd_of_K KB hh) hr yd
 exact⟨t,h.EJ,q⟩
theorem rB {th:List (Int×Nat)}{i:Nat}(h:i < th.length):(th.map Fv).getD i []=Fv (th.getD i (0,0)):=getD_map Fv th i (0,0) [] h
theorem vU {th:List (Int×Nat)}{p:List Nat}(h1: ∀x∈th,x.2 < 1000)(nd:(th.map (·.2)).Nodup)(hp:p.Perm (List.range th.length))(le:p.Pairwise (fun i j=>tZ ((th.map Fv).getD i [])<=tZ ((th.map Fv).getD j []))):p.map (fun i=>th.getD i (0,0))=eG th:=by
 have hr:(List.range th.length).map (fun i=>th.getD i (0,0))=th:=sx th (0,0)
 refine nj tY _ _ ((hp.map _).trans ((List.Perm.of_eq hr).trans (cS th).symm)) ?_ (BO h1 nd)
 rw[rW]
 refine le.imp_of_mem fun{a b} ha hb z=>?_
 have la:a < th.length:=cW.mp (hp.mem_iff.mp ha)
 have lb:b < th.length:=cW.mp (hp.mem_iff.mp hb)
 rw[rB la,rB lb] at z
 exact z
theorem nP {α β:Type}{F:α->β->Prop}{l₁:List α}{l₂:List β}(h:Paired F l₁ l₂)(d:α)(e:β): ∀p:List Nat,(∀i∈p,i < l₁.length)->Paired F (p.map fun i=>l₁.getD i d) (p.map fun i=>l₂.getD i e)
 |[],_=> .nil
 |i :: p,hi=>by
  have hl:=hi i bc
  obtain⟨b,e1,e2⟩:=bB h (af hl)
  refine .cons ?_ (nP h d e p fun j hj=>hi j (aS _ hj))
  show F (l₁.getD i d) (l₂.getD i e)
  rw[aj,aj,af hl,e1]
  exact e2
theorem bL {H H':Hp}{tb:Addr}{pos:Pos}{qual:Str}(t:Tb H tb pos qual)(s:aE H H'):Tb H' tb pos qual:=by
 obtain⟨ps,h1,h2,h3⟩:=t
 refine⟨ps,s _ _ h1,h2,?_⟩
 rcases h3 with h3|⟨c',h3,h4⟩
 ·exact .inl h3
 ·exact .inr ⟨c',h3,s _ _ h4⟩
theorem vV {H:Hp}{tb q C:Addr}{pos:Pos}{qual:Str}{fs:List (Str×V)}(t:Tb H tb pos qual)(h:eI H q C fs):q∉[tb]:=fun z=>by
 obtain⟨ps,h1,_⟩:=t
 obtain⟨dx,e⟩:=h
 rw[ao.mp z,h1] at e
 cases e
def Pz:Pos:=⟨69,30,69,66⟩
def fm (rows:List Rw)(aC:Str)(i:Nat):List Nat:=(List.range i).filter fun k=>decide ((rows.getD k default).aC=aC)
inductive uA (A:eh)(tb:Addr)(vs:List V)(H:Hp)(Q:VK)(E':XK):Prop
 |mk (pb:Addr)(iA:List Addr)(S:Bk)(aC:Str)(h1:vs=[.ref pb,.str aC])(h2:H pb=some (.lst (iA.map V.ref)))(h3:gE H A.dY fE S.aF iA)(h4:S.aF.length < 64)(h5:Tb H tb Pz ((("bills_in_order":Str) ++ ".<locals>.") ++ "<lambda>"))(h6: ∀D qs H',Frame [tb] H H'->Tb H' tb Pz ((("bills_in_order":Str) ++ ".<locals>.") ++ "<lambda>")->H D=none->H' D=some (.lst (qs.map V.ref))->iN A H' S (inOrder S.aF aC (·.b)) qs->Q (.ref D) H'):uA A tb vs H Q E'
theorem kX:aW ["bills","who","theirs"] ["bills","who"] (ax (top 17)):={}
theorem lR (T:Txt K mg){A:eh}{tb:Addr}(G:jJ K mg A)(DL:qr K mg "bills_in_order" (top 17) tb)(KB:K.In base)(BM:BMain mg base):fb P w K mg base "bills_in_order" 2 ["bills","who"] (uA A tb):=by
 refine DL.fC (k:=1) KB kX (fun f c A' outer s H vs Q E CH hr h=>?_)
 ·obtain⟨pb,iA,S,aC,rfl,TK,hO,hl,X2,k⟩:=h
  have nd:=kX.nd
  refine⟨_,(ah (lB (i:=2) nd rfl (Or.inl rfl) (tn:=["bill"]) (cn:=["who"]) (cj:=[1]) rfl (jh (AZ:=[(".0",.local),("bill",.local),("who",.cell)])) (cF (pv 0)) (fun _ _ _ _=>(eE (i:=0) (show(["bill","who"]:List Str).Nodup by decide +kernel) rfl (Or.inl rfl))) (fun _ _ _ _=>(pK (aX cK (fB (K:=K) rfl (pv 0) rfl) (pv 1) (a0 _)))) (fun _ _ _ _=>(pv 0)))
(au (a9 (vv (N:=["bill"]) (y:="bill") rfl T.qT BM rfl CH (hr.mono (by decide)) {} (fun _ _ _ _ _=>(cQ (aa (fB (K:=K) rfl (pv 0) rfl) (aa (fB (K:=K) rfl (pv 0) rfl) av)))) (pv 2))))),?_⟩
  refine⟨_,rfl,pb,rfl,⟨_,bw.of TK⟩,?_⟩
  refine dX (K:=K) (a:=pb) (xs:=iA.map V.ref) (fun D i σ H6=>H D=none/\ ∃(v:Option V) (qs:List Addr),σ=[v,some (.str aC)]/\aE H H6/\H6 D=some (.lst (qs.map V.ref))/\iN A H6 S (fm S.aF aC i) qs) (fun D hD=>⟨hD,none,[],rfl,aE.new hD,ag,.nil⟩) (fun D i σ H6 _ ⟨_,_,_,_,t3,_⟩=>bw.of (t3 _ _ TK)) ?_ ?_
  ·rintro D i x σ H6 hx ⟨hD,v,qs,rfl,t3,gJ,hB⟩
   rw[aB] at hx
   obtain⟨q,hq,rfl⟩:=br.mp hx
   have hi:i < S.aF.length:=by have:=(ak.mp hq).1; have:=hO.1; lia
   obtain⟨dq,A2⟩:=(hO.2 i q hq).same t3
   have hql:qs.length<=100:=by
    have e1:=aL hB
    have e2:(fm S.aF aC i).length<=i:=a6 (a7 _ _) (by rw[dA]; exact aI _)
    lia
   have rC:fm S.aF aC (i + 1)=fm S.aF aC i ++ (if decide ((S.aF.getD i default).aC=aC)=true then[i] else[]):=by
    unfold fm
    rw[oB,gj]
    congr 1
    by_cases z:decide ((S.aF.getD i default).aC=aC)=true
    ·rw[aZ z,bS (p:=fun k=>decide ((S.aF.getD k default).aC=aC)) z]; rfl
    ·rw[aO z,eA (p:=fun k=>decide ((S.aF.getD k default).aC=aC)) z]; rfl
   refine⟨_,rfl,q,_,dq,_,_,rfl,A2,G.en,G.kO,D3 _ _,_,rfl,rfl,_,rfl,cv (fun z=>?_) (fun z=>?_)⟩
   ·rw[aZ (aG (uu z))] at rC
    refine⟨_,rfl,_,gJ,bf (by rw[ae]; lia),hD,_,qs ++ [q],rfl,t3.cY hD,by rw[ag,aJ]; rfl,?_⟩
    rw[rC]
    have kp: ∀{y C:Addr} {gs:List (Str×V)},eI H6 y C gs->eI (upd H6 D (.lst (qs.map V.ref ++ [V.ref q]))) y C gs:=fun{y C gs} ⟨dy,ey⟩=>⟨dy,by rw[aA (mx ey gJ (by intro w; cases w))]; exact ey⟩
    exact cy (Paired.iD hB fun _ _ w=>kp w) (kp ⟨dq,A2⟩)
   ·rw[aO (by rw[ba (rn z)]; exact aR),bU] at rC
    refine⟨hD,_,qs,rfl,t3,gJ,?_⟩
    rw[rC]
    exact hB
  ·rintro D σ H6 hD ⟨_,v,qs,rfl,t3,gJ,hB⟩
   have Mt:(iA.map V.ref).length=S.aF.length:=by rw[ae]; exact hO.1
   rw[Mt] at hB
   have HA:=bL X2 t3
   have hth:gq S.aF aC (·.b)=(fm S.aF aC S.aF.length).map fun k=>((S.bl k).b,k):=rfl
   have Fw: ∀x∈fm S.aF aC S.aF.length,x < S.aF.length:=fun x hx=>cW.mp (dM.mp hx).1
   have L5:(fm S.aF aC S.aF.length).Nodup:=jB.filter _
   have X3:(fm S.aF aC S.aF.length).length<=S.aF.length:=a6 (a7 _ _) (by rw[dA]; exact aI _)
   have j8:inOrder S.aF aC (·.b)=(eG ((fm S.aF aC S.aF.length).map fun k=>((S.bl k).b,k))).map (·.2):=rfl
   generalize fm S.aF aC S.aF.length=ks at hB Fw L5 X3 j8
   have X4:=aL hB
   have Kd:((ks.map fun k=>((S.bl k).b,k)):List (Int×Nat)).length=ks.length:=ae _
   have rD: ∀x∈(ks.map fun k=>((S.bl k).b,k)),x.2 < 1000:=fun x hx=>by
    obtain⟨k0,QN,rfl⟩:=bG.mp hx
    have:=Fw k0 QN
    show k0 < 1000
    lia
   have hnd:((ks.map fun k=>((S.bl k).b,k)).map (·.2)).Nodup:=by
    rw[dD]
    have e:((fun x:Int×Nat=>x.2) ∘ fun k=>((S.bl k).b,k))=id:=rfl
    rw[e,tS]
    exact L5
   have vW: ∀i,i < ks.length->(ks.map fun k=>((S.bl k).b,k)).getD i (0,0)=((S.bl (ks.getD i 0)).b,ks.getD i 0):=fun i hi=>getD_map (fun k=>((S.bl k).b,k)) ks i 0 (0,0) hi
   generalize X5:(ks.map fun k=>((S.bl k).b,k))=th at Kd rD hnd vW j8
   refine⟨_,rfl,D,qs.map V.ref,th.map Fv,tZ,rfl,bw.of gJ,by rw[ae]; lia,by rw[ae,ae]; lia,HA,(fun t ht=>?_),(fun t ht u hu=>?_),fun i hi H2 fr R hR=>?_,fun D2 p H2 hp le fr GH Iv Hs=>?_⟩
   ·obtain⟨x,_,rfl⟩:=bG.mp ht
    simp[Fv]
   ·obtain⟨x,yp,rfl⟩:=bG.mp ht
    obtain⟨y,Aa,rfl⟩:=bG.mp hu
    exact qU (rD x yp) (rD y Aa) (fun e=>⟨rfl,lO hnd yp Aa e⟩) rfl
   ·rw[ae] at hi
    have wR:i < ks.length:=by lia
    obtain⟨q,e1,e2⟩:=bB hB (af wR)
    have X6:(qs.map V.ref).getD i .eD= .ref q:=by rw[aj,aB,e1]; rfl
    have X7:ks.getD i 0=ks[i]:=by rw[aj,af wR]; rfl
    obtain⟨dq,A2⟩:=e2.frame fr (vV HA e2)
    rw[rB (by lia),vW i wR,X7] at hR
    rw[X6]
    exact⟨_,rfl,q,_,dq,_,_,rfl,A2,G.en,G.nv,JL _ _,_,rfl,q,_,dq,_,_,rfl,A2,G.en,G.eV,lI _ _,(by show 2<=sizeLine; decide),fun p np=>hR p np⟩
   ·rw[ae] at hp
    have jb: ∀i∈p,i < ks.length:=fun i hi=>by have:=cW.mp (hp.mem_iff.mp hi); lia
    have PB:=vU rD hnd (by rw[Kd,X4]; exact hp) le
    have Ld:iN A H2 S ks qs:=Paired.iD hB fun _ _ w=>w.frame fr (vV HA w)
    refine k D2 (p.map fun i=>qs.getD i tb) H2 ((t3.frame).tr fr) GH (t3.free Iv) ?_ ?_
    ·rw[Hs,dD]
     congr 2
     apply fO
     intro i hi
     exact getD_map V.ref qs i tb .eD (by have:=jb i hi; lia)
    ·rw[j8,← PB,dD]
     have e:p.map ((fun x:Int×Nat=>x.2) ∘ fun i=>th.getD i (0,0))=p.map fun i=>ks.getD i 0:=fO fun i hi=>by
      show(th.getD i (0,0)).2=_
      rw[vW i (jb i hi)]
     rw[e]
     exact nP Ld 0 tb p jb
def PD:Pos:=⟨72,30,72,72⟩
inductive uB (A:eh)(tb:Addr)(vs:List V)(H:Hp)(Q:VK)(E':XK):Prop
 |mk (pb:Addr)(iA:List Addr)(S:Bk)(aC:Str)(h1:vs=[.ref pb,.str aC])(h2:H pb=some (.lst (iA.map V.ref)))(h3:gE H A.ej fk S.credits iA)(h4:S.credits.length < 64)(h5:Tb H tb PD ((("credits_in_order":Str) ++ ".<locals>.") ++ "<lambda>"))(h6: ∀D qs H',Frame [tb] H H'->Tb H' tb PD ((("credits_in_order":Str) ++ ".<locals>.") ++ "<lambda>")->H D=none->H' D=some (.lst (qs.map V.ref))->gU A H' S (inOrder S.credits aC (·.a)) qs->Q (.ref D) H'):uB A tb vs H Q E'
theorem jF:aW ["all_credits","who","theirs"] ["all_credits","who"] (ax (top 18)):={}
theorem kj (T:Txt K mg){A:eh}{tb:Addr}(G:jJ K mg A)(DL:qr K mg "credits_in_order" (top 18) tb)(KB:K.In base)(BM:BMain mg base):fb P w K mg base "credits_in_order" 2 ["all_credits","who"] (uB A tb):=by
 refine DL.fC (k:=1) KB jF (fun f c A' outer s H vs Q E CH hr h=>?_)
 ·obtain⟨pb,iA,S,aC,rfl,TK,hO,hl,X2,k⟩:=h
  have nd:=jF.nd
  refine⟨_,(ah (lB (i:=2) nd rfl (Or.inl rfl) (tn:=["credit"]) (cn:=["who"]) (cj:=[1]) rfl (jh (AZ:=[(".0",.local),("credit",.local),("who",.cell)])) (cF (pv 0)) (fun _ _ _ _=>(eE (i:=0) (show(["credit","who"]:List Str).Nodup by decide +kernel) rfl (Or.inl rfl))) (fun _ _ _ _=>(pK (aX cK (fB (K:=K) rfl (pv 0) rfl) (pv 1) (a0 _)))) (fun _ _ _ _=>(pv 0)))
(au (a9 (vv (N:=["credit"]) (y:="credit") rfl T.qT BM rfl CH (hr.mono (by decide)) {} (fun _ _ _ _ _=>(cQ (aa (fB (K:=K) rfl (pv 0) rfl) (aa (fB (K:=K) rfl (pv 0) rfl) av)))) (pv 2))))),?_⟩
  refine⟨_,rfl,pb,rfl,⟨_,bw.of TK⟩,?_⟩
  refine dX (K:=K) (a:=pb) (xs:=iA.map V.ref) (fun D i σ H6=>H D=none/\ ∃(v:Option V) (qs:List Addr),σ=[v,some (.str aC)]/\aE H H6/\H6 D=some (.lst (qs.map V.ref))/\gU A H6 S (fm S.credits aC i) qs) (fun D hD=>⟨hD,none,[],rfl,aE.new hD,ag,.nil⟩) (fun D i σ H6 _ ⟨_,_,_,_,t3,_⟩=>bw.of (t3 _ _ TK)) ?_ ?_
  ·rintro D i x σ H6 hx ⟨hD,v,qs,rfl,t3,gJ,hB⟩
   rw[aB] at hx
   obtain⟨q,hq,rfl⟩:=br.mp hx
   have hi:i < S.credits.length:=by have:=(ak.mp hq).1; have:=hO.1; lia
   obtain⟨dq,A2⟩:=(hO.2 i q hq).same t3
   have hql:qs.length<=100:=by
    have e1:=aL hB
    have e2:(fm S.credits aC i).length<=i:=a6 (a7 _ _) (by rw[dA]; exact aI _)
    lia
   have rC:fm S.credits aC (i + 1)=fm S.credits aC i ++ (if decide ((S.credits.getD i default).aC=aC)=true then[i] else[]):=by
    unfold fm
    rw[oB,gj]
    congr 1
    by_cases z:decide ((S.credits.getD i default).aC=aC)=true
    ·rw[aZ z,bS (p:=fun k=>decide ((S.credits.getD k default).aC=aC)) z]; rfl
    ·rw[aO z,eA (p:=fun k=>decide ((S.credits.getD k default).aC=aC)) z]; rfl
   refine⟨_,rfl,q,_,dq,_,_,rfl,A2,G.dg,G.k8,JM _ _,_,rfl,rfl,_,rfl,cv (fun z=>?_) (fun z=>?_)⟩
   ·rw[aZ (aG (uu z))] at rC
    refine⟨_,rfl,_,gJ,bf (by rw[ae]; lia),hD,_,qs ++ [q],rfl,t3.cY hD,by rw[ag,aJ]; rfl,?_⟩
    rw[rC]
    have kp: ∀{y C:Addr} {gs:List (Str×V)},eI H6 y C gs->eI (upd H6 D (.lst (qs.map V.ref ++ [V.ref q]))) y C gs:=fun{y C gs} ⟨dy,ey⟩=>⟨dy,by rw[aA (mx ey gJ (by intro w; cases w))]; exact ey⟩
    exact cy (Paired.iD hB fun _ _ w=>kp w) (kp ⟨dq,A2⟩)
   ·rw[aO (by rw[ba (rn z)]; exact aR),bU] at rC
    refine⟨hD,_,qs,rfl,t3,gJ,?_⟩
    rw[rC]
    exact hB
  ·rintro D σ H6 hD ⟨_,v,qs,rfl,t3,gJ,hB⟩
   have Mt:(iA.map V.ref).length=S.credits.length:=by rw[ae]; exact hO.1
   rw[Mt] at hB
   have HA:=bL X2 t3
   have hth:gq S.credits aC (·.a)=(fm S.credits aC S.credits.length).map fun k=>((S.cr k).a,k):=rfl
   have Fw: ∀x∈fm S.credits aC S.credits.length,x < S.credits.length:=fun x hx=>cW.mp (dM.mp hx).1
   have L5:(fm S.credits aC S.credits.length).Nodup:=jB.filter _
   have X3:(fm S.credits aC S.credits.length).length<=S.credits.length:=a6 (a7 _ _) (by rw[dA]; exact aI _)
   have j8:inOrder S.credits aC (·.a)=(eG ((fm S.credits aC S.credits.length).map fun k=>((S.cr k).a,k))).map (·.2):=rfl
   generalize fm S.credits aC S.credits.length=ks at hB Fw L5 X3 j8
   have X4:=aL hB
   have Kd:((ks.map fun k=>((S.cr k).a,k)):List (Int×Nat)).length=ks.length:=ae _
   have rD: ∀x∈(ks.map fun k=>((S.cr k).a,k)),x.2 < 1000:=fun x hx=>by
    obtain⟨k0,QN,rfl⟩:=bG.mp hx
    have:=Fw k0 QN
    show k0 < 1000
    lia
   have hnd:((ks.map fun k=>((S.cr k).a,k)).map (·.2)).Nodup:=by
    rw[dD]
    have e:((fun x:Int×Nat=>x.2) ∘ fun k=>((S.cr k).a,k))=id:=rfl
    rw[e,tS]
    exact L5
   have vW: ∀i,i < ks.length->(ks.map fun k=>((S.cr k).a,k)).getD i (0,0)=((S.cr (ks.getD i 0)).a,ks.getD i 0):=fun i hi=>getD_map (fun k=>((S.cr k).a,k)) ks i 0 (0,0) hi
   generalize X5:(ks.map fun k=>((S.cr k).a,k))=th at Kd rD hnd vW j8
   refine⟨_,rfl,D,qs.map V.ref,th.map Fv,tZ,rfl,bw.of gJ,by rw[ae]; lia,by rw[ae,ae]; lia,HA,(fun t ht=>?_),(fun t ht u hu=>?_),fun i hi H2 fr R hR=>?_,fun D2 p H2 hp le fr GH Iv Hs=>?_⟩
   ·obtain⟨x,_,rfl⟩:=bG.mp ht
    simp[Fv]
   ·obtain⟨x,yp,rfl⟩:=bG.mp ht
    obtain⟨y,Aa,rfl⟩:=bG.mp hu
    exact qU (rD x yp) (rD y Aa) (fun e=>⟨rfl,lO hnd yp Aa e⟩) rfl
   ·rw[ae] at hi
    have wR:i < ks.length:=by lia
    obtain⟨q,e1,e2⟩:=bB hB (af wR)
    have X6:(qs.map V.ref).getD i .eD= .ref q:=by rw[aj,aB,e1]; rfl
    have X7:ks.getD i 0=ks[i]:=by rw[aj,af wR]; rfl
    obtain⟨dq,A2⟩:=e2.frame fr (vV HA e2)
    rw[rB (by lia),vW i wR,X7] at hR
    rw[X6]
    exact⟨_,rfl,q,_,dq,_,_,rfl,A2,G.dg,G.jk,JN _ _,_,rfl,q,_,dq,_,_,rfl,A2,G.dg,G.eP,om _ _,(by show 2<=sizeLine; decide),fun p np=>hR p np⟩
   ·rw[ae] at hp
    have jb: ∀i∈p,i < ks.length:=fun i hi=>by have:=cW.mp (hp.mem_iff.mp hi); lia
    have PB:=vU rD hnd (by rw[Kd,X4]; exact hp) le
    have Ld:gU A H2 S ks qs:=Paired.iD hB fun _ _ w=>w.frame fr (vV HA w)
    refine k D2 (p.map fun i=>qs.getD i tb) H2 ((t3.frame).tr fr) GH (t3.free Iv) ?_ ?_
    ·rw[Hs,dD]
     congr 2
     apply fO
     intro i hi
     exact getD_map V.ref qs i tb .eD (by have:=jb i hi; lia)
    ·rw[j8,← PB,dD]
     have e:p.map ((fun x:Int×Nat=>x.2) ∘ fun i=>th.getD i (0,0))=p.map fun i=>ks.getD i 0:=fO fun i hi=>by
      show(th.getD i (0,0)).2=_
      rw[vW i (jb i hi)]
     rw[e]
     exact nP Ld 0 tb p jb
theorem vX {A:eh}{H H':Hp}{pw tb:Addr}{S:Bk}{f:eO}(h:dI A H pw S f)(ht: ∃ps,H tb=some (.mO ps))(fr:Frame [tb] H H'):dI A H' pw S f:=by
 obtain⟨ps,ht⟩:=ht
 have kl: ∀{a:Addr} {xs:List V},H a=some (.lst xs)->H' a=some (.lst xs):=fun{a xs} e=>fr _ _ (fun z=>by rw[ao.mp z,ht] at e; cases e) e
 have ki: ∀{a C dx:Addr} {gs:List (Str×V)},H a=some (.ins C dx gs)->H' a=some (.ins C dx gs):=fun{a C dx gs} e=>fr _ _ (fun z=>by rw[ao.mp z,ht] at e; cases e) e
 have kt:cG H H':=fun a xs e=>fr _ _ (fun z=>by rw[ao.mp z,ht] at e; cases e) e
 obtain⟨dw,hw⟩:=h.obj
 obtain⟨ms,m1,m2⟩:=h.hm
 exact⟨⟨dw,ki hw⟩,kl h.hb,kl h.hc,kl h.hl,kl h.hf,⟨ms,kl m1,m2.mono kt⟩,h.rb.keep fun _ _ _ e=>ki e,h.rc.keep fun _ _ _ e=>ki e,h.nd⟩
def lu (H:Hp)(tb:Addr):Prop:=Tb H tb Pz ((("bills_in_order":Str) ++ ".<locals>.") ++ "<lambda>")
def lW (H:Hp)(tb:Addr):Prop:=Tb H tb PD ((("credits_in_order":Str) ++ ".<locals>.") ++ "<lambda>")
inductive Am (A:eh)(tb:Addr)(vs:List V)(H:Hp)(Q:VK)(E':XK):Prop
 |mk (pw:Addr)(S:Bk)(f:eO)(n:Nat)(aC:Str)(day:Int)(h1:vs=[.ref pw,.str aC,.int day])(h2:dI A H pw S f)(h3:WF S n)(h4:n<=60)(h5:lu H tb)(h6: ∀D ms H',Frame [tb] H H'->lu H' tb->H D=none->H' D=some (.lst ms)->fZ H' (S.dH true aC day) ms->Q (.ref D) H'):Am A tb vs H Q E'
inductive Eh (A:eh)(tb:Addr)(vs:List V)(H:Hp)(Q:VK)(E':XK):Prop
 |mk (pw:Addr)(S:Bk)(f:eO)(n:Nat)(aC:Str)(day:Int)(h1:vs=[.ref pw,.str aC,.int day])(h2:dI A H pw S f)(h3:WF S n)(h4:n<=60)(h5:lW H tb)(h6: ∀D ms H',Frame [tb] H H'->lW H' tb->H D=none->H' D=some (.lst ms)->fZ H' (S.dH false aC day) ms->Q (.ref D) H'):Eh A tb vs H Q E'
theorem Ei:aW ["work","who","day"] ["work","who","day"] (ax (top 36)):={}
theorem yE (T:Txt K mg){A:eh}{tb:Addr}(G:jJ K mg A)(DL:qr K mg "bills_in_order" (top 17) tb)(KB:K.In base)(BM:BMain mg base):fb P w K mg base "owed_at" 5 ["work","who","day"] (Am A tb):=by
 have jg:fb P w K mg base "bills_in_order" 2 ["bills","who"] (uA A tb):=lR T G DL KB BM
 have km:fb P w K mg base "remaining_at" 4 ["work","told","place","day"] (rA A):=nO T G
 refine T.G3.fC (k:=4) Ei (fun f cU A' outer s H vs Q E hr h=>?_)
 ·obtain⟨pw,S,g,n,aC,day,rfl,hW,wf,hn,hT,k⟩:=h
  obtain⟨dw,hw⟩:=hW.obj
  refine⟨_,(au (a9 (fc km hr (aa (pv 0) (aa (fc jg hr (aa (bZ (pv 0) rfl) (aa (pv 1) av))) (aa ai (aa (pv 2) av))))))),?_⟩
  refine⟨_,rfl,_,rfl,pw,_,dw,_,_,rfl,hw,G.bJ,G.d9,js g,_,rfl,g.pb,g.iA,S,aC,rfl,hW.hb,hW.rb,(by have:=wf.lb; lia),hT,fun D qs H1 fr Iw nD hD hB=>?_⟩
  have Dk:=vX hW (let⟨ps,e,_⟩:=hT; ⟨ps,e⟩) fr
  have Mz:(inOrder S.aF aC (·.b)).length<=100:=by
   have e:(inOrder S.aF aC (·.b)).length=((List.range S.aF.length).filter fun k=>decide ((S.aF.getD k default).aC=aC)).length:=by
    unfold inOrder gq
    rw[ae,(cS _).length_eq,ae]
   have:=a7 (fun k=>decide ((S.aF.getD k default).aC=aC)) (List.range S.aF.length)
   rw[dA] at this
   have:=wf.lb
   lia
  refine⟨_,rfl,pw,D,S,g,n,true,day,inOrder S.aF aC (·.b),qs,rfl,Dk,wf,(by have:=wf.lm; lia),hD,hB,Mz,fun D2 ms H2 s2 Iv Hs hP=>?_⟩
  exact k D2 ms H2 (fr.df s2) (bL Iw s2) (fr.free (fun z=>by
   obtain⟨ps,e,_⟩:=Iw
   rw[ao.mp z,e] at Iv
   cases Iv) Iv) Hs hP
theorem Ej:aW ["work","who","day"] ["work","who","day"] (ax (top 37)):={}
theorem HF (T:Txt K mg){A:eh}{tb:Addr}(G:jJ K mg A)(DL:qr K mg "credits_in_order" (top 18) tb)(KB:K.In base)(BM:BMain mg base):fb P w K mg base "free_at" 5 ["work","who","day"] (Eh A tb):=by
 have ie:fb P w K mg base "credits_in_order" 2 ["all_credits","who"] (uB A tb):=kj T G DL KB BM
 have km:fb P w K mg base "remaining_at" 4 ["work","told","place","day"] (rA A):=nO T G
 refine T.G4.fC (k:=4) Ej (fun f cU A' outer s H vs Q E hr h=>?_)
 ·obtain⟨pw,S,g,n,aC,day,rfl,hW,wf,hn,hT,k⟩:=h
  obtain⟨dw,hw⟩:=hW.obj
  refine⟨_,(au (a9 (fc km hr (aa (pv 0) (aa (fc ie hr (aa (bZ (pv 0) rfl) (aa (pv 1) av))) (aa ai (aa (pv 2) av))))))),?_⟩
  refine⟨_,rfl,_,rfl,pw,_,dw,_,_,rfl,hw,G.bJ,G.cH,hZ g,_,rfl,g.pc,g.cps,S,aC,rfl,hW.hc,hW.rc,(by have:=wf.lc; lia),hT,fun D qs H1 fr Iw nD hD hB=>?_⟩
  have Dk:=vX hW (let⟨ps,e,_⟩:=hT; ⟨ps,e⟩) fr
  have Mz:(inOrder S.credits aC (·.a)).length<=100:=by
   have e:(inOrder S.credits aC (·.a)).length=((List.range S.credits.length).filter fun k=>decide ((S.credits.getD k default).aC=aC)).length:=by
    unfold inOrder gq
    rw[ae,(cS _).length_eq,ae]
   have:=a7 (fun k=>decide ((S.credits.getD k default).aC=aC)) (List.range S.credits.length)
   rw[dA] at this
   have:=wf.lc
   lia
  refine⟨_,rfl,pw,D,S,g,n,false,day,inOrder S.credits aC (·.a),qs,rfl,Dk,wf,(by have:=wf.lm; lia),hD,hB,Mz,fun D2 ms H2 s2 Iv Hs hP=>?_⟩
  exact k D2 ms H2 (fr.df s2) (bL Iw s2) (fr.free (fun z=>by
   obtain⟨ps,e,_⟩:=Iw
   rw[ao.mp z,e] at Iv
   cases Iv) Iv) Hs hP
inductive An (vs:List V)(H:Hp)(Q:VK)(E':XK):Prop
 |mk (fh:Int)(pl:Addr)(dh:List Int)(h1:vs=[.int fh,.ref pl])(h2:H pl=some (.tup (dh.map V.int)))(h3:dh.length<=11)(h4: ∀H',aE H H'->Q (.int (L2.placeOf fh dh:Int)) H'):An vs H Q E'
theorem Cy:aW ["late","limits"] ["late","limits"] (ax (top 1)):={}
theorem Ek (T:Txt K mg):fb P w K mg base "place_of" 1 ["late","limits"] An:=by
 refine T.DX.fC (k:=0) Cy (fun f cU A' outer s H vs Q E hr h=>?_)
 ·obtain⟨fh,pl,dh,rfl,jb,Ir,k⟩:=h
  refine⟨_,(ah (bP (aX oU (pv 0) ai (a0 _))
(au (a9 ai))
bh)
(au (a9 (aQ cJ ai (mK T.dR (gy (tn:=["limit"]) (cn:=["late"]) (cj:=[0]) rfl (jh (AZ:=[(".0",.local),("limit",.local),("late",.cell)])) (Oa (pv 1)) (fun _ _ _ _=>(eE (i:=0) (show(["limit","late"]:List Str).Nodup by decide +kernel) rfl (Or.inl rfl))) (fun _ _ _ _=>(pK (aX jU (pv 0) (pv 1) (a0 _)))) (fun _ _ _ _=>(pv 0)))))))),?_⟩
  refine⟨_,rfl,_,_,rfl,rfl,_,rfl,cv (fun z=>?_) (fun z=>?_)⟩
  ·have z':fh<=0:=aM z
   have e:L2.placeOf fh dh=0:=aZ z'
   have q:=k H (aE.refl _)
   rw[e] at q
   exact q
  have z': ¬ fh<=0:=fun q=>z (aG q)
  have e:L2.placeOf fh dh=1 + (dh.filter fun l=>decide (l < fh)).length:=aO z'
  refine⟨_,rfl,pl,rfl,⟨_,cB.of jb⟩,?_⟩
  refine Jg (K:=K) (a:=pl) (xs:=dh.map V.int) (fun D' j σ H6=>H D'=none/\ ∃v,σ=[v,some (.int fh)]/\aE H H6/\H6 D'=some (.lst (((dh.take j).filter fun l=>decide (l < fh)).map V.int))) (fun D' vM=>⟨vM,none,rfl,aE.new vM,ag⟩) (fun D' j σ H6 _ ⟨_,_,_,t3,_⟩=>cB.of (t3 _ _ jb)) ?_ ?_
  ·rintro D' j x σ H6 JZ ⟨vM,v,rfl,t3,gJ⟩
   rw[aB] at JZ
   obtain⟨y,hy,rfl⟩:=br.mp JZ
   have mC:=fQ (fun l=>decide (l < fh)) hy
   have hlen:((dh.take j).filter fun l=>decide (l < fh)).length<=100:=by
    have:=a7 (fun l=>decide (l < fh)) (dh.take j)
    rw[bb] at this
    lia
   refine⟨_,rfl,_,rfl,_,_,rfl,rfl,_,rfl,cv (fun q=>?_) (fun q=>?_)⟩
   ·rw[aZ q] at mC
    refine⟨_,rfl,_,gJ,bf (by rw[ae]; lia),vM,_,rfl,t3.cY vM,?_⟩
    rw[ag,mC,aJ]
    rfl
   ·rw[aO q,bU] at mC
    refine⟨vM,_,rfl,t3,?_⟩
    rw[mC]
    exact gJ
  ·rintro D' σ H6 vM ⟨_,v,rfl,t3,gJ⟩
   refine⟨D',_,rfl,.inl (bw.of gJ),_,_,rfl,rfl,?_⟩
   have q:=k H6 t3
   rw[e] at q
   have e2:(1:Int) + ((((dh.take (dh.map V.int).length).filter fun l=>decide (l < fh)).map V.int).length:Int)=((1 + (dh.filter fun l=>decide (l < fh)).length:Nat):Int):=by
    rw[ae,ae,aY]
    simp
   rw[← e2] at q
   exact q
inductive El (A:eh)(tb:Addr)(vs:List V)(H:Hp)(Q:VK)(E':XK):Prop
 |mk (pw pl:Addr)(S:Bk)(f:eO)(n:Nat)(aC:Str)(day:Int)(dh:List Int)(h1:vs=[.ref pw,.str aC,.int day,.ref pl])(h2:dI A H pw S f)(h3:WF S n)(h4:n<=60)(h5:lu H tb)(h6:H pl=some (.tup (dh.map V.int)))(h7:dh.length<=11)(h8: ∀D H',Frame [tb] H H'->lu H' tb->H D=none->H' D=some (.lst ((S.OL aC day dh).map V.int))->Q (.ref D) H'):El A tb vs H Q E'
theorem vY:aW ["work","who","day","limits","sums","number","left","place"] ["work","who","day","limits"] (ax (top 41)):={}
theorem HG (T:Txt K mg){A:eh}{tb:Addr}(G:jJ K mg A)(DL:qr K mg "bills_in_order" (top 17) tb)(KB:K.In base)(BM:BMain mg base):fb P w K mg base "ages_at" 6 ["work","who","day","limits"] (El A tb):=by
 have sI:fb P w K mg base "owed_at" 5 ["work","who","day"] (Am A tb):=yE T G DL KB BM
 have Em:fb P w K mg base "place_of" 1 ["late","limits"] An:=Ek T
 refine T.G5.fC (k:=5) vY (fun f cU A' outer s H vs Q E hr h=>?_)
 ·obtain⟨pw,pl,S,g,n,aC,day,dh,rfl,hW,wf,hn,hT,jb,Ir,k⟩:=h
  have nd:=vY.nd
  refine⟨_,(ah (sv 4 nd (aQ DI (bQ (aa ai av)) (aQ cJ (mK T.dR (pv 3)) ai)))
(ah (dW bu rfl (cF (fc sI hr (aa (pv 0) (aa (pv 1) (aa (pv 2) av))))) (iE rfl (bX (gn 5 nd) (bX (gn 6 nd) gr)))
(ah (sv 7 nd (fc Em hr (aa (aQ eM (pv 2) (bZ (xl (bZ (pv 0) rfl) (pv 5)) rfl)) (aa (pv 3) av))))
(au (l0 (aQ cJ (xl (pv 4) (pv 7)) (pv 6)) (r9 (pv 4) (pv 7) set_list)))))
(au (a9 (pv 4))))),?_⟩
  refine⟨(by show 1<=sizeLine; decide),fun p9 n9=>?_⟩
  have t9:=aE.new (o:= .lst [V.int 0]) n9
  have TL:(dh.map V.int).length=dh.length:=ae _
  refine⟨_,rfl,pl,_,rfl,.inr (cB.of (t9 _ _ jb)),_,_,rfl,rfl,p9,_,_,rfl,rfl,ag,by lia,by lia,?_,fun ps FG=>?_⟩
  ·show 1 * _<=sizeLine
   rw[TL,fe]
   lia
  have e2:(((dh.map V.int).length:Int) + 2).toNat=dh.length + 2:=by rw[TL]; lia
  rw[e2,Mx]
  have Cp:=aE.new (o:= .lst ((List.replicate (dh.length + 2) (0:Int)).map V.int)) FG
  have Ka:=t9.trans Cp
  have mI:upd (upd H p9 (.lst [V.int 0])) ps (.lst ((List.replicate (dh.length + 2) (0:Int)).map V.int)) ps=some (.lst ((List.replicate (dh.length + 2) (0:Int)).map V.int)):=ag
  have PF:H ps=none:=t9.free FG
  generalize upd (upd H p9 (.lst [V.int 0])) ps (.lst ((List.replicate (dh.length + 2) (0:Int)).map V.int))=H1 at Ka mI
  have Iw:=bL hT Ka
  refine⟨_,rfl,_,rfl,_,rfl,pw,S,g,n,aC,day,rfl,hW.same Ka,wf,hn,Iw,fun D ms H2 fr GH nD hD hP=>?_⟩
  refine⟨D,rfl,⟨_,bw.of hD⟩,?_⟩
  have mO: ∃q,H1 tb=some (.mO q):=let⟨q,e,_⟩:=Iw; ⟨q,e⟩
  have off: ∀{a:Addr} {o:HO},H1 a=some o->(∀q,o≠ .mO q)->H2 a=some o:=fun{a o} e hq=>fr _ _ (fun z=>by
   obtain⟨q,eq⟩:=mO
   rw[ao.mp z,eq] at e
   exact hq q (aD e).symm) e
  have Ao:=vX (hW.same Ka) mO fr
  have PH:=off mI (fun _ z=>by cases z)
  have PJ:=off (Ka _ _ jb) (fun _ z=>by cases z)
  have fr0:Frame [tb] H H2:=fr.mh Ka
  have Aj: ∀t∈S.dH true aC day,t.1 < S.aF.length:=fun t ht=>Hv (aU:=true) ht
  have hag:S.OL aC day dh=(S.dH true aC day).foldl (fun l t=>sZ l (L2.placeOf (day - (S.bl t.1).b) dh) t.2) (List.replicate (dh.length + 2) 0):=rfl
  rw[hag] at k
  generalize S.dH true aC day=ts at hP Aj k
  have hDp:D≠ps:=fun e=>by rw[e,mI] at nD; cases nD
  refine eQ (K:=K) (a:=D) (xs:=ms) (fun i σ H3=> ∃(l:List Int) (x5 x6 x7:Option V),σ=[some (.ref pw),some (.str aC),some (.int day),some (.ref pl),some (.ref ps),x5,x6,x7]/\Frame [ps] H2 H3/\H3 ps=some (.lst (l.map V.int))/\l.length=dh.length + 2/\l=(ts.take i).foldl (fun l t=>sZ l (L2.placeOf (day - (S.bl t.1).b) dh) t.2) (List.replicate (dh.length + 2) 0))
   ⟨_,none,none,none,rfl,Frame.refl,PH,List.length_replicate,rfl⟩ (fun i σ H3 _ ⟨_,_,_,_,_,f3,_⟩=>bw.of (f3 _ _ (by simpa using hDp) hD)) ?_ ?_
  ·rintro i x σ H3 hx ⟨l,x5,x6,x7,rfl,f3,QL,Nz,he⟩
   have VA: ∀{a:Addr} {o:HO},H2 a=some o->(∀q,o≠ .lst q)->H3 a=some o:=fun{a o} e hq=>f3 _ _ (fun z=>by
    rw[ao.mp z,PH] at e
    exact hq _ (aD e).symm) e
   have hi:i < ts.length:=by have:=(ak.mp hx).1; have:=aL hP; lia
   have qq:=af hi
   obtain⟨v,hv,p,rfl,hp⟩:=bB hP qq
   rw[hx] at hv
   obtain rfl:x= .ref p:=aD hv
   have hm:=Aj _ (bN hi)
   rw[lP (fun l t=>sZ l (L2.placeOf (day - (S.bl t.1).b) dh) t.2) ts _ qq,← he]
   generalize ts[i]=t at hp hm
   obtain⟨dw,hw⟩:=Ao.obj
   obtain⟨q,q1,dq,q2⟩:=Ao.rb.get hm
   have X8:g.pb∉[ps]:=fun z=>by
    have e:=hW.hb
    rw[ao.mp z,PF] at e
    cases e
   have QZ:=VA hp (fun _ z=>by cases z)
   have hw3:=VA hw (fun _ z=>by cases z)
   have hq3:=VA q2 (fun _ z=>by cases z)
   have X9:=VA PJ (fun _ z=>by cases z)
   refine⟨p,_,rfl,cB.of QZ,rfl,_,_,rfl,_,_,rfl,rfl,?_⟩
   refine⟨_,rfl,_,rfl,pw,_,dw,_,_,rfl,hw3,G.bJ,G.d9,js g,_,rfl,g.pb,_,_,.ref q,rfl,rfl,bw.of (f3 _ _ X8 Ao.hb),cg (by rw[aB,q1]; rfl),q,_,dq,_,_,rfl,hq3,G.en,G.nv,JL _ _,_,_,rfl,rfl,_,rfl,_,pl,dh,rfl,X9,Ir,fun H4 s4=>?_⟩
   have hpo:=Eg (day - (S.bl t.1).b) dh
   have hs4:=s4 _ _ QL
   refine⟨_,rfl,_,rfl,ps,_,_,.int (l.getD (L2.placeOf (day - (S.bl t.1).b) dh) 0),rfl,rfl,bw.of hs4,pZ (by show L2.placeOf (day - (S.bl t.1).b) dh < _; lia),_,rfl,_,_,rfl,rfl,?_⟩
   refine⟨_,rfl,_,rfl,ps,_,_,L2.placeOf (day - (S.bl t.1).b) dh,rfl,rfl,hs4,uq (by rw[ae]; show L2.placeOf (day - (S.bl t.1).b) dh < _; lia),?_⟩
   refine⟨sZ l (L2.placeOf (day - (S.bl t.1).b) dh) t.2,_,_,_,rfl,(f3.df s4).tr (Frame.upd (by simp)),?_,?_,rfl⟩
   ·rw[ag]
    unfold sZ
    rw[List.map_set]
   ·rw[Hw]; exact Nz
  ·rintro σ H3 ⟨l,x5,x6,x7,rfl,f3,QL,Nz,he⟩
   rw[← aL hP,aY] at he
   rw[he] at QL
   refine⟨_,rfl,k ps H3 (fun b o hb e=>f3 b o (fun z=>by rw[ao.mp z,PF] at e; cases e) (fr0 b o hb e)) ?_ PF QL⟩
   obtain⟨q,e1,R8,e3⟩:=GH
   have kx: ∀{a:Addr} {o:HO},H2 a=some o->(∀q,o≠ .lst q)->H3 a=some o:=fun{a o} e hq=>f3 _ _ (fun z=>by
    rw[ao.mp z,PH] at e
    exact hq _ (aD e).symm) e
   refine⟨q,kx e1 (fun _ z=>by cases z),R8,?_⟩
   rcases e3 with e3|⟨c',e3,e4⟩
   ·exact .inl e3
   ·exact .inr ⟨c',e3,kx e4 (fun _ z=>by cases z)⟩
def eX (pk pw:Addr):List (Str×V):=[("kept",.ref pk),("work",.ref pw)]
theorem uC (pk pw:Addr):(eX pk pw).lookup ("kept":Str)=some (V.ref pk):=by rfl
theorem uD (pk pw:Addr):(eX pk pw).lookup ("work":Str)=some (V.ref pw):=by rfl
theorem Ke (pk pw:Addr):eK "work" (.ref pw) (eK "kept" (.ref pk) [])=eX pk pw:=by rfl
inductive Ap (A:eh)(vs:List V)(H:Hp)(Q:VK)(E':XK):Prop
 |mk (x dx:Addr)(h1:vs=[.ref x])(h2:H x=some (.ins A.book dx []))(h3: ∀pk pw f H',Frame [x] H H'->H' x=some (.ins A.book dx (eX pk pw))->H' pk=some (.dK [])->dI A H' pw Bk.new f->H pk=none->H pw=none->(∀b∈f.fp,H b=none)->pk∉f.fp->Q .eD H'):Ap A vs H Q E'
theorem MA:aW ["self"] ["self"] (ax (mem 29 0)):={}
theorem PL {A:eh}(G:jJ K mg A):ub P w K mg base "Book" A.book 3 ["self"] (Ap A):=by
 have En:ub P w K mg base "Work" A.work 1 ["self"] (uw A):=J1 G
 refine Mm (k:=2) G.Mj G.Mi MA (fun f cU A' outer s H vs Q E hr h=>?_)
 ·obtain⟨x,dx,rfl,hx,k⟩:=h
  refine⟨_,(ah (fR (pv 0) Br rfl) (au (fR (pv 0) (JO En (hr.mono (by decide)) rfl) rfl))),?_⟩
  intro pk nk
  have ne1:pk≠x:=(aK hx nk).symm
  refine⟨_,rfl,x,_,dx,_,rfl,aE.new nk _ _ hx,G.eW,G.gS,lt1000 Cd (by decide),?_⟩
  have F1:Frame [x] H (upd (upd H pk (.dK [])) x (.ins A.book dx (eK "kept" (.ref pk) []))):=(aE.new nk).frame.tr (Frame.upd (by simp))
  have g1:upd (upd H pk (.dK [])) x (.ins A.book dx (eK "kept" (.ref pk) [])) x=some (.ins A.book dx (eK "kept" (.ref pk) [])):=ag
  have k1:upd (upd H pk (.dK [])) x (.ins A.book dx (eK "kept" (.ref pk) [])) pk=some (.dK []):=by rw[aA ne1,ag]
  generalize upd (upd H pk (.dK [])) x (.ins A.book dx (eK "kept" (.ref pk) []))=H1 at F1 g1 k1 ⊢
  intro xw Ya MB PM ne
  have s2:=lN (C:=A.work) (fs:=[]) MB PM ne
  refine⟨xw,Ya,rfl,ag,fun g H3 Lq W3 nf=>⟨rfl,?_⟩⟩
  have Yb:x≠xw:=aK g1 MB
  have nek:pk≠xw:=aK k1 MB
  have g3:=Lq _ _ (by simpa using Yb) (s2 _ _ g1)
  have k3:=Lq _ _ (by simpa using nek) (s2 _ _ k1)
  refine⟨_,rfl,x,_,dx,_,rfl,g3,G.eW,G.gT,lt1000 (pl Cd) (by decide),?_⟩
  rw[Ke]
  have fw: ∀b∈g.fp,H1 b=none:=fun b hb=>s2.free (nf b hb)
  have off: ∀b,H1 b=none->b≠x->H b=none:=fun b e n=>F1.free (by simpa using n) e
  have xf:x∉g.fp:=fun z=>by have:=fw x z; rw[g1] at this; cases this
  have TM:dI A (upd H3 x (.ins A.book dx (eX pk xw))) xw Bk.new g:=by
   obtain⟨dw,hw⟩:=W3.obj
   obtain⟨ms,m1,m2⟩:=W3.hm
   have nx: ∀p∈g.fp,p≠x:=fun p hp z=>xf (z▸hp)
   refine⟨⟨dw,by rw[aA Yb.symm]; exact hw⟩,by rw[aA (nx _ (by simp[eO.fp]))]; exact W3.hb,by rw[aA (nx _ (by simp[eO.fp]))]; exact W3.hc,by rw[aA (nx _ (by simp[eO.fp]))]; exact W3.hl,by rw[aA (nx _ (by simp[eO.fp]))]; exact W3.hf,⟨ms,by rw[aA (nx _ (by simp[eO.fp]))]; exact m1,?_⟩,?_,?_,W3.nd⟩
   ·cases m2
    exact .nil
   ·exact⟨W3.rb.1,fun i p e=>by have:=(ak.mp e).1; have h0:=W3.rb.1; rw[h0] at this; exact absurd this (gK _)⟩
   ·exact⟨W3.rc.1,fun i p e=>by have:=(ak.mp e).1; have h0:=W3.rc.1; rw[h0] at this; exact absurd this (gK _)⟩
  refine k pk xw g _ ?_ ag (by rw[aA ne1]; exact k3) TM nk (off xw MB Yb.symm) (fun b hb=>off b (fw b hb) (fun z=>xf (z▸hb))) (fun z=>by have:=fw pk z; rw[k1] at this; cases this)
  intro b o hb e
  have bx:b≠x:=by simpa using hb
  rw[aA bx]
  have e1:=F1 b o hb e
  exact Lq b o (by simpa using aK e1 MB) (s2 b o e1)
def Aq (r:List Bool):Dt:= .lst (r.map Dt.bl)
def Kf (t:Nat×Nat×Int):Dt:= .tup [.int t.1,.int t.2.1,.int t.2.2]
theorem iq (fs ls:List Int)(al:List (List Bool)): ∀i,(bW fs ls al i).2.length<=i
 |0=>aI _
 |i + 1=>by
  have:=iq fs ls al i
  unfold bW
  split
  ·lia
  ·rw[aH]; show _ + 1<=_; lia
def Yc:Option Nat->V
 |none=> .eD
 |some j=> .int j
def qg (bg:List (Key×V))(j:Nat):Bool:=(gv bg (Sum.inl (j:Int):Key)).isSome
inductive Ar (K:Frag)(vs:List V)(H:Hp)(Q:VK)(E':XK):Prop
 |mk (f:Int)(pl:Addr)(ls:List Int)(pr:Addr)(row:List Bool)(pt:Addr)(bg:List (Key×V))(h1:vs=[.int f,.ref pl,.ref pr,.ref pt])(h2:bw K H pl (ls.map V.int))(h3:bw K H pr (row.map V.bl))(h4:row.length=ls.length)(h5:H pt=some (.dK bg))(h6: ∀H',aE H H'->Q (Yc (hX f ls row (qg bg))) H'):Ar K vs H Q E'
def nQ (H:Hp)(ms:List (Nat×Nat×Int))(vs:List V):Prop:=Paired (fun(t:Nat×Nat×Int) v=> ∃p,v= .ref p/\H p=some (.tup [.int t.1,.int t.2.1,.int t.2.2])) ms vs
theorem nQ.mono {H H':Hp}{ms:List (Nat×Nat×Int)}{vs:List V}(h:nQ H ms vs)(k: ∀b xs,H b=some (.tup xs)->H' b=some (.tup xs)):nQ H' ms vs:=
 Paired.iD h fun _ _ ⟨p,e,q⟩=>⟨p,e,k _ _ q⟩
theorem nQ.rp {H:Hp}: ∀{ms:List (Nat×Nat×Int)} {vs:List V},nQ H ms vs->il H (ms.map Kf) vs
 |_,_,.nil=>cM.mpr rfl
 |_,_,.cons ⟨p,e,q⟩ t=>bI.mpr ⟨_,_,rfl,e▸eT q (bI.mpr ⟨_,_,rfl,dr.mpr rfl,bI.mpr ⟨_,_,rfl,dr.mpr rfl,bI.mpr ⟨_,_,rfl,dr.mpr rfl,cM.mpr rfl⟩⟩⟩),nQ.rp t⟩
theorem MC {H:Hp}{p:Addr}{o:HO}{bg:List (Key×V)}(h:H p=some (.dK bg)): ∀b xs,H b=some (.tup xs)->upd H p o b=some (.tup xs):=fun b xs e=>by
 rw[aA (mx e h (by intro z; cases z))]; exact e
theorem nR:aW ["free","lefts","fitting","taken","bill","left"] ["free","lefts","fitting","taken"] (ax (top 21)):={}
theorem xH (T:Txt K mg):fb P w K mg base "first_alike" 1 ["free","lefts","fitting","taken"] (Ar K):=by
 refine T.wZ.fC (k:=0) nR (fun f cU A outer s H vs Q E hr h=>?_)
 ·obtain⟨fr,pl,ls,pr,row,pt,bg,rfl,hL,hR,Bv,hT,k⟩:=h
  have hu:=jV hr
  have nd:=nR.nd
  refine⟨_,(ah (dW bu rfl (qH rfl T.jr (aa (pv 1) av)) (iE rfl (bX (gn 4 nd) (bX (gn 5 nd) gr)))
(au (bP (PW.pt (pw_and (gp (xl (pv 2) (pv 4))) (pw_and (aX cK (pv 5) (pv 0) (a0 _)) (pw_and1 (yV (Gz hu (pv 4) (pv 3)))))))
(au (a9 (pv 4)))
bh)))
(au (a9 Du))),?_⟩
  refine⟨_,rfl,pl,rfl,⟨_,hL⟩,?_⟩
  refine mY (K:=K) (a:=pl) (xs:=ls.map V.int) (fun i σ H2=> ∃x4 x5,σ=[some (.int fr),some (.ref pl),some (.ref pr),some (.ref pt),x4,x5]/\aE H H2/\ ∀j,j < i->(row.getD j false && decide (ls.getD j 0=fr) && !qg bg j)=false)
   ⟨none,none,rfl,aE.refl _,fun j hj=>absurd hj (gK _)⟩ (fun i σ H2 _ ⟨_,_,_,s2,_⟩=>s2.seq hL) ?_ ?_
  ·rintro i x p σ H2 hx hp ⟨x4,x5,rfl,s2,TN⟩
   have hi:i < ls.length:=by have:=(ak.mp hx).1; rwa [ae] at this
   rw[aB,af hi] at hx
   obtain rfl:V.int ls[i]=x:=aD hx
   have s3:aE H2 (upd H2 p (.tup [.int i,.int ls[i]])):=aE.new hp
   refine⟨p,_,rfl,cB.of ag,rfl,_,_,rfl,_,_,rfl,rfl,?_⟩
   have s4:=s2.trans s3
   generalize upd H2 p (.tup [.int i,.int ls[i]])=H3 at s4 ⊢
   have TQ:i < row.length:=by lia
   have PN:ls.getD i 0=ls[i]:=by rw[aj,af hi]; rfl
   have TR:row.getD i false=row[i]:=by rw[aj,af TQ]; rfl
   have next:(row.getD i false && decide (ls.getD i 0=fr) && !qg bg i)=false-> ∀j,j < i + 1->(row.getD j false && decide (ls.getD j 0=fr) && !qg bg j)=false:=fun e j hj=>by
    rcases Nat.lt_succ_iff_lt_or_eq.mp hj with h|h
    ·exact TN j h
    ·rw[h]; exact e
   refine⟨_,rfl,_,rfl,pr,_,_,.bl row[i],rfl,rfl,s4.seq hR,cg (by rw[aB,af TQ]; rfl),_,rfl,?_⟩
   refine cv (fun c1=>?_) (fun c1=>bV ?_)
   ·refine⟨_,rfl,_,rfl,rfl,_,rfl,cv (fun c2=>?_) (fun c2=>bV ?_)⟩
    ·have TU:ls[i]=fr:=by have:=aM c2; injection this
     refine⟨_,rfl,_,rfl,pt,_,rfl,mH.k (k:=Sum.inl (i:Int)) (s4 _ _ hT),_,rfl,cv (fun c3=>?_) (fun c3=>?_)⟩
     ·
      refine⟨_,rfl,?_⟩
      have e:hX fr ls row (qg bg)=some i:=by
       unfold hX
       refine List.find?_range_eq_some.mpr ⟨?_,cW.mpr hi,fun j hj=>?_⟩
       ·rw[TR,PN,c1,TU]
        simpa[qg] using c3
       ·rw[TN j hj]; rfl
      have q:=k H3 s4
      rw[e] at q
      exact q
     ·refine⟨_,_,rfl,s4,next ?_⟩
      have c3':qg bg i=true:=by
       unfold qg
       cases h:(gv bg (Sum.inl (i:Int):Key)).isSome with
       |true=>rfl
       |false=>rw[h] at c3; exact absurd rfl c3
      rw[c3']; simp
    ·have TU: ¬ ls[i]=fr:=fun z=>c2 (aG (by rw[z]))
     refine⟨_,_,rfl,s4,next ?_⟩
     rw[PN,decide_eq_false TU]; simp
   ·refine⟨_,_,rfl,s4,next ?_⟩
    rw[TR,Bool.eq_false_iff.mpr c1]; rfl
  ·rintro σ H2 ⟨x4,x5,rfl,s2,TN⟩
   rw[ae] at TN
   have e:hX fr ls row (qg bg)=none:=by
    unfold hX
    refine List.find?_eq_none.mpr fun j hj=>?_
    rw[TN j (cW.mp hj)]
    exact aR
   have q:=k H2 s2
   rw[e] at q
   exact q
inductive vZ (K:Frag)(vs:List V)(H:Hp)(Q:VK)(E':XK):Prop
 |mk (pf pl pa:Addr)(fs ls:List Int)(al:List (List Bool))(h1:vs=[.ref pf,.ref pl,.ref pa])(h2:bw K H pf (fs.map V.int))(h3:bw K H pl (ls.map V.int))(h4:Rp H (.lst (al.map Aq)) (.ref pa))(h5:fs.length<=1000)(h6:al.length=fs.length)(h7:(∀r∈al,r.length=ls.length))(h8: ∀v H',aE H H'->Rp H' (.lst ((bW fs ls al fs.length).2.map Kf)) v->Q v H'):vZ K vs H Q E'
theorem Cz:aW ["frees","lefts","allowed","taken","made","credit","free","bill"] ["frees","lefts","allowed"] (ax (top 20)):={}
theorem MD (T:Txt K mg):fb P w K mg base "alike" 2 ["frees","lefts","allowed"] (vZ K):=by
 have xI:fb P w K mg base "first_alike" 1 ["free","lefts","fitting","taken"] (Ar K):=xH T
 refine T.L6.fC (k:=1) Cz (fun f cU A outer s H vs Q E hr h=>?_)
 ·obtain⟨pf,pl,pa,fs,ls,al,rfl,hF,hL,hA,hf1,WZ,Kg,k⟩:=h
  have hu:=jV hr
  have nd:=Cz.nd
  obtain⟨pa',refs,e0,Yd,ME⟩:=jX.mp hA
  cases e0
  refine⟨_,(ah (sv 3 nd Br)
(ah (sv 4 nd (bQ av))
(ah (dW bu rfl (qH rfl T.jr (aa (pv 0) av)) (iE rfl (bX (gn 5 nd) (bX (gn 6 nd) gr)))
(ah (sv 7 nd (fc xI hr (aa (pv 6) (aa (pv 1) (aa (xl (pv 2) (pv 5)) (aa (pv 3) av))))))
(au (bP (yV (Lo (pv 7)))
(ah (E1 hu (pv 3) (pv 7) kH rfl)
(au (bK (pW (pv 4) (cQ (aa (pv 5) (aa (pv 7) (aa (pv 6) av))))))))
bh))))
(au (a9 (pv 4)))))),?_⟩
  intro pt nt
  refine⟨bp _,fun pm nm=>?_⟩
  have s1:aE H (upd H pt (.dK [])):=aE.new nt
  have s2:aE H (upd (upd H pt (.dK [])) pm (.lst [])):=s1.trans (aE.new nm)
  have Ye:H pm=none:=s1.free nm
  have NA:pt≠pm:=aK ag nm
  refine⟨_,rfl,pf,rfl,⟨_,s2.seq hF⟩,?_⟩
  refine mY (K:=K) (a:=pf) (xs:=fs.map V.int) (fun i σ H2=> ∃x5 x6 x7 bg ms,σ=[some (.ref pf),some (.ref pl),some (.ref pa),some (.ref pt),some (.ref pm),x5,x6,x7]/\aE H H2/\H2 pt=some (.dK bg)/\(∀j:Nat,qg bg j=(bW fs ls al i).1 j)/\bg.length<=i/\H2 pm=some (.lst ms)/\nQ H2 (bW fs ls al i).2 ms)
   ⟨none,none,none,[],[],rfl,s2,by rw[aA NA]; exact ag,fun j=>rfl,aI _,ag,.nil⟩ (fun i σ H2 _ ⟨_,_,_,_,_,_,s3,_⟩=>s3.seq hF) ?_ ?_
  ·rintro i x p σ H2 hx hp ⟨x5,x6,x7,bg,ms,rfl,s3,hT,kE,Fw,hM,FH⟩
   have hi:i < fs.length:=by have:=(ak.mp hx).1; rwa [ae] at this
   rw[aB,af hi] at hx
   obtain rfl:V.int fs[i]=x:=aD hx
   have s4:aE H2 (upd H2 p (.tup [.int i,.int fs[i]])):=aE.new hp
   refine⟨p,_,rfl,cB.of ag,rfl,_,_,rfl,_,_,rfl,rfl,?_⟩
   have s5:=s3.trans s4
   have NB:=s4 _ _ hT
   have rE:=s4 _ _ hM
   have Eo:=FH.mono (gh s4)
   generalize upd H2 p (.tup [.int i,.int fs[i]])=H3 at s5 NB rE Eo ⊢
   clear s4 hp
   have TV:i < al.length:=by lia
   have g0:(al.map Aq)[i]? =some (Aq al[i]):=by rw[aB,af TV]; rfl
   obtain⟨rv,VB,VC⟩:=ME.get g0
   obtain⟨pr,Yf,e1,K9,yB⟩:=jX.mp VC
   subst e1
   have hrx:Yf=al[i].map V.bl:=by
    clear K9 VB VC
    generalize al[i]=r at yB
    induction r generalizing Yf with
    |nil=>exact cM.mp yB
    |cons b r ih=>
     obtain⟨v,rest,e,h1,h2⟩:=bI.mp yB
     rw[e,qJ.mp h1,ih rest h2]; rfl
   subst hrx
   have Yg:fs.getD i 0=fs[i]:=by rw[aj,af hi]; rfl
   have Yh:al.getD i []=al[i]:=by rw[aj,af TV]; rfl
   refine⟨_,rfl,_,rfl,_,rfl,_,rfl,pa,_,_,.ref pr,rfl,rfl,bw.of (s5 _ _ Yd),cg VB,_,rfl,fs[i],pl,ls,pr,al[i],pt,bg,rfl,s5.seq hL,bw.of (s5 _ _ K9),Kg _ (bN _),NB,fun H4 s6=>?_⟩
   have etk:qg bg=(bW fs ls al i).1:=funext kE
   have oR:bW fs ls al (i + 1)=match hX fs[i] ls al[i] (qg bg) with
     |none=>bW fs ls al i
     |some j=>(fun x=>x == j || (bW fs ls al i).1 x,(bW fs ls al i).2 ++ [(i,j,fs[i])]):=by
    rw[etk,← Yg,← Yh]; rfl
   cases hb:hX fs[i] ls al[i] (qg bg) with
   |none=>
    rw[hb] at oR
    refine⟨_,rfl,_,rfl,bV ?_⟩
    refine⟨_,_,_,bg,ms,rfl,s5.trans s6,s6 _ _ NB,?_,by lia,s6 _ _ rE,?_⟩
    ·intro j; rw[oR]; exact kE j
    ·rw[oR]; exact Eo.mono (gh s6)
   |some j=>
    rw[hb] at oR
    refine⟨_,rfl,_,rfl,fJ ?_⟩
    have Q0:=s6 _ _ NB
    have v7:=s6 _ _ rE
    refine⟨_,rfl,_,rfl,pt,_,rfl,Gw.k (k:=Sum.inl (j:Int)) Q0 (bf (by lia)),?_⟩
    have Kh:upd H4 pt (.dK (putK bg (Sum.inl (j:Int):Key) (.bl true))) pm=some (.lst ms):=by rw[aA NA.symm]; exact v7
    have Fy:=(Eo.length)
    have Q1:=iq fs ls al i
    have s7:aE H (upd H4 pt (.dK (putK bg (Sum.inl (j:Int):Key) (.bl true)))):=(s5.trans s6).cY nt
    have Ep:nQ (upd H4 pt (.dK (putK bg (Sum.inl (j:Int):Key) (.bl true)))) (bW fs ls al i).2 ms:=(Eo.mono (gh s6)).mono (MC Q0)
    have HA:upd H4 pt (.dK (putK bg (Sum.inl (j:Int):Key) (.bl true))) pt=some (.dK (putK bg (Sum.inl (j:Int):Key) (.bl true))):=ag
    generalize upd H4 pt (.dK (putK bg (Sum.inl (j:Int):Key) (.bl true)))=H5 at Kh s7 Ep HA ⊢
    refine⟨_,rfl,.inl ⟨rfl,_,bw.of Kh⟩,_,rfl,_,rfl,_,rfl,(by show 3<=sizeLine; decide),fun p8 n8=>?_⟩
    have s8:aE H5 (upd H5 p8 (.tup [.int i,.int j,.int fs[i]])):=aE.new n8
    refine⟨pm,ms,_,rfl,rfl,s8 _ _ Kh,bf (by lia),?_⟩
    refine⟨_,_,_,putK bg (Sum.inl (j:Int):Key) (.bl true),ms ++ [.ref p8],rfl,(s7.trans s8).cY Ye,?_,fun x=>?_,?_,ag,?_⟩
    ·rw[aA NA]; exact s8 _ _ HA
    ·rw[oR]
     unfold qg
     rw[Jb]
     by_cases hx:x=j
     ·subst hx; simp
     ·have: ¬ (Sum.inl (x:Int):Key)=Sum.inl (j:Int):=fun z=>hx (by injection z with z; lia)
      rw[aO this]
      have h2:=kE x
      unfold qg at h2
      rw[h2]
      simp[hx]
    ·have:=kI bg (Sum.inl (j:Int):Key) (.bl true)
     lia
    ·rw[oR]
     exact cy ((Ep.mono (gh s8)).mono (dG (s8 _ _ Kh))) ⟨p8,rfl,dG (s8 _ _ Kh) _ _ ag⟩
  ·rintro σ H2 ⟨x5,x6,x7,bg,ms,rfl,s3,hT,kE,Fw,hM,FH⟩
   rw[ae] at FH
   refine⟨_,rfl,?_⟩
   exact k _ _ s3 (iG hM FH.rp)
def cO (fs ls:List Int)(al:List (List Bool))(i:Nat):List (Nat×Int):=(bE (fs.getD i 0) (cu fs ls al i).1 (al.getD i []) (cu fs ls al i).1.length).2
theorem CA (fs ls:List Int)(al:List (List Bool))(i:Nat):(cu fs ls al (i + 1)).1=dN (cu fs ls al i).1 (cO fs ls al i):=rfl
theorem tJ (fs ls:List Int)(al:List (List Bool))(i:Nat):(cu fs ls al (i + 1)).2=(cu fs ls al i).2 ++ (cO fs ls al i).map fun x=>(i,x.1,x.2):=rfl
def PQ (H:Hp)(ps:List (Nat×Int))(vs:List V):Prop:=Paired (fun(t:Nat×Int) v=> ∃p,v= .ref p/\H p=some (.tup [.int t.1,.int t.2])) ps vs
theorem PQ.mono {H H':Hp}{ps:List (Nat×Int)}{vs:List V}(h:PQ H ps vs)(k: ∀b xs,H b=some (.tup xs)->H' b=some (.tup xs)):PQ H' ps vs:=
 Paired.iD h fun _ _ ⟨p,e,q⟩=>⟨p,e,k _ _ q⟩
theorem gA (f:Int)(l:List Int)(row:List Bool): ∀j,(bE f l row j).2.length<=j
 |0=>aI _
 |j + 1=>by
  have:=gA f l row j
  rw[bE]
  split
  ·rw[aH]; show _ + 1<=_; lia
  ·lia
inductive As (K:Frag)(vs:List V)(H:Hp)(Q:VK)(E':XK):Prop
 |mk (f:Int)(pl:Addr)(ls:List Int)(pr:Addr)(row:List Bool)(h1:vs=[.int f,.ref pl,.ref pr])(h2:bw K H pl (ls.map V.int))(h3:bw K H pr (row.map V.bl))(h4:row.length=ls.length)(h5:ls.length<=100)(h6: ∀(q:Addr) (ms:List V) (H':Hp),aE H H'->H q=none->H' q=some (.lst ms)->PQ H' (bE f ls row ls.length).2 ms->Q (.ref q) H'):As K vs H Q E'
theorem tK:aW ["free","lefts","fitting","still_free","parts","bill","left","amount"] ["free","lefts","fitting"] (ax (top 23)):={}
theorem Er (T:Txt K mg):fb P w K mg base "parts_of" 1 ["free","lefts","fitting"] (As K):=by
 refine T.DZ.fC (k:=0) tK (fun f cU A outer s H vs Q E hr h=>?_)
 ·obtain⟨fr,pl,ls,pr,row,rfl,hL,hR,Bv,La,k⟩:=h
  have hu:=jV hr
  have nd:=tK.nd
  refine⟨_,(ah (sv 3 nd (pv 0))
(ah (sv 4 nd (bQ av))
(ah (dW bu rfl (qH rfl T.jr (aa (pv 1) av)) (iE rfl (bX (gn 5 nd) (bX (gn 6 nd) gr)))
(ah (sv 7 nd (cE (sf rfl) (by rfl) T.JH boot_min (aa (pv 3) (aa (pv 6) av))))
(au (bP (PW.pt (pw_and (gp (xl (pv 2) (pv 5))) (pw_and1 (aX jn (pv 7) ai (a0 _)))))
(ah (bK (pW (pv 4) (cQ (aa (pv 5) (aa (pv 7) av)))))
(au (sv 3 nd (aQ eM (pv 3) (pv 7)))))
bh))))
(au (a9 (pv 4)))))),?_⟩
  refine⟨_,rfl,?_⟩
  refine⟨bp _,fun q nq=>?_⟩
  have s1:aE H (upd H q (.lst [])):=aE.new nq
  refine⟨_,rfl,pl,rfl,⟨_,s1.seq hL⟩,?_⟩
  refine mY (K:=K) (a:=pl) (xs:=ls.map V.int) (fun i σ H2=> ∃(x5 x6 x7:Option V) (ms:List V),σ=[some (.int fr),some (.ref pl),some (.ref pr),some (.int (bE fr ls row i).1),some (.ref q),x5,x6,x7]/\aE H H2/\H2 q=some (.lst ms)/\PQ H2 (bE fr ls row i).2 ms)
   ⟨none,none,none,[],rfl,s1,ag,.nil⟩ (fun i σ H2 _ ⟨_,_,_,_,_,s2,_⟩=>s2.seq hL) ?_ ?_
  ·rintro i x p σ H2 hx hp ⟨x5,x6,x7,ms,rfl,s2,hM,hP⟩
   have hi:i < ls.length:=by have:=(ak.mp hx).1; rwa [ae] at this
   rw[aB,af hi] at hx
   obtain rfl:V.int ls[i]=x:=aD hx
   have s3:aE H2 (upd H2 p (.tup [.int i,.int ls[i]])):=aE.new hp
   refine⟨p,_,rfl,cB.of ag,rfl,_,_,rfl,_,_,rfl,rfl,?_⟩
   have s4:=s2.trans s3
   have Q2:=s3 _ _ hM
   have Yi:=hP.mono (gh s3)
   generalize upd H2 p (.tup [.int i,.int ls[i]])=H3 at s4 Q2 Yi ⊢
   have TQ:i < row.length:=by lia
   have PN:ls.getD i 0=ls[i]:=getD_at hi
   have TR:row.getD i false=row[i]:=getD_at TQ
   have hlen:ms.length<=i:=by have:=hP.length; have:=gA fr ls row i; lia
   refine⟨_,rfl,_,rfl,_,_,rfl,?_⟩
   have em:(if ls[i] < (bE fr ls row i).1 then ls[i] else(bE fr ls row i).1)=gQ (bE fr ls row i).1 (ls.getD i 0):=by rw[PN]; rfl
   rw[em]
   have oR:bE fr ls row (i + 1)=if row.getD i false=true/\0 < gQ (bE fr ls row i).1 (ls.getD i 0) then((bE fr ls row i).1 - gQ (bE fr ls row i).1 (ls.getD i 0),(bE fr ls row i).2 ++ [(i,gQ (bE fr ls row i).1 (ls.getD i 0))]) else bE fr ls row i:=by rw[bE]
   generalize gQ (bE fr ls row i).1 (ls.getD i 0)=am at oR ⊢
   have no: ¬ (row.getD i false=true/\0 < am)-> ∃(x5 x6 x7:Option V) (ms:List V),[some (.int fr),some (.ref pl),some (.ref pr),some (.int (bE fr ls row i).1),some (.ref q),some (V.int i),some (V.int ls[i]),some (V.int am)]=[some (.int fr),some (.ref pl),some (.ref pr),some (.int (bE fr ls row (i + 1)).1),some (.ref q),x5,x6,x7]/\aE H H3/\H3 q=some (.lst ms)/\PQ H3 (bE fr ls row (i + 1)).2 ms:=fun c=>by
    rw[oR,aO c]
    exact⟨_,_,_,ms,rfl,s4,Q2,Yi⟩
   refine⟨_,rfl,_,rfl,pr,_,_,.bl row[i],rfl,rfl,s4.seq hR,cg (by rw[aB,af TQ]; rfl),_,rfl,?_⟩
   refine cv (fun c1=>?_) (fun c1=>bV ?_)
   ·refine⟨_,rfl,_,_,rfl,rfl,_,rfl,cv (fun c2=>?_) (fun c2=>?_)⟩
    ·have TU:0 < am:=aM c2
     rw[aZ ⟨by rw[TR]; exact c1,TU⟩] at oR
     refine⟨_,rfl,.inl ⟨rfl,_,bw.of Q2⟩,_,rfl,_,rfl,(by show 2<=sizeLine; decide),fun p8 n8=>?_⟩
     have s8:aE H3 (upd H3 p8 (.tup [.int i,.int am])):=aE.new n8
     refine⟨q,ms,_,rfl,rfl,s8 _ _ Q2,bf (by lia),?_⟩
     refine⟨_,rfl,_,rfl,_,_,rfl,rfl,?_⟩
     refine⟨_,_,_,ms ++ [.ref p8],by rw[oR]; rfl,(s4.trans s8).cY nq,ag,?_⟩
     rw[oR]
     exact cy ((Yi.mono (gh s8)).mono (dG (s8 _ _ Q2))) ⟨p8,rfl,dG (s8 _ _ Q2) _ _ ag⟩
    ·exact no fun z=>c2 (aG z.2)
   ·exact no fun z=>c1 (by rw[← TR]; exact z.1)
  ·rintro σ H2 ⟨x5,x6,x7,ms,rfl,s2,hM,hP⟩
   rw[ae] at hP
   refine⟨_,rfl,?_⟩
   exact k _ _ _ s2 nq hM hP
theorem qh (f:Int)(l:List Int)(row:List Bool): ∀j,∀x∈(bE f l row j).2,x.1 < j
 |0,x,hx=>by cases hx
 |j + 1,x,hx=>by
  rw[bE] at hx
  split at hx
  ·rcases bq.mp hx with hx|hx
   ·have:=qh f l row j x hx; lia
   ·rw[ao] at hx; subst hx; exact gf _
  ·have:=qh f l row j x hx; lia
theorem CB (fs ls:List Int)(al:List (List Bool)): ∀i,(cu fs ls al i).2.length<=i * ls.length
 |0=>by show 0<=_; lia
 |i + 1=>by
  have:=CB fs ls al i
  have h2:=gA (fs.getD i 0) (cu fs ls al i).1 (al.getD i []) (cu fs ls al i).1.length
  rw[tJ,aH,ae,wF]
  unfold cO
  rw[jO] at h2 ⊢
  lia
inductive v8 (K:Frag)(vs:List V)(H:Hp)(Q:VK)(E':XK):Prop
 |mk (pf pl pa:Addr)(fs ls:List Int)(al:List (List Bool))(h1:vs=[.ref pf,.ref pl,.ref pa])(h2:bw K H pf (fs.map V.int))(h3:bw K H pl (ls.map V.int))(h4:Rp H (.lst (al.map Aq)) (.ref pa))(h5:fs.length<=63)(h6:ls.length<=63)(h7:al.length=fs.length)(h8:(∀r∈al,r.length=ls.length))(h9: ∀(pm:Addr) (ms:List V) (H':Hp),aE H H'->H' pm=some (.lst ms)->nQ H' (cu fs ls al fs.length).2 ms->Q (.ref pm) H'):v8 K vs H Q E'
theorem FI {H:Hp}: ∀(r:List Bool) {xs:List V},il H (r.map Dt.bl) xs->xs=r.map V.bl
 |[],_,h=>cM.mp h
 |b :: r,_,h=>by
  obtain⟨v,rest,e,h1,h2⟩:=bI.mp h
  rw[e,qJ.mp h1,FI r h2]; rfl
theorem PR {H:Hp}{al:List (List Bool)}{refs:List V}(h:il H (al.map Aq) refs){i:Nat}(hi:i < al.length): ∃pr,refs[i]? =some (.ref pr)/\H pr=some (.lst (al[i].map V.bl)):=by
 have g0:(al.map Aq)[i]? =some (Aq al[i]):=by rw[aB,af hi]; rfl
 obtain⟨rv,VB,VC⟩:=h.get g0
 obtain⟨pr,Yf,e1,K9,yB⟩:=jX.mp VC
 rw[FI _ yB] at K9
 exact⟨pr,by rw[VB,e1],K9⟩
theorem o6:aW ["frees","lefts","allowed","still_left","made","credit","free","parts","bill","amount"] ["frees","lefts","allowed"] (ax (top 22)):={}
theorem Au (T:Txt K mg):fb P w K mg base "shared_out" 2 ["frees","lefts","allowed"] (v8 K):=by
 have Es:fb P w K mg base "parts_of" 1 ["free","lefts","fitting"] (As K):=Er T
 refine T.zw.fC (k:=1) o6 (fun f cU A outer s H vs Q E hr h=>?_)
 ·obtain⟨pf,pl,pa,fs,ls,al,rfl,hF,hL,hA,hf1,La,WZ,Kg,k⟩:=h
  have hu:=jV hr
  have nd:=o6.nd
  obtain⟨pa',refs,e0,Yd,ME⟩:=jX.mp hA
  cases e0
  refine⟨_,(ah (sv 3 nd (gg zd (by rfl) T.vz boot_list (aa (pv 1) av)))
(ah (sv 4 nd (bQ av))
(ah (dW bu rfl (qH rfl T.jr (aa (pv 0) av)) (iE rfl (bX (gn 5 nd) (bX (gn 6 nd) gr)))
(ah (sv 7 nd (fc Es hr (aa (pv 6) (aa (pv 3) (aa (xl (pv 2) (pv 5)) av)))))
(au (dW bu rfl (cF (pv 7)) (iE rfl (bX (gn 8 nd) (bX (gn 9 nd) gr)))
(ah (l0 (aQ eM (xl (pv 3) (pv 8)) (pv 9)) (r9 (pv 3) (pv 8) set_list))
(au (bK (pW (pv 4) (cQ (aa (pv 5) (aa (pv 8) (aa (pv 9) av))))))))))))
(au (a9 (pv 4)))))),?_⟩
  refine⟨_,rfl,pl,_,rfl,.inl hL,fun q nq=>?_⟩
  refine⟨bp _,fun pm nm=>?_⟩
  have s1:aE H (upd H q (.lst (ls.map V.int))):=aE.new nq
  have s2:aE H (upd (upd H q (.lst (ls.map V.int))) pm (.lst [])):=s1.trans (aE.new nm)
  have Ye:H pm=none:=s1.free nm
  have Yj:q≠pm:=aK ag nm
  refine⟨_,rfl,pf,rfl,⟨_,s2.seq hF⟩,?_⟩
  refine mY (K:=K) (a:=pf) (xs:=fs.map V.int) (fun i σ H2=> ∃(x5 x6 x7 x8 x9:Option V) (ms:List V),σ=[some (.ref pf),some (.ref pl),some (.ref pa),some (.ref q),some (.ref pm),x5,x6,x7,x8,x9]/\aE H H2/\H2 q=some (.lst ((cu fs ls al i).1.map V.int))/\H2 pm=some (.lst ms)/\nQ H2 (cu fs ls al i).2 ms)
   ⟨none,none,none,none,none,[],rfl,s2,by rw[aA Yj]; exact ag,ag,.nil⟩ (fun i σ H2 _ ⟨_,_,_,_,_,_,_,s3,_⟩=>s3.seq hF) ?_ ?_
  ·rintro i x p σ H2 hx hp ⟨x5,x6,x7,x8,x9,ms,rfl,s3,hQ,hM,FH⟩
   have hi:i < fs.length:=by have:=(ak.mp hx).1; rwa [ae] at this
   rw[aB,af hi] at hx
   obtain rfl:V.int fs[i]=x:=aD hx
   have s4:aE H2 (upd H2 p (.tup [.int i,.int fs[i]])):=aE.new hp
   refine⟨p,_,rfl,cB.of ag,rfl,_,_,rfl,_,_,rfl,rfl,?_⟩
   have s5:=s3.trans s4
   have VD:=s4 _ _ hQ
   have rE:=s4 _ _ hM
   have Eo:=FH.mono (gh s4)
   generalize upd H2 p (.tup [.int i,.int fs[i]])=H3 at s5 VD rE Eo ⊢
   clear s4 hp
   have TV:i < al.length:=by lia
   obtain⟨pr,Yk,Yl⟩:=PR ME TV
   have Yg:fs.getD i 0=fs[i]:=getD_at hi
   have Yh:al.getD i []=al[i]:=getD_at TV
   have Ir:=jO fs ls al i
   have PU:cO fs ls al i=(bE fs[i] (cu fs ls al i).1 al[i] (cu fs ls al i).1.length).2:=by unfold cO; rw[Yg,Yh]
   have aak:(cO fs ls al i).length<=ls.length:=by rw[PU,Ir]; exact gA _ _ _ _
   have Ym: ∀x∈cO fs ls al i,x.1 < ls.length:=by rw[PU,Ir]; exact qh _ _ _ _
   have Q1:=CB fs ls al i
   have ac6:(cu fs ls al i).2.length<=3969:=a6 Q1 (qv (show i<=63 by lia) La)
   refine⟨_,rfl,_,rfl,_,rfl,_,rfl,pa,_,_,.ref pr,rfl,rfl,bw.of (s5 _ _ Yd),cg Yk,fs[i],q,(cu fs ls al i).1,pr,al[i],rfl,bw.of VD,bw.of (s5 _ _ Yl),by rw[Ir]; exact Kg _ (bN _),by rw[Ir]; lia,fun r TX H4 s6 TY XJ hP=>?_⟩
   rw[← PU] at hP
   have hQ5:=s6 _ _ VD
   have v7:=s6 _ _ rE
   have Yn:=Eo.mono (gh s6)
   have hrq:r≠q:=(aK VD TY).symm
   have Sk:r≠pm:=(aK rE TY).symm
   have s7:=s5.trans s6
   have PJ:TX.length=(cO fs ls al i).length:=hP.length.symm
   refine⟨_,rfl,r,rfl,⟨_,bw.of XJ⟩,?_⟩
   refine eQ (K:=K) (a:=r) (xs:=TX) (fun m σ H5=> ∃(x8 x9:Option V) (ms:List V),σ=[some (.ref pf),some (.ref pl),some (.ref pa),some (.ref q),some (.ref pm),some (.int i),some (.int fs[i]),some (.ref r),x8,x9]/\aE H H5/\H5 q=some (.lst ((dN (cu fs ls al i).1 ((cO fs ls al i).take m)).map V.int))/\H5 pm=some (.lst ms)/\nQ H5 ((cu fs ls al i).2 ++ ((cO fs ls al i).take m).map fun x=>(i,x.1,x.2)) ms/\H5 r=some (.lst TX)/\PQ H5 (cO fs ls al i) TX)
    ⟨_,_,ms,rfl,s7,hQ5,v7,by simpa using Yn,XJ,hP⟩ (fun m σ H5 _ ⟨_,_,_,_,_,_,_,_,h,_⟩=>bw.of h) ?_ ?_
   ·rintro m x σ H5 hx ⟨y8,y9,TZ,rfl,t5,PV,Kh,Ep,Ny,QY⟩
    have hm:m < (cO fs ls al i).length:=by have:=(ak.mp hx).1; lia
    have g0:(cO fs ls al i)[m]? =some (cO fs ls al i)[m]:=af hm
    obtain⟨v,hv,pp,e1,zu⟩:=bB QY g0
    rw[hx] at hv
    obtain rfl:x=v:=aD hv
    subst e1
    have hb:(cO fs ls al i)[m].1 < ls.length:=Ym _ (bN _)
    have kE:=gX hm
    have Vf:(dN (cu fs ls al i).1 ((cO fs ls al i).take m)).length=ls.length:=by rw[pS,Ir]
    generalize (cO fs ls al i)[m]=pt at zu hb kE g0
    obtain⟨b,am⟩:=pt
    dsimp only at zu hb
    refine⟨pp,_,rfl,cB.of zu,rfl,_,_,rfl,_,_,rfl,rfl,?_⟩
    refine⟨_,rfl,_,rfl,q,_,_,_,rfl,rfl,bw.of PV,pZ (by rw[Vf]; exact hb),_,rfl,_,_,rfl,rfl,_,rfl,_,rfl,q,_,_,b,rfl,rfl,PV,uq (by rw[ae,Vf]; exact hb),?_⟩
    rw[← List.map_set]
    have hap:dN (cu fs ls al i).1 ((cO fs ls al i).take (m + 1))=(dN (cu fs ls al i).1 ((cO fs ls al i).take m)).set b ((dN (cu fs ls al i).1 ((cO fs ls al i).take m)).getD b 0 - am):=by rw[kE,sY]
    rw[← hap]
    have t6:aE H (upd H5 q (.lst ((dN (cu fs ls al i).1 ((cO fs ls al i).take (m + 1))).map V.int))):=t5.cY nq
    have HI:upd H5 q (.lst ((dN (cu fs ls al i).1 ((cO fs ls al i).take (m + 1))).map V.int)) pm=some (.lst TZ):=by rw[aA Yj.symm]; exact Kh
    have hQ7:upd H5 q (.lst ((dN (cu fs ls al i).1 ((cO fs ls al i).take (m + 1))).map V.int)) q=some (.lst ((dN (cu fs ls al i).1 ((cO fs ls al i).take (m + 1))).map V.int)):=ag
    have hr7:upd H5 q (.lst ((dN (cu fs ls al i).1 ((cO fs ls al i).take (m + 1))).map V.int)) r=some (.lst TX):=by rw[aA hrq]; exact Ny
    have PX:=Ep.mono (dG (o:= .lst ((dN (cu fs ls al i).1 ((cO fs ls al i).take (m + 1))).map V.int)) PV)
    have hP7:=QY.mono (dG (o:= .lst ((dN (cu fs ls al i).1 ((cO fs ls al i).take (m + 1))).map V.int)) PV)
    generalize upd H5 q (.lst ((dN (cu fs ls al i).1 ((cO fs ls al i).take (m + 1))).map V.int))=H6 at t6 HI hQ7 hr7 PX hP7 ⊢
    have Fy:=PX.length
    rw[aH,ae,bb] at Fy
    refine⟨_,rfl,.inl ⟨rfl,_,bw.of HI⟩,_,rfl,_,rfl,_,rfl,(by show 3<=sizeLine; decide),fun p8 n8=>?_⟩
    have s8:aE H6 (upd H6 p8 (.tup [.int i,.int b,.int am])):=aE.new n8
    refine⟨pm,TZ,_,rfl,rfl,s8 _ _ HI,jj (by lia),?_⟩
    refine⟨_,_,TZ ++ [.ref p8],rfl,(t6.trans s8).cY Ye,?_,ag,?_,?_,?_⟩
    ·rw[aA Yj]; exact s8 _ _ hQ7
    ·rw[kE,aJ,← dU]
     exact cy ((PX.mono (gh s8)).mono (dG (s8 _ _ HI))) ⟨p8,rfl,dG (s8 _ _ HI) _ _ ag⟩
    ·rw[aA Sk]; exact s8 _ _ hr7
    ·exact(hP7.mono (gh s8)).mono (dG (s8 _ _ HI))
   ·rintro σ H5 ⟨y8,y9,TZ,rfl,t5,PV,Kh,Ep,Ny,QY⟩
    rw[PJ,aY] at PV Ep
    exact⟨_,_,_,_,_,TZ,rfl,t5,by rw[CA]; exact PV,Kh,by rw[tJ]; exact Ep⟩
  ·rintro σ H2 ⟨x5,x6,x7,x8,x9,ms,rfl,s3,hQ,hM,FH⟩
   rw[ae] at FH
   refine⟨_,rfl,?_⟩
   exact k _ _ _ s3 hM FH
theorem MF {X:Cx}{K:Frag}{es:List Expr}{k:Nat}{pos:Pos}{t:M5}{n:Nat}(hK:X.K=K)(hc:X.calm=true)(h:KW X es t)(hn:(assignEach es X.env).length=n)(oR:(assignEach es X.env).findIdx? (·.1)=none):PG X (.Tuple es k pos) (RD K n t):=by
 subst hK
 exact iE hc h hn oR
theorem f9 {H H':Hp}{tb:Addr}{fp:List Addr}{pos:Pos}{qual:Str}(t:Tb H tb pos qual)(fr:Frame fp H H')(ht:tb∉fp)(hf: ∀a∈fp,∀φ,H a≠some (.ext φ)):Tb H' tb pos qual:=by
 obtain⟨ps,h1,h2,h3⟩:=t
 refine⟨ps,fr _ _ ht h1,h2,?_⟩
 rcases h3 with h3|⟨c',h3,h4⟩
 ·exact .inl h3
 ·exact .inr ⟨c',h3,fr _ _ (fun z=>hf _ z _ h4) h4⟩
theorem c8 {H:Hp}{tb:Addr}{pos:Pos}{qual:Str}(t:Tb H tb pos qual): ∃ps,H tb=some (.mO ps):=let⟨ps,e,_⟩:=t; ⟨ps,e⟩
theorem dJ {fp Ss:List Addr}{H H':Hp}(f:Frame fp H H')(h: ∀x∈fp,x∈Ss):Frame Ss H H':=fun b o hb e=>f b o (fun z=>hb (h b z)) e
theorem uE {H:Hp}{p C D:Addr}{fs:List (Str×V)}{ys:List V}{o:HO}(h:eI H p C fs)(e:H D=some (.lst ys)):eI (upd H D o) p C fs:=let⟨dx,z⟩:=h; ⟨dx,by rw[aA (mx z e (by intro q; cases q))]; exact z⟩
theorem gU.upd {A:eh}{H:Hp}{S:Bk}{cs:List Nat}{qs:List Addr}{D:Addr}{ys:List V}{o:HO}(h:gU A H S cs qs)(e:H D=some (.lst ys)):gU A (L2.upd H D o) S cs qs:=Paired.iD h fun _ _ z=>uE z e
theorem iN.upd {A:eh}{H:Hp}{S:Bk}{cs:List Nat}{qs:List Addr}{D:Addr}{ys:List V}{o:HO}(h:iN A H S cs qs)(e:H D=some (.lst ys)):iN A (L2.upd H D o) S cs qs:=Paired.iD h fun _ _ z=>uE z e
theorem gU.tb {A:eh}{H H':Hp}{S:Bk}{cs:List Nat}{qs:List Addr}{tb:Addr}{pos:Pos}{qual:Str}(h:gU A H S cs qs)(t:Tb H tb pos qual)(fr:Frame [tb] H H'):gU A H' S cs qs:=Paired.iD h fun _ _ z=>z.frame fr (vV t z)
theorem oo {rows:List Rw}{c:Nat}(h:c < rows.length):(rows.map fun r=>V.int r.d)[c]? =some (.int (rows.getD c default).d):=by
 rw[aB,af h,aj,af h]; rfl
theorem oq (rows:List Rw)(aC:Str)(key:Rw->Int):(inOrder rows aC key).length<=rows.length:=by
 have e:(inOrder rows aC key).length=((List.range rows.length).filter fun k=>decide ((rows.getD k default).aC=aC)).length:=by
  unfold inOrder gq
  rw[ae,(cS _).length_eq,ae]
 have:=a7 (fun k=>decide ((rows.getD k default).aC=aC)) (List.range rows.length)
 rw[dA] at this
 lia
def mE (rows:List Rw)(k:Nat):Bool:=decide (0 < (rows.getD k default).d)
abbrev Ki:=List Int->List Int->List (List Bool)->List (Nat×Nat×Int)
def qj:Ki:=fun fs ls al=>(bW fs ls al fs.length).2
def CC:Ki:=fun fs ls al=>(cu fs ls al fs.length).2
structure Kj (way:Ki):Prop where
 lt: ∀fs ls al,∀t∈way fs ls al,t.1 < fs.length/\t.2.1 < ls.length
 len: ∀fs ls al,fs.length<=63->ls.length<=63->(way fs ls al).length<=4000
def PY (way:Ki)(sp:Sp):Prop:= ∀(pf pl pa:Addr) (fs ls:List Int) (al:List (List Bool)) (H:Hp) (Q:VK),H pf=some (.lst (fs.map V.int))->H pl=some (.lst (ls.map V.int))->Rp H (.lst (al.map Aq)) (.ref pa)->fs.length<=63->ls.length<=63->al.length=fs.length->(∀r∈al,r.length=ls.length)->
 (∀(pm:Addr) (ms:List V) (H':Hp),aE H H'->H' pm=some (.lst ms)->ir H' (way fs ls al) ms->Q (.ref pm) H')->sp [.ref pf,.ref pl,.ref pa] H Q E0
def jl (H:Hp)(D:Addr)(al:List (List Bool))(rs:List V):Prop:=Paired (fun(r:List Bool) v=> ∃p,v= .ref p/\p≠D/\H p=some (.lst (r.map V.bl))) al rs
theorem jl.upd {H:Hp}{D:Addr}{al:List (List Bool)}{rs:List V}{o:HO}(h:jl H D al rs):jl (L2.upd H D o) D al rs:=Paired.iD h fun _ _ ⟨p,e,n,z⟩=>⟨p,e,n,by rw[aA n]; exact z⟩
theorem jl.same {H H':Hp}{D:Addr}{al:List (List Bool)}{rs:List V}(h:jl H D al rs)(s:aE H H'):jl H' D al rs:=Paired.iD h fun _ _ ⟨p,e,n,z⟩=>⟨p,e,n,s _ _ z⟩
theorem yF {H:Hp}: ∀r:List Bool,il H (r.map Dt.bl) (r.map V.bl)
 |[]=>cM.mpr rfl
 |b :: r=>bI.mpr ⟨_,_,rfl,qJ.mpr rfl,yF r⟩
theorem jl.rp {H:Hp}{D:Addr}: ∀{al:List (List Bool)} {rs:List V},jl H D al rs->il H (al.map Aq) rs
 |_,_,.nil=>cM.mpr rfl
 |_,_,.cons ⟨p,e,_,z⟩ t=>bI.mpr ⟨_,_,rfl,e▸iG z (yF _),jl.rp t⟩
theorem HJ {S:Bk}{l:List (Nat×Nat×Int)}{i:Nat}{t:Nat×Nat×Int}(h:l[i]? =some t):kF S (l.take (i + 1))=(kF S (l.take i)).put t.1 t.2.1 t.2.2:=lP (fun(S:Bk) (t:Nat×Nat×Int)=>S.put t.1 t.2.1 t.2.2) l S h
theorem FJ (S:Bk): ∀l,(kF S l).aF.length=S.aF.length/\(kF S l).credits.length=S.credits.length
 |[]=>⟨rfl,rfl⟩
 |t :: l=>by
  obtain⟨a,b⟩:=FJ (S.put t.1 t.2.1 t.2.2) l
  exact⟨a.trans eY,b.trans eY⟩
inductive Av (P:Program)(w:World)(K:Frag)(mg:Str->Option Value)(base:Heap)(A:eh)(tB tC:Addr)(vs:List V)(H:Hp)(Q:VK)(E':XK):Prop
 |mk (pw fa:Addr)(S:Bk)(f:eO)(n:Nat)(aC:Str)(way:Ki)(sp:Sp)(h1:vs=[.ref pw,.str aC,.ref fa])(h2:dI A H pw S f)(h3:WF S n)(h4:n<=62)(h5:lu H tB)(h6:lW H tC)(h7:Kj way)(h8:XB P w K mg base 2 fa sp)(h9:PY way sp)(K2: ∀gs ts fs ls al,ve S aC gs ts fs ls al-> ∀D ms H',Frame (tB :: tC :: f.fp) H H'->lu H' tB->lW H' tC->dI A H' pw (kF S ((way fs ls al).map (l9 gs ts))) f->H D=none->H' D=some (.lst ms)->ir H' ((way fs ls al).map (l9 gs ts)) ms->Q (.ref D) H'):Av P w K mg base A tB tC vs H Q E'
theorem kY:aW ["self","who","way","givers","takers","frees","lefts","found","numbered","credit_number","bill_number","amount"] ["self","who","way"] (ax (mem 25 7)):={}
theorem CD (T:Txt K mg){A:eh}{tB tC:Addr}(G:jJ K mg A)(DB:qr K mg "bills_in_order" (top 17) tB)(DC:qr K mg "credits_in_order" (top 18) tC)(jy:tB≠tC)(KB:K.In base)(BM:BMain mg base):g9 sk P w K mg base A.work "one_round" 3 ["self","who","way"] (Av P w K mg base A tB tC):=by
 have jg:fb P w K mg base "bills_in_order" 2 ["bills","who"] (uA A tB):=lR T G DB KB BM
 have ie:fb P w K mg base "credits_in_order" 2 ["all_credits","who"] (uB A tC):=kj T G DC KB BM
 have xJ:fb P w K mg base "row_of_fits" 2 ["credit","bills"] (J2 A):=xv T G
 have JY:g9 sk P w K mg base A.work "put" 1 ["self","credit_number","bill_number","amount"] (zX A):=Nq G
 refine Ml (k:=2) G.qZ G.bJ kY (fun f cU A' outer s H vs Q E hr h=>?_)
 ·obtain⟨pw,fa,S,g,n,aC,way,sp,rfl,hW,wf,hn,kA,jR,T1,hFv,hWC,k⟩:=h
  have nd:=kY.nd
  have XX:S.credits.length<=62:=by have:=wf.lc; lia
  have hlb:S.aF.length<=62:=by have:=wf.lb; lia
  refine⟨_,(ah (sv 3 nd (gy (tn:=["credit"]) (cn:=["self"]) (cj:=[0]) rfl (jh (AZ:=[(".0",.local),("credit",.local),("self",.cell)])) (cF (fc ie hr (aa (bZ (pv 0) rfl) (aa (pv 1) av)))) (fun _ _ _ _=>(eE (i:=0) (show(["credit","self"]:List Str).Nodup by decide +kernel) rfl (Or.inl rfl))) (fun _ _ _ _=>(pK (aX jn (iU (lC (K:=K) rfl) (fB (K:=K) rfl (pv 1) rfl) (fB (K:=K) rfl (pv 0) rfl) (fun _ _=>rfl)) ai (a0 _)))) (fun _ _ _ _=>(pv 0))))
(ah (sv 4 nd (gy (tn:=["bill"]) (cn:=["self"]) (cj:=[0]) rfl (jh (AZ:=[(".0",.local),("bill",.local),("self",.cell)])) (cF (fc jg hr (aa (bZ (pv 0) rfl) (aa (pv 1) av)))) (fun _ _ _ _=>(eE (i:=0) (show(["bill","self"]:List Str).Nodup by decide +kernel) rfl (Or.inl rfl))) (fun _ _ _ _=>(pK (aX jn (iU (lC (K:=K) rfl) (fB (K:=K) rfl (pv 1) rfl) (fB (K:=K) rfl (pv 0) rfl) (fun _ _=>rfl)) ai (a0 _)))) (fun _ _ _ _=>(pv 0))))
(ah (lB (i:=5) nd rfl (Or.inl rfl) (tn:=["credit"]) (cn:=["self"]) (cj:=[0]) rfl (jh (AZ:=[(".0",.local),("credit",.local),("self",.cell)])) (cF (pv 3)) (fun _ _ _ _=>(eE (i:=0) (show(["credit","self"]:List Str).Nodup by decide +kernel) rfl (Or.inl rfl))) (fun _ _ _ _=>k4) (fun _ _ _ _=>(iU (lC (K:=K) rfl) (fB (K:=K) rfl (pv 1) rfl) (fB (K:=K) rfl (pv 0) rfl) (fun _ _=>rfl))))
(ah (lB (i:=6) nd rfl (Or.inl rfl) (tn:=["bill"]) (cn:=["self"]) (cj:=[0]) rfl (jh (AZ:=[(".0",.local),("bill",.local),("self",.cell)])) (cF (pv 4)) (fun _ _ _ _=>(eE (i:=0) (show(["bill","self"]:List Str).Nodup by decide +kernel) rfl (Or.inl rfl))) (fun _ _ _ _=>k4) (fun _ _ _ _=>(iU (lC (K:=K) rfl) (fB (K:=K) rfl (pv 1) rfl) (fB (K:=K) rfl (pv 0) rfl) (fun _ _=>rfl))))
(ah (sv 7 nd (Pa (i:=2) (k:=2) (hr.mono (by decide)) rfl (Or.inl rfl) (aa (pv 5) (aa (pv 6) (aa (gy (tn:=["credit"]) (cn:=["takers"]) (cj:=[4]) rfl (jh (AZ:=[(".0",.local),("credit",.local),("row_of_fits",.globalImplicit),("takers",.cell)])) (cF (pv 3)) (fun _ _ _ _=>(eE (i:=0) (show(["credit","takers"]:List Str).Nodup by decide +kernel) rfl (Or.inl rfl))) (fun _ _ _ _=>k4) (fun _ _ _ _=>(fc xJ hr (aa (pv 0) (aa (pv 1) av))))) av)))))
(ah (lB (i:=8) nd rfl (Or.inl rfl) (tn:=["giver","taker","amount"]) (cn:=["takers","givers"]) (cj:=[4,3]) rfl (Ah (AZ:=[(".0",.local),("giver",.local),("taker",.local),("amount",.local),("givers",.cell),("takers",.cell)])) (cF (pv 7)) (fun _ _ _ _=>(MF (K:=K) (n:=3) rfl rfl (bX (eE (i:=0) (show(["giver","taker","amount","takers","givers"]:List Str).Nodup by decide +kernel) rfl (Or.inl rfl) (Or.inr rfl)) (bX (eE (i:=1) (show(["giver","taker","amount","takers","givers"]:List Str).Nodup by decide +kernel) rfl (Or.inl rfl) (Or.inr rfl)) (bX (eE (i:=2) (show(["giver","taker","amount","takers","givers"]:List Str).Nodup by decide +kernel) rfl (Or.inl rfl) (Or.inr rfl)) gr))) rfl rfl)) (fun _ _ _ _=>k4) (fun _ _ _ _=>(cQ (aa (fB (K:=K) rfl (iU (lC (K:=K) rfl) (pv 4) (pv 0) (fun _ _=>rfl)) rfl) (aa (fB (K:=K) rfl (iU (lC (K:=K) rfl) (pv 3) (pv 1) (fun _ _=>rfl)) rfl) (aa (pv 2) av))))))
(ah (dW bu rfl (cF (pv 8)) (iE rfl (bX (gn 9 nd) (bX (gn 10 nd) (bX (gn 11 nd) gr))))
(au (bK (nA JY (hr.mono (by decide)) mX (pv 0) (aa (pv 9) (aa (pv 10) (aa (pv 11) av)))))))
(au (a9 (pv 8)))))))))),?_⟩
  obtain⟨dw,hw⟩:=hW.obj
  refine⟨_,rfl,pw,_,dw,_,_,rfl,hw,G.bJ,G.cH,hZ g,_,rfl,g.pc,g.cps,S,aC,rfl,hW.hc,hW.rc,(by lia),jR,fun D1 Yo H1 Kk ko T2 Hr Ju=>?_⟩
  have Dk:=vX hW (c8 jR) Kk
  have Kl: ∀a∈[tC],∀φ,H a≠some (.ext φ):=fun a ha φ e=>by
   obtain⟨ps,z⟩:=c8 jR
   rw[ao.mp ha,z] at e
   cases e
  have jA:lu H1 tB:=f9 kA Kk (by simpa using jy) Kl
  have F1:Frame (tB :: tC :: g.fp) H H1:=dJ Kk (by intro x hx; rw[List.mem_singleton.mp hx]; simp)
  clear Kl
  refine⟨D1,rfl,⟨_,bw.of Hr⟩,?_⟩
  have Mz:=oq S.credits aC (·.a)
  have PZ: ∀c∈inOrder S.credits aC (·.a),c < S.credits.length:=fun c hc=>(jo.mp hc).1
  have LO:=ip S.credits aC (·.a)
  generalize inOrder S.credits aC (·.a)=ord at Ju Mz PZ LO
  have P0:=aL Ju
  refine dX (K:=K) (a:=D1) (xs:=Yo.map V.ref) (fun D i σ H6=>H1 D=none/\ ∃(v:Option V) (rs:List Addr),σ=[v,some (.ref pw)]/\aE H1 H6/\H6 D=some (.lst (rs.map V.ref))/\gU A H6 S ((ord.take i).filter (mE S.credits)) rs) (fun D hD=>⟨hD,none,[],rfl,aE.new hD,ag,.nil⟩) (fun D i σ H6 _ ⟨_,_,_,_,t3,_⟩=>bw.of (t3 _ _ Hr)) ?_ ?_
  ·rintro D i x σ H6 hx ⟨hD,v,rs,rfl,t3,gJ,P1⟩
   rw[aB] at hx
   obtain⟨q,hq,rfl⟩:=br.mp hx
   have hi:i < ord.length:=by have:=(ak.mp hq).1; lia
   have qq:=af hi
   obtain⟨q',sS,lQ⟩:=bB Ju qq
   rw[hq] at sS
   obtain rfl:q=q':=aD sS
   have mC:=fQ (mE S.credits) qq
   have qS:=PZ _ (bN hi)
   generalize ord[i]=c at lQ mC qS
   obtain⟨dq,MG⟩:=lQ.same t3
   have Km:=Dk.same t3
   obtain⟨P2,P4⟩:=Km.obj
   have Bv:rs.length<=1000:=by
    have e1:=aL P1
    have e2:=a7 (mE S.credits) (ord.take i)
    rw[bb] at e2
    lia
   refine⟨_,rfl,pw,_,P2,_,_,rfl,P4,G.bJ,G.fG,lL g,_,rfl,q,_,dq,_,_,rfl,MG,G.dg,G.eP,om _ _,g.pf,_,_,.int (S.cr c).d,rfl,rfl,bw.of Km.hf,cg (oo qS),_,_,rfl,rfl,_,rfl,cv (fun z=>?_) (fun z=>?_)⟩
   ·have z':mE S.credits c=true:=z
    rw[aZ z'] at mC
    refine⟨_,rfl,_,gJ,bf (by rw[ae]; exact Bv),hD,_,rs ++ [q],rfl,t3.cY hD,(by rw[ag,aJ]; rfl),?_⟩
    rw[mC]
    exact cy (P1.upd gJ) (uE ⟨dq,MG⟩ gJ)
   ·have z': ¬ mE S.credits c=true:=z
    rw[aO z',bU] at mC
    refine⟨hD,_,rs,rfl,t3,gJ,?_⟩
    rw[mC]
    exact P1
  rintro pg σ H2 npg ⟨_,v,rs,rfl,s2,VE,MH⟩
  rw[ae,← P0,aY] at MH
  have egs:ord.filter (mE S.credits)=inTurn S.credits aC (·.a):=LO.symm
  rw[egs] at MH
  clear LO egs PZ Mz Ju P0 Hr
  have PN:(inTurn S.credits aC (·.a)).length<=62:=by
   rw[ip]
   have e1:=a7 (fun k=>decide (0 < (S.credits.getD k default).d)) (inOrder S.credits aC (·.a))
   have e2:=oq S.credits aC (·.a)
   lia
  have VF: ∀c∈inTurn S.credits aC (·.a),c < S.credits.length:=fun c hc=>(dv.mp hc).1
  have Ao:=Dk.same s2
  have kG:lu H2 tB:=bL jA s2
  have mL:lW H2 tC:=bL ko s2
  have F2:=F1.df s2
  clear Kk Dk jA ko s2 F1
  obtain⟨Yp,QW⟩:=Ao.obj
  refine⟨_,rfl,pw,_,Yp,_,_,rfl,QW,G.bJ,G.d9,js g,_,rfl,g.pb,g.iA,S,aC,rfl,Ao.hb,Ao.rb,(by lia),kG,fun D1 Yo H1 Kk jA T2 Hr Ju=>?_⟩
  have Dk:=vX Ao (c8 kG) Kk
  have Kl: ∀a∈[tB],∀φ,H2 a≠some (.ext φ):=fun a ha φ e=>by
   obtain⟨ps,z⟩:=c8 kG
   rw[ao.mp ha,z] at e
   cases e
  have ko:lW H1 tC:=f9 mL Kk (by simpa using jy.symm) Kl
  have F1:Frame (tB :: tC :: g.fp) H H1:=F2.tr (dJ Kk (by intro x hx; rw[List.mem_singleton.mp hx]; simp))
  have hG1:=MH.tb kG Kk
  have T3:H1 pg=some (.lst (rs.map V.ref)):=Kk _ _ (fun z=>by
   obtain⟨ps,e⟩:=c8 kG
   rw[ao.mp z,e] at VE
   cases VE) VE
  clear Kl
  refine⟨D1,rfl,⟨_,bw.of Hr⟩,?_⟩
  have Mz:=oq S.aF aC (·.b)
  have PZ: ∀c∈inOrder S.aF aC (·.b),c < S.aF.length:=fun c hc=>(jo.mp hc).1
  have LO:=ip S.aF aC (·.b)
  generalize inOrder S.aF aC (·.b)=ord at Ju Mz PZ LO
  have P0:=aL Ju
  refine dX (K:=K) (a:=D1) (xs:=Yo.map V.ref) (fun D i σ H6=>H1 D=none/\ ∃(v:Option V) (us:List Addr),σ=[v,some (.ref pw)]/\aE H1 H6/\H6 D=some (.lst (us.map V.ref))/\iN A H6 S ((ord.take i).filter (mE S.aF)) us) (fun D hD=>⟨hD,none,[],rfl,aE.new hD,ag,.nil⟩) (fun D i σ H6 _ ⟨_,_,_,_,t3,_⟩=>bw.of (t3 _ _ Hr)) ?_ ?_
  ·rintro D i x σ H6 hx ⟨hD,v,us,rfl,t3,gJ,P1⟩
   rw[aB] at hx
   obtain⟨q,hq,rfl⟩:=br.mp hx
   have hi:i < ord.length:=by have:=(ak.mp hq).1; lia
   have qq:=af hi
   obtain⟨q',sS,lQ⟩:=bB Ju qq
   rw[hq] at sS
   obtain rfl:q=q':=aD sS
   have mC:=fQ (mE S.aF) qq
   have qS:=PZ _ (bN hi)
   generalize ord[i]=c at lQ mC qS
   obtain⟨dq,MG⟩:=lQ.same t3
   have Km:=Dk.same t3
   obtain⟨P2,P4⟩:=Km.obj
   have Bv:us.length<=1000:=by
    have e1:=aL P1
    have e2:=a7 (mE S.aF) (ord.take i)
    rw[bb] at e2
    lia
   refine⟨_,rfl,pw,_,P2,_,_,rfl,P4,G.bJ,G.fF,lK g,_,rfl,q,_,dq,_,_,rfl,MG,G.en,G.eV,lI _ _,g.pl,_,_,.int (S.bl c).d,rfl,rfl,bw.of Km.hl,cg (oo qS),_,_,rfl,rfl,_,rfl,cv (fun z=>?_) (fun z=>?_)⟩
   ·have z':mE S.aF c=true:=z
    rw[aZ z'] at mC
    refine⟨_,rfl,_,gJ,bf (by rw[ae]; exact Bv),hD,_,us ++ [q],rfl,t3.cY hD,(by rw[ag,aJ]; rfl),?_⟩
    rw[mC]
    exact cy (P1.upd gJ) (uE ⟨dq,MG⟩ gJ)
   ·have z': ¬ mE S.aF c=true:=z
    rw[aO z',bU] at mC
    refine⟨hD,_,us,rfl,t3,gJ,?_⟩
    rw[mC]
    exact P1
  rintro pt σ H3 npt ⟨_,v',us,rfl,s3,ux,Fx⟩
  rw[ae,← P0,aY] at Fx
  have ets:ord.filter (mE S.aF)=inTurn S.aF aC (·.b):=LO.symm
  rw[ets] at Fx
  clear LO ets PZ Mz Ju P0 Hr
  have htl:(inTurn S.aF aC (·.b)).length<=62:=by
   rw[ip]
   have e1:=a7 (fun k=>decide (0 < (S.aF.getD k default).d)) (inOrder S.aF aC (·.b))
   have e2:=oq S.aF aC (·.b)
   lia
  have NA: ∀c∈inTurn S.aF aC (·.b),c < S.aF.length:=fun c hc=>(dv.mp hc).1
  have zY:=Dk.same s3
  have rF:lu H3 tB:=bL jA s3
  have rG:lW H3 tC:=bL ko s3
  have F3:=F1.df s3
  have T4:=hG1.same s3
  have MI:=s3 _ _ T3
  clear Kk Dk jA ko s3 F1 hG1 T3 F2 Ao kG mL MH VE QW
  generalize hgs:inTurn S.credits aC (·.a)=gs at T4 PN VF
  generalize hts:inTurn S.aF aC (·.b)=ts at Fx htl NA
  have hgq:=aL T4
  have htq:=aL Fx
  have hR:ve S aC gs ts (gs.map fun g=>(S.cr g).d) (ts.map fun t=>(S.bl t).d) (gs.map fun g=>ts.map fun t=>S.dQ g t):=⟨hgs.symm,hts.symm,rfl,rfl,rfl⟩
  refine⟨_,rfl,pg,rfl,⟨_,bw.of MI⟩,?_⟩
  refine dX (K:=K) (a:=pg) (xs:=rs.map V.ref) (fun D i σ H6=>H3 D=none/\ ∃(v:Option V),σ=[v,some (.ref pw)]/\aE H3 H6/\H6 D=some (.lst (((gs.take i).map fun g=>(S.cr g).d).map V.int))) (fun D hD=>⟨hD,none,rfl,aE.new hD,ag⟩) (fun D i σ H6 _ ⟨_,_,_,t3,_⟩=>bw.of (t3 _ _ MI)) ?_ ?_
  ·rintro D i x σ H6 hx ⟨hD,v,rfl,t3,gJ⟩
   rw[aB] at hx
   obtain⟨q,hq,rfl⟩:=br.mp hx
   have hi:i < gs.length:=by have:=(ak.mp hq).1; lia
   obtain⟨q',sS,lQ⟩:=bB T4 (af hi)
   rw[hq] at sS
   obtain rfl:q=q':=aD sS
   have kE:=gX hi
   have qS:=VF _ (bN hi)
   generalize gs[i]=c at lQ kE qS
   obtain⟨dq,MG⟩:=lQ.same t3
   have Km:=zY.same t3
   obtain⟨P2,P4⟩:=Km.obj
   refine⟨_,rfl,pw,_,P2,_,_,rfl,P4,G.bJ,G.fG,lL g,_,rfl,q,_,dq,_,_,rfl,MG,G.dg,G.eP,om _ _,g.pf,_,_,.int (S.cr c).d,rfl,rfl,bw.of Km.hf,cg (oo qS),_,gJ,bf (by rw[ae,ae,bb]; lia),hD,_,rfl,t3.cY hD,?_⟩
   rw[ag,kE,aJ,aJ]
   rfl
  rintro pf σ H4 Q3 ⟨_,v4,rfl,s4,Nv⟩
  rw[ae,← hgq,aY] at Nv
  have hG4:=T4.same s4
  have NB:=Fx.same s4
  have TM:=zY.same s4
  have rH:lu H4 tB:=bL rF s4
  have rJ:lW H4 tC:=bL rG s4
  have F4:=F3.df s4
  have T5:=s4 _ _ MI
  have v9:=s4 _ _ ux
  clear s4 F3 rF rG zY Fx T4 MI ux
  refine⟨_,rfl,pt,rfl,⟨_,bw.of v9⟩,?_⟩
  refine dX (K:=K) (a:=pt) (xs:=us.map V.ref) (fun D i σ H6=>H4 D=none/\ ∃(v:Option V),σ=[v,some (.ref pw)]/\aE H4 H6/\H6 D=some (.lst (((ts.take i).map fun g=>(S.bl g).d).map V.int))) (fun D hD=>⟨hD,none,rfl,aE.new hD,ag⟩) (fun D i σ H6 _ ⟨_,_,_,t3,_⟩=>bw.of (t3 _ _ v9)) ?_ ?_
  ·rintro D i x σ H6 hx ⟨hD,v,rfl,t3,gJ⟩
   rw[aB] at hx
   obtain⟨q,hq,rfl⟩:=br.mp hx
   have hi:i < ts.length:=by have:=(ak.mp hq).1; lia
   obtain⟨q',sS,lQ⟩:=bB NB (af hi)
   rw[hq] at sS
   obtain rfl:q=q':=aD sS
   have kE:=gX hi
   have qS:=NA _ (bN hi)
   generalize ts[i]=c at lQ kE qS
   obtain⟨dq,MG⟩:=lQ.same t3
   have Km:=TM.same t3
   obtain⟨P2,P4⟩:=Km.obj
   refine⟨_,rfl,pw,_,P2,_,_,rfl,P4,G.bJ,G.fF,lK g,_,rfl,q,_,dq,_,_,rfl,MG,G.en,G.eV,lI _ _,g.pl,_,_,.int (S.bl c).d,rfl,rfl,bw.of Km.hl,cg (oo qS),_,gJ,bf (by rw[ae,ae,bb]; lia),hD,_,rfl,t3.cY hD,?_⟩
   rw[ag,kE,aJ,aJ]
   rfl
  rintro pl σ H5 npl ⟨_,v5,rfl,s5,jb⟩
  rw[ae,← htq,aY] at jb
  have Yq:=hG4.same s5
  have Q0:=NB.same s5
  have hW5:=TM.same s5
  have Kn:lu H5 tB:=bL rH s5
  have Ko:lW H5 tC:=bL rJ s5
  have F5:=F4.df s5
  have MJ:=s5 _ _ T5
  have P5:=s5 _ _ v9
  have T6:=s5 _ _ Nv
  clear s5 F4 rH rJ TM NB hG4 T5 v9 Nv
  refine⟨fa,sp,rfl,hFv,_,rfl,_,rfl,_,rfl,pg,rfl,⟨_,bw.of MJ⟩,?_⟩
  refine dX (K:=K) (a:=pg) (xs:=rs.map V.ref) (fun D i σ H6=>H5 D=none/\ ∃(v:Option V) (ws:List V),σ=[v,some (.ref pt)]/\aE H5 H6/\H6 D=some (.lst ws)/\jl H6 D ((gs.take i).map fun g=>ts.map fun t=>S.dQ g t) ws) (fun D hD=>⟨hD,none,[],rfl,aE.new hD,ag,.nil⟩) (fun D i σ H6 _ ⟨_,_,_,_,t3,_⟩=>bw.of (t3 _ _ MJ)) ?_ ?_
  ·rintro D i x σ H6 hx ⟨hD,v,ws,rfl,t3,gJ,Q4⟩
   rw[aB] at hx
   obtain⟨q,hq,rfl⟩:=br.mp hx
   have hi:i < gs.length:=by have:=(ak.mp hq).1; lia
   obtain⟨q',sS,lQ⟩:=bB Yq (af hi)
   rw[hq] at sS
   obtain rfl:q=q':=aD sS
   have kE:=gX hi
   have qS:=VF _ (bN hi)
   generalize gs[i]=c at lQ kE qS
   have DK:=aL Q4
   rw[ae,bb] at DK
   refine⟨_,rfl,_,rfl,q,pt,S,c,ts,us,rfl,lQ.same t3,t3 _ _ P5,Q0.same t3,(by lia),fun p H7 t7 np hp=>?_⟩
   have Yr:(ts.map fun b=>oW (S.cr c) (S.bl b) b)=ts.map fun t=>S.dQ c t:=fO fun b hb=>yA wf qS (NA b hb)
   rw[Yr] at hp
   have Q5:=t7 _ _ gJ
   have Pw:p≠D:=(aK gJ np).symm
   refine⟨_,Q5,bf (by lia),hD,_,ws ++ [.ref p],rfl,(t3.trans t7).cY hD,ag,?_⟩
   rw[kE,aJ]
   exact cy ((Q4.same t7).upd) ⟨p,rfl,Pw,by rw[aA Pw]; exact hp⟩
  rintro pa σ H6 npa ⟨_,v6,ws,rfl,s6,MK,Q4⟩
  rw[ae,← hgq,aY] at Q4
  refine hWC pf pl pa _ _ _ H6 _ (s6 _ _ T6) (s6 _ _ jb) (iG MK Q4.rp) (by rw[ae]; lia) (by rw[ae]; lia) (by rw[ae,ae]) (fun r hr=>by
   obtain⟨x,_,rfl⟩:=bG.mp hr
   rw[ae,ae]) fun pm ms H7 s7 ML FH=>?_
  have i7:=T1.lt (gs.map fun g=>(S.cr g).d) (ts.map fun t=>(S.bl t).d) (gs.map fun g=>ts.map fun t=>S.dQ g t)
  have hlen:=T1.len (gs.map fun g=>(S.cr g).d) (ts.map fun t=>(S.bl t).d) (gs.map fun g=>ts.map fun t=>S.dQ g t) (by rw[ae]; lia) (by rw[ae]; lia)
  rw[ae,ae] at i7
  have kk:=k _ _ _ _ _ hR
  generalize way (gs.map fun g=>(S.cr g).d) (ts.map fun t=>(S.bl t).d) (gs.map fun g=>ts.map fun t=>S.dQ g t)=fd at i7 hlen FH kk
  have xK:=s6.trans s7
  have hG7:=Yq.same xK
  have hT7:=Q0.same xK
  have VG:=hW5.same xK
  have HL:lu H7 tB:=bL Kn xK
  have HM:lW H7 tC:=bL Ko xK
  have F7:=F5.df xK
  have T7:=xK _ _ MJ
  have T8:=xK _ _ P5
  clear xK s6 s7 F5 Kn Ko hW5 Q0 Yq MJ P5 T6 jb Q4 MK k hWC hFv
  have Vz:=aL FH
  refine⟨_,rfl,pm,rfl,⟨_,bw.of ML⟩,?_⟩
  refine dX (K:=K) (a:=pm) (xs:=ms) (fun D i σ H6=>H7 D=none/\ ∃(v1 v2 v3:Option V) (ws:List V),σ=[v1,v2,v3,some (.ref pt),some (.ref pg)]/\aE H7 H6/\H6 D=some (.lst ws)/\ir H6 ((fd.take i).map (l9 gs ts)) ws) (fun D hD=>⟨hD,none,none,none,[],rfl,aE.new hD,ag,.nil⟩) (fun D i σ H6 _ ⟨_,_,_,_,_,_,t3,_⟩=>bw.of (t3 _ _ ML)) ?_ ?_
  ·rintro D i x σ H6 hx ⟨hD,v1,v2,v3,ws,rfl,t3,gJ,HA⟩
   have hi:i < fd.length:=by have:=(ak.mp hx).1; lia
   obtain⟨v',hv,p,rfl,hp⟩:=bB FH (af hi)
   rw[hx] at hv
   obtain rfl:x= .ref p:=aD hv
   have kE:=gX hi
   obtain⟨l1,l2⟩:=i7 _ (bN hi)
   generalize fd[i]=t at hp kE l1 l2
   have DK:=aL HA
   rw[ae,bb] at DK
   have g1:gs[t.1]? =some (gs.getD t.1 0):=by rw[aj,af l1]; rfl
   have g2:ts[t.2.1]? =some (ts.getD t.2.1 0):=by rw[aj,af l2]; rfl
   obtain⟨q1,P0,i1⟩:=bB hG7 g1
   obtain⟨q2,A2,i2⟩:=bB hT7 g2
   obtain⟨d1,e1⟩:=i1.same t3
   obtain⟨d2,e2⟩:=i2.same t3
   refine⟨p,_,rfl,cB.of (t3 _ _ hp),rfl,_,_,rfl,_,_,rfl,_,_,rfl,rfl,?_⟩
   refine⟨_,rfl,_,rfl,pg,_,_,.ref q1,rfl,rfl,bw.of (t3 _ _ T7),cg (by rw[aB,P0]; rfl),q1,_,d1,_,_,rfl,e1,G.dg,G.eP,om _ _,?_⟩
   refine⟨_,rfl,_,rfl,pt,_,_,.ref q2,rfl,rfl,bw.of (t3 _ _ T8),cg (by rw[aB,A2]; rfl),q2,_,d2,_,_,rfl,e2,G.en,G.eV,lI _ _,_,rfl,(by show 3<=sizeLine; decide),fun p8 n8=>?_⟩
   have s8:=aE.new (o:= .tup [.int (gs.getD t.1 0:Nat),.int (ts.getD t.2.1 0:Nat),.int t.2.2]) n8
   have hl8:=s8 _ _ gJ
   refine⟨_,hl8,jj (by lia),hD,_,_,_,ws ++ [.ref p8],rfl,(t3.trans s8).cY hD,ag,?_⟩
   rw[kE,aJ]
   have tk:=fj (o:= .lst (ws ++ [.ref p8])) hl8
   exact cy ((HA.mono s8.tk).mono tk) ⟨p8,rfl,tk _ _ ag⟩
  rintro pn σ H8 P6 ⟨_,w1,w2,w3,ws,rfl,s8,Hm,T9⟩
  rw[← Vz,aY] at T9
  have Q7:=VG.same s8
  have Ua:lu H8 tB:=bL HL s8
  have Ub:lW H8 tC:=bL HM s8
  have F8:=F7.df s8
  have Ys:H pn=none:=by
   cases e:H pn with
   |none=>rfl
   |some o=>
    exfalso
    by_cases j8:pn∈tB :: tC :: g.fp
    ·rcases aw.mp j8 with z|j8
     ·obtain⟨ps,q⟩:=c8 HL
      rw[← z,P6] at q
      cases q
     ·rcases aw.mp j8 with z|j8
      ·obtain⟨ps,q⟩:=c8 HM
       rw[← z,P6] at q
       cases q
      ·exact VG.new P6 j8
    ·have q:=F7 _ _ j8 e
     rw[P6] at q
     cases q
  have Uc:pn∉g.fp:=VG.new P6
  have Aj: ∀t∈fd.map (l9 gs ts),t.1 < S.credits.length/\t.2.1 < S.aF.length:=fun t ht=>by
   obtain⟨u,hu,rfl⟩:=bG.mp ht
   obtain⟨l1,l2⟩:=i7 u hu
   exact⟨VF _ (jZ l1),NA _ (jZ l2)⟩
  have Ir:(fd.map (l9 gs ts)).length<=4000:=by rw[ae]; exact hlen
  generalize fd.map (l9 gs ts)=L at T9 kk Aj Ir
  have DK:=aL T9
  clear i7 hlen FH ML T7 T8 hG7 hT7 VG HL HM F7 s8
  refine⟨_,rfl,pn,rfl,⟨_,bw.of Hm⟩,?_⟩
  refine eQ (K:=K) (a:=pn) (xs:=ws) (fun i σ H2=> ∃(x9 HN CF:Option V),σ=[some (.ref pw),some (.str aC),some (.ref fa),some (.ref pg),some (.ref pt),some (.ref pf),some (.ref pl),some (.ref pm),some (.ref pn),x9,HN,CF]/\Frame g.fp H8 H2/\dI A H2 pw (kF S (L.take i)) g)
   ⟨none,none,none,rfl,Frame.refl,Q7⟩ (fun i σ H2 _ ⟨_,_,_,_,f2,_⟩=>bw.of (f2 _ _ Uc Hm)) ?_ ?_
  ·rintro i x σ H2 hx ⟨x9,HN,CF,rfl,f2,Ao⟩
   have hi:i < L.length:=by have:=(ak.mp hx).1; lia
   have qq:=af hi
   obtain⟨v',hv,p,rfl,hp⟩:=bB T9 qq
   rw[hx] at hv
   obtain rfl:x= .ref p:=aD hv
   have ux:=HJ (S:=S) qq
   obtain⟨m1,m2⟩:=Aj _ (bN hi)
   generalize L[i]=t at hp ux m1 m2
   obtain⟨b1,b2⟩:=FJ S (L.take i)
   have Fy:(kF S (L.take i)).made.length < sizeLine:=by
    rw[jN,aH,bb]
    have:=wf.lm
    exact jj (by lia)
   obtain⟨Yp,QW⟩:=Ao.obj
   refine⟨p,_,rfl,cB.of (Q7.tk f2 _ _ hp),rfl,_,_,rfl,_,_,rfl,_,_,rfl,rfl,?_⟩
   refine⟨_,rfl,pw,Yp,_,rfl,QW,JW g,_,rfl,_,rfl,_,rfl,pw,_,g,t.1,t.2.1,t.2.2,rfl,Ao,(by rw[b2]; exact m1),(by rw[b1]; exact m2),Fy,fun H3 f3 W3=>?_⟩
   refine⟨_,_,_,rfl,f2.tr f3,?_⟩
   rw[ux]
   exact W3
  ·rintro σ H2 ⟨x9,HN,CF,rfl,f2,Ao⟩
   rw[← DK,aY] at Ao
   have ext2: ∀a∈g.fp,∀φ,H8 a≠some (.ext φ):=fun a ha φ e=>by
    obtain⟨xs,z⟩:=Q7.lists a ha
    rw[z] at e
    cases e
   have HP:tB∉g.fp:=Q7.off fun xs e=>by
    obtain⟨ps,z⟩:=c8 Ua
    rw[z] at e
    cases e
   have HQ:tC∉g.fp:=Q7.off fun xs e=>by
    obtain⟨ps,z⟩:=c8 Ub
    rw[z] at e
    cases e
   exact⟨_,rfl,kk pn ws H2 (F8.tr (dJ f2 fun x hx=>by simp[hx])) (f9 Ua f2 HP ext2) (f9 Ub f2 HQ ext2) Ao Ys (f2 _ _ Uc Hm) (T9.mono (Q7.tk f2))⟩
theorem rK (g:eO):(lJ g).lookup ("one_round":Str)=none:=by rfl
theorem o7 {α β:Type}{F:α->β->Prop}: ∀{l₁:List α} {r₁:List β} {l₂:List α} {r₂:List β},Paired F l₁ r₁->Paired F l₂ r₂->Paired F (l₁ ++ l₂) (r₁ ++ r₂)
 |_,_,_,_,.nil,h=>h
 |_,_,_,_,.cons a t,h=> .cons a (o7 t h)
theorem Et:Kj qj:=⟨fun fs ls al t h=>md fs ls al _ t h,fun fs ls al h1 _=>by
 have:=L2.iq fs ls al fs.length
 show(bW fs ls al fs.length).2.length<=4000
 lia⟩
theorem Kp:Kj CC:=⟨fun fs ls al t h=>vj fs ls al _ t h,fun fs ls al h1 h2=>by
 have:=pT fs ls al fs.length
 have h3:fs.length * ls.length<=63 * 63:=qv h1 h2
 show(cu fs ls al fs.length).2.length<=4000
 lia⟩
theorem tL {H:Hp}: ∀{ms:List (Nat×Nat×Int)} {xs:List V},il H (ms.map Kf) xs->ir H ms xs
 |[],_,h=>by
  rw[cM.mp h]
  exact .nil
 |t :: ms,_,h=>by
  obtain⟨v,r,rfl,h1,h2⟩:=bI.mp h
  obtain⟨a,ys,rfl,h3,h4⟩:=jW.mp h1
  obtain⟨u1,r1,rfl,e1,h5⟩:=bI.mp h4
  obtain⟨u2,r2,rfl,e2,h6⟩:=bI.mp h5
  obtain⟨u3,r3,rfl,e3,h7⟩:=bI.mp h6
  obtain rfl:=cM.mp h7
  obtain rfl:=dr.mp e1
  obtain rfl:=dr.mp e2
  obtain rfl:=dr.mp e3
  exact .cons ⟨a,rfl,h3⟩ (tL h2)
theorem Kq:PY qj (vZ K):=fun pf pl pa fs ls al H Q h1 h2 h3 h4 h5 h6 h7 k=>
 ⟨pf,pl,pa,fs,ls,al,rfl,bw.of h1,bw.of h2,h3,by lia,h6,h7,fun v H' s r=>by
  obtain⟨a,xs,rfl,e,r'⟩:=jX.mp r
  exact k a xs H' s e (tL r')⟩
theorem P7:PY CC (v8 K):=fun pf pl pa fs ls al H Q h1 h2 h3 h4 h5 h6 h7 k=>
 ⟨pf,pl,pa,fs,ls,al,rfl,bw.of h1,bw.of h2,h3,h4,h5,h6,h7,fun pm ms H' s e r=>k pm ms H' s e r⟩
inductive Aw (A:eh)(tB tC:Addr)(vs:List V)(H:Hp)(Q:VK)(E':XK):Prop
 |mk (pw:Addr)(S:Bk)(f:eO)(n:Nat)(aC:Str)(h1:vs=[.ref pw,.str aC])(h2:dI A H pw S f)(h3:WF S n)(h4:n<=60)(h5:lu H tB)(h6:lW H tC)(h7: ∀D ms H',Frame (tB :: tC :: f.fp) H H'->lu H' tB->lW H' tC->dI A H' pw (S.iV aC) f->H D=none->H' D=some (.lst ms)->ir H' ((S.iV aC).made.drop S.made.length) ms->Q (.ref D) H'):Aw A tB tC vs H Q E'
theorem o8:aW ["self","who","first","second"] ["self","who"] (ax (mem 25 6)):={}
theorem MM (T:Txt K mg){A:eh}{tB tC:Addr}(G:jJ K mg A)(DB:qr K mg "bills_in_order" (top 17) tB)(DC:qr K mg "credits_in_order" (top 18) tC)(jy:tB≠tC)(KB:K.In base)(BM:BMain mg base):g9 sk P w K mg base A.work "sweep" 4 ["self","who"] (Aw A tB tC):=by
 have tM:g9 sk P w K mg base A.work "one_round" 3 ["self","who","way"] (Av P w K mg base A tB tC):=CD T G DB DC jy KB BM
 obtain⟨f1,m1,V1⟩:=fb.Z1 (MD (P:=P) (w:=w) (base:=base) T)
 obtain⟨f2,m2,V2⟩:=fb.Z1 (Au (P:=P) (w:=w) (base:=base) T)
 refine Ml (k:=3) G.xm G.bJ o8 (fun f cU A' outer s H vs Q E hr h=>?_)
 ·obtain⟨pw,S,g,n,aC,rfl,hW,wf,hn,kA,jR,k⟩:=h
  have nd:=o8.nd
  refine⟨_,(ah (sv 2 nd (nA tM (hr.mono (by decide)) mX (pv 0) (aa (pv 1) (aa (EI (v:= .ref f1) rfl m1 rfl) av))))
(ah (sv 3 nd (nA tM (hr.mono (by decide)) mX (pv 0) (aa (pv 1) (aa (EI (v:= .ref f2) rfl m2 rfl) av))))
(au (a9 (aQ l6 (pv 2) (pv 3)))))),?_⟩
  obtain⟨dw,hw⟩:=hW.obj
  refine⟨_,rfl,pw,dw,_,rfl,hw,rK g,_,rfl,pw,f1,S,g,n,aC,qj,_,rfl,hW,wf,(by lia),kA,jR,Et,V1,Kq,fun gs ts fs ls al R D1 Yt H1 F1 jA ko Dk T2 Hr Iw=>?_⟩
  obtain⟨er,lr⟩:=Jq R
  have Yr:fs.length=gs.length:=by rw[R.ef,ae]
  have eS:kF S ((qj fs ls al).map (l9 gs ts))=bR aC S true:=by rw[er]; unfold qj; rw[Yr]
  have em:(bR aC S true).made=S.made ++ (qj fs ls al).map (l9 gs ts):=by rw[← eS]; exact jN _ _
  obtain⟨_,l1,e1,b1,n1⟩:=vk S aC true
  have el1:l1=(qj fs ls al).map (l9 gs ts):=List.append_cancel_left (e1.symm.trans em)
  rw[eS] at Dk
  rw[← el1] at Iw
  have hcb:S.credits.length * S.aF.length<=60 * 60:=qv (by have:=wf.lc; lia) (by have:=wf.lb; lia)
  have wf1:WF (bR aC S true) (n + 1):=by
   refine wf.later lr (fun t ht=>?_) (dP _) ?_
   ·rw[e1] at ht
    rcases bq.mp ht with ht|ht
    ·exact wf.m t ht
    ·exact b1 t ht
   ·rw[e1,aH]
    have:=wf.lm
    have:=wf.lc
    lia
  obtain⟨dw1,Tc⟩:=Dk.obj
  refine⟨_,rfl,pw,dw1,_,rfl,Tc,rK g,_,rfl,pw,f2,_,g,n + 1,aC,CC,_,rfl,Dk,wf1,(by lia),jA,ko,Kp,V2,P7,fun Ud VH Ue VI VJ R2 D2 Nt H2 F2 kG mL Ao Iv Hs GH=>?_⟩
  obtain⟨er2,lr2⟩:=Js R2
  have Yu:Ue.length=Ud.length:=by rw[R2.ef,ae]
  have eS2:kF (bR aC S true) ((CC Ue VI VJ).map (l9 Ud VH))=S.iV aC:=by
   show _ =bR aC (bR aC S true) false
   rw[er2]; unfold CC; rw[Yu]
  have em2:(S.iV aC).made=(bR aC S true).made ++ (CC Ue VI VJ).map (l9 Ud VH):=by rw[← eS2]; exact jN _ _
  rw[eS2] at Ao
  have Fy:(S.iV aC).made.length<=8000 * 60 + 8000:=by
   obtain⟨_,l3,e3,_,n3⟩:=qP S aC
   rw[e3,aH]
   have:=wf.lm
   have:=wf.lc
   lia
  have Yv:D1∉tB :: tC :: g.fp:=fun z=>by
   rcases aw.mp z with z|z
   ·obtain⟨ps,e⟩:=c8 kA
    rw[← z,T2] at e
    cases e
   ·rcases aw.mp z with z|z
    ·obtain⟨ps,e⟩:=c8 jR
     rw[← z,T2] at e
     cases e
    ·exact hW.new T2 z
  have Yw:=F2 _ _ Yv Hr
  have kt:cG H1 H2:=fun b xs e=>F2 b _ (fun z=>by
   rcases aw.mp z with z|z
   ·obtain⟨ps,e'⟩:=c8 jA
    rw[z,e'] at e
    cases e
   ·rcases aw.mp z with z|z
    ·obtain⟨ps,e'⟩:=c8 ko
     rw[z,e'] at e
     cases e
    ·obtain⟨ys,e'⟩:=Dk.lists b z
     rw[e'] at e
     cases e) e
  have t1:=aL Iw
  have t2:=aL GH
  have hlen:(S.iV aC).made.length=S.made.length + l1.length + ((CC Ue VI VJ).map (l9 Ud VH)).length:=by
   rw[em2,e1,aH,aH]
  refine⟨_,rfl,_,rfl,D1,D2,Yt,Nt,rfl,rfl,Yw,Hs,?_,fun p np=>?_⟩
  ·have:Yt.length + Nt.length<=1000000:=by lia
   exact di (jj this)
  ·have s3:=aE.new (o:= .lst (Yt ++ Nt)) np
   have F:=F1.tr F2
   have np0:H p=none:=by
    cases e:H p with
    |none=>rfl
    |some o=>
     exfalso
     by_cases j8:p∈tB :: tC :: g.fp
     ·rcases aw.mp j8 with z|j8
      ·obtain⟨ps,q⟩:=c8 kG
       rw[← z,np] at q
       cases q
      ·rcases aw.mp j8 with z|j8
       ·obtain⟨ps,q⟩:=c8 mL
        rw[← z,np] at q
        cases q
       ·exact Ao.new np j8
     ·have q:=F _ _ j8 e
      rw[np] at q
      cases q
   refine k p _ _ (F.df s3) (bL kG s3) (bL mL s3) (Ao.same s3) np0 ag ?_
   have ed:(S.iV aC).made.drop S.made.length=l1 ++ (CC Ue VI VJ).map (l9 Ud VH):=by
    rw[em2,e1,dU,List.drop_left]
   rw[ed]
   exact o7 ((Iw.mono kt).mono s3.tk) (GH.mono s3.tk)
theorem Ax (g:eO):(lJ g).lookup ("tell_bill":Str)=none:=by rfl
theorem ue (g:eO):(lJ g).lookup ("tell_payment":Str)=none:=by rfl
theorem Ay (g:eO):(lJ g).lookup ("tell_note":Str)=none:=by rfl
theorem wa (g:eO):(lJ g).lookup ("set_by_hand":Str)=none:=by rfl
theorem Kr (g:eO):(lJ g).lookup ("sweep":Str)=none:=by rfl
inductive uF (A:eh)(K:Frag)(tB tC:Addr)(vs:List V)(H:Hp)(Q:VK)(E:XK):Prop
 |mk (pw pd:Addr)(S:Bk)(f:eO)(n:Nat)(d:bD)(h1:vs=[.ref pw,.ref pd])(h2:dI A H pw S f)(h3:WF S n)(h4:n<=60)(h5:lu H tB)(h6:lW H tC)(h7:H pd=some (.tup (bD.vs d)))(h8:d.tells=true)(h9:(S.bar d=""-> ∀v f' H',f'.fp=f.fp->Frame (tB :: tC :: f.fp) H H'->lu H' tB->lW H' tC->dI A H' pw (S.enter d) f'->sH H' (fun D=>H D=none) (S.LQ d) v->Q v H'))(K2:(S.bar d≠""->Mq A K E (S.bar d) H)):uF A K tB tC vs H Q E
theorem FK:aW ["work","deed","kind"] ["work","deed"] (ax (top 30)):={}
theorem Ks (T:Txt K mg){A:eh}{tB tC:Addr}(G:jJ K mg A)(DB:qr K mg "bills_in_order" (top 17) tB)(DC:qr K mg "credits_in_order" (top 18) tC)(jy:tB≠tC)(KB:K.In base)(BM:BMain mg base):vB P w K mg base "done" 7 ["work","deed"] (uF A K tB tC):=by
 have CG:g9 (mJ P w mg) P w K mg base A.work "tell_bill" 5 ["self","who","day","due","amount"] (zZ A K):=Cg T G
 have wb:g9 (mJ P w mg) P w K mg base A.work "tell_payment" 6 ["self","who","day","amount"] (z6 A K):=vI T G
 have CI:g9 (mJ P w mg) P w K mg base A.work "tell_note" 6 ["self","bill_number","day","amount"] (z7 A K):=Ci T G
 have xM:g9 (mJ P w mg) P w K mg base A.work "set_by_hand" 5 ["self","credit_number","bill_number","amount"] (JX A K):=xq T G
 have MN:g9 sk P w K mg base A.work "sweep" 4 ["self","who"] (Aw A tB tC):=MM T G DB DC jy KB BM
 refine Pf (k:=6) T.O6 FK (fun f cU A' outer s H vs Q E hr mz h=>?_)
 ·obtain⟨pw,pd,S,g,n,d,rfl,hW,wf,hn,kA,jR,hd,ht,k1,k2⟩:=h
  have nd:=FK.nd
  obtain⟨dw,hw⟩:=hW.obj
  refine⟨_,(ah (sv 2 nd (xt (pv 1) ai))
(ah (bP (aX cK (pv 2) aV (a0 _))
(au (a9 (nA CG (hr.mono (by decide)) mz.pass (pv 0) (aa (xt (pv 1) ai) (aa (xt (pv 1) ai) (aa (xt (pv 1) ai) (aa (xt (pv 1) ai) av)))))))
bh)
(ah (bP (aX cK (pv 2) aV (a0 _))
(au (a9 (nA wb (hr.mono (by decide)) mz.pass (pv 0) (aa (xt (pv 1) ai) (aa (xt (pv 1) ai) (aa (xt (pv 1) ai) av))))))
bh)
(ah (bP (aX cK (pv 2) aV (a0 _))
(au (a9 (nA CI (hr.mono (by decide)) mz.pass (pv 0) (aa (xt (pv 1) ai) (aa (xt (pv 1) ai) (aa (xt (pv 1) ai) av))))))
bh)
(ah (bP (aX cK (pv 2) aV (a0 _))
(au (a9 (nA xM (hr.mono (by decide)) mz.pass (pv 0) (aa (xt (pv 1) ai) (aa (xt (pv 1) ai) (aa (xt (pv 1) ai) av))))))
bh)
(au (a9 (nA MN (hr.mono (by decide)) mX (pv 0) (aa (xt (pv 1) ai) av))))))))),?_⟩
  have ext: ∀a∈g.fp,∀φ,H a≠some (.ext φ):=fun a ha φ e=>by
   obtain⟨xs,z⟩:=hW.lists a ha
   rw[z] at e
   cases e
  have HP:tB∉g.fp:=hW.off fun xs e=>by
   obtain⟨ps,z⟩:=c8 kA
   rw[z] at e
   cases e
  have HQ:tC∉g.fp:=hW.off fun xs e=>by
   obtain⟨ps,z⟩:=c8 jR
   rw[z] at e
   cases e
  cases d with
  |jd n=>cases ht
  |ask o w d=>cases ht
  |iH w d l=>cases ht
  |dY wh dy du am=>
   refine⟨_,rfl,pd,_,_,.str "bill",rfl,rfl,cB.of hd,rfl,?_⟩
   refine⟨_,rfl,rfl,true,A1 _,fJ ⟨_,rfl,pw,dw,_,rfl,hw,Ax g,_,rfl,pd,_,_,.str wh,rfl,rfl,cB.of hd,rfl,_,rfl,pd,_,_,.int dy,rfl,rfl,cB.of hd,rfl,_,rfl,pd,_,_,.int du,rfl,rfl,cB.of hd,rfl,_,rfl,pd,_,_,.int am,rfl,rfl,cB.of hd,rfl,pw,S,g,wh,dy,du,am,rfl,hW,(by have:=wf.lb; lia),fun hb f1 H1 e1 F1 W1=>?_,k2⟩⟩
   exact k1 hb _ f1 H1 e1 (dJ F1 fun x hx=>by simp[hx]) (f9 kA F1 HP ext) (f9 jR F1 HQ ext) W1 rfl
  |qN wh dy am=>
   refine⟨_,rfl,pd,_,_,.str "pay",rfl,rfl,cB.of hd,rfl,?_⟩
   refine⟨_,rfl,rfl,false,jL (show("pay":Str)≠"bill" by decide +kernel),bV ?_⟩
   refine⟨_,rfl,rfl,true,A1 _,fJ ⟨_,rfl,pw,dw,_,rfl,hw,ue g,_,rfl,pd,_,_,.str wh,rfl,rfl,cB.of hd,rfl,_,rfl,pd,_,_,.int dy,rfl,rfl,cB.of hd,rfl,_,rfl,pd,_,_,.int am,rfl,rfl,cB.of hd,rfl,pw,S,g,wh,dy,am,rfl,hW,(by have:=wf.lc; lia),fun hb f1 H1 e1 F1 W1=>?_,k2⟩⟩
   exact k1 hb _ f1 H1 e1 (dJ F1 fun x hx=>by simp[hx]) (f9 kA F1 HP ext) (f9 jR F1 HQ ext) W1 rfl
  |note b dy am=>
   refine⟨_,rfl,pd,_,_,.str "note",rfl,rfl,cB.of hd,rfl,?_⟩
   refine⟨_,rfl,rfl,false,jL (show("note":Str)≠"bill" by decide +kernel),bV ?_⟩
   refine⟨_,rfl,rfl,false,jL (show("note":Str)≠"pay" by decide +kernel),bV ?_⟩
   refine⟨_,rfl,rfl,true,A1 _,fJ ⟨_,rfl,pw,dw,_,rfl,hw,Ay g,_,rfl,pd,_,_,.int b,rfl,rfl,cB.of hd,rfl,_,rfl,pd,_,_,.int dy,rfl,rfl,cB.of hd,rfl,_,rfl,pd,_,_,.int am,rfl,rfl,cB.of hd,rfl,pw,S,g,b,dy,am,rfl,hW,(by have:=wf.lc; lia),fun hb f1 H1 e1 F1 W1=>?_,k2⟩⟩
   exact k1 hb _ f1 H1 e1 (dJ F1 fun x hx=>by simp[hx]) (f9 kA F1 HP ext) (f9 jR F1 HQ ext) W1 rfl
  |set c b am=>
   refine⟨_,rfl,pd,_,_,.str "set",rfl,rfl,cB.of hd,rfl,?_⟩
   refine⟨_,rfl,rfl,false,jL (show("set":Str)≠"bill" by decide +kernel),bV ?_⟩
   refine⟨_,rfl,rfl,false,jL (show("set":Str)≠"pay" by decide +kernel),bV ?_⟩
   refine⟨_,rfl,rfl,false,jL (show("set":Str)≠"note" by decide +kernel),bV ?_⟩
   refine⟨_,rfl,rfl,true,A1 _,fJ ⟨_,rfl,pw,dw,_,rfl,hw,wa g,_,rfl,pd,_,_,.int c,rfl,rfl,cB.of hd,rfl,_,rfl,pd,_,_,.int b,rfl,rfl,cB.of hd,rfl,_,rfl,pd,_,_,.int am,rfl,rfl,cB.of hd,rfl,pw,S,g,n,c,b,am,rfl,hW,wf,(jj (by have:=wf.lm; lia)),fun hb f1 H1 e1 F1 W1=>?_,k2⟩⟩
   exact k1 hb _ f1 H1 e1 (dJ F1 fun x hx=>by simp[hx]) (f9 kA F1 HP ext) (f9 jR F1 HQ ext) W1 rfl
  |fP wh=>
   refine⟨_,rfl,pd,_,_,.str "sweep",rfl,rfl,cB.of hd,rfl,?_⟩
   refine⟨_,rfl,rfl,false,jL (show("sweep":Str)≠"bill" by decide +kernel),bV ?_⟩
   refine⟨_,rfl,rfl,false,jL (show("sweep":Str)≠"pay" by decide +kernel),bV ?_⟩
   refine⟨_,rfl,rfl,false,jL (show("sweep":Str)≠"note" by decide +kernel),bV ?_⟩
   refine⟨_,rfl,rfl,false,jL (show("sweep":Str)≠"set" by decide +kernel),bV ?_⟩
   refine⟨_,rfl,pw,dw,_,rfl,hw,Kr g,_,rfl,pd,_,_,.str wh,rfl,rfl,cB.of hd,rfl,pw,S,g,n,wh,rfl,hW,wf,(by lia),kA,jR,fun D ms H1 F1 jA ko W1 nD hD hT=>?_⟩
   exact k1 rfl _ g H1 rfl F1 jA ko W1 ⟨D,ms,rfl,nD,hD,hT⟩
theorem Kt {α:Type}(x:α)(xs:List α):sj (x :: xs) 0=some x:=cg (xs:=x :: xs) (j:=0) rfl
def lh (H:Hp)(ss:List (Int×bD))(bg:List (Key×V)):Prop:=Paired (fun(st:Int×bD) (kv:Key×V)=>kv.1=Sum.inl st.1/\ ∃pd,kv.2= .ref pd/\H pd=some (.tup (bD.vs st.2))/\st.2.tells=true) ss bg
theorem lh.mono {H H':Hp}{ss:List (Int×bD)}{bg:List (Key×V)}(h:lh H ss bg)(k:cG H H'):lh H' ss bg:=Paired.iD h fun _ _ ⟨e,p,e2,z,t⟩=>⟨e,p,e2,k _ _ z,t⟩
structure fN (A:eh)(H:Hp)(pb pk pw:Addr)(T:gR)(f:eO):Prop where
 obj:eI H pb A.book (eX pk pw)
 kept: ∃bg,H pk=some (.dK bg)/\lh H T.steps bg
 wk:dI A H pw T.bk f
theorem fN.same {A:eh}{H H':Hp}{pb pk pw:Addr}{T:gR}{f:eO}(h:fN A H pb pk pw T f)(s:aE H H'):fN A H' pb pk pw T f:=by
 obtain⟨bg,k1,k2⟩:=h.kept
 exact⟨h.obj.same s,⟨bg,s _ _ k1,k2.mono s.tk⟩,h.wk.same s⟩
theorem FL {A:eh}{H H':Hp}{pw:Addr}{S:Bk}{f:eO}(h:dI A H pw S f)(kl: ∀a xs,H a=some (.lst xs)->H' a=some (.lst xs))(ki: ∀a C dx fs,fs.length=5->H a=some (.ins C dx fs)->H' a=some (.ins C dx fs))(kt:cG H H'):dI A H' pw S f:=by
 obtain⟨dw,hw⟩:=h.obj
 obtain⟨ms,m1,m2⟩:=h.hm
 exact⟨⟨dw,ki _ _ _ _ rfl hw⟩,kl _ _ h.hb,kl _ _ h.hc,kl _ _ h.hl,kl _ _ h.hf,⟨ms,kl _ _ m1,m2.mono kt⟩,⟨h.rb.1,fun i p e=>let⟨dx,z⟩:=h.rb.2 i p e; ⟨dx,ki _ _ _ _ rfl z⟩⟩,⟨h.rc.1,fun i p e=>let⟨dx,z⟩:=h.rc.2 i p e; ⟨dx,ki _ _ _ _ rfl z⟩⟩,h.nd⟩
def Ku (o:HO):Prop:=(∀xs,o≠ .lst xs)/\(∀xs,o≠ .tup xs)/\ ∀C dx fs,fs.length=5->o≠ .ins C dx fs
theorem wc {A:eh}{H:Hp}{pw p:Addr}{S:Bk}{f:eO}{o u:HO}(h:dI A H pw S f)(e:H p=some o)(n:Ku o):dI A (upd H p u) pw S f:=
 FL h (fun a xs z=>by rw[aA (fun q=>by rw[q,e] at z; exact n.1 xs (aD z))]; exact z) (fun a C dx fs hl z=>by rw[aA (fun q=>by rw[q,e] at z; exact n.2.2 C dx fs hl (aD z))]; exact z)
  (fun a xs z=>by rw[aA (fun q=>by rw[q,e] at z; exact n.2.1 xs (aD z))]; exact z)
theorem uG (bg:List (Key×V)):Ku (.dK bg):=⟨fun _ z=>(by cases z),fun _ z=>(by cases z),fun _ _ _ _ z=>(by cases z)⟩
theorem Kv (φ:Heap->Prop):Ku (.ext φ):=⟨fun _ z=>(by cases z),fun _ z=>(by cases z),fun _ _ _ _ z=>(by cases z)⟩
theorem yG (C dx pk pw:Addr):Ku (.ins C dx (eX pk pw)):=⟨fun _ z=>(by cases z),fun _ z=>(by cases z),fun _ _ fs hl z=>(by injection z with _ _ z; rw[← z] at hl; cases hl)⟩
theorem Az {H:Hp}{p:Addr}{o u:HO}(e:H p=some o)(n:Ku o):cG H (upd H p u):=fun a xs z=>by rw[aA (fun q=>by rw[q,e] at z; exact n.2.1 xs (aD z))]; exact z
theorem sJ {H:Hp}{m:Int}: ∀{ss:List (Int×bD)} {bg:List (Key×V)},lh H ss bg->gv bg (Sum.inl m:Key)=none-> ∀st∈ss,st.1≠m
 |_,_,.nil,_,_,h=>by cases h
 |_,_,.cons (a:=a) (b:=kv) ⟨e,_⟩ t,hv,st,h=>by
  by_cases q:kv.1=(Sum.inl m:Key)
  ·rw[fI q] at hv
   cases hv
  ·rw[fA q] at hv
   rcases aw.mp h with rfl|h
   ·intro z
    rw[e,z] at q
    exact q rfl
   ·exact sJ t hv st h
theorem yH {H:Hp}{m:Int}{v:V}: ∀{ss:List (Int×bD)} {bg:List (Key×V)},lh H ss bg->gv bg (Sum.inl m:Key)=some v-> ∃st∈ss,st.1=m/\ ∃pd,v= .ref pd/\H pd=some (.tup (bD.vs st.2))/\st.2.tells=true
 |_,_,.nil,hv=>by cases hv
 |_,_,.cons (a:=a) (b:=kv) ⟨e,pd,e2,z,tl⟩ t,hv=>by
  by_cases q:kv.1=(Sum.inl m:Key)
  ·rw[fI q] at hv
   rw[e] at q
   refine⟨a,bc,by injection q,pd,?_,z,tl⟩
   rw[← aD hv,e2]
  ·rw[fA q] at hv
   obtain⟨st,h1,h2⟩:=yH t hv
   exact⟨st,aS _ h1,h2⟩
theorem CJ {H:Hp}{m:Int}: ∀{ss:List (Int×bD)} {bg:List (Key×V)},lh H ss bg->(∀st∈ss,st.1≠m)->gv bg (Sum.inl m:Key)=none
 |_,_,.nil,_=>rfl
 |_,_,.cons (a:=a) (b:=kv) ⟨e,_⟩ t,h=>by
  rw[fA (fun q=>by
   rw[e] at q
   exact h a bc (by injection q))]
  exact CJ t fun st hs=>h st (aS _ hs)
theorem yI {H:Hp}{m:Int}: ∀{ss:List (Int×bD)} {bg:List (Key×V)},lh H ss bg->lh H (ss.filter fun st=>decide (st.1≠m)) (lz bg (Sum.inl m:Key))
 |_,_,.nil=> .nil
 |_,_,.cons (a:=a) (b:=kv) ⟨e,r⟩ t=>by
  have ih:=yI (m:=m) t
  unfold lz at ih ⊢
  by_cases q:a.1=m
  ·have q':kv.1=(Sum.inl m:Key):=by rw[e,q]
   rw[List.filter_cons_of_neg (by simp[q]),List.filter_cons_of_neg (by simp[q'])]
   exact ih
  ·have q': ¬ kv.1=(Sum.inl m:Key):=by rw[e]; intro z; exact q (by injection z)
   rw[List.filter_cons_of_pos (by simp[q]),List.filter_cons_of_pos (by simp[q'])]
   exact .cons ⟨e,r⟩ ih
theorem we: ∀{ss:List (Int×bD)},ss.Pairwise (fun a b=>a.1 < b.1)-> ∀{x y:Int×bD},x∈ss->y∈ss->x.1=y.1->x=y
 |[],_,_,_,h,_,_=>by cases h
 |a :: ss,hp,x,y,hx,hy,e=>by
  rw[fq] at hp
  rcases aw.mp hx with hx|hx
  ·rcases aw.mp hy with hy|hy
   ·rw[hx,hy]
   ·have:=hp.1 y hy
    rw[hx] at e
    lia
  ·rcases aw.mp hy with hy|hy
   ·have:=hp.1 x hx
    rw[hy] at e
    lia
   ·exact we hp.2 hx hy e
def HR (ss:List (Int×bD))(m:Int):Bool:=ss.any fun st=>decide (st.1=m) && st.2.isSet
theorem qk (ss:List (Int×bD))(m:Int):(ss.filter (cA m)).length=ss.length↔HR ss m=false:=by
 rw[List.length_filter_eq_length_iff]
 unfold HR
 rw[rR]
 constructor
 ·intro h st hs
  have:=h st hs
  unfold cA at this
  cases h2:decide (st.1=m) && st.2.isSet
  ·simp
  ·rw[h2] at this
   cases this
 ·intro h st hs
  have:=h st hs
  unfold cA
  cases h2:decide (st.1=m) && st.2.isSet
  ·rfl
  ·exact absurd h2 this
theorem Kw {ss:List (Int×bD)}{m:Int}{st:Int×bD}(hp:ss.Pairwise (fun a b=>a.1 < b.1))(hs:st∈ss)(e:st.1=m):HR ss m=st.2.isSet:=by
 unfold HR
 cases h:st.2.isSet with
 |true=>exact List.any_eq_true.mpr ⟨st,hs,by simp[e,h]⟩
 |false=>
  rw[rR]
  intro x hx z
  have z':x.1=m/\x.2.isSet=true:=by simpa using z
  have q:=we hp hx hs (z'.1.trans e.symm)
  rw[q,h] at z'
  cases z'.2
theorem CK {ss:List (Int×bD)}{m:Int}(h: ∀st∈ss,st.1≠m):HR ss m=false:=by
 unfold HR
 rw[rR]
 intro x hx z
 have z':x.1=m/\x.2.isSet=true:=by simpa using z
 exact h x hx z'.1
theorem Kx {ss:List (Int×bD)}{m:Int}(hp:ss.Pairwise (fun a b=>a.1 < b.1))(h:HR ss m=true):ss.filter (cA m)=ss.filter fun st=>decide (st.1≠m):=by
 apply i6
 intro st hs
 unfold cA
 by_cases e:st.1=m
 ·rw[← Kw hp hs e,h]
  simp[e]
 ·simp[e]
theorem CL (pk pw:Addr):(eX pk pw).lookup ("in_force":Str)=none:=by rfl
theorem MO (pk pw:Addr):(eX pk pw).lookup ("undo":Str)=none:=by rfl
theorem Ug (pk pw:Addr):(eX pk pw).lookup ("do":Str)=none:=by rfl
inductive sM (A:eh)(vs:List V)(H:Hp)(Q:VK)(E':XK):Prop
 |mk (pb pk pw:Addr)(T:gR)(f:eO)(n:Nat)(m:Int)(h1:vs=[.ref pb,.int m])(h2:fN A H pb pk pw T f)(h3:Good T n)(h4: ∀H',aE H H'->Q (.bl (HR T.steps m)) H'):sM A vs H Q E'
theorem sN:aW ["self","number"] ["self","number"] (ax (mem 29 3)):={}
theorem Eu {A:eh}(G:jJ K mg A):g9 sk P w K mg base A.book "in_force" 1 ["self","number"] (sM A):=by
 refine Ml (k:=0) G.sD G.eW sN (fun f cU A' outer s H vs Q E hr h=>?_)
 ·obtain⟨pb,pk,pw,T,g,n,m,rfl,hB,hG,k⟩:=h
  have hu:=jV hr
  obtain⟨db,hb⟩:=hB.obj
  obtain⟨bg,hk,hK⟩:=hB.kept
  refine⟨_,(au (a9 (mQ (N5 (Ov hu (pv 1) (bZ (pv 0) rfl))) (lZ (eF og (xt (cD hu (bZ (pv 0) rfl) (pv 1) (fun _ _=>rfl)) ai) (cQ (aa aV (aa aV av))) (by rfl)))))),?_⟩
  refine⟨_,rfl,_,rfl,pb,_,db,_,_,rfl,hb,G.eW,G.gS,uC _ _,pk,_,rfl,mH.k (k:=(Sum.inl m:Key)) hk,_,rfl,?_⟩
  cases hv:gv bg (Sum.inl m:Key) with
  |none=>
   refine bV ?_
   have q:=k H (aE.refl _)
   rw[CK (sJ hK hv)] at q
   exact q
  |some v=>
   refine fJ ?_
   obtain⟨st,hs,e,pd,rfl,Cq,ht⟩:=yH hK hv
   obtain⟨r,er⟩:=uz (.inl ht)
   rw[er] at Cq
   refine⟨_,rfl,pb,_,db,_,_,rfl,hb,G.eW,G.gS,uC _ _,_,rfl,pk,.ref pd,rfl,(by have z:=mH.k (k:=(Sum.inl m:Key)) hk; rw[hv] at z; exact z),pd,_,_,.str (bD.word st.2),rfl,rfl,cB.of Cq,Kt _ _,(by show 2<=sizeLine; decide),fun p np=>?_⟩
   have s1:=aE.new (o:= .tup [.str "set",.str "sweep"]) np
   refine⟨p,_,rfl,.inr (cB.of ag),rfl,rfl,?_⟩
   have q:=k _ s1
   rw[Kw hG.inc hs e,← FA ht] at q
   exact q
inductive P8 (A:eh)(K:Frag)(tB tC:Addr)(vs:List V)(H:Hp)(Q:VK)(E:XK):Prop
 |mk (pb pd pk pw:Addr)(T:gR)(f:eO)(n:Nat)(d:bD)(h1:vs=[.ref pb,.int n,.ref pd])(h2:fN A H pb pk pw T f)(h3:Good T n)(h4:n<=59)(h5:lu H tB)(h6:lW H tC)(h7:H pd=some (.tup (bD.vs d)))(h8:d.tells=true)(h9:(T.bk.bar d=""-> ∀v f' H',f'.fp=f.fp->Frame (tB :: tC :: pk :: f.fp) H H'->lu H' tB->lW H' tC->fN A H' pb pk pw ⟨T.steps ++ [((n:Int),d)],T.bk.enter d⟩ f'->sH H' (fun D=>H D=none) (T.bk.LQ d) v->Q v H'))(K2:(T.bk.bar d≠""->Mq A K E (T.bk.bar d) H)):P8 A K tB tC vs H Q E
theorem wg:aW ["self","number","deed","answer"] ["self","number","deed"] (ax (mem 29 1)):={}
theorem Yx (T:Txt K mg){A:eh}{tB tC:Addr}(G:jJ K mg A)(DB:qr K mg "bills_in_order" (top 17) tB)(DC:qr K mg "credits_in_order" (top 18) tC)(jy:tB≠tC)(KB:K.In base)(BM:BMain mg base):g9 (mJ P w mg) P w K mg base A.book "do" 8 ["self","number","deed"] (P8 A K tB tC):=by
 have Ew:vB P w K mg base "done" 7 ["work","deed"] (uF A K tB tC):=Ks T G DB DC jy KB BM
 refine ra (k:=7) G.D8 G.eW wg (fun f cU A' outer s H vs Q E hr mz h=>?_)
 ·obtain⟨pb,pd,pk,pw,T,g,n,d,rfl,hB,hG,hn,kA,jR,hd,ht,k1,k2⟩:=h
  have hu:=jV hr
  have nd:=wg.nd
  obtain⟨db,hb⟩:=hB.obj
  obtain⟨bg,hk,hK⟩:=hB.kept
  have hW:=hB.wk
  refine⟨_,(ah (sv 3 nd (sE Ew (hr.mono (by decide)) rfl mz.pass (aa (bZ (pv 0) rfl) (aa (pv 2) av))))
(ah (E1 hu (bZ (pv 0) rfl) (pv 1) (pv 2) rfl)
(au (a9 (pv 3))))),?_⟩
  refine⟨_,rfl,pb,_,db,_,_,rfl,hb,G.eW,G.gT,uD _ _,_,rfl,pw,pd,T.bk,g,n,d,rfl,hW,hG.wf (by lia),(by lia),kA,jR,hd,ht,fun oN v f1 H1 e1 F1 jA ko W1 hA=>?_,k2⟩
  have P9: ∀a o,H a=some o->(∀xs,o≠ .lst xs)->(∀ps,o≠ .mO ps)->a∉tB :: tC :: g.fp:=fun a o e n1 n2 z=>by
   rcases aw.mp z with z|z
   ·obtain⟨ps,q⟩:=c8 kA
    rw[z,q] at e
    exact n2 ps (aD e).symm
   ·rcases aw.mp z with z|z
    ·obtain⟨ps,q⟩:=c8 jR
     rw[z,q] at e
     exact n2 ps (aD e).symm
    ·obtain⟨xs,q⟩:=hW.lists a z
     rw[q] at e
     exact n1 xs (aD e).symm
  have kt:cG H H1:=fun a xs e=>F1 _ _ (P9 _ _ e (fun _ z=>by cases z) (fun _ z=>by cases z)) e
  have Q8:=F1 _ _ (P9 _ _ hb (fun _ z=>by cases z) (fun _ z=>by cases z)) hb
  have HS:=F1 _ _ (P9 _ _ hk (fun _ z=>by cases z) (fun _ z=>by cases z)) hk
  have hK1:=hK.mono kt
  have lE:=kt _ _ hd
  have Fw:=aL hK
  have hlen:=hG.len
  refine⟨_,rfl,_,rfl,pb,_,db,_,_,rfl,Q8,G.eW,G.gS,uC _ _,_,rfl,pk,_,rfl,Gw.k (k:=(Sum.inl (n:Int):Key)) HS (bf (by lia)),?_⟩
  rw[Jc _ (CJ hK1 fun st hs=>by have:=(hG.lt st hs).2; lia)]
  have s2: ∀a o,a≠pk->H1 a=some o->upd H1 pk (.dK (bg ++ [(Sum.inl (n:Int),V.ref pd)])) a=some o:=fun a o hn e=>by rw[aA hn]; exact e
  have nbk:pb≠pk:=mx Q8 HS (by intro z; cases z)
  have Yy:=Az (u:= .dK (bg ++ [(Sum.inl (n:Int),V.ref pd)])) HS (uG bg)
  refine⟨_,rfl,k1 oN v f1 _ e1 ((dJ F1 fun x hx=>?_).tr (Frame.upd (by simp))) (f9 jA (Frame.upd (fp:=[pk]) (by simp)) (fun z=>?_) (fun a ha φ e=>?_)) (f9 ko (Frame.upd (fp:=[pk]) (by simp)) (fun z=>?_) (fun a ha φ e=>?_)) ⟨⟨db,s2 _ _ nbk Q8⟩,⟨_,ag,?_⟩,wc W1 HS (uG bg)⟩ ?_⟩
  ·rcases aw.mp hx with hx|hx
   ·simp[hx]
   ·rcases aw.mp hx with hx|hx
    ·simp[hx]
    ·simp[hx]
  ·obtain⟨ps,q⟩:=c8 jA
   rw[ao.mp z,HS] at q
   cases q
  ·rw[ao.mp ha,HS] at e
   cases e
  ·obtain⟨ps,q⟩:=c8 ko
   rw[ao.mp z,HS] at q
   cases q
  ·rw[ao.mp ha,HS] at e
   cases e
  ·exact cy (hK1.mono Yy) ⟨rfl,pd,rfl,Yy _ _ lE,ht⟩
  ·exact hA.keep (fun D xs o e=>⟨o,s2 _ _ (mx e HS (by intro z; cases z)) e⟩) Yy
theorem CM: ∀{ss:List (Int×bD)} {B S:Bk} {i:Nat} {k:Int} {d:bD},cI (ss.take i) B=some S->ss[i]? =some (k,d)->S.bar d≠""->iJ ss B=S.bar d/\cI ss B=none
 |[],_,_,_,_,_,_,h,_=>by simp at h
 |(k0,d0) :: ss,B,S,0,k,d,hw,h,hb=>by
  cases hw
  have e:(k0,d0)=(k,d):=by simpa using h
  cases e
  unfold iJ cI
  rw[aO hb,aO hb]
  exact⟨rfl,rfl⟩
 |(k0,d0) :: ss,B,S,i + 1,k,d,hw,h,hb=>by
  rw[List.take_succ_cons] at hw
  unfold cI at hw
  split at hw
  ·rename_i q
   have ih:=CM hw (by simpa using h) hb
   unfold iJ cI
   rw[aZ q,aZ q]
   exact ih
  ·cases hw
theorem CO {ss:List (Int×bD)}{B S:Bk}{i:Nat}{k:Int}{d:bD}(hw:cI (ss.take i) B=some S)(h:ss[i]? =some (k,d))(hb:S.bar d=""):cI (ss.take (i + 1)) B=some (S.enter d):=by
 obtain⟨hi,e⟩:=ak.mp h
 rw[gX hi,k6,hw,e]
 show(if S.bar d="" then some (S.enter d) else none)=_
 rw[aZ hb]
def Yz (A:eh)(K:Frag)(tB tC:Addr)(fp:List Addr)(E:XK)(t:Str)(H:Hp):Prop:= ∀C dx H',g8 K C A.refusal->Frame fp H H'->lu H' tB->lW H' tC->H dx=none->H' dx=some (.xd [("text",.str t)])->E (.ref C) (some dx) H'
inductive AA (A:eh)(K:Frag)(tB tC:Addr)(vs:List V)(H:Hp)(Q:VK)(E:XK):Prop
 |mk (pk:Addr)(ss:List (Int×bD))(bg:List (Key×V))(h1:vs=[.ref pk])(h2:H pk=some (.dK bg))(h3:lh H ss bg)(h4:ss.length<=59)(h5:(iJ ss Bk.new=""∨iJ ss Bk.new="too much"))(h6:lu H tB)(h7:lW H tC)(h8:(∀S,cI ss Bk.new=some S-> ∀pw f H',Frame [tB,tC] H H'->lu H' tB->lW H' tC->dI A H' pw S f->H pw=none->(∀b∈f.fp,H b=none)->Q (.ref pw) H'))(h9:(cI ss Bk.new=none->Yz A K tB tC [tB,tC,pk] E "needed" H)):AA A K tB tC vs H Q E
theorem o9:aW ["kept","work","deed"] ["kept"] (ax (top 31)):={}
theorem NC {H:Hp}{tb d:Addr}{pos:Pos}{qual:Str}{φ:Heap->Prop}{u:HO}(t:Tb H tb pos qual)(e:H d=some (.ext φ))(n: ∀q:Str,φ≠fun h=>h.CodeRec (.ref d) q):Tb (upd H d u) tb pos qual:=by
 obtain⟨ps,h1,h2,h3⟩:=t
 refine⟨ps,by rw[aA (mx h1 e (by intro z; cases z))]; exact h1,h2,?_⟩
 rcases h3 with h3|⟨c',h3,h4⟩
 ·exact .inl h3
 ·refine .inr ⟨c',h3,?_⟩
  by_cases z:c'=d
  ·subst z
   rw[e] at h4
   have h5:=aD h4
   injection h5 with h5
   exact absurd h5 (n qual)
  ·rw[aA z]
   exact h4
theorem AB (T:Txt K mg){A:eh}{tB tC:Addr}(G:jJ K mg A)(DB:qr K mg "bills_in_order" (top 17) tB)(DC:qr K mg "credits_in_order" (top 18) tC)(jy:tB≠tC)(hnd:A.jf≠A.tooMuch)(KB:K.In base)(BM:BMain mg base):vB P w K mg base "done_again" 8 ["kept"] (AA A K tB tC):=by
 have Ew:vB P w K mg base "done" 7 ["work","deed"] (uF A K tB tC):=Ks T G DB DC jy KB BM
 have En:ub P w K mg base "Work" A.work 1 ["self"] (uw A):=J1 G
 refine Pf (k:=7) T.zx o9 (fun f cU A' outer s H vs Q E hr mz h=>?_)
 ·obtain⟨pk,ss,bg,rfl,hk,hK,hl,hfb,kA,jR,k1,k2⟩:=h
  have nd:=o9.nd
  refine⟨_,(ah (sv 1 nd (JO En (hr.mono (by decide)) rfl))
(ah (L8 mz.own rfl (pv 0) (gn 2 nd)
(au (BD mz rfl rfl G.vA G.pY (show mg "Needed"≠some (.ref A.tooMuch) from fun z=>hnd (by rw[G.yx] at z; injection z with z; injection z)) (Hl T G) (hr.h.mono (by decide)) rfl (fun xe pn E hx=>au (bK (sE Ew (hr.mono (by decide)) rfl hx (aa (pv 1) (aa (pv 2) av))))))))
(au (a9 (pv 1))))),?_⟩
  intro xw Ya MB PM ne
  have s1:=lN (C:=A.work) (fs:=[]) MB PM ne
  refine⟨xw,Ya,rfl,ag,fun g H1 F1 W1 nf=>⟨rfl,?_⟩⟩
  have fg: ∀b∈g.fp,H b=none:=fun b hb=>s1.free (nf b hb)
  have S1:aE H H1:=fun b o e=>F1 b o (by simpa using aK e MB) (s1 b o e)
  clear F1 nf s1
  refine⟨_,rfl,?_⟩
  have HS:=S1 _ _ hk
  have hlen:=aL hK
  refine JI (td:=fun _ _ _=>True) HS fun φ hφ=>⟨fun i σ H2=> ∃(S:Bk) (f:eO) (x2:Option V),σ=[some (.ref pk),some (.ref xw),x2]/\cI (ss.take i) Bk.new=some S/\dI A H2 xw S f/\(∀b∈f.fp,H b=none)/\Frame [tB,tC,pk] H H2/\H2 pk=some (.ext φ)/\lu H2 tB/\lW H2 tC,?_,?_,?_,?_⟩
  ·have ext: ∀a∈[pk],∀φ,H1 a≠some (.ext φ):=fun a ha φ e=>by
    rw[ao.mp ha,HS] at e
    cases e
   have nB:tB∉[pk]:=fun z=>by
    obtain⟨ps,q⟩:=c8 kA
    rw[ao.mp z,hk] at q
    cases q
   have nC:tC∉[pk]:=fun z=>by
    obtain⟨ps,q⟩:=c8 jR
    rw[ao.mp z,hk] at q
    cases q
   exact⟨Bk.new,g,none,rfl,rfl,wc W1 HS (uG bg),fg,(S1.frame (fp:=[tB,tC,pk])).tr (Frame.upd (by simp)),ag,f9 (bL kA S1) (Frame.upd (fp:=[pk]) (by simp)) nB ext,f9 (bL jR S1) (Frame.upd (fp:=[pk]) (by simp)) nC ext⟩
  ·rintro i σ H2 ⟨S,f,x2,_,_,_,_,_,e,_⟩
   exact e
  ·rintro i x σ H2 hx ⟨S,f,x2,rfl,hw,hW,hf,F2,e2,kG,mL⟩
   rw[aB] at hx
   obtain⟨kv,Vr,rfl⟩:=br.mp hx
   have hi:i < ss.length:=by have:=(ak.mp Vr).1; lia
   have qq:=af hi
   obtain⟨kv',Uh,ek,pd,epd,Cq,ht⟩:=bB hK qq
   rw[Vr] at Uh
   obtain rfl:kv=kv':=aD Uh
   generalize ss[i]=st at qq ek Cq ht
   obtain⟨sn,d⟩:=st
   rw[epd]
   have Pq:H2 pd=some (.tup (bD.vs d)):=F2 _ _ (fun z=>by
    simp only[List.mem_cons,List.not_mem_nil,or_false] at z
    rcases z with z|z|z
    ·obtain⟨ps,q⟩:=c8 kA
     rw[← z,Cq] at q
     cases q
    ·obtain⟨ps,q⟩:=c8 jR
     rw[← z,Cq] at q
     cases q
    ·rw[z,hk] at Cq
     cases Cq) Cq
   have wf:WF S (0 + (ss.take i).length):=sC _ WF.new hw (by rw[bb]; lia)
   refine⟨_,rfl,_,rfl,xw,pd,S,f,_,d,rfl,hW,wf,(by rw[bb]; lia),kG,mL,Pq,ht,fun hb v f' H3 e3 F3 rF rG W3 _=>?_,fun hb=>?_⟩
   ·refine⟨S.enter d,f',_,rfl,CO hw qq hb,W3,(by rw[e3]; exact hf),F2.trans F3 (fun x hx=>?_),F3 _ _ (fun z=>?_) e2,rF,rG⟩
    ·rcases aw.mp hx with hx|hx
     ·exact .inl (by simp[hx])
     ·rcases aw.mp hx with hx|hx
      ·exact .inl (by simp[hx])
      ·exact .inr (hf x hx)
    ·rcases aw.mp z with z|z
     ·obtain⟨ps,q⟩:=c8 kG
      rw[← z,e2] at q
      cases q
     ·rcases aw.mp z with z|z
      ·obtain⟨ps,q⟩:=c8 mL
       rw[← z,e2] at q
       cases q
      ·have:=hf _ z
       rw[hk] at this
       cases this
   ·obtain⟨ef,ew⟩:=CM hw qq hb
    have et:S.bar d="too much":=(hfb.resolve_left (by rw[ef]; exact hb)).symm.trans ef |>.symm
    intro C hC hCt dx H3 s3 nd3 Nw
    have U4:C=A.tooMuch:=hCt et
    refine⟨by rw[U4],fun YA n2=>?_⟩
    have s4:=aE.new (o:= .xd [("text",.str "needed")]) n2
    have Ky:=s3.trans s4
    refine k2 ew A.jf YA _ G.yy (F2.df Ky) (bL kG Ky) (bL mL Ky) ?_ ag
    have Ui:=s3.free n2
    cases e:H YA with
    |none=>rfl
    |some o=>
     exfalso
     by_cases j8:YA∈[tB,tC,pk]
     ·simp only[List.mem_cons,List.not_mem_nil,or_false] at j8
      rcases j8 with z|z|z
      ·obtain⟨ps,q⟩:=c8 kG
       rw[← z,Ui] at q
       cases q
      ·obtain⟨ps,q⟩:=c8 mL
       rw[← z,Ui] at q
       cases q
      ·rw[z,e2] at Ui
       cases Ui
     ·have q:=F2 _ _ j8 e
      rw[Ui] at q
      cases q
  ·rintro σ H2 ⟨S,f,x2,rfl,hw,hW,hf,F2,e2,kG,mL⟩
   rw[← hlen,aY] at hw
   refine⟨_,rfl,k1 S hw xw f _ (fun b o hb e=>?_) (NC kG e2 hφ.2) (NC mL e2 hφ.2) (wc hW e2 (Kv φ)) MB hf⟩
   by_cases z:b=pk
   ·subst z
    rw[hk] at e
    rw[ag]
    exact e
   ·rw[aA z]
    exact F2 _ _ (by simp only[List.mem_cons,List.not_mem_nil,or_false,not_or] at hb ⊢; exact⟨hb.1,hb.2,z⟩) e
theorem Qa (pk pw rQ:Addr):eK "work" (.ref rQ) (eX pk pw)=eX pk rQ:=by rfl
theorem Qb (pk wj pw:Addr):eK "kept" (.ref wj) (eX pk pw)=eX wj pw:=by rfl
inductive Ex (A:eh)(K:Frag)(tB tC:Addr)(vs:List V)(H:Hp)(Q:VK)(E:XK):Prop
 |mk (pb pk pw:Addr)(T:gR)(f:eO)(n:Nat)(m:Int)(h1:vs=[.ref pb,.int m])(h2:fN A H pb pk pw T f)(h3:Good T n)(h4:n<=59)(h5:lu H tB)(h6:lW H tC)(h7:(HR T.steps m=true-> ∀S,cI (T.steps.filter (cA m)) Bk.new=some S-> ∀wj rQ f' H',Frame [tB,tC,pb] H H'->lu H' tB->lW H' tC->fN A H' pb wj rQ ⟨T.steps.filter (cA m),S⟩ f'->H wj=none->(∀b∈f'.fp,H b=none)->Q (.str "undone") H'))(h8:(HR T.steps m=true->cI (T.steps.filter (cA m)) Bk.new=none->Yz A K tB tC [tB,tC] E "needed" H))(h9:(HR T.steps m=false->Yz A K tB tC [tB,tC] E "no setting" H)):Ex A K tB tC vs H Q E
theorem rL:aW ["self","number","kept"] ["self","number"] (ax (mem 29 2)):={}
theorem Qc (T:Txt K mg){A:eh}{tB tC:Addr}(G:jJ K mg A)(DB:qr K mg "bills_in_order" (top 17) tB)(DC:qr K mg "credits_in_order" (top 18) tC)(jy:tB≠tC)(hnd:A.jf≠A.tooMuch)(KB:K.In base)(BM:BMain mg base):g9 (mJ P w mg) P w K mg base A.book "undo" 9 ["self","number"] (Ex A K tB tC):=by
 have AD:vB P w K mg base "done_again" 8 ["kept"] (AA A K tB tC):=AB T G DB DC jy hnd KB BM
 have Ey:g9 sk P w K mg base A.book "in_force" 1 ["self","number"] (sM A):=Eu G
 refine ra (k:=8) G.zN G.eW rL (fun f cU A' outer s H vs Q E hr mz h=>?_)
 ·obtain⟨pb,pk,pw,TT,g,n,m,rfl,hB,hG,hn,kA,jR,k1,k2,k3⟩:=h
  have hu:=jV hr
  have nd:=rL.nd
  obtain⟨db,hb⟩:=hB.obj
  refine⟨_,(ah (bP (jS (gp (nA Ey (hr.mono (by decide)) mX (pv 0) (aa (pv 1) av))))
(au (ka mz (zR T G) (hr.h.mono (by decide)) rfl rfl))
bh)
(ah (sv 2 nd (gg BN (by rfl) T.O8 (by rfl) (aa (bZ (pv 0) rfl) av)))
(ah (bK (Je (pv 2) (pv 1) ⟨rfl,rfl,rfl,rfl⟩))
(ah (fR (pv 0) (sE AD (hr.mono (by decide)) rfl mz.pass (aa (pv 2) av)) rfl)
(ah (fR (pv 0) (pv 2) rfl)
(au (a9 aV))))))),?_⟩
  refine⟨_,rfl,pb,db,_,rfl,hb,CL _ _,_,rfl,pb,pk,pw,TT,g,n,m,rfl,hB,hG,fun H1 s1=>⟨_,rfl,?_⟩⟩
  refine cv (fun z=>?_) (fun z=>?_)
  ·have z':HR TT.steps m=false:=by simpa using z
   intro dx nn
   have s2:=s1.trans (aE.new (o:= .xd [("text",.str "no setting")]) nn)
   exact k3 z' A.jQ dx _ G.qW s2.frame (bL kA s2) (bL jR s2) (s1.free nn) ag
  have z':HR TT.steps m=true:=by simpa using z
  have Nr:=hB.same s1
  obtain⟨bg,hk,hK⟩:=Nr.kept
  have Q8:=s1 _ _ hb
  refine⟨_,rfl,pb,_,db,_,_,rfl,Q8,G.eW,G.gS,uC _ _,pk,bg,rfl,hk,fun p2 np2=>?_⟩
  have s2:=aE.new (o:= .dK bg) np2
  have tU:upd H1 p2 (.dK bg) p2=some (.dK bg):=ag
  have n2:H p2=none:=s1.free np2
  have S2:=s1.trans s2
  have hK2:=hK.mono s2.tk
  generalize upd H1 p2 (.dK bg)=H2 at tU S2 hK2
  clear s2
  cases hv:gv bg (Sum.inl m:Key) with
  |none=>
   have:=CK (sJ hK hv)
   rw[z'] at this
   cases this
  |some v=>
  refine⟨_,rfl,p2,rfl,.inl ⟨bg,.inl tU⟩,_,rfl,bg,(Sum.inl m:Key),v,tU,rfl,hv,?_⟩
  have VL:=(yI (m:=m) hK2).mono (Az (u:= .dK (lz bg (Sum.inl m:Key))) tU (uG bg))
  rw[← Kx hG.inc z'] at VL
  have S3:aE H (upd H2 p2 (.dK (lz bg (Sum.inl m:Key)))):=S2.cY n2
  have QZ:upd H2 p2 (.dK (lz bg (Sum.inl m:Key))) p2=some (.dK (lz bg (Sum.inl m:Key))):=ag
  generalize upd H2 p2 (.dK (lz bg (Sum.inl m:Key)))=H3 at VL S3 QZ
  have Vz:=a7 (cA m) TT.steps
  have PN:=hG.len
  have Uj:(cI TT.steps Bk.new).isSome=true:=by rw[hG.w]; rfl
  refine⟨_,rfl,p2,_,_,rfl,QZ,VL,(by lia),OM m TT.steps (ng.refl Bk.new) Uj,bL kA S3,bL jR S3,fun S hS rQ f' H4 F4 rH rJ W4 npw nf4=>?_,fun hS=>?_⟩
  case refine_2=>
   intro C dx H4 hC F4 rH rJ nd4 hd4
   refine k2 z' hS C dx H4 hC ((S3.frame (fp:=[tB,tC])).trans F4 (fun x hx=>?_)) rH rJ (S3.free nd4) hd4
   simp only[List.mem_cons,List.not_mem_nil,or_false] at hx
   rcases hx with hx|hx|hx
   ·exact .inl (by simp[hx])
   ·exact .inl (by simp[hx])
   ·exact .inr (by rw[hx]; exact n2)
  have off: ∀a o,H3 a=some o->(∀ps,o≠ .mO ps)->a∉[tB,tC]:=fun a o e n1 z=>by
   simp only[List.mem_cons,List.not_mem_nil,or_false] at z
   rcases z with z|z
   ·obtain⟨ps,q⟩:=c8 (bL kA S3)
    rw[z,q] at e
    exact n1 ps (aD e).symm
   ·obtain⟨ps,q⟩:=c8 (bL jR S3)
    rw[z,q] at e
    exact n1 ps (aD e).symm
  have AE:=F4 _ _ (off _ _ (S3 _ _ hb) (fun _ z=>by cases z)) (S3 _ _ hb)
  have VM:=F4 _ _ (off _ _ QZ (fun _ z=>by cases z)) QZ
  have hK4:=VL.mono (fun a xs e=>F4 _ _ (off _ _ e (fun _ z=>by cases z)) e)
  have F4':Frame [tB,tC,pb] H H4:=dJ ((S3.frame (fp:=[tB,tC])).tr F4) (by simp)
  refine⟨_,rfl,pb,_,db,_,rfl,AE,G.eW,G.gT,(by show 2 < 1000; decide),?_⟩
  rw[Qa]
  have e5:upd H4 pb (.ins A.book db (eX pk rQ)) pb=some (.ins A.book db (eX pk rQ)):=ag
  have Uk:=yG A.book db pk pw
  have W5:=wc (u:= .ins A.book db (eX pk rQ)) W4 AE Uk
  have nb2:p2≠pb:=(aK hb n2).symm
  have Q9:upd H4 pb (.ins A.book db (eX pk rQ)) p2=some (.dK (lz bg (Sum.inl m:Key))):=by rw[aA nb2]; exact VM
  have hK5:=hK4.mono (Az (u:= .ins A.book db (eX pk rQ)) AE Uk)
  have Ul: ∀a∈[pb],∀φ,H4 a≠some (.ext φ):=fun a ha φ e=>by
   rw[ao.mp ha,AE] at e
   cases e
  have nB:tB∉[pb]:=fun z=>by
   obtain⟨ps,q⟩:=c8 rH
   rw[ao.mp z,AE] at q
   cases q
  have nC:tC∉[pb]:=fun z=>by
   obtain⟨ps,q⟩:=c8 rJ
   rw[ao.mp z,AE] at q
   cases q
  have Kn:lu (upd H4 pb (.ins A.book db (eX pk rQ))) tB:=f9 rH (Frame.upd (fp:=[pb]) (by simp)) nB Ul
  have Ko:lW (upd H4 pb (.ins A.book db (eX pk rQ))) tC:=f9 rJ (Frame.upd (fp:=[pb]) (by simp)) nC Ul
  have F5:Frame [tB,tC,pb] H (upd H4 pb (.ins A.book db (eX pk rQ))):=F4'.tr (Frame.upd (by simp))
  generalize upd H4 pb (.ins A.book db (eX pk rQ))=H5 at e5 W5 Q9 hK5 Kn Ko F5
  refine⟨_,rfl,_,rfl,pb,_,db,_,rfl,e5,G.eW,G.gS,(by show 2 < 1000; decide),?_⟩
  rw[Qb]
  have ND:=yG A.book db pk rQ
  have Um: ∀a∈[pb],∀φ,H5 a≠some (.ext φ):=fun a ha φ e=>by
   rw[ao.mp ha,e5] at e
   cases e
  refine k1 z' S hS p2 rQ f' _ (F5.tr (Frame.upd (by simp))) (f9 Kn (Frame.upd (fp:=[pb]) (by simp)) nB Um) (f9 Ko (Frame.upd (fp:=[pb]) (by simp)) nC Um) ⟨⟨db,ag⟩,⟨_,by rw[aA nb2]; exact Q9,hK5.mono (Az e5 ND)⟩,wc W5 e5 ND⟩ n2 (fun b hb=>S3.free (nf4 b hb))
def Dt.v:Dt->V
 | .int i=> .int i
 | .str s=> .str s
 | .bl b=> .bl b
 |_=> .eD
def Dt.flat:Dt->Bool
 | .int _=>true
 | .str _=>true
 | .bl _=>true
 |_=>false
theorem wm {H:Hp}: ∀{ds:List Dt} {xs:List V},ds.all Dt.flat=true->il H ds xs->xs=ds.map Dt.v
 |[],_,_,h=>cM.mp h
 |d :: ds,_,hf,h=>by
  obtain⟨v,r,rfl,h1,h2⟩:=bI.mp h
  rw[List.all_cons,ug] at hf
  rw[wm hf.2 h2]
  cases d with
  |int i=>rw[dr.mp h1]; rfl
  |str s=>rw[fL.mp h1]; rfl
  |bl b=>rw[qJ.mp h1]; rfl
  |eD=>cases hf.1
  |lst _=>cases hf.1
  |tup _=>cases hf.1
def sO (H:Hp)(pd:Addr):bD->Prop
 | .iH w dy l=> ∃pl,H pd=some (.tup [.str "ages",.str w,.int dy,.ref pl])/\H pl=some (.tup (l.map V.int))
 |d=>H pd=some (.tup (bD.vs d))
theorem FN {H:Hp}{d:bD}{v:V}(h:Rp H d.dt v): ∃pd,v= .ref pd/\sO H pd d:=by
 cases d with
 |iH w dy l=>
  obtain⟨a,xs,rfl,h1,h2⟩:=jW.mp h
  obtain⟨v1,r1,rfl,e1,h2⟩:=bI.mp h2
  obtain⟨v2,r2,rfl,e2,h2⟩:=bI.mp h2
  obtain⟨v3,r3,rfl,e3,h2⟩:=bI.mp h2
  obtain⟨v4,r4,rfl,e4,h2⟩:=bI.mp h2
  obtain rfl:=cM.mp h2
  obtain rfl:=fL.mp e1
  obtain rfl:=fL.mp e2
  obtain rfl:=dr.mp e3
  obtain⟨pl,ys,rfl,h4,h5⟩:=jW.mp e4
  have e5:=wm (by rw[List.all_map]; exact List.all_eq_true.mpr fun _ _=>rfl) h5
  rw[e5,dD] at h4
  exact⟨a,rfl,pl,h1,h4⟩
 |_=>
  obtain⟨a,xs,rfl,h1,h2⟩:=jW.mp h
  have e5:=wm (by rfl) h2
  rw[e5] at h1
  exact⟨a,rfl,h1⟩
theorem sO.mono {H H':Hp}{pd:Addr}{d:bD}(h:sO H pd d)(k:cG H H'):sO H' pd d:=by
 cases d with
 |iH w dy l=>
  obtain⟨pl,h1,h2⟩:=h
  exact⟨pl,k _ _ h1,k _ _ h2⟩
 |_=>exact k _ _ h
theorem lS {A:eh}{H H':Hp}{pb pk pw:Addr}{T:gR}{f:eO}(h:fN A H pb pk pw T f)(k: ∀a o,H a=some o->(∀ps,o≠ .mO ps)->H' a=some o):fN A H' pb pk pw T f:=by
 obtain⟨db,hb⟩:=h.obj
 obtain⟨bg,k1,k2⟩:=h.kept
 have kt:cG H H':=fun a xs e=>k _ _ e (fun _ z=>by cases z)
 exact⟨⟨db,k _ _ hb (fun _ z=>by cases z)⟩,⟨bg,k _ _ k1 (fun _ z=>by cases z),k2.mono kt⟩,FL h.wk (fun a xs e=>k _ _ e (fun _ z=>by cases z)) (fun a C dx fs _ e=>k _ _ e (fun _ z=>by cases z)) kt⟩
theorem yJ {H H':Hp}{fp:List Addr}{a:Addr}{o:HO}(F:Frame fp H H')(ht: ∀t∈fp,∃ps,H t=some (.mO ps))(e:H a=some o)(n: ∀ps,o≠ .mO ps):H' a=some o:=F _ _ (fun z=>by
 obtain⟨ps,q⟩:=ht a z
 rw[q] at e
 exact n ps (aD e).symm) e
theorem MP {d:bD}(h:d.tells=true):bD.word d≠"owed"/\bD.word d≠"free"/\bD.word d≠"ages"/\bD.word d≠"undo":=by
 cases d with
 |dY _ _ _ _=>show("bill":Str)≠"owed"/\("bill":Str)≠"free"/\("bill":Str)≠"ages"/\("bill":Str)≠"undo"; decide +kernel
 |qN _ _ _=>show("pay":Str)≠"owed"/\("pay":Str)≠"free"/\("pay":Str)≠"ages"/\("pay":Str)≠"undo"; decide +kernel
 |note _ _ _=>show("note":Str)≠"owed"/\("note":Str)≠"free"/\("note":Str)≠"ages"/\("note":Str)≠"undo"; decide +kernel
 |set _ _ _=>show("set":Str)≠"owed"/\("set":Str)≠"free"/\("set":Str)≠"ages"/\("set":Str)≠"undo"; decide +kernel
 |fP _=>show("sweep":Str)≠"owed"/\("sweep":Str)≠"free"/\("sweep":Str)≠"ages"/\("sweep":Str)≠"undo"; decide +kernel
 |jd _=>cases h
 |ask _ _ _=>cases h
 |iH _ _ _=>cases h
inductive wo (A:eh)(tB tC:Addr)(vs:List V)(H:Hp)(Q:VK)(E':XK):Prop
 |mk (pb pd pk pw:Addr)(T:gR)(f:eO)(n:Nat)(d:bD)(h1:vs=[.ref pb,.int n,.ref pd])(h2:fN A H pb pk pw T f)(h3:Good T n)(h4:n<=59)(h5:lu H tB)(h6:lW H tC)(h7:sO H pd d)(h8:d.ok)(h9: ∀v wj rQ f' H',Frame (tB :: tC :: pb :: pk :: f.fp) H H'->lu H' tB->lW H' tC->fN A H' pb wj rQ (dZ T n d).2 f'->(∀x∈wj :: f'.fp,x∈pk :: f.fp∨H x=none)->sH H' (fun D=>H D=none/\D∉wj :: f'.fp) (dZ T n d).1 v->Q v H'):wo A tB tC vs H Q E'
theorem rM:aW ["book","number","deed","kind","refusal"] ["book","number","deed"] (ax (top 35)):={}
theorem CP (T:Txt K mg){A:eh}{tB tC:Addr}(G:jJ K mg A)(DB:qr K mg "bills_in_order" (top 17) tB)(DC:qr K mg "credits_in_order" (top 18) tC)(jy:tB≠tC)(hnd:A.jf≠A.tooMuch)(KB:K.In base)(BM:BMain mg base):fb P w K mg base "answer_of" 10 ["book","number","deed"] (wo A tB tC):=by
 have Qd:g9 (mJ P w mg) P w K mg base A.book "undo" 9 ["self","number"] (Ex A K tB tC):=Qc T G DB DC jy hnd KB BM
 have YB:g9 (mJ P w mg) P w K mg base A.book "do" 8 ["self","number","deed"] (P8 A K tB tC):=Yx T G DB DC jy KB BM
 have sI:fb P w K mg base "owed_at" 5 ["work","who","day"] (Am A tB):=yE T G DB KB BM
 have HU:fb P w K mg base "free_at" 5 ["work","who","day"] (Eh A tC):=HF T G DC KB BM
 have HV:fb P w K mg base "ages_at" 6 ["work","who","day","limits"] (El A tB):=HG T G DB KB BM
 refine T.BE.fC (k:=9) rM (fun f cU A' outer s H vs Q E hr h=>?_)
 ·obtain⟨pb,pd,pk,pw,TT,g,n,d,rfl,hB,hG,hn,kA,jR,hd,cz,k⟩:=h
  have nd:=rM.nd
  refine⟨_,(ah (sv 3 nd (xt (pv 2) ai))
(ah (bP (aX cK (pv 3) aV (a0 _))
(au (a9 (fc sI hr (aa (bZ (pv 0) rfl) (aa (xt (pv 2) ai) (aa (xt (pv 2) ai) av))))))
bh)
(ah (bP (aX cK (pv 3) aV (a0 _))
(au (a9 (fc HU hr (aa (bZ (pv 0) rfl) (aa (xt (pv 2) ai) (aa (xt (pv 2) ai) av))))))
bh)
(ah (bP (aX cK (pv 3) aV (a0 _))
(au (a9 (fc HV hr (aa (bZ (pv 0) rfl) (aa (xt (pv 2) ai) (aa (xt (pv 2) ai) (aa (xt (pv 2) ai) av)))))))
bh)
(au (GX (i:=4) rfl rfl rfl nd rfl rfl rfl G.fT G.D4 (fun xe pn E hx=>(ah (bP (aX cK (pv 3) aV (a0 _))
(au (a9 (nA Qd (hr.mono (by decide)) hx (pv 0) (aa (iU (kJ (K:=K) rfl) (pv 2) ai (fun _ _=>rfl)) av))))
bh)
(au (a9 (nA YB (hr.mono (by decide)) hx (pv 0) (aa (pv 1) (aa (pv 2) av))))))))))))),?_⟩
  obtain⟨db,hb⟩:=hB.obj
  have hW:=hB.wk
  have NF: ∀t∈[tB,tC],∃ps,H t=some (.mO ps):=fun t z=>by
   simp only[List.mem_cons,List.not_mem_nil,or_false] at z
   rcases z with rfl|rfl
   ·exact c8 kA
   ·exact c8 jR
  have big: ∀x∈[tB,tC],x∈tB :: tC :: pb :: pk :: g.fp:=fun x z=>by
   simp only[List.mem_cons,List.not_mem_nil,or_false] at z
   rcases z with rfl|rfl <;> simp
  have Uo: ∀a∈[tB],∀φ,H a≠some (.ext φ):=fun a ha φ e=>by
   obtain⟨ps,q⟩:=c8 kA
   rw[ao.mp ha,q] at e
   cases e
  have YC: ∀a∈[tC],∀φ,H a≠some (.ext φ):=fun a ha φ e=>by
   obtain⟨ps,q⟩:=c8 jR
   rw[ao.mp ha,q] at e
   cases e
  obtain⟨bg,hk,hK⟩:=hB.kept
  have Nl: ∀D,H D=none->D∉pk :: g.fp:=fun D e z=>by
   rcases aw.mp z with z|z
   ·rw[z,hk] at e
    cases e
   ·exact hW.new e z
  have wf:=hG.wf (by lia:n<=60)
  by_cases ht:d.tells=true
  ·have Io:H pd=some (.tup (bD.vs d)):=by cases d <;> first|exact hd|cases ht
   obtain⟨r,er⟩:=uz (.inl ht)
   have Vx:H pd=some (.tup (.str (bD.word d) :: r)):=by rw[← er]; exact Io
   obtain⟨w1,w2,w3,w4⟩:=MP ht
   rw[vS ht] at k
   refine⟨_,rfl,pd,_,_,.str (bD.word d),rfl,rfl,cB.of Vx,Kt _ _,?_⟩
   refine⟨_,rfl,rfl,false,jL w1,bV ?_⟩
   refine⟨_,rfl,rfl,false,jL w2,bV ?_⟩
   refine⟨_,rfl,rfl,false,jL w3,bV ?_⟩
   refine⟨_,rfl,rfl,false,jL w4,bV ⟨_,rfl,pb,db,_,rfl,hb,Ug _ _,_,rfl,_,rfl,pb,pd,pk,pw,TT,g,n,d,rfl,hB,hG,hn,kA,jR,Io,ht,fun oN v f1 H1 e1 F1 jA ko Nr hA=>?_,fun oN=>?_⟩⟩
   ·rw[aZ oN] at k
    refine k v pk pw f1 H1 (dJ F1 fun x z=>?_) jA ko Nr (by rw[e1]; exact fun x hx=> .inl hx) (hA.keep (fun D xs o e=>⟨⟨o,by rw[e1]; exact Nl D o⟩,e⟩) fun _ _ e=>e)
    rcases aw.mp z with z|z
    ·simp[z]
    ·rcases aw.mp z with z|z
     ·simp[z]
     ·rcases aw.mp z with z|z
      ·simp[z]
      ·simp[z]
   ·rw[aO oN] at k
    intro C hC _ dx H1 s1 JP Dh
    exact⟨C,dx,_,rfl,rfl,hC,Dh,k _ pk pw g H1 s1.frame (bL kA s1) (bL jR s1) (hB.same s1) (fun x hx=> .inl hx) rfl⟩
  cases d with
  |dY _ _ _ _=>exact absurd rfl ht
  |qN _ _ _=>exact absurd rfl ht
  |note _ _ _=>exact absurd rfl ht
  |set _ _ _=>exact absurd rfl ht
  |fP _=>exact absurd rfl ht
  |ask o wh dy=>
   have hd:H pd=some (.tup (bD.vs (.ask o wh dy))):=hd
   cases o with
   |true=>
    refine⟨_,rfl,pd,_,_,.str "owed",rfl,rfl,cB.of hd,rfl,?_⟩
    refine⟨_,rfl,rfl,true,A1 _,fJ ⟨_,rfl,pb,_,db,_,_,rfl,hb,G.eW,G.gT,uD _ _,_,rfl,pd,_,_,.str wh,rfl,rfl,cB.of hd,rfl,_,rfl,pd,_,_,.int dy,rfl,rfl,cB.of hd,rfl,pw,TT.bk,g,n,wh,dy,rfl,hW,wf,(by lia),kA,fun D ms H1 F1 jA nD hD hP=>?_⟩⟩
    have F2:Frame [tB,tC] H H1:=dJ F1 (by simp)
    exact k _ pk pw g H1 (dJ F2 big) jA (f9 jR F1 (by simpa using jy.symm) Uo) (lS hB fun a o e z=>yJ F2 NF e z) (fun x hx=> .inl hx) ⟨D,ms,rfl,⟨nD,Nl D nD⟩,hD,hP⟩
   |false=>
    refine⟨_,rfl,pd,_,_,.str "free",rfl,rfl,cB.of hd,rfl,?_⟩
    refine⟨_,rfl,rfl,false,jL (show("free":Str)≠"owed" by decide +kernel),bV ?_⟩
    refine⟨_,rfl,rfl,true,A1 _,fJ ⟨_,rfl,pb,_,db,_,_,rfl,hb,G.eW,G.gT,uD _ _,_,rfl,pd,_,_,.str wh,rfl,rfl,cB.of hd,rfl,_,rfl,pd,_,_,.int dy,rfl,rfl,cB.of hd,rfl,pw,TT.bk,g,n,wh,dy,rfl,hW,wf,(by lia),jR,fun D ms H1 F1 ko nD hD hP=>?_⟩⟩
    have F2:Frame [tB,tC] H H1:=dJ F1 (by simp)
    exact k _ pk pw g H1 (dJ F2 big) (f9 kA F1 (by simpa using jy) YC) ko (lS hB fun a o e z=>yJ F2 NF e z) (fun x hx=> .inl hx) ⟨D,ms,rfl,⟨nD,Nl D nD⟩,hD,hP⟩
  |iH wh dy dh=>
   obtain⟨pl,hd,jb⟩:=hd
   refine⟨_,rfl,pd,_,_,.str "ages",rfl,rfl,cB.of hd,rfl,?_⟩
   refine⟨_,rfl,rfl,false,jL (show("ages":Str)≠"owed" by decide +kernel),bV ?_⟩
   refine⟨_,rfl,rfl,false,jL (show("ages":Str)≠"free" by decide +kernel),bV ?_⟩
   refine⟨_,rfl,rfl,true,A1 _,fJ ⟨_,rfl,pb,_,db,_,_,rfl,hb,G.eW,G.gT,uD _ _,_,rfl,pd,_,_,.str wh,rfl,rfl,cB.of hd,rfl,_,rfl,pd,_,_,.int dy,rfl,rfl,cB.of hd,rfl,_,rfl,pd,_,_,.ref pl,rfl,rfl,cB.of hd,rfl,pw,pl,TT.bk,g,n,wh,dy,dh,rfl,hW,wf,(by lia),kA,jb,cz.1,fun D H1 F1 jA nD hD=>?_⟩⟩
   have F2:Frame [tB,tC] H H1:=dJ F1 (by simp)
   exact k _ pk pw g H1 (dJ F2 big) jA (f9 jR F1 (by simpa using jy.symm) Uo) (lS hB fun a o e z=>yJ F2 NF e z) (fun x hx=> .inl hx) ⟨D,rfl,⟨nD,Nl D nD⟩,hD⟩
  |jd m=>
   have hd:H pd=some (.tup (bD.vs (.jd m))):=hd
   refine⟨_,rfl,pd,_,_,.str "undo",rfl,rfl,cB.of hd,rfl,?_⟩
   refine⟨_,rfl,rfl,false,jL (show("undo":Str)≠"owed" by decide +kernel),bV ?_⟩
   refine⟨_,rfl,rfl,false,jL (show("undo":Str)≠"free" by decide +kernel),bV ?_⟩
   refine⟨_,rfl,rfl,false,jL (show("undo":Str)≠"ages" by decide +kernel),bV ?_⟩
   have YD:dZ TT n (.jd m)=if(TT.steps.filter (cA m)).length=TT.steps.length then(yo.txt "no setting",TT) else
     match cI (TT.steps.filter (cA m)) Bk.new with
     |none=>(.txt "needed",TT)
     |some S=>(.txt "undone",⟨TT.steps.filter (cA m),S⟩):=rfl
   refine⟨_,rfl,rfl,true,A1 _,fJ ⟨_,rfl,pb,db,_,rfl,hb,MO _ _,_,rfl,pd,_,_,.int m,rfl,rfl,cB.of hd,rfl,pb,pk,pw,TT,g,n,m,rfl,hB,hG,hn,kA,jR,fun hF S hS wj rQ f' H1 F1 jA ko Nr nk nf=>?_,fun hF hS=>?_,fun hF=>?_⟩⟩
   ·have S9: ¬ (TT.steps.filter (cA m)).length=TT.steps.length:=fun z=>by
     rw[(qk _ _).mp z] at hF
     cases hF
    rw[YD,aO S9,hS] at k
    refine k _ wj rQ f' H1 (dJ F1 (fun x z=>?_)) jA ko Nr (fun x hx=> .inr ?_) rfl
    ·simp only[List.mem_cons,List.not_mem_nil,or_false] at z
     rcases z with rfl|rfl|rfl <;> simp
    ·rcases aw.mp hx with hx|hx
     ·rw[hx]; exact nk
     ·exact nf x hx
   ·have S9: ¬ (TT.steps.filter (cA m)).length=TT.steps.length:=fun z=>by
     rw[(qk _ _).mp z] at hF
     cases hF
    rw[YD,aO S9,hS] at k
    intro C dx H1 hC F1 jA ko JP Dh
    exact⟨C,dx,_,rfl,rfl,hC,Dh,k _ pk pw g H1 (dJ F1 big) jA ko (lS hB fun a o e z=>yJ F1 NF e z) (fun x hx=> .inl hx) rfl⟩
   ·rw[YD,aZ ((qk _ _).mpr hF)] at k
    intro C dx H1 hC F1 jA ko JP Dh
    exact⟨C,dx,_,rfl,rfl,hC,Dh,k _ pk pw g H1 (dJ F1 big) jA ko (lS hB fun a o e z=>yJ F1 NF e z) (fun x hx=> .inl hx) rfl⟩
theorem yK (d:bD): ∀(l:List bD) (T:gR) (n:Nat),dB (l ++ [d]) T n=((dB l T n).1 ++ [(dZ (dB l T n).2 ((n + l.length:Nat):Int) d).1],(dZ (dB l T n).2 ((n + l.length:Nat):Int) d).2)
 |[],T,n=>rfl
 |e :: l,T,n=>by
  show((dZ T n e).1 :: (dB (l ++ [d]) (dZ T n e).2 (n + 1)).1,(dB (l ++ [d]) (dZ T n e).2 (n + 1)).2)=_
  rw[yK d l,show n + 1 + l.length=n + (e :: l).length by rw[bH]; lia]
  rfl
theorem yL {ds:List bD}{i:Nat}(hi:i < ds.length):dB (ds.take (i + 1)) gR.new 0=((dB (ds.take i) gR.new 0).1 ++ [(dZ (dB (ds.take i) gR.new 0).2 (i:Int) ds[i]).1],(dZ (dB (ds.take i) gR.new 0).2 (i:Int) ds[i]).2):=by
 rw[gX hi,yK,bb,Nat.zero_add,Nat.min_eq_left (di hi)]
theorem HW {A:eh}{H:Hp}{pb pk pw pt:Addr}{T:gR}{f:eO}{ws:List V}{o:HO}(h:fN A H pb pk pw T f)(e:H pt=some (.lst ws))(n:pt∉f.fp):fN A (upd H pt o) pb pk pw T f:=by
 obtain⟨db,hb⟩:=h.obj
 obtain⟨bg,k1,k2⟩:=h.kept
 have kt:cG H (upd H pt o):=fj e
 have ki: ∀{a C dx:Addr} {gs:List (Str×V)},H a=some (.ins C dx gs)->upd H pt o a=some (.ins C dx gs):=fun{a C dx gs} z=>by rw[aA (mx z e (by intro q; cases q))]; exact z
 have kl: ∀p∈f.fp,∀xs,H p=some (.lst xs)->upd H pt o p=some (.lst xs):=fun p hp xs z=>by rw[aA (fun(q:p=pt)=>n (q▸hp))]; exact z
 obtain⟨dw,hw⟩:=h.wk.obj
 obtain⟨ms,m1,m2⟩:=h.wk.hm
 have hW:=h.wk
 exact⟨⟨db,ki hb⟩,⟨bg,by rw[aA (mx k1 e (by intro q; cases q))]; exact k1,k2.mono kt⟩,
  ⟨⟨dw,ki hw⟩,kl _ (by simp[eO.fp]) _ hW.hb,kl _ (by simp[eO.fp]) _ hW.hc,kl _ (by simp[eO.fp]) _ hW.hl,kl _ (by simp[eO.fp]) _ hW.hf,⟨ms,kl _ (by simp[eO.fp]) _ m1,m2.mono kt⟩,hW.rb.keep fun _ _ _ z=>ki z,hW.rc.keep fun _ _ _ z=>ki z,hW.nd⟩⟩
theorem FO {A:eh}{H:Hp}{pb pk pw tB tC a:Addr}{T:gR}{f:eO}(h:fN A H pb pk pw T f)(kA:lu H tB)(jR:lW H tC)(z:a∈tB :: tC :: pb :: pk :: f.fp):(∃ps,H a=some (.mO ps))∨(∃C dx fs,H a=some (.ins C dx fs))∨(∃bg,H a=some (.dK bg))∨(∃xs,H a=some (.lst xs))/\a∈f.fp:=by
 rcases aw.mp z with rfl|z
 ·exact .inl (c8 kA)
 rcases aw.mp z with rfl|z
 ·exact .inl (c8 jR)
 rcases aw.mp z with rfl|z
 ·obtain⟨db,hb⟩:=h.obj
  exact .inr (.inl ⟨_,_,_,hb⟩)
 rcases aw.mp z with rfl|z
 ·obtain⟨bg,k1,_⟩:=h.kept
  exact .inr (.inr (.inl ⟨_,k1⟩))
 ·exact .inr (.inr (.inr ⟨h.wk.lists a z,z⟩))
theorem Kz {A:eh}{H H':Hp}{pb pk pw tB tC:Addr}{T:gR}{f:eO}(h:fN A H pb pk pw T f)(kA:lu H tB)(jR:lW H tC)(F:Frame (tB :: tC :: pb :: pk :: f.fp) H H'):cG H H':=fun a xs e=>F _ _ (fun z=>by
 rcases FO h kA jR z with⟨_,q⟩|⟨_,_,_,q⟩|⟨_,q⟩|⟨⟨_,q⟩,_⟩ <;> (rw[e] at q; cases q)) e
theorem Ez {A:eh}{H H':Hp}{pb pk pw tB tC a:Addr}{T:gR}{f:eO}{xs:List V}(h:fN A H pb pk pw T f)(kA:lu H tB)(jR:lW H tC)(F:Frame (tB :: tC :: pb :: pk :: f.fp) H H')(e:H a=some (.lst xs))(n:a∉pk :: f.fp):H' a=some (.lst xs):=F _ _ (fun z=>by
 rcases FO h kA jR z with⟨_,q⟩|⟨_,_,_,q⟩|⟨_,q⟩|⟨_,q⟩
 ·rw[e] at q; cases q
 ·rw[e] at q; cases q
 ·rw[e] at q; cases q
 ·exact n (aS _ q)) e
inductive AF (A:eh)(tB tC:Addr)(vs:List V)(H:Hp)(Q:VK)(E':XK):Prop
 |mk (pb pk pw ps:Addr)(f:eO)(ds:List bD)(ms:List V)(h1:vs=[.ref pb,.ref ps])(h2:fN A H pb pk pw gR.new f)(h3:H ps=some (.lst ms))(h4:ps∉f.fp)(h5:fM H ds ms)(h6:ds.length<=60)(h7:(∀d∈ds,d.ok))(h8:lu H tB)(h9:lW H tC)(K2: ∀pt ws wj rQ f' H',Frame (tB :: tC :: pb :: pk :: f.fp) H H'->lu H' tB->lW H' tC->H pt=none->H' pt=some (.lst ws)->Paired (sH H' (fun D=>D≠pt/\(D∈pk :: f.fp∨H D=none))) (dB ds gR.new 0).1 ws->fN A H' pb wj rQ (dB ds gR.new 0).2 f'->Q (.ref pt) H'):AF A tB tC vs H Q E'
theorem pj:aW ["book","deeds","told","number","deed"] ["book","deeds"] (ax (top 34)):={}
theorem fM.get {H:Hp}{i:Nat}: ∀{ds:List bD} {ms:List V},fM H ds ms-> ∀{d:bD},ds[i]? =some d-> ∃v,ms[i]? =some v/\Rp H d.dt v:=fun{ds ms} h {d} e=>il.get h (by rw[aB,e]; rfl)
theorem AG (T:Txt K mg){A:eh}{tB tC:Addr}(G:jJ K mg A)(DB:qr K mg "bills_in_order" (top 17) tB)(DC:qr K mg "credits_in_order" (top 18) tC)(jy:tB≠tC)(hnd:A.jf≠A.tooMuch)(KB:K.In base)(BM:BMain mg base):fb P w K mg base "answers_in" 11 ["book","deeds"] (AF A tB tC):=by
 have CQ:fb P w K mg base "answer_of" 10 ["book","number","deed"] (wo A tB tC):=CP T G DB DC jy hnd KB BM
 refine T.zy.fC (k:=10) pj (fun f cU A' outer s H vs Q E hr h=>?_)
 ·obtain⟨pb,pk,pw,ps,g,ds,ms,rfl,hB,mI,FG,KA,hl,cz,kA,jR,k⟩:=h
  have nd:=pj.nd
  refine⟨_,(ah (sv 2 nd (bQ av))
(ah (dW bu rfl (qH rfl T.jr (aa (pv 1) av)) (iE rfl (bX (gn 3 nd) (bX (gn 4 nd) gr)))
(au (bK (pW (pv 2) (fc CQ hr (aa (pv 0) (aa (pv 3) (aa (pv 4) av))))))))
(au (a9 (pv 2))))),?_⟩
  refine⟨bp _,fun pt nt=>?_⟩
  have s1:=aE.new (o:= .lst []) nt
  have hlen:=fM.length KA
  obtain⟨bg,hk,_⟩:=hB.kept
  have npk:ps∉pk :: g.fp:=fun z=>by
   rcases aw.mp z with z|z
   ·rw[z,hk] at mI
    cases mI
   ·exact FG z
  have ntk:pt∉pk :: g.fp:=fun z=>by
   rcases aw.mp z with z|z
   ·rw[z,hk] at nt
    cases nt
   ·exact hB.wk.new nt z
  refine⟨_,rfl,ps,rfl,⟨_,bw.of (s1 _ _ mI)⟩,?_⟩
  refine mY (K:=K) (a:=ps) (xs:=ms) (fun i σ H2=> ∃(x3 x4:Option V) (wj rQ:Addr) (f':eO) (ws:List V),σ=[some (.ref pb),some (.ref ps),some (.ref pt),x3,x4]/\Frame (tB :: tC :: pb :: pk :: g.fp) H H2/\H2 pt=some (.lst ws)/\fN A H2 pb wj rQ (dB (ds.take i) gR.new 0).2 f'/\Good (dB (ds.take i) gR.new 0).2 i/\(∀x∈wj :: f'.fp,(x∈pk :: g.fp∨H x=none)/\x≠pt)/\lu H2 tB/\lW H2 tC/\Paired (sH H2 (fun D=>D≠pt/\D∉wj :: f'.fp/\(D∈pk :: g.fp∨H D=none))) (dB (ds.take i) gR.new 0).1 ws)
   ⟨none,none,pk,pw,g,[],rfl,s1.frame,ag,hB.same s1,Good.new,fun x hx=>⟨.inl hx,fun z=>ntk (z▸hx)⟩,bL kA s1,bL jR s1,.nil⟩ (fun i σ H2 _ ⟨_,_,_,_,_,_,_,f2,_⟩=>bw.of (Ez hB kA jR f2 mI npk)) ?_ ?_
  ·rintro i x p σ H2 hx hp ⟨x3,x4,wj,rQ,f',ws,rfl,F2,ux,Ld,MH,VN,kG,mL,ME⟩
   have hi:i < ds.length:=by have:=(ak.mp hx).1; lia
   have qq:=af hi
   obtain⟨v',hv,Xy⟩:=fM.get KA qq
   rw[hx] at hv
   obtain rfl:x=v':=aD hv
   obtain⟨pd,rfl,hd⟩:=FN Xy
   have hd2:=hd.mono (Kz hB kA jR F2)
   have MQ:=cz _ (bN hi)
   have VO:=yL hi
   have o5:Good (dZ (dB (ds.take i) gR.new 0).2 (i:Int) ds[i]).2 (i + 1):=MH.step ds[i]
   rw[VO]
   generalize ds[i]=d at hd2 MQ o5
   have Bv:(dB (ds.take i) gR.new 0).1.length<=100:=by rw[kK,bb]; lia
   generalize dB (ds.take i) gR.new 0=R at Ld MH ME o5 Bv
   have s3:=aE.new (o:= .tup [.int i,.ref pd]) hp
   refine⟨p,_,rfl,cB.of ag,rfl,_,_,rfl,_,_,rfl,rfl,?_⟩
   have F3:=F2.df s3
   have KC:=s3 _ _ ux
   have KD:=Ld.same s3
   have rF:lu _ tB:=bL kG s3
   have rG:lW _ tC:=bL mL s3
   have Nw:=hd2.mono s3.tk
   have YE:Paired (sH (upd H2 p (.tup [.int i,.ref pd])) (fun D=>D≠pt/\D∉wj :: f'.fp/\(D∈pk :: g.fp∨H D=none))) R.1 ws:=Paired.iD ME fun _ _ z=>z.keep (fun D xs o e=>⟨o,s3 _ _ e⟩) s3.tk
   generalize upd H2 p (.tup [.int i,.ref pd])=H3 at F3 KC KD rF rG Nw YE
   have DK:=aL YE
   refine⟨_,rfl,.inl ⟨rfl,_,bw.of KC⟩,_,rfl,_,rfl,_,rfl,pb,pd,wj,rQ,R.2,f',i,d,rfl,KD,MH,(by lia),rF,rG,Nw,MQ,fun v pk2 pw2 f2 H4 F4 rH rJ hB4 j8 hA4=>?_⟩
   have YF:pt∉wj :: f'.fp:=fun z=>(VN pt z).2 rfl
   have v9:=Ez KD rF rG F4 KC YF
   have kt4:=Kz KD rF rG F4
   refine⟨pt,ws,v,rfl,rfl,v9,bf (by lia),?_⟩
   have frees: ∀x,H3 x=none->x∈pk :: g.fp∨H x=none:=fun x h1=>by
    by_cases q:x∈pk :: g.fp
    ·exact .inl q
    ·right
     cases e:H x with
     |none=>rfl
     |some o=>
      exfalso
      by_cases q2:x∈tB :: tC :: pb :: pk :: g.fp
      ·rcases aw.mp q2 with q2|q2
       ·obtain⟨_,z⟩:=c8 rF
        rw[← q2,h1] at z
        cases z
       rcases aw.mp q2 with q2|q2
       ·obtain⟨_,z⟩:=c8 rG
        rw[← q2,h1] at z
        cases z
       rcases aw.mp q2 with q2|q2
       ·obtain⟨_,z⟩:=KD.obj
        rw[← q2,h1] at z
        cases z
       exact q q2
      ·have z:=F3 _ _ q2 e
       rw[h1] at z
       cases z
   have Up: ∀x∈pk2 :: f2.fp,(x∈pk :: g.fp∨H x=none)/\x≠pt:=fun x hx=>by
    rcases j8 x hx with h1|h1
    ·exact VN x h1
    ·exact⟨frees x h1,fun z=>by rw[z,KC] at h1; cases h1⟩
   have YG:pt∉f2.fp:=fun z=>(Up pt (aS _ z)).2 rfl
   have Uq: ∀a∈[pt],∀φ,H4 a≠some (.ext φ):=fun a ha φ e=>by
    rw[ao.mp ha,v9] at e
    cases e
   have nB:tB∉[pt]:=fun z=>by
    obtain⟨_,q⟩:=c8 rH
    rw[ao.mp z,v9] at q
    cases q
   have nC:tC∉[pt]:=fun z=>by
    obtain⟨_,q⟩:=c8 rJ
    rw[ao.mp z,v9] at q
    cases q
   have F34:Frame (tB :: tC :: pb :: pk :: g.fp) H (upd H4 pt (.lst (ws ++ [v]))):=(F3.trans F4 fun x hx=>by
    rcases aw.mp hx with hx|hx
    ·exact .inl (by simp[hx])
    rcases aw.mp hx with hx|hx
    ·exact .inl (by simp[hx])
    rcases aw.mp hx with hx|hx
    ·exact .inl (by simp[hx])
    rcases(VN x hx).1 with h1|h1
    ·exact .inl (by simp[List.mem_cons.mp h1])
    ·exact .inr h1).trans (Frame.upd (fp:=[pt]) (by simp)) (fun x hx=> .inr (by rw[List.mem_singleton.mp hx]; exact nt))
   refine⟨_,_,pk2,pw2,f2,ws ++ [v],rfl,F34,ag,HW hB4 v9 YG,o5,Up,f9 rH (Frame.upd (fp:=[pt]) (by simp)) nB Uq,f9 rJ (Frame.upd (fp:=[pt]) (by simp)) nC Uq,?_⟩
   have ktl:=fj (o:= .lst (ws ++ [v])) v9
   refine cy (Paired.iD YE fun _ _ z=>z.keep (fun D xs o e=>?_) (kt4.trans ktl)) (hA4.keep (fun D xs o e=>?_) ktl)
   ·have e4:=Ez KD rF rG F4 e o.2.1
    refine⟨⟨o.1,fun q=>?_,o.2.2⟩,by rw[aA o.1]; exact e4⟩
    rcases j8 D q with h1|h1
    ·exact o.2.1 h1
    ·rw[e] at h1
     cases h1
   ·have nD:D≠pt:=fun z=>by
     have:=o.1
     rw[z,KC] at this
     cases this
    exact⟨⟨nD,o.2,frees D o.1⟩,by rw[aA nD]; exact e⟩
  ·rintro σ H2 ⟨x3,x4,wj,rQ,f',ws,rfl,F2,ux,Ld,MH,VN,kG,mL,ME⟩
   rw[← hlen,aY] at ME Ld
   refine⟨_,rfl,k pt ws wj rQ f' H2 F2 kG mL nt ux (Paired.iD ME fun _ _ z=>z.keep (fun D xs o e=>⟨⟨o.1,o.2.2⟩,e⟩) fun _ _ e=>e) Ld⟩
inductive sP (A:eh)(tB tC:Addr)(vs:List V)(H:Hp)(Q:VK)(E':XK):Prop
 |mk (ps:Addr)(ds:List bD)(ms:List V)(h1:vs=[.ref ps])(h2:H ps=some (.lst ms))(h3:fM H ds ms)(h4:ds.length<=60)(h5:(∀d∈ds,d.ok))(h6:lu H tB)(h7:lW H tC)(h8: ∀pt ws H',Frame [tB,tC] H H'->lu H' tB->lW H' tC->H pt=none->H' pt=some (.lst ws)->Paired (sH H' (fun D=>D≠pt/\H D=none)) (dB ds gR.new 0).1 ws->Q (.ref pt) H'):sP A tB tC vs H Q E'
theorem wq:aW ["deeds","book"] ["deeds"] (ax (top 33)):={}
theorem HX (T:Txt K mg){A:eh}{tB tC:Addr}(G:jJ K mg A)(DB:qr K mg "bills_in_order" (top 17) tB)(DC:qr K mg "credits_in_order" (top 18) tC)(jy:tB≠tC)(hnd:A.jf≠A.tooMuch)(KB:K.In base)(BM:BMain mg base):fb P w K mg base "answers" 12 ["deeds"] (sP A tB tC):=by
 have AH:fb P w K mg base "answers_in" 11 ["book","deeds"] (AF A tB tC):=AG T G DB DC jy hnd KB BM
 have Qe:ub P w K mg base "Book" A.book 3 ["self"] (Ap A):=PL G
 refine T.G2.fC (k:=11) wq (fun f cU A' outer s H vs Q E hr h=>?_)
 ·obtain⟨ps,ds,ms,rfl,mI,KA,hl,cz,kA,jR,k⟩:=h
  have nd:=wq.nd
  refine⟨_,(ah (sv 1 nd (JO Qe (hr.mono (by decide)) rfl))
(au (a9 (fc AH hr (aa (pv 1) (aa (pv 0) av)))))),?_⟩
  intro xb dxb YH YI ne
  have s1:=lN (C:=A.book) (fs:=[]) YH YI ne
  refine⟨xb,dxb,rfl,ag,fun pk pw g H1 F1 hx hk hW nk npw nf npk=>⟨rfl,?_⟩⟩
  have S1:aE H H1:=fun b o e=>F1 b o (by simpa using aK e YH) (s1 b o e)
  have fr: ∀b∈g.fp,H b=none:=fun b hb=>s1.free (nf b hb)
  have X1:H pk=none:=s1.free nk
  refine⟨_,rfl,_,rfl,xb,pk,pw,ps,g,ds,ms,rfl,⟨⟨dxb,hx⟩,⟨[],hk,.nil⟩,hW⟩,S1 _ _ mI,(fun z=>by
   have:=fr _ z
   rw[mI] at this
   cases this),KA.mono S1.tk,hl,cz,bL kA S1,bL jR S1,fun pt ws _ _ _ H2 F2 kG mL nt ux hA _=>?_⟩
  refine k pt ws H2 ((S1.frame (fp:=[tB,tC])).trans F2 fun x hx=>?_) kG mL (S1.free nt) ux (Paired.iD hA fun _ _ z=>z.keep (fun D xs o e=>⟨⟨o.1,o.2.elim (fun q=>(aw.mp q).elim (fun q=>by rw[q]; exact X1) (fr D)) S1.free⟩,e⟩) fun _ _ e=>e)
  rcases aw.mp hx with hx|hx
  ·exact .inl (by simp[hx])
  rcases aw.mp hx with hx|hx
  ·exact .inl (by simp[hx])
  rcases aw.mp hx with hx|hx
  ·exact .inr (by rw[hx]; exact YH)
  rcases aw.mp hx with hx|hx
  ·exact .inr (by rw[hx]; exact X1)
  ·exact .inr (fr x hx)
inductive KG (K:Frag)(vs:List V)(H:Hp)(Q:VK)(E':XK):Prop
 |mk (a:Addr)(xs:List V)(m b:Int)(h1:vs=[.ref a,.int m,.int b])(h2:bw K H a xs)(h3:xs.length<=63)(h4:Q (.int m) H):KG K vs H Q E'
inductive AI (vs:List V)(H:Hp)(Q:VK)(E':XK):Prop
 |mk (d v:_)(h1:vs=[v])(h2:Rp H d v)(h3:Q (.bl (isW d)) H):AI vs H Q E'
theorem AJ:aW ["_law_script","_law_most","_law_bound"] ["_law_script","_law_most","_law_bound"] (ax (top 43)):={}
theorem CS (T:Txt K mg):fb P w K mg base "_law_room" 1 ["_law_script","_law_most","_law_bound"] (KG K):=by
 refine T.BG.fC (k:=0) AJ (fun f cU A outer s H vs Q E hr h=>?_)
 ·obtain⟨a,xs,m,b,rfl,hS,hz,k⟩:=h
  refine⟨_,(ah (bP (aX jn (mK T.dR (pv 0)) ai (a0 _))
   (au (a9 (pv 2)))
   bh)
   (au (a9 (pv 1)))),?_⟩
  refine⟨_,rfl,a,xs,rfl,.inl hS,_,_,rfl,rfl,_,rfl,?_⟩
  refine cv (fun c=>?_) (fun c=>?_)
  ·have c':(63:Int) < (xs.length:Int):=aM c
   lia
  ·exact⟨_,rfl,k⟩
theorem xN:aW ["_law_found"] ["_law_found"] (ax (top 45)):={}
theorem AK (T:Txt K mg):fb P w K mg base "_law_whole" 1 ["_law_found"] AI:=by
 refine T.zz.fC (k:=0) xN (fun f cU A outer s H vs Q E hr h=>?_)
 ·obtain⟨d,v,rfl,r,k⟩:=h
  refine⟨_,(au (a9 (mQ (cE eR (by rfl) T.dm eB (aa (pv 0) (aa (gN (v:= .ty "int") (by rfl) T.tj NW rfl) av))) (lZ (N6 (cE eR (by rfl) T.dm eB (aa (pv 0) (aa (gN (v:= .ty "bool") (by rfl) T.O7 boot_bool rfl) av)))))))),?_⟩
  refine⟨_,rfl,v,_,_,ZE d,rfl,r.ty,Sh d,_,rfl,?_⟩
  cases d with
  |int i=>exact fJ ⟨_,rfl,v,_,_,false,rfl,r.ty,Nf (.int i),_,rfl,k⟩
  |bl i=>exact fJ ⟨_,rfl,v,_,_,true,rfl,r.ty,Nf (.bl i),_,rfl,k⟩
  |eD=>exact bV k
  |str x=>exact bV k
  |tup ds=>exact bV k
  |lst ds=>exact bV k
inductive FP (vs:List V)(H:Hp)(Q:VK)(E':XK):Prop
 |mk (d v1 v2:_)(h1:vs=[v1,v2])(h2:Rp H d v1)(h3:Rp H d v2)(h4:d.size<=100000)(h5:d.plain=true)(h6: ∀H',aE H H'->Q (.bl true) H'):FP vs H Q E'
theorem pq:aW ["_law_found","_law_due","_law_todo","_law_pair","_law_k"] ["_law_found","_law_due"] (ax (top 47)):={}
theorem AL (T:Txt K mg):fb P w K mg base "_law_alike" 2 ["_law_found","_law_due"] FP:=by
 have AM:fb P w K mg base "_law_whole" 1 ["_law_found"] AI:=AK T
 refine T.zA.fC (k:=1) pq (fun f cU A outer s H vs Q E hr h=>?_)
 ·obtain⟨d,v1,v2,rfl,r1,r2,hsz,jb,k⟩:=h
  have hu:=jV hr
  have nd:=pq.nd
  refine⟨_,(ah (sv 2 nd (bQ (aa (cQ (aa (pv 0) (aa (pv 1) av))) av)))
(ah (IE bu (aX (Ji hu) (pv 2) (bQ av) (a0 _))
(ah (sv 3 nd (Om PySem.F.plainAttrs_list PySem.F.slot_list_pop PySem.F.type_list_pop Ot (pv 2)))
(au (bP (gp (cE DP (by rfl) T.dm eB (aa (xt (pv 3) ai) (aa (cQ (aa (gN (v:= .ty "list") (by rfl) T.vz boot_list rfl) (aa (gN (v:= .ty "tuple") (by rfl) T.uo boot_tuple rfl) av))) av))))
(ah (bP (aX oT (cE eR (by rfl) T.dm eB (aa (xt (pv 3) ai) (aa (gN (v:= .ty "list") (by rfl) T.vz boot_list rfl) av))) (cE eR (by rfl) T.dm eB (aa (xt (pv 3) ai) (aa (gN (v:= .ty "list") (by rfl) T.vz boot_list rfl) av))) (a0 _))
(au (a9 kH))
bh)
(ah (bP (aX oT (cE eR (by rfl) T.dm eB (aa (xt (pv 3) ai) (aa (gN (v:= .ty "tuple") (by rfl) T.uo boot_tuple rfl) av))) (cE eR (by rfl) T.dm eB (aa (xt (pv 3) ai) (aa (gN (v:= .ty "tuple") (by rfl) T.uo boot_tuple rfl) av))) (a0 _))
(au (a9 kH))
bh)
(ah (bP (aX oT (mK T.dR (xt (pv 3) ai)) (mK T.dR (xt (pv 3) ai)) (a0 _))
(au (a9 kH))
bh)
(au (dW bu rfl (ij rfl T.kM (aa (mK T.dR (xt (pv 3) ai)) av)) (gn 4 nd)
(au (bK (pW (pv 2) (cQ (aa (iU Nd (xt (pv 3) ai) (pv 4) (fun _ _=>rfl)) (aa (iU Nd (xt (pv 3) ai) (pv 4) (fun _ _=>rfl)) av)))))))))))
(au (bP (gp (cE eR (by rfl) T.dm eB (aa (xt (pv 3) ai) (aa (gN (v:= .ty "str") (by rfl) T.Fo boot_str rfl) av))))
(au (bP (PW.pt (pw_or (jS (gp (cE eR (by rfl) T.dm eB (aa (xt (pv 3) ai) (aa (gN (v:= .ty "str") (by rfl) T.Fo boot_str rfl) av))))) (pw_or1 (aX oT (xt (pv 3) ai) (xt (pv 3) ai) (a0 _)))))
(au (a9 kH))
bh))
(au (bP (PW.pt (pw_or (jS (gp (fc AM hr (aa (xt (pv 3) ai) av)))) (pw_or1 (aX oT (xt (pv 3) ai) (xt (pv 3) ai) (a0 _)))))
(au (a9 kH))
bh))))))))
(au (a9 kH)))),?_⟩
  refine⟨_,rfl,_,rfl,(by show 2<=sizeLine; decide),fun t0 nt0=>⟨(by show 1<=sizeLine; decide),fun l nl=>?_⟩⟩
  have sA:aE H (upd H t0 (.tup [v1,v2])):=aE.new nt0
  have hl0:H l=none:=sA.free nl
  refine⟨fun m σ H2=> ∃td ds x3 x4,σ=[some v1,some v2,some (.ref l),x3,x4]/\aE H H2/\H2 l=some (.lst td)/\Paired (l7 H H2) ds td/\Dt.fY ds=m/\m<=100000/\ ∀d∈ds,d.plain=true,
   ⟨d.size,[.ref t0],[d],none,none,rfl,sA.trans (aE.new nl),ag,.cons ⟨t0,v1,v2,rfl,Jk nl _ _ ag,r1,r2⟩ .nil,by simp[Dt.fY],hsz,by simpa using jb⟩,?_⟩
  rintro m σ H2 ⟨td,ds,x3,x4,rfl,s1,hl,hp,hm,Td,Ur⟩
  refine⟨_,rfl,bp _,fun p3 n3=>?_⟩
  have s2:aE H2 (upd H2 p3 (.lst [])):=aE.new n3
  refine⟨l,p3,td,rfl,rfl,bw.of (s2 _ _ hl),bw.of ag,_,rfl,?_⟩
  generalize Ms:upd H2 p3 (.lst [])=H3 at s2 ⊢
  have Nz:=s2 _ _ hl
  cases htd:td with
  |nil=>exact bV (k _ (s1.trans s2))
  |cons z zs=>
  refine fJ ⟨fun σ' H'=> ∃m',m' < m/\ ∃td ds x3 x4,σ'=[some v1,some v2,some (.ref l),x3,x4]/\aE H H'/\H' l=some (.lst td)/\Paired (l7 H H') ds td/\Dt.fY ds=m'/\m'<=100000/\ ∀d∈ds,d.plain=true,fun _ _ h=>h,?_⟩
  have jy:td.length - 1 < td.length:=by rw[htd]; simp
  obtain⟨y,hy⟩: ∃y,td[td.length - 1]? =some y:=⟨_,af jy⟩
  obtain⟨MR,c,YJ,⟨t,u1,u2,ey,ht,q1,q2⟩,Tf⟩:=sU hp hy
  subst ey
  have SW:c.plain=true:=Ur c (by rw[YJ]; simp)
  have Vm: ∀d∈MR,d.plain=true:=fun d hd=>Ur d (by rw[YJ]; simp[hd])
  have hmm:Dt.fY MR + c.size=m:=by
   have:=hm
   rw[YJ,Dt.iF] at this
   simpa[Dt.fY] using this
  refine⟨_,rfl,.inl ⟨rfl,_,bw.of Nz⟩,l,td,.ref t,rfl,rfl,Nz,hy,?_⟩
  have ht3:=s2 _ _ ht
  have s4:aE H (upd H3 l (.lst td.dropLast)):=(s1.trans s2).cY hl0
  have YK:upd H3 l (.lst td.dropLast) t=some (.tup [u1,u2]):=dG Nz _ _ ht3
  have VM:Paired (l7 H (upd H3 l (.lst td.dropLast))) MR td.dropLast:=Paired.iD Tf fun d v h=>h.mono fun b xs e=>dG Nz _ _ (s2 _ _ e)
  have hl4:upd H3 l (.lst td.dropLast) l=some (.lst td.dropLast):=ag
  generalize upd H3 l (.lst td.dropLast)=H4 at s4 YK VM hl4 ⊢
  clear Ms Nz ht3 s2 n3 hp hl ht
  refine⟨_,rfl,t,_,_,u2,rfl,rfl,cB.of YK,rfl,(by show 2<=sizeLine; decide),fun p5 n5=>?_⟩
  have s5:aE H4 (upd H4 p5 (.tup [.ty "list",.ty "tuple"])):=aE.new n5
  have q25:=Rp.mono (s4.trans s5) c q2
  have q15:=Rp.mono (s4.trans s5) c q1
  refine⟨u2,p5,["list","tuple"],_,isLT c,rfl,ag,q25.ty,OG c,_,rfl,?_⟩
  have Dl:=s5 _ _ YK
  have YL:=s5 _ _ hl4
  have Q9:Paired (l7 H (upd H4 p5 (.tup [.ty "list",.ty "tuple"]))) MR td.dropLast:=Paired.iD VM fun d v h=>h.mono fun b xs e=>s5 _ _ e
  have s6:=s4.trans s5
  generalize upd H4 p5 (.tup [.ty "list",.ty "tuple"])=H5 at s5 q25 q15 Dl YL Q9 s6 ⊢
  clear s5 n5
  refine cv (fun Us=>?_) (fun Us=>?_)
  ·
   obtain⟨a1,YM,e1,S1,R1⟩:=E4 q1 Us
   obtain⟨a2,Qf,e2,S2,R2⟩:=E4 q2 Us
   refine⟨_,rfl,t,_,_,u1,rfl,rfl,cB.of Dl,rfl,u1,_,_,WV c,rfl,q15.ty,E3 c,_,rfl,t,_,_,u2,rfl,rfl,cB.of Dl,rfl,u2,_,_,WV c,rfl,q25.ty,E3 c,rfl,_,rfl,Bt rfl ?_⟩
   refine⟨_,rfl,t,_,_,u1,rfl,rfl,cB.of Dl,rfl,u1,_,_,WW c,rfl,q15.ty,Jj c,_,rfl,t,_,_,u2,rfl,rfl,cB.of Dl,rfl,u2,_,_,WW c,rfl,q25.ty,Jj c,rfl,_,rfl,Bt rfl ?_⟩
   have hlen:YM.length=Qf.length:=by rw[← R1.length,← R2.length]
   refine⟨_,rfl,t,_,_,u1,rfl,rfl,cB.of Dl,rfl,a1,YM,by rw[e1],S1 K H5 s6,_,rfl,t,_,_,u2,rfl,rfl,cB.of Dl,rfl,a2,Qf,by rw[e2],S2 K H5 s6,rfl,_,rfl,Bt (by rw[hlen]) ?_⟩
   have Nb:Qf.length=(kids c).length:=R2.length.symm
   have Vv:=GI Us
   have Fw:=Dt.qI (kids c)
   refine⟨_,rfl,t,_,_,u2,rfl,rfl,cB.of Dl,rfl,a2,Qf,by rw[e2],S2 K H5 s6,(Qf.length:Int),rfl,by lia,by lia,?_⟩
   rw[dz]
   refine i8 (lo:=0) (n:=Qf.length) (fun i σ H6=> ∃NG x4,σ=[some v1,some v2,some (.ref l),some (.ref t),x4]/\aE H H6/\H6 l=some (.lst NG)/\H6 t=some (.tup [u1,u2])/\Paired (l7 H H6) (MR ++ (kids c).take i) NG)
    ⟨td.dropLast,x4,rfl,s6,YL,Dl,by simpa using Q9⟩ ?_ ?_
   ·rintro i σ H6 hi ⟨NG,x4',rfl,s7,gJ,VP,Nx⟩
    have WY:i < (kids c).length:=by lia
    have g0:(kids c)[i]? =some (kids c)[i]:=af WY
    obtain⟨w1,g1,z1⟩:=R1.get g0
    obtain⟨w2,g2,z2⟩:=R2.get g0
    have Q1:NG.length < sizeLine:=by
     have h1:=Nx.length
     have h2:=Dt.qI (MR ++ (kids c).take i)
     have h3:=wQ (kids c) i
     rw[Dt.iF] at h2
     exact jj (by lia)
    refine⟨_,rfl,.inl ⟨rfl,_,bw.of gJ⟩,?_⟩
    refine⟨_,rfl,t,_,_,u1,rfl,rfl,cB.of VP,rfl,_,rfl,a1,YM,_,w1,e1,rfl,S1 K H6 s7,by rw[gZ]; exact cg g1,_,rfl,t,_,_,u2,rfl,rfl,cB.of VP,rfl,_,rfl,a2,Qf,_,w2,e2,rfl,S2 K H6 s7,by rw[gZ]; exact cg g2,(by show 2<=sizeLine; decide),fun p7 n7=>?_⟩
    have s8:aE H6 (upd H6 p7 (.tup [w1,w2])):=aE.new n7
    have Q5:=s8 _ _ gJ
    refine⟨l,NG,.ref p7,rfl,rfl,Q5,Q1,?_⟩
    refine⟨NG ++ [.ref p7],_,rfl,(s7.trans s8).cY hl0,ag,dG Q5 _ _ (s8 _ _ VP),?_⟩
    rw[tX g0,← dU]
    exact cy (Paired.iD Nx fun d v h=>h.mono fun b xs e=>dG Q5 _ _ (s8 _ _ e)) ⟨p7,w1,w2,rfl,dG Q5 _ _ ag,z1,z2⟩
   ·rintro σ H6 ⟨NG,x4',rfl,s7,gJ,VP,Nx⟩
    rw[Nb,aY] at Nx
    refine⟨Dt.fY (MR ++ kids c),?_,NG,_,_,_,rfl,s7,gJ,Nx,rfl,?_,?_⟩
    ·rw[Dt.iF]; lia
    ·rw[Dt.iF]; lia
    ·intro d hd
     rcases bq.mp hd with hd|hd
     ·exact Vm d hd
     ·exact DQ SW d hd
  ·
   have fin:(fun σ' H'=> ∃m',m' < m/\ ∃td ds x3 x4,σ'=[some v1,some v2,some (.ref l),x3,x4]/\aE H H'/\H' l=some (.lst td)/\Paired (l7 H H') ds td/\Dt.fY ds=m'/\m'<=100000/\ ∀d∈ds,d.plain=true) [some v1,some v2,some (.ref l),some (.ref t),x4] H5:=by
    have:=c.size_pos
    exact⟨Dt.fY MR,by lia,_,MR,_,_,rfl,s6,YL,Q9,rfl,by lia,Vm⟩
   refine⟨_,rfl,t,_,_,u2,rfl,rfl,cB.of Dl,rfl,u2,_,_,Vb c,rfl,q25.ty,yl c,_,rfl,?_⟩
   refine cv (fun hS=>?_) (fun hS=>?_)
   ·have ec: ∃x,c= .str x:=by cases c <;> first|exact⟨_,rfl⟩|cases hS
    obtain⟨x,rfl⟩:=ec
    obtain rfl:=fL.mp q1
    obtain rfl:=fL.mp q2
    refine⟨_,rfl,t,_,_,_,rfl,rfl,cB.of Dl,rfl,_,_,_,true,rfl,mT.str x,yl (.str x),_,rfl,bV ?_⟩
    refine⟨_,rfl,t,_,_,_,rfl,rfl,cB.of Dl,rfl,_,rfl,t,_,_,_,rfl,rfl,cB.of Dl,rfl,rfl,_,rfl,Bt rfl ?_⟩
    exact fin
   ·have ec: ∃x,c= .int x:=by cases c <;> first|exact⟨_,rfl⟩|exact absurd rfl hS|exact absurd rfl Us|cases SW
    obtain⟨x,rfl⟩:=ec
    obtain rfl:=dr.mp q1
    obtain rfl:=dr.mp q2
    refine⟨_,rfl,t,_,_,_,rfl,rfl,cB.of Dl,rfl,.int x,_,rfl,dr.mpr rfl,_,rfl,bV ?_⟩
    refine⟨_,rfl,t,_,_,_,rfl,rfl,cB.of Dl,rfl,_,rfl,t,_,_,_,rfl,rfl,cB.of Dl,rfl,rfl,_,rfl,Bt rfl ?_⟩
    exact fin
inductive wu (K:Frag)(vs:List V)(H:Hp)(Q:VK)(E':XK):Prop
 |mk (po:Addr)(os:List Str)(aC:Str)(cell i:Int)(h1:vs=[.ref po,.str aC,.int cell,.int i])(h2:bw K H po (os.map V.str))(h3:os.length<=1000)(h4: ∀(n:Int) (H':Hp),aE H H'->Q (.int n) H'):wu K vs H Q E'
theorem nS:aW ["_law_owners","_law_who","_law_cell","_law_k","_law_rest","_law_number","_law_spot","_law_one"] ["_law_owners","_law_who","_law_cell","_law_k"] (ax (top 50)):={}
theorem xO (T:Txt K mg):fb P w K mg base "_law_chosen" 1 ["_law_owners","_law_who","_law_cell","_law_k"] (wu K):=by
 refine T.xg.fC (k:=0) nS (fun f cU A outer s H vs Q E hr h=>?_)
 ·obtain⟨po,os,aC,cell,i,rfl,hS,ho,k⟩:=h
  have nd:=nS.nd
  refine⟨_,(ah (sv 4 nd (aQ jH (pv 2) ai))
(ah (sv 5 nd (aQ b9 (aQ cJ (aQ jH (pv 4) ai) (pv 3)) (aQ cJ (mK T.dR (pv 0)) ai)))
(ah (dW bu rfl (ij rfl T.kM (aa (mK T.dR (pv 0)) av)) (gn 6 nd)
(ah (sv 7 nd (aQ b9 (aQ cJ (pv 5) (pv 6)) (mK T.dR (pv 0))))
(au (bP (PW.pt (pw_and (aX cK (xl (pv 0) (pv 7)) (pv 1) (a0 _)) (pw_and1 (aX jn (aQ b9 (pv 2) ai) ai (a0 _)))))
(au (a9 (pv 7)))
bh))))
(ah (bP (aX cK (aQ b9 (pv 2) ai) ai (a0 _))
(au (sv 5 nd (xl (bQ (aa (oS kZ ai) (aa (aQ i9 ai ai) (aa (aQ eM (oS kZ ai) (aQ b9 (pv 4) (aQ i9 ai ai))) av)))) (aQ b9 (pv 4) ai))))
bh)
(au (a9 (pv 5))))))),?_⟩
  refine⟨_,rfl,_,_,rfl,rfl,⟨by decide,by decide⟩,?_⟩
  refine⟨_,rfl,_,_,rfl,rfl,⟨by decide,by decide⟩,_,rfl,_,_,rfl,rfl,_,rfl,po,_,rfl,.inl hS,_,_,rfl,rfl,_,_,rfl,rfl,(by show(0:Int) < ((os.map V.str).length:Int) + 1; lia),?_⟩
  generalize YN:(cell / 16 / 2 + i) % (((os.map V.str).length:Int) + 1)=num
  show _
  refine⟨_,rfl,po,_,rfl,.inl hS,((os.map V.str).length:Int),rfl,by lia,by rw[ae]; lia,?_⟩
  rw[dz]
  refine i8 (lo:=0) (n:=(os.map V.str).length) (fun j σ H2=> ∃x6 x7,σ=[some (.ref po),some (.str aC),some (.int cell),some (.int i),some (.int (cell / 16)),some (.int num),x6,x7]/\H2=H)
   ⟨none,none,by rw[← YN]; rfl,rfl⟩ ?_ ?_
  ·rintro j σ H2 hj ⟨x6,x7,rfl,rfl⟩
   have hm:0 < ((os.map V.str).length:Int):=by lia
   obtain⟨y,_,hy⟩:=kP (g:=V.str) (xs:=os) (m:=((os.map V.str).length:Int)) (x:=num + (0 + (j:Int))) (by rw[ae]) hm
   refine⟨_,rfl,_,rfl,_,_,rfl,rfl,_,rfl,po,_,rfl,.inl hS,_,_,rfl,rfl,hm,?_⟩
   refine⟨_,rfl,_,rfl,po,_,_,.str y,rfl,rfl,hS,hy,_,rfl,rfl,_,rfl,cv (fun c=>?_) (fun c=>bV ⟨_,_,rfl,rfl⟩)⟩
   refine⟨_,rfl,_,_,rfl,rfl,(by show(0:Int) < 5; decide),_,_,rfl,rfl,_,rfl,cv (fun c=>?_) (fun c=>⟨_,_,rfl,rfl⟩)⟩
   exact⟨_,rfl,k _ _ (aE.refl _)⟩
  ·rintro σ H2 ⟨x6,x7,rfl,rfl⟩
   refine⟨_,rfl,_,_,rfl,rfl,(by show(0:Int) < 47; decide),rfl,_,rfl,cv (fun c=>?_) (fun c=>⟨_,rfl,k _ _ (aE.refl _)⟩)⟩
   refine⟨_,rfl,_,_,rfl,rfl,⟨by decide,by decide,by decide⟩,_,rfl,_,rfl,_,_,rfl,rfl,⟨by decide,by decide,by decide⟩,_,_,rfl,rfl,(by show(0:Int) < _; decide +kernel),_,_,rfl,rfl,(by show 3<=sizeLine; decide),fun p4 n4=>?_⟩
   obtain⟨y,_,hy⟩:=Z8 (-1) (10 ^ (9:Int).toNat) (-2 - cell / 16 % 10 ^ (60:Int).toNat) (cell / 16)
   refine⟨_,rfl,_,_,rfl,rfl,(by show(0:Int) < 3; decide),p4,_,_,.int y,rfl,rfl,bw.of ag,hy,?_⟩
   exact⟨_,rfl,k _ _ (aE.new n4)⟩
inductive AN (vs:List V)(H:Hp)(Q:VK)(E':XK):Prop
 |mk (c:Int)(h1:vs=[.int c])(h2: ∀r:Int,(r=0∨r=1)->Q (.int r) H):AN vs H Q E'
theorem xP:aW ["_law_cell"] ["_law_cell"] (ax (top 51)):={}
theorem AO (T:Txt K mg):fb P w K mg base "_law_hasty" 1 ["_law_cell"] AN:=by
 refine T.zB.fC (k:=0) xP (fun f cU A outer s H vs Q E hr h=>?_)
 ·obtain⟨c,rfl,k⟩:=h
  refine⟨_,(au (a9 (gg ja (by rfl) T.tj NW (aa (Ry (eF cK (aQ b9 (pv 0) ai) ai (a0 _)) (lZ (mQ (eF cK (aQ b9 (pv 0) ai) ai (a0 _)) (lZ (eF cK (aQ b9 (aQ jH (pv 0) ai) ai) ai (a0 _)))))) av)))),?_⟩
  have fin: ∀b:Bool,Q (.int (if b then 1 else 0)) H:=fun b=>k _ (by cases b <;> simp)
  refine⟨_,rfl,_,_,rfl,rfl,(by show(0:Int) < 29; decide),rfl,_,rfl,cv (fun c=> .inr ⟨_,rfl,fin _⟩) (fun c=>?_)⟩
  refine⟨_,rfl,_,_,rfl,rfl,(by show(0:Int) < 41; decide),rfl,_,rfl,cv (fun c=>?_) (fun c=> .inr ⟨_,rfl,fin _⟩)⟩
  exact⟨_,rfl,_,_,rfl,rfl,⟨by decide,by decide⟩,_,_,rfl,rfl,(by show(0:Int) < 2; decide),rfl,.inr ⟨_,rfl,fin _⟩⟩
inductive AQ (K:Frag)(vs:List V)(H:Hp)(Q:VK)(E':XK):Prop
 |mk (a:Addr)(cs:List Int)(i:Nat)(h1:vs=[.ref a,.int i])(h2:bw K H a (cs.map V.int))(h3:i < cs.length)(h4: ∀n:Int,Q (.int n) H):AQ K vs H Q E'
theorem nU:aW ["_law_cells","_law_k","_law_days"] ["_law_cells","_law_k"] (ax (top 52)):={}
theorem xQ (T:Txt K mg):fb P w K mg base "_law_due_in" 2 ["_law_cells","_law_k"] (AQ K):=by
 have AR:fb P w K mg base "_law_hasty" 1 ["_law_cell"] AN:=AO T
 refine T.xh.fC (k:=1) nU (fun f cU A outer s H vs Q E hr h=>?_)
 ·obtain⟨a,cs,i,rfl,hS,hi,k⟩:=h
  have nd:=nU.nd
  refine⟨_,(ah (sv 2 nd (aQ b9 (aQ cJ (xl (pv 0) (aQ b9 (aQ cJ (pv 1) ai) (mK T.dR (pv 0)))) (pv 1)) ai))
(ji (bP (aX cK (aQ b9 (xl (pv 0) (pv 1)) ai) ai (a0 _))
(au (sv 2 nd (aQ b9 (xl (pv 0) (aQ b9 (aQ cJ (pv 1) ai) (mK T.dR (pv 0)))) (aQ i9 ai ai))))
bh)
(au (a9 (aQ eM (pv 2) (aQ jx (aQ cJ (pv 2) ai) (fc AR hr (aa (xl (pv 0) (pv 1)) av)))))))),?_⟩
  have hm:0 < ((cs.map V.int).length:Int):=by rw[ae]; lia
  obtain⟨y,_,hy⟩:=kP (g:=V.int) (xs:=cs) (m:=((cs.map V.int).length:Int)) (x:=(i:Int) + 1) (by rw[ae]) hm
  refine⟨_,rfl,_,rfl,_,_,rfl,rfl,_,rfl,a,_,rfl,.inl hS,_,_,rfl,rfl,hm,a,_,_,.int y,rfl,rfl,hS,hy,_,rfl,_,_,rfl,rfl,_,_,rfl,rfl,(by show(0:Int) < 9; decide),?_⟩
  refine⟨fun σ' H'=>H'=H/\ ∃d:Int,σ'=[some (.ref a),some (.int i),some (.int d)],?_,?_⟩
  ·refine⟨_,rfl,_,rfl,a,_,_,_,rfl,rfl,hS,pZ hi,_,_,rfl,rfl,(by show(0:Int) < 13; decide),rfl,_,rfl,cv (fun c=>?_) (fun c=>⟨rfl,_,rfl⟩)⟩
   refine⟨_,rfl,_,rfl,_,_,rfl,rfl,_,rfl,a,_,rfl,.inl hS,_,_,rfl,rfl,hm,a,_,_,.int y,rfl,rfl,hS,hy,_,_,rfl,rfl,⟨by decide,by decide,by decide⟩,_,_,rfl,rfl,(by show(0:Int) < _; decide +kernel),?_⟩
   exact⟨rfl,_,rfl⟩
  rintro σ' H' ⟨rfl,d,rfl⟩
  refine⟨_,rfl,_,rfl,_,_,rfl,rfl,_,rfl,_,rfl,a,_,_,_,rfl,rfl,hS,pZ hi,_,rfl,fun r YO=>?_⟩
  exact⟨_,_,rfl,rfl,.inr (by rcases YO with rfl|rfl <;> exact⟨by decide,by decide⟩),_,_,rfl,rfl,k _⟩
def uf (H:Hp)(a pm lT:Addr)(i:Nat)(σ:L2.St)(H2:Hp):Prop:=
 ∃(pb ph:Addr) (bs hs:List Str) (sp:List Int) (ds:List bD) (ms:List V) (x5 x6 x7 x8 x9 HN CF EA HY A3 CU KH:Option V),σ=[some (.ref a),some (.ref pm),some (.ref pb),some (.ref ph),some (.ref lT),x5,x6,x7,x8,x9,HN,CF,EA,HY,A3,CU,KH]/\aE H H2/\
  H2 pm=some (.lst ms)/\fM H2 ds ms/\ds.length=i/\(∀d∈ds,d.ok)/\H2 pb=some (.lst (bs.map V.str))/\bs.length<=i/\H2 ph=some (.lst (hs.map V.str))/\hs.length<=i/\H2 lT=some (.lst (sp.map V.int))/\sp.length<=i/\pb≠pm/\pb≠lT/\ph≠pm/\ph≠lT
theorem uf.mk' {H:Hp}{a pm lT pb ph:Addr}{i:Nat}{H4 H6:Hp}{bs hs:List Str}{sp:List Int}{ds:List bD}{d:bD}{ms:List V}{p8:Addr}{x5 x6 x7 x8 x9 HN CF EA HY A3 CU KH:Option V}
  (hR:fM H4 ds ms) (hl:ds.length=i) (cz: ∀d∈ds,d.ok) (kp:cG H4 H6) (s6:aE H H6) (hM:H6 pm=some (.lst (ms ++ [.ref p8]))) (hd:Rp H6 d.dt (.ref p8)) (hdo:d.ok)
  (hb:H6 pb=some (.lst (bs.map V.str))) (Mt:bs.length<=i + 1) (hh:H6 ph=some (.lst (hs.map V.str))) (hhl:hs.length<=i + 1) (LJ:H6 lT=some (.lst (sp.map V.int))) (Q1:sp.length<=i + 1)
  (n1:pb≠pm) (n2:pb≠lT) (n3:ph≠pm) (n4:ph≠lT):
  uf H a pm lT (i + 1) [some (.ref a),some (.ref pm),some (.ref pb),some (.ref ph),some (.ref lT),x5,x6,x7,x8,x9,HN,CF,EA,HY,A3,CU,KH] H6:=by
 refine⟨pb,ph,bs,hs,sp,ds ++ [d],ms ++ [.ref p8],x5,x6,x7,x8,x9,HN,CF,EA,HY,A3,CU,KH,rfl,s6,hM,(hR.mono kp).snoc hd,by rw[aH,hl]; rfl,fun d' Io=>?_,hb,Mt,hh,hhl,LJ,Q1,n1,n2,n3,n4⟩
 rcases bq.mp Io with h|h
 ·exact cz d' h
 ·rw[ao.mp h]; exact hdo
def dh (r:Int)(j:Nat):List Int:=(List.range j).map fun(t:Nat)=>1 + r % 9 + (0 + (t:Int)) * (2 + r % 30)
theorem CV (r:Int)(j:Nat):(dh r j).length=j:=by unfold dh; rw[List.length_map,List.length_range]
theorem MS {w:Str}{d:Int}(r:Int)(j:Nat)(hj:j<=11):(bD.iH w d (dh r j)).ok:=by
 have h9:=kC r (show(9:Int)≠0 by decide)
 have h30:=kC r (show(30:Int)≠0 by decide)
 refine⟨by rw[CV]; exact hj,?_,fun x hx=>?_⟩
 ·unfold dh
  rw[rW]
  refine List.pairwise_lt_range.imp fun{a b} Iq=>?_
  have:(0 + (a:Int)) * (2 + r % 30) < (0 + (b:Int)) * (2 + r % 30):=Int.mul_lt_mul_of_pos_right (by lia) (by lia)
  lia
 ·unfold dh at hx
  obtain⟨t,_,rfl⟩:=bG.mp hx
  have:0<=(0 + (t:Int)) * (2 + r % 30):=Int.mul_nonneg (by lia) (by lia)
  lia
theorem Ut (x y:Int)(b:Bool):True/\sj [V.int x,V.int y] (if b=true then 1 else 0)=some (V.int (if b=true then y else x)):=⟨trivial,by cases b <;> rfl⟩
theorem NH {H H4:Hp}{pm p8 lT pb ph:Addr}{ms xs b' h' s':List V}(nm:H pm=none)(s4:aE H H4)(rE:H4 pm=some (.lst ms))(n8:H4 p8=none)(n1:pb≠pm)(n3:ph≠pm)(FQ:lT≠pm)
  (AE:H4 pb=some (.lst b')) (Iy:H4 ph=some (.lst h')) (nV:H4 lT=some (.lst s')):
  cG H4 (upd (upd H4 p8 (.tup xs)) pm (.lst (ms ++ [.ref p8])))/\aE H (upd (upd H4 p8 (.tup xs)) pm (.lst (ms ++ [.ref p8])))/\upd (upd H4 p8 (.tup xs)) pm (.lst (ms ++ [.ref p8])) pm=some (.lst (ms ++ [.ref p8]))/\
  upd (upd H4 p8 (.tup xs)) pm (.lst (ms ++ [.ref p8])) p8=some (.tup xs)/\upd (upd H4 p8 (.tup xs)) pm (.lst (ms ++ [.ref p8])) pb=some (.lst b')/\upd (upd H4 p8 (.tup xs)) pm (.lst (ms ++ [.ref p8])) ph=some (.lst h')/\
  upd (upd H4 p8 (.tup xs)) pm (.lst (ms ++ [.ref p8])) lT=some (.lst s'):=by
 have s8:=aE.new (o:= .tup xs) n8
 refine⟨s8.tk.trans (fj (s8 _ _ rE)),(s4.trans s8).cY nm,ag,dG (s8 _ _ rE) _ _ ag,?_,?_,?_⟩
 ·rw[aA n1]; exact s8 _ _ AE
 ·rw[aA n3]; exact s8 _ _ Iy
 ·rw[aA FQ]; exact s8 _ _ nV
theorem Uu {H H4:Hp}{pm lT pb ph:Addr}{ms b' h':List V}{sp:List Int}{x:Int}(VQ:H lT=none)(s4:aE H H4)(rE:H4 pm=some (.lst ms))(n2:pb≠lT)(n4:ph≠lT)(FQ:lT≠pm)
  (AE:H4 pb=some (.lst b')) (Iy:H4 ph=some (.lst h')) (nV:H4 lT=some (.lst (sp.map V.int))):
  cG H4 (upd H4 lT (.lst (sp.map V.int ++ [.int x])))/\aE H (upd H4 lT (.lst (sp.map V.int ++ [.int x])))/\upd H4 lT (.lst (sp.map V.int ++ [.int x])) pm=some (.lst ms)/\upd H4 lT (.lst (sp.map V.int ++ [.int x])) pb=some (.lst b')/\
  upd H4 lT (.lst (sp.map V.int ++ [.int x])) ph=some (.lst h')/\upd H4 lT (.lst (sp.map V.int ++ [.int x])) lT=some (.lst ((sp ++ [x]).map V.int)):=by
 refine⟨fj nV,s4.cY VQ,?_,?_,?_,?_⟩
 ·rw[aA FQ.symm]; exact rE
 ·rw[aA n2]; exact AE
 ·rw[aA n4]; exact Iy
 ·rw[ag,aJ]; rfl
theorem hJ {H:Hp}{d:Dt}{v:V}{ds:List Dt}{vs:List V}(h:Rp H d v)(r:il H ds vs):il H (d :: ds) (v :: vs):=bI.mpr ⟨_,_,rfl,h,r⟩
theorem rI {H:Hp}(i:Int):Rp H (.int i) (.int i):=dr.mpr rfl
theorem rS {H:Hp}(x:Str):Rp H (.str x) (.str x):=fL.mpr rfl
theorem r0 {H:Hp}:il H [] []:=cM.mpr rfl
theorem FR {H9:Hp}{p9 pb:Addr}{bs:List Str}{aC:Str}{b:Bool}{Q:VK}(h9:H9 p9=some (.lst [V.str aC]))(hb:H9 pb=some (.lst (bs.map V.str)))(hl:bs.length<=100)
  (q: ∀(KI:Addr) (Uv:Hp) (n:Nat),n<=1->aE H9 Uv->H9 KI=none->Uv KI=some (.lst ((bs ++ List.replicate n aC).map V.str))->Q (.ref KI) Uv):
  RU (.ref p9) (.int (if b=true then 1 else 0)) H9 (fun v H=>RT (.ref pb) v H Q):=by
 have hk:(if b=true then(1:Int) else 0).toNat<=1:=by split <;> decide
 refine⟨p9,_,_,rfl,rfl,h9,(by split <;> decide),(by split <;> decide),(by show 1 * _<=sizeLine; split <;> decide),fun Ra YQ=>?_⟩
 generalize (if b=true then(1:Int) else 0).toNat=n at hk ⊢
 rw[LR]
 have Cp:=aE.new (o:= .lst ((List.replicate n aC).map V.str)) YQ
 refine⟨pb,Ra,_,_,rfl,rfl,Cp _ _ hb,ag,?_,fun KI Iz=>?_⟩
 ·refine di (bf ?_)
  rw[ae,ae,iQ]
  lia
 ·rw[← aJ]
  exact q KI _ n hk (Cp.trans (aE.new Iz)) (Cp.free Iz) ag
inductive FT (K:Frag)(vs:List V)(H:Hp)(Q:VK)(E':XK):Prop
 |mk (a:Addr)(cs:List Int)(h1:vs=[.ref a])(h2:bw K H a (cs.map V.int))(h3:cs.length<=100)(h4: ∀(pd:Addr) (ds:List bD) (ms:List V) (H':Hp),aE H H'->H' pd=some (.lst ms)->fM H' ds ms->ds.length=cs.length->(∀d∈ds,d.ok)->Q (.ref pd) H'):FT K vs H Q E'
theorem px:aW ["_law_cells","_law_made","_law_bills","_law_held","_law_spots","_law_k","_law_rest","_law_pick","_law_who","_law_day","_law_amount","_law_bill","_law_due","_law_part","_law_credit","_law_menu","_law_limits"] ["_law_cells"] (ax (top 53)):={}
theorem AS (T:Txt K mg):fb P w K mg base "_law_deeds" 3 ["_law_cells"] (FT K):=by
 have xR:fb P w K mg base "_law_penned" 2 ["_law_cells","_law_k"] (vG K):=xp T
 have pz:fb P w K mg base "_law_chosen" 1 ["_law_owners","_law_who","_law_cell","_law_k"] (wu K):=xO T
 have xS:fb P w K mg base "_law_due_in" 2 ["_law_cells","_law_k"] (AQ K):=xQ T
 refine T.zC.fC (k:=2) px (fun f cU A outer s H vs Q E hr h=>?_)
 ·obtain⟨a,cs,rfl,hS,hc,k⟩:=h
  have nd:=px.nd
  refine⟨_,(ah (sv 1 nd (bQ av))
(ah (sv 2 nd (bQ av))
(ah (sv 3 nd (bQ av))
(ah (sv 4 nd (bQ av))
(ah (dW bu rfl (ij rfl T.kM (aa (mK T.dR (pv 0)) av)) (gn 5 nd)
(ah (sv 6 nd (aQ b9 (aQ jH (xl (pv 0) (pv 5)) ai) (aQ i9 ai ai)))
(ah (sv 7 nd (aQ b9 (aQ cJ (xl (pv 0) (pv 5)) (aQ jx ai (pv 5))) ai))
(ah (l0 (fc xR hr (aa (pv 0) (aa (pv 5) av))) (iE rfl (bX (gn 8 nd) (bX (gn 9 nd) (bX (gn 10 nd) gr)))))
(ah (sv 11 nd (fc pz hr (aa (pv 2) (aa (pv 8) (aa (xl (pv 0) (pv 5)) (aa (pv 5) av))))))
(au (bP (aX jU (pv 7) ai (a0 _))
(ah (sv 12 nd (aQ cJ (pv 9) (fc xS hr (aa (pv 0) (aa (pv 5) av)))))
(ah (bK (pW (pv 1) (cQ (aa aV (aa (pv 8) (aa (pv 9) (aa (pv 12) (aa (pv 10) av))))))))
(au (sv 2 nd (aQ l6 (pv 2) (aQ DI (bQ (aa (pv 8) av)) (gg ja (by rfl) T.tj NW (aa (mQ (eF jn (pv 10) ai (a0 _)) (lZ (eF IH (pv 12) (pv 9) (a0 _)))) av))))))))
(au (bP (aX jU (pv 7) ai (a0 _))
(ah (bK (pW (pv 1) (cQ (aa aV (aa (pv 8) (aa (pv 9) (aa (pv 10) av)))))))
(au (sv 3 nd (aQ l6 (pv 3) (aQ DI (bQ (aa (pv 8) av)) (gg ja (by rfl) T.tj NW (aa (eF jn (pv 10) ai (a0 _)) av)))))))
(au (bP (aX cK (pv 7) ai (a0 _))
(ah (bK (pW (pv 1) (cQ (aa aV (aa (pv 11) (aa (pv 9) (aa (pv 10) av)))))))
(au (bP (PW.pt (pw_and (aX oU ai (pv 11) (a0 _)) (pw_and (aX jU (pv 11) (mK T.dR (pv 2)) (a0 _)) (pw_and1 (aX jn (pv 10) ai (a0 _))))))
(au (sv 3 nd (aQ l6 (pv 3) (bQ (aa (xl (pv 2) (pv 11)) av)))))
bh)))
(au (bP (aX jU (pv 7) ai (a0 _))
(ah (bK (pW (pv 4) (pv 5)))
(ji (sv 13 nd (xl (bQ (aa (pv 10) (aa (aQ cJ ai (aQ b9 (pv 6) ai)) av))) (gg ja (by rfl) T.tj NW (aa (mQ (eF jn (pv 10) ai (a0 _)) (lZ (eF jn (aQ b9 (pv 6) ai) ai (a0 _)))) av))))
(ah (sv 14 nd (fc pz hr (aa (pv 3) (aa (pv 8) (aa (xl (pv 0) (pv 5)) (aa (aQ cJ (pv 5) ai) av))))))
(ji (bP (aX cK (aQ b9 (xl (pv 0) (pv 5)) ai) ai (a0 _))
(au (sv 14 nd (aQ b9 (aQ jH (pv 6) ai) (aQ cJ (mK T.dR (pv 3)) ai))))
bh)
(au (bK (pW (pv 1) (cQ (aa aV (aa (pv 14) (aa (pv 11) (aa (pv 13) av))))))))))))
(au (bP (aX jU (pv 7) ai (a0 _))
(ah (bK (pW (pv 4) (pv 5)))
(au (bK (pW (pv 1) (cQ (aa aV (aa (pv 8) av)))))))
(au (bP (aX cK (pv 7) ai (a0 _))
(ah (sv 15 nd (aQ l6 (pv 4) (bQ (aa (pv 5) (aa (oS kZ ai) (aa (aQ i9 ai ai) (aa ai (aa (aQ eM (pv 5) ai) (aa (aQ b9 (aQ jH (pv 6) ai) (aQ cJ (pv 5) ai)) (aa (aQ eM (oS kZ ai) (pv 6)) av))))))))))
(au (bK (pW (pv 1) (cQ (aa aV (aa (xl (pv 15) (aQ b9 (pv 6) (mK T.dR (pv 15)))) av)))))))
(au (bP (aX cK (pv 7) ai (a0 _))
(au (bK (pW (pv 1) (cQ (aa (xl (bQ (aa aV (aa aV av))) (aQ b9 (pv 6) ai)) (aa (pv 8) (aa (pv 9) av)))))))
(ah (lB (i:=16) nd rfl (Or.inl rfl) (tn:=["_law_j"]) (cn:=["_law_rest"]) (cj:=[6]) rfl (jh (AZ:=[(".0",.local),("_law_j",.local),("_law_rest",.cell)])) (ij rfl T.kM (aa (aQ b9 (pv 6) ai) av)) (fun _ _ _ _=>(eE (i:=0) (show(["_law_j","_law_rest"]:List Str).Nodup by decide +kernel) rfl (Or.inl rfl))) (fun _ _ _ _=>k4) (fun _ _ _ _=>(aQ cJ (aQ cJ ai (aQ b9 (pv 1) ai)) (aQ jx (pv 0) (aQ cJ ai (aQ b9 (pv 1) ai))))))
(au (bK (pW (pv 1) (cQ (aa aV (aa (pv 8) (aa (pv 9) (aa (gg wO (by rfl) T.uo boot_tuple (aa (pv 16) av)) av))))))))))))))))))))))))))))
(au (a9 (pv 1)))))))),?_⟩
  refine⟨bp _,fun pm nm=>⟨bp _,fun pb nb=>⟨bp _,fun ph nh=>⟨bp _,fun lT Rb=>?_⟩⟩⟩⟩
  have s1:aE H (upd H pm (.lst [])):=aE.new nm
  have t2:=aE.new (o:= .lst []) nb
  have t3:=aE.new (o:= .lst []) nh
  have t4:=aE.new (o:= .lst []) Rb
  have s4:=((s1.trans t2).trans t3).trans t4
  have VQ:H lT=none:=((s1.trans t2).trans t3).free Rb
  have g1:=((t2.trans t3).trans t4) _ _ (ag (H:=H) (a:=pm) (o:= .lst []))
  have g2:=(t3.trans t4) _ _ (ag (H:=upd H pm (.lst [])) (a:=pb) (o:= .lst []))
  have g3:=t4 _ _ (ag (H:=upd (upd H pm (.lst [])) pb (.lst [])) (a:=ph) (o:= .lst []))
  have g4:=ag (H:=upd (upd (upd H pm (.lst [])) pb (.lst [])) ph (.lst [])) (a:=lT) (o:= .lst [])
  have e12:pb≠pm:=(aK ag nb).symm
  have e13:ph≠pm:=(aK (t2 _ _ ag) nh).symm
  have FQ:lT≠pm:=(aK ((t2.trans t3) _ _ ag) Rb).symm
  have e24:pb≠lT:=aK (t3 _ _ ag) Rb
  have e34:ph≠lT:=aK ag Rb
  generalize upd (upd (upd (upd H pm (.lst [])) pb (.lst [])) ph (.lst [])) lT (.lst [])=H4 at s4 g1 g2 g3 g4 ⊢
  refine⟨_,rfl,a,_,rfl,.inl (s4.seq hS),((cs.map V.int).length:Int),rfl,by lia,by rw[ae]; lia,?_⟩
  rw[dz]
  refine i8 (lo:=0) (n:=(cs.map V.int).length) (uf H a pm lT)
   ⟨pb,ph,[],[],[],[],[],none,none,none,none,none,none,none,none,none,none,none,none,rfl,s4,g1,r0,rfl,(fun _ h=>by cases h),g2,aI _,g3,aI _,g4,aI _,e12,e24,e13,e34⟩ ?_ ?_
  ·clear t2 t3 t4 s1 g1 g2 g3 g4 s4 H4 e12 e24 e13 e34 nb nh Rb pb ph
   rintro i σ H2 hi ⟨pb,ph,bs,hs,sp,ds,ms,x5,x6,x7,x8,x9,HN,CF,EA,HY,A3,CU,KH,rfl,s2,hM,hR,FU,cz,hb,Mt,hh,hhl,yd,adH,n1,n2,n3,n4⟩
   have YR:i < cs.length:=by rwa [ae] at hi
   have Rc:sj (cs.map V.int) (0 + (i:Int))=some (.int (cs.getD i 0)):=by rw[gZ]; exact pZ YR
   have O3:=s2.seq hS
   generalize my:cs.getD i 0=cell at Rc
   refine⟨_,rfl,_,rfl,a,_,_,.int cell,rfl,rfl,O3,Rc,_,_,rfl,rfl,⟨by decide,by decide⟩,_,_,rfl,rfl,⟨by decide,by decide,by decide⟩,_,_,rfl,rfl,(by show(0:Int) < _; decide +kernel),?_⟩
   refine⟨_,rfl,_,rfl,a,_,_,.int cell,rfl,rfl,O3,Rc,_,rfl,_,_,rfl,rfl,.inl ⟨by decide,by decide⟩,_,_,rfl,rfl,_,_,rfl,rfl,(by show(0:Int) < 16; decide),?_⟩
   refine⟨_,rfl,_,rfl,a,cs,i,(by rw[gZ]; rfl),O3,YR,fun p aC day dO H3 s3 hp oM=>?_⟩
   refine⟨p,_,rfl,cB.of hp,rfl,_,_,rfl,_,_,rfl,_,_,rfl,rfl,?_⟩
   refine⟨_,rfl,_,rfl,_,rfl,_,rfl,a,_,_,.int cell,rfl,rfl,s3.seq O3,Rc,_,rfl,pb,bs,aC,cell,_,rfl,bw.of (s3 _ _ hb),by lia,fun bl H4 s4'=>?_⟩
   have Ky:=s3.trans s4'
   have s4:=s2.trans Ky
   have rE:=Ky _ _ hM
   have MT:=hR.mono Ky.tk
   have AE:=Ky _ _ hb
   have Iy:=Ky _ _ hh
   have nV:=Ky _ _ yd
   have hS4:=s4.seq hS
   have YS:=hS
   have Fy:ms.length<=100:=by have:=hR.length; lia
   clear Ky s3 s4' hp hM hR hb hh yd s2 O3 H2 H3
   refine⟨_,rfl,_,_,rfl,rfl,_,rfl,cv (fun c1=>?_) (fun c1=>?_)⟩
   ·
    refine⟨_,rfl,_,rfl,_,rfl,a,cs,i,(by rw[gZ]; rfl),hS4,YR,fun n=>⟨_,_,rfl,rfl,?_⟩⟩
    refine⟨_,rfl,.inl ⟨rfl,_,bw.of rE⟩,_,rfl,_,rfl,_,rfl,_,rfl,(by show 5<=sizeLine; decide),fun p8 n8=>?_⟩
    refine⟨pm,ms,_,rfl,rfl,aE.new n8 _ _ rE,bf (by lia),?_⟩
    obtain⟨k5,s5,v7,h8,A4,Dm,mq⟩:=NH (xs:=[V.str "bill",.str aC,.int day,.int (day + n),.int dO]) nm s4 rE n8 n1 n3 FQ AE Iy nV
    refine⟨_,rfl,_,rfl,(by show 1<=sizeLine; decide),fun p9 n9=>?_⟩
    have t9:=aE.new (o:= .lst [V.str aC]) n9
    refine⟨_,rfl,_,_,rfl,rfl,_,rfl,cv (fun c=>⟨_,rfl,_,rfl,_,_,rfl,rfl,.inr ⟨_,rfl,?_⟩⟩) (fun c=> .inr ⟨_,rfl,?_⟩)⟩
    all_goals
     refine FR ag (t9 _ _ A4) (by lia) fun KI Uv n hn YT Iz YU=>?_
     have qd:=t9.trans YT
     exact uf.mk' (d:= .dY aC day _ dO) (pb:=KI) MT FU cz (k5.trans qd.tk) (s5.trans qd) (qd _ _ v7) (eT (qd _ _ h8) (hJ (rS _) (hJ (rS _) (hJ (rI _) (hJ (rI _) (hJ (rI _) r0)))))) oM YU (by rw[aH,iQ]; lia) (qd _ _ Dm) (by lia) (qd _ _ mq) (by lia) (aK (t9 _ _ v7) Iz).symm (aK (t9 _ _ mq) Iz).symm n3 n4
   refine⟨_,rfl,_,_,rfl,rfl,_,rfl,cv (fun c2=>?_) (fun c2=>?_)⟩
   ·
    refine⟨_,rfl,.inl ⟨rfl,_,bw.of rE⟩,_,rfl,_,rfl,_,rfl,(by show 4<=sizeLine; decide),fun p8 n8=>?_⟩
    refine⟨pm,ms,_,rfl,rfl,aE.new n8 _ _ rE,bf (by lia),?_⟩
    obtain⟨k5,s5,v7,h8,A4,Dm,mq⟩:=NH (xs:=[V.str "pay",.str aC,.int day,.int dO]) nm s4 rE n8 n1 n3 FQ AE Iy nV
    refine⟨_,rfl,_,rfl,(by show 1<=sizeLine; decide),fun p9 n9=>?_⟩
    have t9:=aE.new (o:= .lst [V.str aC]) n9
    refine⟨_,rfl,_,_,rfl,rfl,.inr ⟨_,rfl,?_⟩⟩
    refine FR ag (t9 _ _ Dm) (by lia) fun KI Uv n hn YT Iz YU=>?_
    have qd:=t9.trans YT
    exact uf.mk' (d:= .qN aC day dO) (ph:=KI) MT FU cz (k5.trans qd.tk) (s5.trans qd) (qd _ _ v7) (eT (qd _ _ h8) (hJ (rS _) (hJ (rS _) (hJ (rI _) (hJ (rI _) r0))))) oM (qd _ _ A4) (by lia) YU (by rw[aH,iQ]; lia) (qd _ _ mq) (by lia) n1 n2 (aK (t9 _ _ v7) Iz).symm (aK (t9 _ _ mq) Iz).symm
   refine⟨_,rfl,rfl,_,rfl,cv (fun c3=>?_) (fun c3=>?_)⟩
   ·
    refine⟨_,rfl,.inl ⟨rfl,_,bw.of rE⟩,_,rfl,_,rfl,_,rfl,(by show 4<=sizeLine; decide),fun p8 n8=>?_⟩
    refine⟨pm,ms,_,rfl,rfl,aE.new n8 _ _ rE,bf (by lia),?_⟩
    obtain⟨k5,s5,v7,h8,A4,Dm,mq⟩:=NH (xs:=[V.str "note",.int bl,.int day,.int dO]) nm s4 rE n8 n1 n3 FQ AE Iy nV
    have no:=fun(EA HY A3 CU KH x5 x6 x7 x8 x9 HN CF:Option V)=>uf.mk' (a:=a) (x5:=x5) (x6:=x6) (x7:=x7) (x8:=x8) (x9:=x9) (HN:=HN) (CF:=CF) (EA:=EA) (HY:=HY) (A3:=A3) (CU:=CU) (KH:=KH) (d:= .note bl day dO) MT FU cz k5 s5 v7 (eT h8 (hJ (rS _) (hJ (rI _) (hJ (rI _) (hJ (rI _) r0))))) oM A4 (by lia) Dm (by lia) mq (by lia) n1 n2 n3 n4
    refine⟨_,rfl,_,_,rfl,rfl,_,rfl,cv (fun d1=>?_) (fun d1=>bV (no ..))⟩
    refine⟨_,rfl,_,rfl,pb,_,rfl,.inl (bw.of A4),_,_,rfl,rfl,_,rfl,cv (fun d2=>?_) (fun d2=>bV (no ..))⟩
    refine⟨_,rfl,_,_,rfl,rfl,_,rfl,cv (fun d3=>?_) (fun d3=>no ..)⟩
    have Th:0<=bl:=aM d1
    have XS:bl < ((bs.map V.str).length:Int):=aM d2
    obtain⟨bn,rfl⟩:=cw Th
    have hbn:bn < bs.length:=by rw[ae] at XS; lia
    refine⟨_,rfl,_,rfl,_,rfl,pb,_,_,.str bs[bn],rfl,rfl,bw.of A4,cg (by rw[aB,af hbn]; rfl),(by show 1<=sizeLine; decide),fun p9 n9=>?_⟩
    have t9:=aE.new (o:= .lst [V.str bs[bn]]) n9
    refine⟨ph,p9,_,_,rfl,rfl,t9 _ _ Dm,ag,di (bf (by rw[ae]; show hs.length + 1<=1000; lia)),fun KI Iz=>?_⟩
    have qd:=t9.trans (aE.new (o:= .lst (hs.map V.str ++ [V.str bs[bn]])) Iz)
    exact uf.mk' (d:= .note (bn:Int) day dO) (ph:=KI) (hs:=hs ++ [bs[bn]]) MT FU cz (k5.trans qd.tk) (s5.trans qd) (qd _ _ v7) (eT (qd _ _ h8) (hJ (rS _) (hJ (rI _) (hJ (rI _) (hJ (rI _) r0))))) oM (qd _ _ A4) (by lia) (by rw[aJ]; exact ag) (by rw[aH]; show hs.length + 1<=_; lia) (qd _ _ mq) (by lia) n1 n2 (aK (t9 _ _ v7) Iz).symm (aK (t9 _ _ mq) Iz).symm
   refine⟨_,rfl,_,_,rfl,rfl,_,rfl,cv (fun c4=>?_) (fun c4=>?_)⟩
   ·
    refine⟨_,rfl,.inl ⟨rfl,_,bw.of nV⟩,_,rfl,lT,_,_,rfl,rfl,nV,bf (by rw[ae]; lia),?_⟩
    obtain⟨k0,s0,Rf,VR,Rg,MU⟩:=Uu (x:=0 + (i:Int)) VQ s4 rE n2 n4 FQ AE Iy nV
    have hR0:=MT.mono k0
    have YV:=s0.seq YS
    generalize upd H4 lT (.lst (sp.map V.int ++ [.int (0 + (i:Int))]))=H5 at s0 Rf VR Rg MU hR0 YV ⊢
    refine⟨fun σ' H'=>aE H5 H'/\ ∃part:Int,σ'=[some (.ref a),some (.ref pm),some (.ref pb),some (.ref ph),some (.ref lT),some (.int (0 + (i:Int))),some (.int (cell / 16 % 10 ^ (60:Int).toNat)),some (.int ((cell + 5 * (0 + (i:Int))) % 16)),some (.str aC),some (.int day),some (.int dO),some (.int bl),EA,some (.int part),A3,CU,KH],?_,?_⟩
    ·refine⟨_,rfl,_,rfl,_,_,rfl,rfl,(by show(0:Int) < 3; decide),_,_,rfl,rfl,(by show 2<=sizeLine; decide),fun p9 n9=>?_⟩
     refine⟨_,rfl,_,_,rfl,rfl,_,rfl,cv (fun d=>⟨_,rfl,_,_,rfl,rfl,(by show(0:Int) < 4; decide),_,_,rfl,rfl,.inr ⟨_,rfl,p9,_,_,_,rfl,rfl,bw.of ag,(Ut _ _ _).2,?_⟩⟩) (fun d=> .inr ⟨_,rfl,p9,_,_,_,rfl,rfl,bw.of ag,(Ut _ _ _).2,?_⟩)⟩
     ·exact⟨aE.new n9,_,rfl⟩
     ·exact⟨aE.new n9,_,rfl⟩
    rintro σ' H6 ⟨YW,part,rfl⟩
    refine⟨_,rfl,_,rfl,_,rfl,_,rfl,a,_,_,.int cell,rfl,rfl,YW.seq YV,Rc,_,rfl,_,_,rfl,rfl,ph,hs,aC,cell,_,rfl,bw.of (YW _ _ Rg),by lia,fun cr0 H7 s67=>?_⟩
    have xK:=YW.trans s67
    refine⟨fun σ' H'=>H'=H7/\ ∃cr:Int,σ'=[some (.ref a),some (.ref pm),some (.ref pb),some (.ref ph),some (.ref lT),some (.int (0 + (i:Int))),some (.int (cell / 16 % 10 ^ (60:Int).toNat)),some (.int ((cell + 5 * (0 + (i:Int))) % 16)),some (.str aC),some (.int day),some (.int dO),some (.int bl),EA,some (.int part),some (.int cr),CU,KH],?_,?_⟩
    ·refine⟨_,rfl,_,rfl,a,_,_,.int cell,rfl,rfl,xK.seq YV,Rc,_,_,rfl,rfl,(by show(0:Int) < 41; decide),rfl,_,rfl,cv (fun d=>?_) (fun d=>⟨rfl,_,rfl⟩)⟩
     refine⟨_,rfl,_,_,rfl,rfl,⟨by decide,by decide⟩,_,rfl,ph,_,rfl,.inl (bw.of (xK _ _ Rg)),_,_,rfl,rfl,_,_,rfl,rfl,(by show(0:Int) < ((hs.map V.str).length:Int) + 1; lia),?_⟩
     exact⟨rfl,_,rfl⟩
    rintro σ' H' ⟨rfl,cr,rfl⟩
    have HI:=xK _ _ Rf
    refine⟨_,rfl,.inl ⟨rfl,_,bw.of HI⟩,_,rfl,_,rfl,_,rfl,(by show 4<=sizeLine; decide),fun p8 n8=>?_⟩
    refine⟨pm,ms,_,rfl,rfl,aE.new n8 _ _ HI,bf (by lia),?_⟩
    obtain⟨k5,s5,v7,h8,A4,Dm,mq⟩:=NH (xs:=[V.str "set",.int cr,.int bl,.int part]) nm (s0.trans xK) HI n8 n1 n3 FQ (xK _ _ VR) (xK _ _ Rg) (xK _ _ MU)
    exact uf.mk' (d:= .set cr bl part) (hR0.mono xK.tk) FU cz k5 s5 v7 (eT h8 (hJ (rS _) (hJ (rI _) (hJ (rI _) (hJ (rI _) r0))))) trivial A4 (by lia) Dm (by lia) mq (by rw[aH]; show sp.length + 1<=_; lia) n1 n2 n3 n4
   refine⟨_,rfl,_,_,rfl,rfl,_,rfl,cv (fun c5=>?_) (fun c5=>?_)⟩
   ·
    refine⟨_,rfl,.inl ⟨rfl,_,bw.of nV⟩,_,rfl,lT,_,_,rfl,rfl,nV,bf (by rw[ae]; lia),?_⟩
    obtain⟨k0,s0,Rf,VR,Rg,MU⟩:=Uu (x:=0 + (i:Int)) VQ s4 rE n2 n4 FQ AE Iy nV
    refine⟨_,rfl,.inl ⟨rfl,_,bw.of Rf⟩,_,rfl,(by show 2<=sizeLine; decide),fun p8 n8=>?_⟩
    refine⟨pm,ms,_,rfl,rfl,aE.new n8 _ _ Rf,bf (by lia),?_⟩
    obtain⟨k5,s5,v7,h8,A4,Dm,mq⟩:=NH (xs:=[V.str "sweep",.str aC]) nm s0 Rf n8 n1 n3 FQ VR Rg MU
    exact uf.mk' (d:= .fP aC) (MT.mono k0) FU cz k5 s5 v7 (eT h8 (hJ (rS _) (hJ (rS _) r0))) trivial A4 (by lia) Dm (by lia) mq (by rw[aH]; show sp.length + 1<=_; lia) n1 n2 n3 n4
   refine⟨_,rfl,rfl,_,rfl,cv (fun c6=>?_) (fun c6=>?_)⟩
   ·
    refine⟨_,rfl,_,rfl,_,rfl,_,_,rfl,rfl,⟨by decide,by decide,by decide⟩,_,rfl,_,_,rfl,rfl,_,rfl,_,_,rfl,rfl,⟨by decide,by decide⟩,_,rfl,_,_,rfl,rfl,_,_,rfl,rfl,(by show(0:Int) < 0 + (i:Int) + 1; lia),_,rfl,_,rfl,_,_,rfl,rfl,(by show 7<=sizeLine; decide),fun p9 n9=>?_⟩
    refine⟨lT,p9,_,_,rfl,rfl,aE.new n9 _ _ nV,ag,di (bf (by rw[ae]; show sp.length + 7<=1000; lia)),fun Ra YQ=>?_⟩
    have Cp:=(aE.new (o:= .lst [V.int (0 + (i:Int)),.int (-1),.int (10 ^ (9:Int).toNat),.int 0,.int (0 + (i:Int) - 1),.int ((cell / 16 % 10 ^ (60:Int).toNat) / 3 % (0 + (i:Int) + 1)),.int (-2 - (cell / 16 % 10 ^ (60:Int).toNat))]) n9).trans (aE.new (o:= .lst (sp.map V.int ++ [V.int (0 + (i:Int)),.int (-1),.int (10 ^ (9:Int).toNat),.int 0,.int (0 + (i:Int) - 1),.int ((cell / 16 % 10 ^ (60:Int).toNat) / 3 % (0 + (i:Int) + 1)),.int (-2 - (cell / 16 % 10 ^ (60:Int).toNat))])) YQ)
    have Uw:=ag (H:=upd H4 p9 (.lst [V.int (0 + (i:Int)),.int (-1),.int (10 ^ (9:Int).toNat),.int 0,.int (0 + (i:Int) - 1),.int ((cell / 16 % 10 ^ (60:Int).toNat) / 3 % (0 + (i:Int) + 1)),.int (-2 - (cell / 16 % 10 ^ (60:Int).toNat))])) (a:=Ra) (o:= .lst (sp.map V.int ++ [V.int (0 + (i:Int)),.int (-1),.int (10 ^ (9:Int).toNat),.int 0,.int (0 + (i:Int) - 1),.int ((cell / 16 % 10 ^ (60:Int).toNat) / 3 % (0 + (i:Int) + 1)),.int (-2 - (cell / 16 % 10 ^ (60:Int).toNat))]))
    generalize upd (upd H4 p9 (.lst [V.int (0 + (i:Int)),.int (-1),.int (10 ^ (9:Int).toNat),.int 0,.int (0 + (i:Int) - 1),.int ((cell / 16 % 10 ^ (60:Int).toNat) / 3 % (0 + (i:Int) + 1)),.int (-2 - (cell / 16 % 10 ^ (60:Int).toNat))])) Ra (.lst (sp.map V.int ++ [V.int (0 + (i:Int)),.int (-1),.int (10 ^ (9:Int).toNat),.int 0,.int (0 + (i:Int) - 1),.int ((cell / 16 % 10 ^ (60:Int).toNat) / 3 % (0 + (i:Int) + 1)),.int (-2 - (cell / 16 % 10 ^ (60:Int).toNat))]))=H5 at Cp Uw ⊢
    have Ux:sp.map V.int ++ [V.int (0 + (i:Int)),.int (-1),.int (10 ^ (9:Int).toNat),.int 0,.int (0 + (i:Int) - 1),.int ((cell / 16 % 10 ^ (60:Int).toNat) / 3 % (0 + (i:Int) + 1)),.int (-2 - (cell / 16 % 10 ^ (60:Int).toNat))]=(sp ++ [0 + (i:Int),-1,10 ^ (9:Int).toNat,0,0 + (i:Int) - 1,(cell / 16 % 10 ^ (60:Int).toNat) / 3 % (0 + (i:Int) + 1),-2 - (cell / 16 % 10 ^ (60:Int).toNat)]).map V.int:=by rw[aJ]; rfl
    rw[Ux] at Uw
    generalize Sl:sp ++ [0 + (i:Int),-1,10 ^ (9:Int).toNat,0,0 + (i:Int) - 1,(cell / 16 % 10 ^ (60:Int).toNat) / 3 % (0 + (i:Int) + 1),-2 - (cell / 16 % 10 ^ (60:Int).toNat)]=mn at Uw
    have adL:0 < mn.length:=by rw[← Sl,aH]; show 0 < sp.length + 7; lia
    have hmp:0 < ((mn.map V.int).length:Int):=by rw[ae]; lia
    obtain⟨y,_,hy⟩:=kP (g:=V.int) (xs:=mn) (m:=((mn.map V.int).length:Int)) (x:=(cell / 16 % 10 ^ (60:Int).toNat)) (by rw[ae]) hmp
    have Qg:=Cp _ _ rE
    refine⟨_,rfl,.inl ⟨rfl,_,bw.of Qg⟩,_,rfl,_,rfl,_,rfl,Ra,_,rfl,.inl (bw.of Uw),_,_,rfl,rfl,hmp,Ra,_,_,.int y,rfl,rfl,bw.of Uw,hy,(by show 2<=sizeLine; decide),fun p8 n8=>?_⟩
    refine⟨pm,ms,_,rfl,rfl,aE.new n8 _ _ Qg,bf (by lia),?_⟩
    obtain⟨k5,s5,v7,h8,A4,Dm,mq⟩:=NH (xs:=[V.str "undo",.int y]) nm (s4.trans Cp) Qg n8 n1 n3 FQ (Cp _ _ AE) (Cp _ _ Iy) (Cp _ _ nV)
    exact uf.mk' (d:= .jd y) (MT.mono Cp.tk) FU cz k5 s5 v7 (eT h8 (hJ (rS _) (hJ (rI _) r0))) trivial A4 (by lia) Dm (by lia) mq (by lia) n1 n2 n3 n4
   refine⟨_,rfl,rfl,_,rfl,cv (fun c7=>?_) (fun c7=>?_)⟩
   ·
    refine⟨_,rfl,.inl ⟨rfl,_,bw.of rE⟩,(by show 2<=sizeLine; decide),fun p9 n9=>?_⟩
    have t9:=aE.new (o:= .lst [V.str "owed",.str "free"]) n9
    obtain⟨y,XO,hy⟩:=kP (g:=fun o:Bool=>V.str (if o then "owed" else "free")) (xs:=[true,false]) (m:=2) (x:=(cell / 16 % 10 ^ (60:Int).toNat)) rfl (by decide)
    refine⟨_,rfl,_,_,rfl,rfl,(by show(0:Int) < 2; decide),p9,_,_,_,rfl,rfl,bw.of ag,hy,_,rfl,_,rfl,(by show 3<=sizeLine; decide),fun p8 n8=>?_⟩
    have hM9:=t9 _ _ rE
    refine⟨pm,ms,_,rfl,rfl,aE.new n8 _ _ hM9,bf (by lia),?_⟩
    obtain⟨k5,s5,v7,h8,A4,Dm,mq⟩:=NH (xs:=[V.str (if y then "owed" else "free"),.str aC,.int day]) nm (s4.trans t9) hM9 n8 n1 n3 FQ (t9 _ _ AE) (t9 _ _ Iy) (t9 _ _ nV)
    exact uf.mk' (d:= .ask y aC day) (MT.mono t9.tk) FU cz k5 s5 v7 (eT h8 (hJ (rS _) (hJ (rS _) (hJ (rI _) r0)))) trivial A4 (by lia) Dm (by lia) mq (by lia) n1 n2 n3 n4
   ·
    obtain⟨Rh,YX,adM⟩:=zT (cell / 16 % 10 ^ (60:Int).toNat) 12 (by decide)
    refine⟨_,rfl,_,_,rfl,rfl,(by show(0:Int) < 12; decide),_,rfl,lX (by decide) (kC _ (by decide)),Int.lt_trans (qo _ (by decide)) (by decide),?_⟩
    show yj (M6 0 ((cell / 16 % 10 ^ (60:Int).toNat) % 12).toNat) _ _ _ _ _ _
    rw[YX,dz]
    refine DM (lo:=0) (n:=Rh) (fun D j σ H6=>H4 D=none/\ ∃v,σ=[v,some (.int (cell / 16 % 10 ^ (60:Int).toNat))]/\aE H4 H6/\H6 D=some (.lst ((dh (cell / 16 % 10 ^ (60:Int).toNat) j).map V.int))) (fun D hD=>⟨hD,none,rfl,aE.new hD,ag⟩) ?_ ?_
    ·rintro D j σ H6 hj ⟨hD,v,rfl,t3,hl⟩
     refine⟨_,rfl,_,_,rfl,rfl,(by show(0:Int) < 9; decide),_,_,rfl,rfl,_,rfl,_,rfl,_,_,rfl,rfl,(by show(0:Int) < 30; decide),_,_,rfl,rfl,_,_,rfl,rfl,.inl ⟨by lia,by lia⟩,_,_,rfl,rfl,?_⟩
     refine⟨_,hl,bf (by rw[ae,CV]; lia),hD,_,rfl,t3.cY hD,?_⟩
     rw[ag]
     unfold dh
     rw[oB,aJ,aJ]; rfl
    ·rintro D σ H6 _ ⟨hD,v,rfl,t3,hl⟩
     have Kh:=t3 _ _ rE
     refine⟨_,rfl,.inl ⟨rfl,_,bw.of Kh⟩,_,rfl,_,rfl,_,rfl,D,_,rfl,.inl ⟨bw.of hl,fun pt npt=>?_⟩⟩
     have t7:=t3.trans (aE.new (o:= .tup ((dh (cell / 16 % 10 ^ (60:Int).toNat) Rh).map V.int)) npt)
     have g7:=ag (H:=H6) (a:=pt) (o:= .tup ((dh (cell / 16 % 10 ^ (60:Int).toNat) Rh).map V.int))
     generalize upd H6 pt (.tup ((dh (cell / 16 % 10 ^ (60:Int).toNat) Rh).map V.int))=H7 at t7 g7 ⊢
     refine⟨(by show 4<=sizeLine; decide),fun p8 n8=>?_⟩
     have HI:=t7 _ _ rE
     refine⟨pm,ms,_,rfl,rfl,aE.new n8 _ _ HI,bf (by lia),?_⟩
     obtain⟨k5,s5,v7,h8,A4,Dm,mq⟩:=NH (xs:=[V.str "ages",.str aC,.int day,.ref pt]) nm (s4.trans t7) HI n8 n1 n3 FQ (t7 _ _ AE) (t7 _ _ Iy) (t7 _ _ nV)
     exact uf.mk' (d:= .iH aC day (dh (cell / 16 % 10 ^ (60:Int).toNat) Rh)) (MT.mono t7.tk) FU cz k5 s5 v7 (eT h8 (hJ (rS _) (hJ (rS _) (hJ (rI _) (hJ (eT (k5 _ _ g7) (il.ints _)) r0))))) (MS (cell / 16 % 10 ^ (60:Int).toNat) Rh (by lia)) A4 (by lia) Dm (by lia) mq (by lia) n1 n2 n3 n4
  ·rintro σ H2 ⟨pb,ph,bs,hs,sp,ds,ms,x5,x6,x7,x8,x9,HN,CF,EA,HY,A3,CU,KH,rfl,s2,hM,hR,FU,cz,_⟩
   rw[ae] at FU
   refine⟨_,rfl,?_⟩
   exact k pm ds ms H2 s2 hM hR FU cz
theorem sH.rp {H:Hp}{ok:Addr->Prop}{a:yo}{v:V}(h:sH H ok a v):Rp H a.dt v:=by
 cases a with
 |int i=>exact dr.mpr h
 |txt s=>exact fL.mpr h
 |sets l=>
  obtain⟨D,ms,rfl,_,z,t⟩:=h
  exact iG z (ir.K8 t)
 |pairs l=>
  obtain⟨D,ms,rfl,_,z,t⟩:=h
  exact iG z (fZ.K8 t)
 |«ints» l=>
  obtain⟨D,rfl,_,z⟩:=h
  exact iG z (Cv l)
theorem yM {α:Type}(f:α->Dt)(n:Nat): ∀l:List α,(∀x∈l,(f x).size<=n)->Dt.fY (l.map f)<=l.length * n
 |[],_=>bp _
 |x :: l,h=>by
  have h1:=yM f n l fun y hy=>h y (aS _ hy)
  have h2:=h x bc
  rw[bM,bH,wF]
  show(f x).size + Dt.fY (l.map f)<=_
  lia
theorem EB {α:Type}(f:α->Dt)(l:List α)(h: ∀x∈l,(f x).plain=true):Dt.pL (l.map f)=true:=by
 rw[Dt.pM]
 intro d hd
 obtain⟨x,hx,rfl⟩:=bG.mp hd
 exact h x hx
theorem HZ {H:Hp}{pd:Addr}{d:bD}(h:sO H pd d): ∃r,H pd=some (.tup (.str (bD.word d) :: r)):=by
 cases d with
 |iH w dy l=>
  obtain⟨pl,h1,_⟩:=h
  exact⟨_,h1⟩
 |_=>exact⟨_,h⟩
theorem yN (d:bD):wN (.str (bD.word d)) [.str "bill",.str "pay",.str "note",.str "set",.str "sweep"]=d.tells:=by
 cases d with
 |dY _ _ _ _=>show wN (.str "bill") _ =true; decide +kernel
 |qN _ _ _=>show wN (.str "pay") _ =true; decide +kernel
 |note _ _ _=>show wN (.str "note") _ =true; decide +kernel
 |set _ _ _=>show wN (.str "set") _ =true; decide +kernel
 |fP _=>show wN (.str "sweep") _ =true; decide +kernel
 |jd _=>show wN (.str "undo") _ =false; decide +kernel
 |ask o _ _=>
  cases o
  ·show wN (.str "free") _ =false; decide +kernel
  ·show wN (.str "owed") _ =false; decide +kernel
 |iH _ _ _=>show wN (.str "ages") _ =false; decide +kernel
theorem MV (xs:List V)(a b:Nat)(h:a<=b):(qE xs (some (a:Int)) (some (b:Int))).length<=b - a:=by
 unfold qE
 rw[HT.yY,HT.yY,bb]
 lia
theorem MW (ns:List Int)(lo hi:Option Int): ∃cs:List Int,qE (ns.map V.int) lo hi=cs.map V.int:=by
 unfold qE
 rw[← List.map_drop,← List.map_take]
 exact⟨_,rfl⟩
theorem Uy {H:Hp}{ok:Addr->Prop}: ∀{as:List yo} {ws:List V},Paired (sH H ok) as ws->il H (as.map yo.dt) ws
 |_,_,.nil=>cM.mpr rfl
 |_,_,.cons h t=>bI.mpr ⟨_,_,rfl,h.rp,Uy t⟩
theorem KJ {H:Hp}{tb:Addr}{pos:Pos}{qual:Str}(h:H tb=some (.mO #[])):Tb H tb pos qual:=⟨#[],h,True.intro,.inl rfl⟩
def KL (K:Frag)(cps:List (Addr×Addr)):Sp:=fun vs H Q _=> ∃(a:Addr) (ns:List Int),vs=[.ref a]/\bw K H a (ns.map V.int)/\ns.length<=63/\(∀cp∈cps,H cp.2=some (.mO #[]))/\ ∀H',Q (.bl true) H'
theorem MX {H:Hp}{sd p:Addr}{S:Bk}{f:fH}{ws:List V}{o:HO}(h:dk H sd S f)(e:H p=some (.lst ws))(n:p∉f.fp):dk (upd H p o) sd S f:=
 h.keep (fun b u hb z=>by
  have nb:b≠p:=by
   rcases hb with hb|hb
   ·rw[hb]
    exact mx h.dict e (by intro q; cases q)
   ·exact fun q=>n (q▸hb)
  rw[aA nb]
  exact z) (fj e)
inductive KN (vs:List V)(H:Hp)(Q:VK)(E':XK):Prop
 |mk (pa:Addr)(ds:List bD)(ms:List V)(h1:vs=[.ref pa])(h2:H pa=some (.lst ms))(h3:fM H ds ms)(h4:ds.length<=59)(h5:(∀d∈ds,d.ok))(h6: ∀(t:Addr) (v:V) (ps sd:Addr) (us:List V) (f:fH) (H':Hp),aE H H'->H' t=some (.tup [v,.ref ps,.ref sd])->H' ps=some (.lst us)->gW H' (dB ds gR.new 0).2.steps us->dk H' sd (dB ds gR.new 0).2.bk f->(∀x∈f.fp,H x=none)->ps∉f.fp->Good (dB ds gR.new 0).2 ds.length->Q (.ref t) H'):KN vs H Q E'
theorem jt:aW ["_law_asked","_law_steps","_law_state","_law_due","_law_number","_law_deed","_law_answer"] ["_law_asked"] (ax (top 65)):={}
theorem oO (T:Txt K mg):fb P w K mg base "_law_gone_through" 6 ["_law_asked"] KN:=by
 have mj:=rj (P:=P) (w:=w) (base:=base) T
 have AU:=Ag (P:=P) (w:=w) (base:=base) T
 have CW:=Cr (P:=P) (w:=w) (base:=base) T
 refine T.oH.fC (k:=5) jt (fun f cU A outer s H vs Q E hr h=>?_)
 ·obtain⟨pa,ds,ms,rfl,MK,KA,FU,cz,k⟩:=h
  have nd:=jt.nd
  have Fy:=fM.length KA
  refine⟨_,(ah (sv 1 nd (bQ av))
(ah (sv 2 nd (Jh mj (hr.mono (by decide)) rfl))
(ah (sv 3 nd (bQ av))
(ah (dW bu rfl (ij rfl T.kM (aa (mK T.dR (pv 0)) av)) (gn 4 nd)
(ah (sv 5 nd (xl (pv 0) (pv 4)))
(ah (sv 6 nd aV)
(ji (bP (PW.pt (pw_or (gp (fc AU hr (aa (pv 5) av))) (pw_or1 (aX cK (xt (pv 5) ai) aV (a0 _)))))
(au (l0 (fc CW hr (aa (pv 1) (aa (pv 2) (aa (pv 4) (aa (pv 5) av))))) (iE rfl (bX (gn 6 nd) (bX (gn 1 nd) (bX (gn 2 nd) gr))))))
bh)
(au (bK (pW (pv 3) (pv 6))))))))
(au (a9 (cQ (aa (pv 3) (aa (pv 1) (aa (pv 2) av)))))))))),?_⟩
  refine⟨bp _,fun ps FG=>?_⟩
  have s6:=aE.new (o:= .lst []) FG
  have Qh:upd H ps (.lst []) ps=some (.lst []):=ag
  generalize upd H ps (.lst [])=H6 at s6 Qh
  refine⟨rfl,fun sd g H7 s7 Uz Mb nf=>?_⟩
  have UA:=s7 _ _ Qh
  have xK:=s6.trans s7
  have YY:ps∉g.fp:=fun z=>by
   have:=nf _ z
   rw[Qh] at this
   cases this
  have nf5: ∀b∈g.fp,H b=none:=fun b hb=>s6.free (nf b hb)
  refine⟨bp _,fun pu VS=>?_⟩
  have s8:=aE.new (o:= .lst []) VS
  have UB:upd H7 pu (.lst []) pu=some (.lst []):=ag
  have UC:=s8 _ _ UA
  have UD:=Uz.same s8
  have YZ:pu∉g.fp:=Uz.off VS
  have Y0:pu≠ps:=(aK UA VS).symm
  have Y1:=xK.trans s8
  have Y2:H pu=none:=xK.free VS
  generalize upd H7 pu (.lst [])=H8 at s8 UB UC UD Y1
  refine⟨_,rfl,pa,_,rfl,.inl (bw.of (Y1 _ _ MK)),(ms.length:Int),rfl,by lia,by lia,?_⟩
  rw[dz]
  refine i8 (lo:=0) (n:=ms.length) (fun i σ H2=> ∃(ps sd:Addr) (us ws:List V) (f:fH) (x4 x5 x6:Option V),σ=[some (.ref pa),some (.ref ps),some (.ref sd),some (.ref pu),x4,x5,x6]/\aE H H2/\H2 ps=some (.lst us)/\gW H2 (dB (ds.take i) gR.new 0).2.steps us/\dk H2 sd (dB (ds.take i) gR.new 0).2.bk f/\(∀x∈f.fp,H x=none)/\ps∉f.fp/\Good (dB (ds.take i) gR.new 0).2 i/\H2 pu=some (.lst ws)/\ws.length=i/\pu∉f.fp/\pu≠ps)
   ⟨ps,sd,[],[],g,none,none,none,rfl,Y1,UC,.nil,UD,nf5,YY,Good.new,UB,rfl,YZ,Y0⟩ ?_ ?_
  ·rintro i σ H2 hi ⟨ps,sd,us,ws,f,x4,x5,x6,rfl,s2,mI,Ri,hB,Qi,FG,hG,hpu,DK,Q3,Qj⟩
   rw[gZ]
   have wR:i < ds.length:=by lia
   have qq:=af wR
   obtain⟨v0,Xg,TY⟩:=fM.get KA qq
   obtain⟨pd,rfl,hd5⟩:=FN TY
   have hd:=hd5.mono s2.tk
   have MQ:=cz _ (bN wR)
   have VO:=yL wR
   have o5:Good (dZ (dB (ds.take i) gR.new 0).2 (i:Int) ds[i]).2 (i + 1):=hG.step ds[i]
   rw[VO]
   generalize ds[i]=d at hd MQ o5
   generalize (dB (ds.take i) gR.new 0).2=TT at Ri hB hG o5
   clear VO TY hd5 qq
   refine⟨_,rfl,_,rfl,pa,_,_,.ref pd,rfl,rfl,bw.of (s2 _ _ MK),cg Xg,?_⟩
   refine⟨fun σ' H'=> ∃(v:V) (vR Di:Addr) (Dj:List V) (f':fH),σ'=[some (.ref pa),some (.ref vR),some (.ref Di),some (.ref pu),some (.int (i:Int)),some (.ref pd),some v]/\aE H H'/\H' vR=some (.lst Dj)/\gW H' (dZ TT i d).2.steps Dj/\dk H' Di (dZ TT i d).2.bk f'/\(∀x∈f'.fp,H x=none)/\vR∉f'.fp/\H' pu=some (.lst ws)/\pu∉f'.fp/\pu≠vR,?_,?_⟩
   ·obtain⟨r,hdw⟩:=HZ hd
    refine⟨_,rfl,pd,bD.word d,r,rfl,hdw,fun H3 s3=>⟨_,rfl,?_⟩⟩
    have Nw:=hd.mono s3.tk
    have Y3:=s3 _ _ hdw
    have Ht:=s3 _ _ mI
    have MY:gW H3 TT.steps us:=Ri.mono s3.tk
    have KD:=hB.same s3
    have VT:=s2.trans s3
    have KO:=s3 _ _ hpu
    have NI: ∀(R:VK),(∀t v vR Di Dj f' H',H' t=some (.tup [v,.ref vR,.ref Di])->aE H H'->H' vR=some (.lst Dj)->gW H' (dZ TT i d).2.steps Dj->dk H' Di (dZ TT i d).2.bk f'->(∀x∈f'.fp,H x=none)->vR∉f'.fp->H' pu=some (.lst ws)->pu∉f'.fp->pu≠vR->R (.ref t) H')->Nu R H3 ps f (dZ TT i d):=fun R h t v vR Di f' Dj H' ht hv hp hS hb fr fi np nq=>
     h t v vR Di Dj f' H' ht (fr.same VT Qi) hp hS hb (fun x hx=>(fi x hx).elim (Qi x) fun z=>VT.free z) np (fr _ _ Q3 KO) (fun z=>(fi pu z).elim Q3 fun q=>by rw[KO] at q; cases q) (fun z=>Qj (z.trans (nq pu _ Q3 KO z.symm)))
    by_cases ht:d.tells=true
    ·rw[yN,ht]
     have Io:H3 pd=some (.tup (bD.vs d)):=by cases d <;> first|exact Nw|cases ht
     refine fJ (fJ ⟨_,rfl,_,rfl,_,rfl,_,rfl,ps,sd,pd,i,TT,us,f,d,rfl,Ht,MY,KD,FG,Io,.inl ht,hG,(by lia),NI _ fun t v vR Di Dj f' H' ht LJ hp hS hb hn Y4 u1 u2 u3=>?_⟩)
     refine⟨t,_,rfl,cB.of ht,rfl,_,_,rfl,_,_,rfl,_,_,rfl,rfl,?_⟩
     exact⟨v,vR,Di,Dj,f',rfl,LJ,hp,hS,hb,hn,Y4,u1,u2,u3⟩
    ·rw[yN,Bool.eq_false_iff.mpr ht]
     refine bV ⟨_,rfl,pd,_,_,.str (bD.word d),rfl,rfl,cB.of Y3,Kt _ _,rfl,?_⟩
     cases d with
     |dY _ _ _ _=>exact absurd rfl ht
     |qN _ _ _=>exact absurd rfl ht
     |note _ _ _=>exact absurd rfl ht
     |set _ _ _=>exact absurd rfl ht
     |fP _=>exact absurd rfl ht
     |jd m=>
      refine⟨true,A1 _,fJ ⟨_,rfl,_,rfl,_,rfl,_,rfl,ps,sd,pd,i,TT,us,f,.jd m,rfl,Ht,MY,KD,FG,Nw,.inr ⟨m,rfl⟩,hG,(by lia),NI _ fun t v vR Di Dj f' H' ht LJ hp hS hb hn Y4 u1 u2 u3=>?_⟩⟩
      refine⟨t,_,rfl,cB.of ht,rfl,_,_,rfl,_,_,rfl,_,_,rfl,rfl,?_⟩
      exact⟨v,vR,Di,Dj,f',rfl,LJ,hp,hS,hb,hn,Y4,u1,u2,u3⟩
     |ask o wh dy=>
      refine⟨false,jL (by cases o; exact(show("free":Str)≠"undo" by decide +kernel); exact(show("owed":Str)≠"undo" by decide +kernel)),bV ?_⟩
      exact⟨_,ps,sd,us,f,rfl,VT,Ht,MY,KD,Qi,FG,KO,Q3,Qj⟩
     |iH wh dy dh=>
      refine⟨false,jL (show("ages":Str)≠"undo" by decide +kernel),bV ?_⟩
      exact⟨_,ps,sd,us,f,rfl,VT,Ht,MY,KD,Qi,FG,KO,Q3,Qj⟩
   ·rintro σ' H' ⟨v,vR,Di,Dj,f',rfl,s',Tf,YS,hB',Y5,Y6,u1,u2,u3⟩
    refine⟨_,rfl,.inl ⟨rfl,_,bw.of u1⟩,_,rfl,pu,ws,v,rfl,rfl,u1,bf (by lia),?_⟩
    exact⟨vR,Di,Dj,ws ++ [v],f',_,_,_,rfl,s'.cY Y2,by rw[aA u3.symm]; exact Tf,YS.mono (fj u1),MX hB' u1 u2,Y5,Y6,o5,ag,by rw[aH,DK]; rfl,u2,u3⟩
  ·rintro σ H2 ⟨ps,sd,us,ws,f,x4,x5,x6,rfl,s2,mI,Ri,hB,Qi,FG,hG,hpu,_⟩
   rw[← Fy,aY] at Ri hB hG
   refine⟨_,rfl,_,rfl,_,rfl,(by show 3<=sizeLine; decide),fun t nt=>?_⟩
   have s9:=aE.new (o:= .tup [V.ref pu,.ref ps,.ref sd]) nt
   exact k t _ ps sd us f _ (s2.trans s9) ag (s9 _ _ mI) (Ri.mono s9.tk) (hB.same s9) Qi FG hG
end
end eN
namespace L2
open PySem
def CY (ms:List (Nat×Nat×Int))(k:Nat):Int:=((ms.filter fun t=>decide (t.2.1=k)).map (·.2.2)).sum
def CZ (ms:List (Nat×Nat×Int))(k:Nat):Int:=((ms.filter fun t=>decide (t.1=k)).map (·.2.2)).sum
theorem Ia (ms:List (Nat×Nat×Int))(t:Nat×Nat×Int)(k:Nat):CY (ms ++ [t]) k=CY ms k + if t.2.1=k then t.2.2 else 0:=by
 unfold CY
 rw[gj,aJ,oA]
 by_cases h:t.2.1=k <;> simp[h]
theorem Ib (ms:List (Nat×Nat×Int))(t:Nat×Nat×Int)(k:Nat):CZ (ms ++ [t]) k=CZ ms k + if t.1=k then t.2.2 else 0:=by
 unfold CZ
 rw[gj,aJ,oA]
 by_cases h:t.1=k <;> simp[h]
theorem Ic {ms:List (Nat×Nat×Int)}{k:Nat}(h: ∀t∈ms,t.2.1≠k):CY ms k=0:=by
 unfold CY
 rw[List.filter_eq_nil_iff.mpr fun t ht=>by simp[h t ht]]
 rfl
theorem Ie {ms:List (Nat×Nat×Int)}{k:Nat}(h: ∀t∈ms,t.1≠k):CZ ms k=0:=by
 unfold CZ
 rw[List.filter_eq_nil_iff.mpr fun t ht=>by simp[h t ht]]
 rfl
structure Acc (S:Bk):Prop where
 m: ∀t∈S.made,t.1 < S.credits.length/\t.2.1 < S.aF.length/\1<=t.2.2/\S.dQ t.1 t.2.1=true
 b: ∀k,k < S.aF.length->(S.bl k).d=(S.bl k).c - CY S.made k/\0<=(S.bl k).d
 c: ∀k,k < S.credits.length->(S.cr k).d=(S.cr k).b - CZ S.made k/\0<=(S.cr k).d
theorem Acc.new:Acc Bk.new:=⟨(fun _ h=>by cases h),fun _ h=>absurd h (gK _),fun _ h=>absurd h (gK _)⟩
theorem Acc.iy {S:Bk}(h:Acc S){r:Rw}(e:r.d=r.c)(p:0<=r.d):Acc (S.iy r):=by
 have len:(S.iy r).aF.length=S.aF.length + 1:=by simp[Bk.iy]
 have old: ∀k,k < S.aF.length->(S.iy r).bl k=S.bl k:=fun k hk=>getD_snoc hk
 refine⟨fun t ht=>?_,fun k hk=>?_,h.c⟩
 ·obtain⟨a,b,c,d⟩:=h.m t ht
  refine⟨a,by rw[len]; lia,c,?_⟩
  rw[← d]
  unfold Bk.dQ
  rw[old _ b]
  rfl
 ·by_cases q:k < S.aF.length
  ·rw[old k q]
   exact h.b k q
  ·have q':k=S.aF.length:=by lia
   have e2:(S.iy r).bl k=r:=by rw[q']; exact getD_last
   rw[e2,show(S.iy r).made=S.made from rfl,Ic fun t ht=>by have:=(h.m t ht).2.1; lia]
   lia
theorem Acc.fS {S:Bk}(h:Acc S){r:Rw}(e:r.d=r.b)(p:0<=r.d):Acc (S.fS r):=by
 have len:(S.fS r).credits.length=S.credits.length + 1:=by simp[Bk.fS]
 have old: ∀k,k < S.credits.length->(S.fS r).cr k=S.cr k:=fun k hk=>getD_snoc hk
 refine⟨fun t ht=>?_,h.b,fun k hk=>?_⟩
 ·obtain⟨a,b,c,d⟩:=h.m t ht
  refine⟨by rw[len]; lia,b,c,?_⟩
  rw[← d]
  unfold Bk.dQ
  rw[old _ a]
  rfl
 ·by_cases q:k < S.credits.length
  ·rw[old k q]
   exact h.c k q
  ·have q':k=S.credits.length:=by lia
   have e2:(S.fS r).cr k=r:=by rw[q']; exact getD_last
   rw[e2,show(S.fS r).made=S.made from rfl,Ie fun t ht=>by have:=(h.m t ht).1; lia]
   lia
theorem Acc.put {S:Bk}(h:Acc S){c b:Nat}{x:Int}(hc:c < S.credits.length)(hb:b < S.aF.length)(hx:1<=x)(x1:x<=(S.cr c).d)(x2:x<=(S.bl b).d)(hg:S.dQ c b=true):Acc (S.put c b x):=by
 have L:Later S (S.put c b x):=Later.put hb hc (by lia)
 refine⟨fun t ht=>?_,fun k hk=>?_,fun k hk=>?_⟩
 ·rw[L.cl,L.bl,L.dQ]
  rcases bq.mp (show t∈S.made ++ [(c,b,x)] from ht) with ht|ht
  ·exact h.m t ht
  ·rw[ao.mp ht]
   exact⟨hc,hb,hx,hg⟩
 ·rw[L.bl] at hk
  rw[show(S.put c b x).made=S.made ++ [(c,b,x)] from rfl,Ia,pO hb]
  have:=h.b k hk
  by_cases e:k=b
  ·subst e
   rw[aZ rfl,aZ rfl]
   show(S.bl k).d - x=(S.bl k).c - (CY S.made k + x)/\0<=(S.bl k).d - x
   lia
  ·rw[aO e,aO (fun z=>e z.symm)]
   lia
 ·rw[L.cl] at hk
  rw[show(S.put c b x).made=S.made ++ [(c,b,x)] from rfl,Ib,pP hc]
  have:=h.c k hk
  by_cases e:k=c
  ·subst e
   rw[aZ rfl,aZ rfl]
   show(S.cr k).d - x=(S.cr k).b - (CZ S.made k + x)/\0<=(S.cr k).d - x
   lia
  ·rw[aO e,aO (fun z=>e z.symm)]
   lia
theorem sQ {ex:Bool}{c:Nat}: ∀{l:List Nat} {S:Bk},l.Nodup->Acc S->c < S.credits.length->(∀b∈l,b < S.aF.length/\0 < (S.bl b).d)->Acc (l.foldl (bT ex c) S)/\(l.foldl (bT ex c) S).credits.length=S.credits.length/\(l.foldl (bT ex c) S).aF.length=S.aF.length
 |[],S,_,h,_,_=>⟨h,rfl,rfl⟩
 |b :: l,S,nd,h,hc,hl=>by
  rw[eZ]
  rw[eu] at nd
  obtain⟨hb,pb⟩:=hl b bc
  by_cases q:0 < (S.cr c).d/\S.dQ c b=true/\((S.cr c).d=(S.bl b).d∨ex=false)
  ·have e:bT ex c S b=S.put c b (gQ (S.cr c).d (S.bl b).d):=aZ q
   rw[e]
   have mn:1<=gQ (S.cr c).d (S.bl b).d/\gQ (S.cr c).d (S.bl b).d<=(S.cr c).d/\gQ (S.cr c).d (S.bl b).d<=(S.bl b).d:=by
    unfold gQ
    split <;> lia
   have L:Later S (S.put c b (gQ (S.cr c).d (S.bl b).d)):=Later.put hb hc (by lia)
   obtain⟨r1,r2,r3⟩:=sQ (ex:=ex) nd.2 (h.put hc hb mn.1 mn.2.1 mn.2.2 q.2.1) (by rw[L.cl]; exact hc) (fun b' tW=>by
    obtain⟨u1,u2⟩:=hl b' (aS _ tW)
    refine⟨by rw[L.bl]; exact u1,?_⟩
    have nb:b'≠b:=fun z=>nd.1 (z▸tW)
    rw[pO hb,aO nb]
    exact u2)
   exact⟨r1,r2.trans L.cl,r3.trans L.bl⟩
  ·have e:bT ex c S b=S:=aO q
   rw[e]
   exact sQ nd.2 h hc fun b' tW=>hl b' (aS _ tW)
theorem nW {ex:Bool}{aC:Str}: ∀{l:List Nat} {S:Bk},Acc S->(∀c∈l,c < S.credits.length)->Acc (l.foldl (cq aC ex) S)
 |[],_,h,_=>h
 |c :: l,S,h,hl=>by
  rw[eZ]
  obtain⟨r1,r2,_⟩:=sQ (ex:=ex) (jI S.aF aC (·.b)) h (hl c bc) (fun b hb=>⟨(dv.mp hb).1,(dv.mp hb).2.2⟩)
  exact nW r1 fun c' N4=>by
   show c' < (cq aC ex S c).credits.length
   rw[show(cq aC ex S c).credits.length=S.credits.length from r2]
   exact hl c' (aS _ N4)
theorem Acc.iV {S:Bk}(h:Acc S)(aC:Str):Acc (S.iV aC):=
 nW (nW h fun c hc=>(dv.mp hc).1) fun c hc=>(dv.mp hc).1
theorem Acc.enter {S:Bk}(h:Acc S){d:bD}(hb:S.bar d=""):Acc (S.enter d):=by
 cases d with
 |dY w dy u a=>
  refine h.iy rfl ?_
  have tW:(if a < 1 then("no amount":Str) else if u < dy then("too early":Str) else("":Str))="":=hb
  split at tW
  ·exact absurd tW n4
  ·show 0<=a; lia
 |qN w dy a=>
  refine h.fS rfl ?_
  have tW:(if a < 1 then("no amount":Str) else("":Str))="":=hb
  split at tW
  ·exact absurd tW n4
  ·show 0<=a; lia
 |note b dy a=>
  refine h.fS rfl ?_
  have:=(oh hb).2
  show 0<=a
  lia
 |set c b a=>
  obtain⟨⟨c1,c2⟩,⟨b1,b2⟩,g,x,m1,m2⟩:=m9 hb
  exact h.put (by lia) (by lia) x m1 m2 g
 |fP w=>exact h.iV w
 |jd m=>exact h
 |ask o w d=>exact h
 |iH w d l=>exact h
theorem wx: ∀(l:List (Int×bD)) {S T:Bk},Acc S->cI l S=some T->Acc T
 |[],S,T,h,e=>by
  cases e
  exact h
 |(k,d) :: l,S,T,h,e=>by
  unfold cI at e
  split at e
  ·rename_i hb
   exact wx l (h.enter hb) e
  ·cases e
theorem Good.acc {T:gR}{n:Nat}(h:Good T n):Acc T.bk:=wx T.steps Acc.new h.w
theorem KP {l m:List Int}(h:l.Perm m):l.sum=m.sum:=by
 induction h with
 |nil=>rfl
 |cons x _ ih=>rw[cL,cL,ih]
 |swap x y l=>rw[cL,cL,cL,cL]; lia
 |trans _ _ a b=>exact a.trans b
theorem nX {α:Type}(f:α->Int): ∀l:List α,(∀x∈l,0<=f x)->((l.filter fun x=>decide (0 < f x)).map f).sum=(l.map f).sum
 |[],_=>rfl
 |x :: l,h=>by
  have ih:=nX f l fun y hy=>h y (aS _ hy)
  have hx:=h x bc
  by_cases c:0 < f x
  ·rw[List.filter_cons_of_pos (by simpa using c),List.map_cons,List.map_cons,List.sum_cons,List.sum_cons,ih]
  ·rw[List.filter_cons_of_neg (by simpa using c),List.map_cons,List.sum_cons,ih]
   lia
theorem FV {α:Type}(f g:α->Int): ∀l:List α,(l.map fun x=>f x - g x).sum=(l.map f).sum - (l.map g).sum
 |[]=>rfl
 |x :: l=>by
  rw[bM,bM,bM,cL,cL,cL,FV f g l]
  lia
theorem sum_add {α:Type}(f g:α->Int): ∀l:List α,(l.map fun x=>f x + g x).sum=(l.map f).sum + (l.map g).sum
 |[]=>rfl
 |x :: l=>by
  rw[bM,bM,bM,cL,cL,cL,sum_add f g l]
  lia
theorem wy {α:Type}{f:α->Int}: ∀l:List α,(∀x∈l,f x=0)->(l.map f).sum=0
 |[],_=>rfl
 |x :: l,h=>by rw[bM,cL,h x bc,wy l fun y hy=>h y (aS _ hy)]; rfl
theorem KQ {k:Nat}{x:Int}: ∀l:List Nat,l.Nodup->(l.map fun j=>if k=j then x else 0).sum=if k∈l then x else 0
 |[],_=>rfl
 |j :: l,nd=>by
  rw[eu] at nd
  rw[bM,cL]
  by_cases e:k=j
  ·subst e
   rw[aZ rfl,aZ bc,wy l fun y hy=>aO fun(z:k=y)=>nd.1 (z▸hy)]
   lia
  ·rw[aO e,KQ l nd.2]
   by_cases c:k∈l
   ·rw[aZ c,aZ (aS _ c)]; lia
   ·rw[aO c,aO (fun z=>(aw.mp z).elim e c)]; lia
theorem C0 (sp:Nat×Nat×Int->Nat)(q:Nat×Nat×Int->Bool)(ks:List Nat)(nd:ks.Nodup): ∀ms:List (Nat×Nat×Int),(ks.map fun k=>((ms.filter fun t=>decide (sp t=k) && q t).map (·.2.2)).sum).sum=((ms.filter fun t=>decide (sp t∈ks) && q t).map (·.2.2)).sum
 |[]=>wy ks fun _ _=>rfl
 |t :: ms=>by
  have ih:=C0 sp q ks nd ms
  have e: ∀k,(((t :: ms).filter fun t=>decide (sp t=k) && q t).map (·.2.2)).sum=(if sp t=k then(if q t=true then t.2.2 else 0) else 0) + ((ms.filter fun t=>decide (sp t=k) && q t).map (·.2.2)).sum:=fun k=>by
   by_cases c:(decide (sp t=k) && q t)=true
   ·rw[bS (p:=fun t=>decide (sp t=k) && q t) c,bM,cL]
    have c':sp t=k/\q t=true:=by simpa using c
    rw[aZ c'.1,aZ c'.2]
   ·rw[eA (p:=fun t=>decide (sp t=k) && q t) c]
    by_cases c1:sp t=k
    ·rw[if_pos c1,if_neg (fun z=>c (by simp[c1,z]))]
     lia
    ·rw[aO c1]
     lia
  rw[fO (fun k _=>e k),sum_add,ih,KQ ks nd]
  by_cases c:(decide (sp t∈ks) && q t)=true
  ·rw[bS (p:=fun t=>decide (sp t∈ks) && q t) c,bM,cL]
   have c':sp t∈ks/\q t=true:=by simpa using c
   rw[aZ c'.1,aZ c'.2]
  ·rw[eA (p:=fun t=>decide (sp t∈ks) && q t) c]
   by_cases c1:sp t∈ks
   ·rw[if_pos c1,if_neg (fun z=>c (by simp[c1,z]))]
    lia
   ·rw[aO c1]
    lia
def ix (rows:List Rw)(aC:Str)(day:Int):List Nat:=(List.range rows.length).filter fun k=>decide ((rows.getD k default).aC=aC) && decide ((rows.getD k default).a<=day)
theorem C1 (rows:List Rw)(aC:Str)(day:Int):(ix rows aC day).Nodup:=jB.filter _
theorem yO {rows:List Rw}{aC:Str}{day:Int}{k:Nat}:k∈ix rows aC day↔k < rows.length/\(rows.getD k default).aC=aC/\(rows.getD k default).a<=day:=by
 unfold ix
 rw[dM,cW]
 simp
theorem C2 (rows:List Rw)(aC:Str)(key:Rw->Int):(inOrder rows aC key).Perm ((List.range rows.length).filter fun k=>decide ((rows.getD k default).aC=aC)):=by
 unfold inOrder gq
 have h:=(cS (((List.range rows.length).filter fun k=>decide ((rows.getD k default).aC=aC)).map fun k=>(key (rows.getD k default),k))).map (·.2)
 rw[dD] at h
 have e:((fun x:Int×Nat=>x.2) ∘ fun k=>(key (rows.getD k default),k))=id:=rfl
 rw[e,tS] at h
 exact h
theorem KR (q:Nat×Nat×Int->Bool): ∀ms:List (Nat×Nat×Int),(∀t∈ms,1<=t.2.2)-> ∀p:Nat×Nat×Int->Bool,((ms.filter fun t=>p t && q t).map (·.2.2)).sum<=((ms.filter p).map (·.2.2)).sum
 |[],_,_=>fv _
 |t :: ms,h,p=>by
  have ih:=KR q ms (fun u hu=>h u (aS _ hu)) p
  have ht:=h t bc
  by_cases c1:p t=true
  ·by_cases c2:q t=true
   ·rw[List.filter_cons_of_pos (p:=fun t=>p t && q t) (by simp[c1,c2]),List.filter_cons_of_pos c1,List.map_cons,List.map_cons,List.sum_cons,List.sum_cons]
    lia
   ·rw[List.filter_cons_of_neg (p:=fun t=>p t && q t) (by simp[c2]),List.filter_cons_of_pos c1,List.map_cons,List.sum_cons]
    lia
  ·rw[List.filter_cons_of_neg (p:=fun t=>p t && q t) (by simp[c1]),List.filter_cons_of_neg c1]
   exact ih
theorem C3 {S:Bk}(h:Acc S){o:Bool}{k:Nat}(hk:k < (S.rows o).length)(day:Int):0<=S.rest o k day:=by
 have c:=KR (fun t=>decide (S.fh t<=day)) S.made (fun t ht=>(h.m t ht).2.2.1) (fun t=>decide (spotOf o t=k))
 unfold Bk.rest
 have e:S.cnt o k day=fun t=>decide (spotOf o t=k) && decide (S.fh t<=day):=rfl
 rw[e]
 cases o with
 |true=>
  have:=h.b k hk
  have e2:((S.made.filter fun t=>decide (spotOf true t=k)).map (·.2.2)).sum=CY S.made k:=rfl
  rw[e2] at c
  show 0<=(S.bl k).c - _
  lia
 |false=>
  have:=h.c k hk
  have e2:((S.made.filter fun t=>decide (spotOf false t=k)).map (·.2.2)).sum=CZ S.made k:=rfl
  rw[e2] at c
  show 0<=(S.cr k).b - _
  lia
theorem yP {S:Bk}(h:Acc S)(o:Bool)(aC:Str)(day:Int):((S.dH o aC day).map (·.2)).sum=((ix (S.rows o) aC day).map fun k=>qO o ((S.rows o).getD k default)).sum - ((S.made.filter fun t=>decide (spotOf o t∈ix (S.rows o) aC day) && decide (S.fh t<=day)).map (·.2.2)).sum:=by
 rw[← C0 (spotOf o) (fun t=>decide (S.fh t<=day)) _ (C1 _ _ _),← FV]
 unfold Bk.dH
 rw[dD]
 have e1:((inOrder (S.rows o) aC (keyOf o)).filter fun k=>decide (((S.rows o).getD k default).a<=day) && decide (0 < S.rest o k day))=(((inOrder (S.rows o) aC (keyOf o)).filter fun k=>decide (((S.rows o).getD k default).a<=day)).filter fun k=>decide (0 < S.rest o k day)):=by
  rw[iz]
  apply i6
  intro k _
  rw[Bool.and_comm]
 rw[e1]
 have e2:((fun t:Nat×Int=>t.2) ∘ fun k=>(k,S.rest o k day))=fun k=>S.rest o k day:=rfl
 rw[e2,nX (fun k=>S.rest o k day) _ (fun k hk=>C3 h (jo.mp (dM.mp hk).1).1 day)]
 have pm:((inOrder (S.rows o) aC (keyOf o)).filter fun k=>decide (((S.rows o).getD k default).a<=day)).Perm (ix (S.rows o) aC day):=by
  have:=(C2 (S.rows o) aC (keyOf o)).filter fun k=>decide (((S.rows o).getD k default).a<=day)
  rw[iz] at this
  have e3:(fun a=>decide (((S.rows o).getD a default).a<=day) && decide (((S.rows o).getD a default).aC=aC))=fun k=>decide (((S.rows o).getD k default).aC=aC) && decide (((S.rows o).getD k default).a<=day):=by
   funext k
   rw[Bool.and_comm]
  rw[e3] at this
  exact this
 exact KP (pm.map _)
theorem AV {S:Bk}(h:Acc S)(aC:Str)(day:Int):((S.dH true aC day).map (·.2)).sum - ((S.dH false aC day).map (·.2)).sum=((ix S.aF aC day).map fun k=>(S.bl k).c).sum - ((ix S.credits aC day).map fun k=>(S.cr k).b).sum:=by
 rw[yP h,yP h]
 have e:(S.made.filter fun t=>decide (spotOf true t∈ix (S.rows true) aC day) && decide (S.fh t<=day))=(S.made.filter fun t=>decide (spotOf false t∈ix (S.rows false) aC day) && decide (S.fh t<=day)):=by
  apply i6
  intro t ht
  obtain⟨m1,m2,_,g⟩:=h.m t ht
  by_cases c:S.fh t<=day
  ·have gw:(S.cr t.1).aC=(S.bl t.2.1).aC:=by
    unfold Bk.dQ at g
    rw[ug] at g
    exact aM g.1
   have l1:(S.bl t.2.1).a<=day/\(S.cr t.1).a<=day:=by
    unfold Bk.fh at c
    split at c <;> lia
   have q1:spotOf true t∈ix (S.rows true) aC day↔(S.bl t.2.1).aC=aC:=by
    rw[yO]
    exact⟨fun z=>z.2.1,fun z=>⟨m2,z,l1.1⟩⟩
   have q2:spotOf false t∈ix (S.rows false) aC day↔(S.cr t.1).aC=aC:=by
    rw[yO]
    exact⟨fun z=>z.2.1,fun z=>⟨m1,z,l1.2⟩⟩
   have q:spotOf true t∈ix (S.rows true) aC day↔spotOf false t∈ix (S.rows false) aC day:=by rw[q1,q2,gw]
   rw[jC.mpr q]
  ·rw[ba c,ig,ig]
 rw[e]
 show(((ix S.aF aC day).map fun k=>(S.bl k).c).sum - _) - (((ix S.credits aC day).map fun k=>(S.cr k).b).sum - _)=_
 lia
end L2
namespace eN
open PySem L2 PyProof.Rows K3
seal L2.oQ L2.PS L2.PE L2.PT L2.PW L2.PA L2.PC L2.PG L2.KW L2.PI L2.LC L2.KZ L2.PO L2.oE L2.M8 L2.iT L2.IW L2.Og
section
variable {P:Program}{w:World}{K:Frag}{mg:Str->Option Value}{base:Heap}
inductive UE (K:Frag)(vs:List V)(H:Hp)(Q:VK)(E':XK):Prop
 |mk (a:Addr)(ns:List Int)(k:Nat)(h1:vs=[.ref a,.int k])(h2:bw K H a (ns.map V.int))(h3: ∀i:Int,Q (.int i) H):UE K vs H Q E'
theorem EC:aW ["_law_script","_law_k"] ["_law_script","_law_k"] (ax (top 46)):={}
theorem Ig (T:Txt K mg):fb P w K mg base "_law_at" 1 ["_law_script","_law_k"] (UE K):=by
 refine T.G6.fC (k:=0) EC (fun f cU A outer s H vs Q E hr h=>?_)
 ·obtain⟨a,ns,k,rfl,hS,q⟩:=h
  refine⟨_,(ah (bP (aX jU (pv 1) (mK T.dR (pv 0)) (a0 _))
(au (a9 (xl (pv 0) (pv 1))))
bh)
(au (a9 ai))),?_⟩
  refine⟨_,rfl,_,rfl,a,_,rfl,.inl hS,_,_,rfl,rfl,_,rfl,cv (fun z=>?_) (fun _=>q 0)⟩
  have z':(k:Int) < ((ns.map V.int).length:Int):=aM z
  have hk:k < ns.length:=by rw[ae] at z'; lia
  exact⟨_,rfl,_,rfl,a,_,_,.int (ns.getD k 0),rfl,rfl,hS,pZ hk,q _⟩
def lj (pr:List (Str×Int)):List bD:=pr.flatMap fun x=>[.ask true x.1 x.2,.ask false x.1 x.2]
theorem Ih (pr:List (Str×Int))(x:Str×Int):lj (pr ++ [x])=lj pr ++ [.ask true x.1 x.2,.ask false x.1 x.2]:=by
 unfold lj
 rw[List.flatMap_append]
 simp
theorem rN (pr:List (Str×Int)):(lj pr).length=2 * pr.length:=by
 induction pr with
 |nil=>rfl
 |cons x pr ih=>
  have e:lj (x :: pr)= .ask true x.1 x.2 :: .ask false x.1 x.2 :: lj pr:=rfl
  rw[e,bH,bH,ih,bH]
  lia
theorem C4: ∀{pr:List (Str×Int)} {k:Nat} {x:Str×Int},pr[k]? =some x->(lj pr)[2 * k]? =some (.ask true x.1 x.2)/\(lj pr)[2 * k + 1]? =some (.ask false x.1 x.2)
 |[],_,_,h=>by simp at h
 |y :: pr,0,x,h=>by
  have e:y=x:=by simpa using h
  subst e
  exact⟨rfl,rfl⟩
 |y :: pr,k + 1,x,h=>by
  have e:lj (y :: pr)= .ask true y.1 y.2 :: .ask false y.1 y.2 :: lj pr:=rfl
  have ih:=C4 (pr:=pr) (k:=k) (x:=x) (by simpa using h)
  rw[e,show 2 * (k + 1)=2 * k + 1 + 1 by lia]
  exact⟨by simpa using ih.1,by simpa using ih.2⟩
theorem tN: ∀(l m:List bD) (T:gR) (n:Nat),dB (l ++ m) T n=((dB l T n).1 ++ (dB m (dB l T n).2 (n + l.length)).1,(dB m (dB l T n).2 (n + l.length)).2)
 |[],m,T,n=>rfl
 |d :: l,m,T,n=>by
  show((dZ T n d).1 :: (dB (l ++ m) (dZ T n d).2 (n + 1)).1,(dB (l ++ m) (dZ T n d).2 (n + 1)).2)=_
  rw[tN l m,show n + 1 + l.length=n + (d :: l).length by rw[bH]; lia]
  rfl
theorem yQ: ∀(m:List bD) (T:gR) (n:Nat),(∀d∈m,(∃o w y,d= .ask o w y)∨ ∃w y l,d= .iH w y l)->(dB m T n).2=T/\ ∀(i:Nat) (d:bD),m[i]? =some d->(dB m T n).1[i]? =some (dZ T 0 d).1
 |[],T,n,_=>⟨rfl,fun i d h=>by simp at h⟩
 |e :: m,T,n,h=>by
  have he:(dZ T n e).2=T/\(dZ T n e).1=(dZ T 0 e).1:=by
   rcases h e bc with⟨o,w,y,rfl⟩|⟨w,y,l,rfl⟩
   ·exact⟨rfl,rfl⟩
   ·exact⟨rfl,rfl⟩
  obtain⟨h1,h2⟩:=yQ m T (n + 1) fun d hd=>h d (aS _ hd)
  have eq:dB (e :: m) T n=((dZ T n e).1 :: (dB m T (n + 1)).1,(dB m T (n + 1)).2):=by
   show((dZ T n e).1 :: (dB m (dZ T n e).2 (n + 1)).1,(dB m (dZ T n e).2 (n + 1)).2)=_
   rw[he.1]
  rw[eq]
  refine⟨h1,fun i d hd=>?_⟩
  cases i with
  |zero=>
   have e2:e=d:=by simpa using hd
   subst e2
   show some (dZ T n e).1=_
   rw[he.2]
  |succ i=>exact h2 i d (by simpa using hd)
theorem yR {H:Hp}{rs:List Rw}{ps:List Addr}(h:eU H rs ps){a:Addr}(ha:a∈ps): ∃xs,H a=some (.lst xs):=by
 induction h with
 |nil=>cases ha
 | @cons r p rs ps hr t ih=>
  rcases aw.mp ha with ha|ha
  ·rw[ha]
   exact⟨_,hr⟩
  ·exact ih ha
theorem MZ {H:Hp}{sd a:Addr}{S:Bk}{f:fH}(h:dk H sd S f)(hb:a∈f.fp): ∃xs,H a=some (.lst xs):=by
 obtain⟨ms,m1,_⟩:=h.hm
 unfold fH.fp at hb
 rcases aw.mp hb with z|z
 ·rw[z]; exact⟨_,h.hb⟩
 rcases aw.mp z with z|z
 ·rw[z]; exact⟨_,h.hc⟩
 rcases aw.mp z with z|z
 ·rw[z]; exact⟨_,m1⟩
 rcases bq.mp z with z|z
 ·exact yR h.rb z
 ·exact yR h.rc z
theorem Qk {H H':Hp}{sd:Addr}{S:Bk}{f:fH}(h:dk H sd S f)(k: ∀a o,H a=some o->(∀ps,o≠ .mO ps)->H' a=some o):dk H' sd S f:=by
 refine h.keep (fun b o hb e=>?_) (fun a xs e=>k _ _ e (fun _ z=>by cases z))
 refine k _ _ e (fun ps z=>?_)
 rcases hb with hb|hb
 ·rw[hb,h.dict,z] at e
  cases e
 ·obtain⟨xs,q⟩:=MZ h hb
  rw[q,z] at e
  cases e
def C5 (H:Hp)(pr:List (Str×Int))(ws:List V):Prop:=Paired (fun(x:Str×Int) v=> ∃p,v= .ref p/\H p=some (.tup [.str x.1,.int x.2])) pr ws
theorem C5.mono {H H':Hp}{pr:List (Str×Int)}{ws:List V}(h:C5 H pr ws)(k:cG H H'):C5 H' pr ws:=Paired.iD h fun _ _ ⟨p,e,q⟩=>⟨p,e,k _ _ q⟩
def pA (names:List Str)(d1 d2:Int):List (Str×Int):=names.flatMap fun n=>[(n,d1),(n,d2)]
theorem ED (names:List Str)(d1 d2:Int)(n:Str):pA (names ++ [n]) d1 d2=pA names d1 d2 ++ [(n,d1),(n,d2)]:=by
 unfold pA
 rw[List.flatMap_append]
 simp
theorem yS (names:List Str)(d1 d2:Int):(pA names d1 d2).length=2 * names.length:=by
 induction names with
 |nil=>rfl
 |cons x l ih=>
  have e:pA (x :: l) d1 d2=(x,d1) :: (x,d2) :: pA l d1 d2:=rfl
  rw[e,bH,bH,ih,bH]
  lia
def wt (aC:Str)(day:Int)(r:Rw):Int:=if r.aC=aC/\r.a<=day then 1 else 0
theorem C6 (rows:List Rw)(aC:Str)(day:Int)(g:Rw->Int):((ix rows aC day).map fun k=>g (rows.getD k default)).sum=(rows.map fun r=>g r * wt aC day r).sum:=by
 have e:=sx rows (default:Rw)
 have e2:(rows.map fun r=>g r * wt aC day r)=(List.range rows.length).map fun k=>g (rows.getD k default) * wt aC day (rows.getD k default):=by
  have:(rows.map fun r=>g r * wt aC day r)=((List.range rows.length).map fun j=>rows.getD j default).map fun r=>g r * wt aC day r:=by rw[e]
  rw[this,dD]; rfl
 rw[e2]
 unfold ix
 generalize List.range rows.length=ks
 induction ks with
 |nil=>rfl
 |cons k ks ih=>
  rw[bM,cL,← ih]
  by_cases c:(rows.getD k default).aC=aC/\(rows.getD k default).a<=day
  ·rw[List.filter_cons_of_pos (by simp only[Bool.and_eq_true,decide_eq_true_eq]; exact c),List.map_cons,List.sum_cons]
   have w1:wt aC day (rows.getD k default)=1:=aZ c
   rw[w1,Int.mul_one]
  ·rw[List.filter_cons_of_neg (by simp only[Bool.and_eq_true,decide_eq_true_eq]; exact c)]
   have w1:wt aC day (rows.getD k default)=0:=aO c
   rw[w1,Int.mul_zero,gZ]
theorem C7 {rows:List Rw}{g:Rw->Int}{i:Nat}(h:i < rows.length):((rows.take (i + 1)).map g).sum=((rows.take i).map g).sum + g (rows.getD i default):=by
 rw[gX h,aJ,oA,aj,af h]
 simp
theorem wz (S:Bk){n:Nat}(wf:WF S n)(hn:n<=60)(o:Bool)(aC:Str)(day:Int):(yo.pairs (S.dH o aC day)).dt.size<=100000/\(yo.pairs (S.dH o aC day)).dt.plain=true:=by
 have h1:=yM (fun t:Nat×Int=>Dt.tup [.int t.1,.int t.2]) 3 (S.dH o aC day) (fun x _=>aI _)
 have h2:(S.dH o aC day).length<=(S.rows o).length:=sG
 have h3:(S.rows o).length<=60:=by
  have:=wf.lb
  have:=wf.lc
  cases o
  ·show S.credits.length<=60; lia
  ·show S.aF.length<=60; lia
 refine⟨?_,EB _ _ fun x _=>rfl⟩
 show 1 + Dt.fY ((S.dH o aC day).map fun t=>Dt.tup [.int t.1,.int t.2])<=100000
 lia
theorem KS:aW ["_law_script","_law_cells","_law_asked","_law_state","_law_seed","_law_days","_law_pairs","_law_who","_law_day","_law_more","_law_found","_law_k","_law_spot","_law_due","_law_row","_law_owed"] ["_law_script"] (ax (top 66)):={}
theorem Ql {cps:List (Addr×Addr)}{f:Addr}{fd:FuncData}(F:gx K "law" "law" (top 66) f fd)(T:Txt K mg){A:eh}{tB tC:Addr}(G:jJ K mg A)(DB:qr K mg "bills_in_order" (top 17) tB)(DC:qr K mg "credits_in_order" (top 18) tC)(jy:tB≠tC)(hnd:A.jf≠A.tooMuch)(KB:K.In base)(BM:BMain mg base)(Xm: ∃c,(c,tB)∈cps)(hcC: ∃c,(c,tC)∈cps):l4 P w K mg base sk 13 f fd ["_law_script"] (KL K cps):=by
 have Ij:fb P w K mg base "answers" 12 ["deeds"] (sP A tB tC):=HX T G DB DC jy hnd KB BM
 have C8:=CS (P:=P) (w:=w) (base:=base) T
 have AW:=AS (P:=P) (w:=w) (base:=base) T
 have rO:=AL (P:=P) (w:=w) (base:=base) T
 have yT:=Ig (P:=P) (w:=w) (base:=base) T
 have k9:=oX (P:=P) (w:=w) (base:=base) T
 have pB:=xF (P:=P) (w:=w) (base:=base) T
 have oP:=oO (P:=P) (w:=w) (base:=base) T
 refine F.ok (k:=12) KS (fun vs H Q E h=>?_) (fun cU A' outer s H vs Q E hr h=>?_)
 ·obtain⟨a,ns,rfl,_⟩:=h
  rfl
 ·obtain⟨a,ns,rfl,hS,hz,hO,k⟩:=h
  have kA:lu H tB:=let⟨c,hc⟩:=Xm; KJ (hO _ hc)
  have jR:lW H tC:=let⟨c,hc⟩:=hcC; KJ (hO _ hc)
  have nd:=KS.nd
  have hu:=jV hr
  refine⟨_,(ah (sv 1 nd (qD uj (pv 0) (qC ai) (qC (aQ cJ ai (fc C8 hr (aa (pv 0) (aa ai (aa ai av))))))))
(ah (sv 2 nd (fc AW hr (aa (pv 1) av)))
(ah (sv 3 nd (xt (fc oP hr (aa (pv 2) av)) ai))
(ah (sv 4 nd (aQ cJ (fc yT hr (aa (pv 0) (aa ai av))) (fc yT hr (aa (pv 0) (aa ai av)))))
(ah (sv 5 nd (bQ (aa (aQ eM (aQ b9 (pv 4) ai) ai) (aa (aQ i9 ai ai) av))))
(ah (sv 6 nd (bQ av))
(ah (dW bu rfl (cF (fc k9 hr (aa (pv 1) av))) (gn 7 nd)
(au (dW bu rfl (cF (pv 5)) (gn 8 nd)
(au (bK (pW (pv 6) (cQ (aa (pv 7) (aa (pv 8) av)))))))))
(ah (sv 9 nd (bQ av))
(ah (dW bu rfl (cF (pv 6)) (iE rfl (bX (gn 7 nd) (bX (gn 8 nd) gr)))
(au (sv 9 nd (aQ l6 (pv 9) (bQ (aa (cQ (aa aV (aa (pv 7) (aa (pv 8) av)))) (aa (cQ (aa aV (aa (pv 7) (aa (pv 8) av)))) av)))))))
(ah (sv 10 nd (fc Ij hr (aa (aQ l6 (pv 2) (pv 9)) av)))
(ah (bP (PW.pt (pw_or (jS (gp (cE eR (by rfl) T.dm eB (aa (pv 10) (aa (gN (v:= .ty "list") (by rfl) T.vz boot_list rfl) av))))) (pw_or1 (aX oT (mK T.dR (pv 10)) (aQ cJ (mK T.dR (pv 2)) (mK T.dR (pv 9))) (a0 _)))))
(au (a9 kH))
bh)
(ah (dW bu rfl (ij rfl T.kM (aa (mK T.dR (pv 6)) av)) (gn 11 nd)
(ah (l0 (xl (pv 6) (pv 11)) (iE rfl (bX (gn 7 nd) (bX (gn 8 nd) gr))))
(ah (sv 12 nd (aQ cJ (mK T.dR (pv 2)) (aQ jx ai (pv 11))))
(ah (bP (jS (gp (fc rO hr (aa (xl (pv 10) (pv 12)) (aa (fc pB hr (aa (pv 3) (aa (pv 7) (aa (pv 8) (aa ai av))))) av)))))
(au (a9 kH))
bh)
(ah (bP (jS (gp (fc rO hr (aa (xl (pv 10) (aQ cJ (pv 12) ai)) (aa (fc pB hr (aa (pv 3) (aa (pv 7) (aa (pv 8) (aa ai av))))) av)))))
(au (a9 kH))
bh)
(ah (sv 13 nd ai)
(ah (dW bu rfl (cF (cD hu (pv 3) aV (fun _ _=>rfl))) (gn 14 nd)
(au (sv 13 nd (aQ cJ (pv 13) (aQ jx (xl (pv 14) ai) (gg ja (by rfl) T.tj NW (aa (mQ (eF cK (xl (pv 14) ai) (pv 7) (a0 _)) (lZ (eF oU (xl (pv 14) ai) (pv 8) (a0 _)))) av)))))))
(ah (dW bu rfl (cF (cD hu (pv 3) aV (fun _ _=>rfl))) (gn 14 nd)
(au (sv 13 nd (aQ eM (pv 13) (aQ jx (xl (pv 14) ai) (gg ja (by rfl) T.tj NW (aa (mQ (eF cK (xl (pv 14) ai) (pv 7) (a0 _)) (lZ (eF oU (xl (pv 14) ai) (pv 8) (a0 _)))) av)))))))
(ah (sv 15 nd (cE (lF rfl) (by rfl) T.BK boot_sum (aa (gy (tn:=["_law_one"]) (cn:=[]) (cj:=[]) rfl um (cF (xl (pv 10) (pv 12))) (fun _ _ _ _=>(eE (i:=0) (show(["_law_one"]:List Str).Nodup by decide +kernel) rfl (Or.inl rfl))) (fun _ _ _ _=>k4) (fun _ _ _ _=>(iU (kJ (K:=K) rfl) (pv 0) ai (fun _ _=>rfl)))) av)))
(au (bP (aX oT (aQ eM (pv 15) (cE (lF rfl) (by rfl) T.BK boot_sum (aa (gy (tn:=["_law_one"]) (cn:=[]) (cj:=[]) rfl um (cF (xl (pv 10) (aQ cJ (pv 12) ai))) (fun _ _ _ _=>(eE (i:=0) (show(["_law_one"]:List Str).Nodup by decide +kernel) rfl (Or.inl rfl))) (fun _ _ _ _=>k4) (fun _ _ _ _=>(iU (kJ (K:=K) rfl) (pv 0) ai (fun _ _=>rfl)))) av))) (pv 13) (a0 _))
(au (a9 kH))
bh)))))))))))
(au (a9 kH)))))))))))))),?_⟩
  refine⟨_,rfl,_,rfl,_,rfl,a,_,24,140,rfl,hS,(by rw[ae]; exact hz),_,_,rfl,rfl,_,rfl,a,_,rfl,hS,fun pc nc=>?_⟩
  obtain⟨cs,ecs⟩:=MW ns (some 2) (some (2 + 24))
  have qS:cs.length<=24:=by
   have h:=MV (ns.map V.int) 2 26 (by decide)
   have e:qE (ns.map V.int) (some ((2:Nat):Int)) (some ((26:Nat):Int))=cs.map V.int:=ecs
   rw[e,ae] at h
   exact h
  rw[ecs]
  have s1:=aE.new (o:= .lst (cs.map V.int)) nc
  have VU:upd H pc (.lst (cs.map V.int)) pc=some (.lst (cs.map V.int)):=ag
  generalize upd H pc (.lst (cs.map V.int))=H1 at s1 VU
  refine⟨_,rfl,pc,cs,rfl,bw.of VU,(by lia),fun pa ds ms H2 s2 MK KA FU cz=>?_⟩
  have S2:=s1.trans s2
  have UG:=s2 _ _ VU
  refine⟨_,rfl,pa,ds,ms,rfl,MK,KA,(by lia),cz,fun t v ps sd us g H3 s3 ht mI Ri Uz Qi FG hG=>?_⟩
  refine⟨t,_,_,.ref sd,rfl,rfl,cB.of ht,rfl,?_⟩
  have UH:=s3 _ _ MK
  have Qm:=KA.mono s3.tk
  have UI:=s3 _ _ UG
  have S3:=S2.trans s3
  have rF:lu H3 tB:=bL kA S3
  have rG:lW H3 tC:=bL jR S3
  have Y7:=S3.seq hS
  clear s1 s2 s3 S2 S3 kA jR MK KA VU UG hS
  have Fy:=fM.length Qm
  refine⟨_,rfl,a,ns,0,rfl,Y7,fun i0=>?_⟩
  refine⟨_,rfl,a,ns,1,rfl,Y7,fun i1=>⟨_,_,rfl,rfl,?_⟩⟩
  refine⟨_,rfl,_,_,rfl,rfl,(by show(0:Int) < 22; decide),_,_,rfl,rfl,_,_,rfl,rfl,⟨by decide,by decide,by decide⟩,(by show 2<=sizeLine; decide),fun pd nd1=>?_⟩
  dsimp only
  have s4:=aE.new (o:= .lst [V.int ((i0 + i1) % 22 - 5),.int (10 ^ (12:Int).toNat)]) nd1
  generalize lE:(i0 + i1) % 22 - 5=d1 at s4
  generalize hd2:(10:Int) ^ (12:Int).toNat=d2 at s4
  have Cq:upd H3 pd (.lst [V.int d1,.int d2]) pd=some (.lst [V.int d1,.int d2]):=ag
  have Qn:=s4 _ _ UH
  have Qo:=Qm.mono s4.tk
  have Qp:=s4 _ _ UI
  have rH:lu _ tB:=bL rF s4
  have rJ:lW _ tC:=bL rG s4
  have Qq:=Uz.same s4
  generalize upd H3 pd (.lst [V.int d1,.int d2])=H4 at s4 Cq Qn Qo Qp rH rJ Qq
  clear s4 lE hd2 UH Qm UI rF rG Uz Y7
  refine⟨bp _,fun pp Qj=>?_⟩
  have s5:=aE.new (o:= .lst []) Qj
  have Qr:upd H4 pp (.lst []) pp=some (.lst []):=ag
  have Qs:=s5 _ _ Qp
  have Qt:=s5 _ _ Cq
  generalize upd H4 pp (.lst [])=H5 at s5 Qr Qs Qt
  refine⟨_,rfl,pc,cs,rfl,bw.of Qs,fun pn names H6 s6 Hm Y8 S9=>?_⟩
  have xu:=s6 _ _ Qr
  have Qu:=s6 _ _ Qt
  have s46:=s5.trans s6
  have P6:pn≠pp:=fun z=>by
   rw[z,xu] at Hm
   cases names with
   |nil=>exact Y8 rfl
   |cons x l=>cases Hm
  refine⟨pn,rfl,⟨_,bw.of Hm⟩,?_⟩
  have ndp:pd≠pp:=aK Cq Qj
  refine eQ (K:=K) (a:=pn) (xs:=names.map V.str) (fun i σ H'=> ∃(x7 x8:Option V) (ws:List V),σ=[some (.ref a),some (.ref pc),some (.ref pa),some (.ref sd),some (.int (i0 + i1)),some (.ref pd),some (.ref pp),x7,x8,none,none,none,none,none,none,none]/\Frame [pp] H6 H'/\H' pp=some (.lst ws)/\C5 H' (pA (names.take i) d1 d2) ws)
   ⟨none,none,[],rfl,Frame.refl,xu,.nil⟩ (fun i σ H' _ ⟨_,_,_,_,f2,_⟩=>bw.of (f2 _ _ (by simpa using P6) Hm)) ?_ ?_
  ·rintro i x σ H' hx ⟨x7,x8,ws,rfl,f2,zu,NJ⟩
   rw[aB] at hx
   obtain⟨aC,hw,rfl⟩:=br.mp hx
   have hi:i < names.length:=(ak.mp hw).1
   have kE:names.take (i + 1)=names.take i ++ [aC]:=by rw[gX hi,(ak.mp hw).2]
   rw[kE,ED]
   refine⟨_,rfl,pd,rfl,⟨_,bw.of (f2 _ _ (by simpa using ndp) Qu)⟩,?_⟩
   refine eQ (K:=K) (a:=pd) (xs:=[d1,d2].map V.int) (fun j σ zf=> ∃(x8:Option V) (ws:List V),σ=[some (.ref a),some (.ref pc),some (.ref pa),some (.ref sd),some (.int (i0 + i1)),some (.ref pd),some (.ref pp),some (.str aC),x8,none,none,none,none,none,none,none]/\Frame [pp] H6 zf/\zf pp=some (.lst ws)/\C5 zf (pA (names.take i) d1 d2 ++ ([d1,d2].take j).map fun d=>(aC,d)) ws)
    ⟨_,ws,rfl,f2,zu,by simpa using NJ⟩ (fun j σ zf _ ⟨_,_,_,f3,_⟩=>bw.of (f3 _ _ (by simpa using ndp) Qu)) ?_ ?_
   ·rintro j x σ zf hx2 ⟨x8,Rj,rfl,f3,Ik,M0⟩
    rw[aB] at hx2
    obtain⟨dd,QP,rfl⟩:=br.mp hx2
    have hj:j < [d1,d2].length:=(ak.mp QP).1
    have Y9:[d1,d2].take (j + 1)=[d1,d2].take j ++ [dd]:=by rw[gX hj,(ak.mp QP).2]
    have DK:Rj.length<=100:=by
     have:=aL M0
     rw[aH,yS,ae,bb,bb] at this
     have e2:[d1,d2].length=2:=rfl
     lia
    refine⟨_,rfl,.inl ⟨rfl,_,bw.of Ik⟩,_,rfl,_,rfl,(by show 2<=sizeLine; decide),fun p8 n8=>?_⟩
    have u8:=aE.new (o:= .tup [V.str aC,.int dd]) n8
    refine⟨pp,Rj,_,rfl,rfl,u8 _ _ Ik,bf (by lia),?_⟩
    have tk:=u8.tk.trans (fj (o:= .lst (Rj ++ [V.ref p8])) (u8 _ _ Ik))
    refine⟨_,Rj ++ [.ref p8],rfl,(f3.df u8).tr (Frame.upd (by simp)),ag,?_⟩
    rw[Y9,aJ,← dU]
    exact cy (M0.mono tk) ⟨p8,rfl,fj (u8 _ _ Ik) _ _ ag⟩
   ·rintro σ zf ⟨x8,Rj,rfl,f3,Ik,M0⟩
    exact⟨_,_,Rj,rfl,f3,Ik,by simpa using M0⟩
  rintro σ H7 ⟨x7,x8,ws,rfl,f7,zu,NJ⟩
  rw[ae,aY] at NJ
  have Za:(pA names d1 d2).length<=12:=by rw[yS]; lia
  generalize pA names d1 d2=pr at NJ Za
  have UJ: ∀{b:Addr} {o:HO},H4 b=some o->H7 b=some o:=fun{b o} e=>f7 _ _ (by simpa using aK e Qj) (s46 _ _ e)
  have Rk:aE H4 H7:=fun b o e=>UJ e
  have UK:=Rk _ _ Qn
  have UL:=Qo.mono Rk.tk
  have HL:lu H7 tB:=bL rH Rk
  have HM:lW H7 tC:=bL rJ Rk
  have UM:=Qq.same Rk
  clear s5 Qr Qs Qt xu Qu s46 f7 UJ Rk Hm Qp Cq Qn Qo rH rJ Qq
  have DK:=aL NJ
  refine⟨bp _,fun pm0 XR=>?_⟩
  have s8:=aE.new (o:= .lst []) XR
  refine⟨_,rfl,pp,rfl,⟨_,bw.of (s8 _ _ zu)⟩,?_⟩
  refine eQ (K:=K) (a:=pp) (xs:=ws) (fun i σ H'=> ∃(x7 x8:Option V) (pm:Addr) (mw:List V),σ=[some (.ref a),some (.ref pc),some (.ref pa),some (.ref sd),some (.int (i0 + i1)),some (.ref pd),some (.ref pp),x7,x8,some (.ref pm),none,none,none,none,none,none]/\aE H7 H'/\H' pm=some (.lst mw)/\fM H' (lj (pr.take i)) mw)
   ⟨_,_,pm0,[],rfl,s8,ag,cM.mpr rfl⟩ (fun i σ H' _ ⟨_,_,_,_,_,t2,_⟩=>bw.of (t2 _ _ zu)) ?_ ?_
  ·rintro i x σ H' hx ⟨x7,x8,pm,mw,rfl,t2,ML,hM⟩
   have hi:i < pr.length:=by have:=(ak.mp hx).1; lia
   obtain⟨v',hv,p,rfl,hp⟩:=bB NJ (af hi)
   rw[hx] at hv
   obtain rfl:x= .ref p:=aD hv
   have kE:=gX hi
   generalize pr[i]=y at hp kE
   have Qv:=fM.length hM
   rw[rN,bb] at Qv
   refine⟨p,_,rfl,cB.of (t2 _ _ hp),rfl,_,_,rfl,_,_,rfl,rfl,?_⟩
   refine⟨_,rfl,_,rfl,_,rfl,(by show 3<=sizeLine; decide),fun q1 n1=>?_⟩
   have u1:=aE.new (o:= .tup [V.str "owed",.str y.1,.int y.2]) n1
   refine⟨_,rfl,_,rfl,(by show 3<=sizeLine; decide),fun q2 n2=>?_⟩
   have u2:=aE.new (o:= .tup [V.str "free",.str y.1,.int y.2]) n2
   refine⟨(by show 2<=sizeLine; decide),fun q3 n3=>?_⟩
   have u3:=aE.new (o:= .lst [V.ref q1,.ref q2]) n3
   have Zb:=(u1.trans u2).trans u3
   refine⟨pm,q3,mw,_,rfl,rfl,Zb _ _ ML,ag,?_,fun q4 n4=>?_⟩
   ·refine di (bf ?_)
    show mw.length + 2<=1000
    lia
   have u4:=aE.new (o:= .lst (mw ++ [V.ref q1,.ref q2])) n4
   refine⟨_,_,q4,mw ++ [.ref q1,.ref q2],rfl,(t2.trans Zb).trans u4,ag,?_⟩
   rw[kE,Ih]
   have e1:Rp _ (bD.dt (.ask true y.1 y.2)) (.ref q1):=eT ((u2.trans (u3.trans u4)) _ _ ag) (bI.mpr ⟨_,_,rfl,fL.mpr rfl,bI.mpr ⟨_,_,rfl,fL.mpr rfl,bI.mpr ⟨_,_,rfl,dr.mpr rfl,cM.mpr rfl⟩⟩⟩)
   have e2:Rp _ (bD.dt (.ask false y.1 y.2)) (.ref q2):=eT ((u3.trans u4) _ _ ag) (bI.mpr ⟨_,_,rfl,fL.mpr rfl,bI.mpr ⟨_,_,rfl,fL.mpr rfl,bI.mpr ⟨_,_,rfl,dr.mpr rfl,cM.mpr rfl⟩⟩⟩)
   have h3:=((hM.mono (Zb.trans u4).tk).snoc e1).snoc e2
   rw[dU,dU] at h3
   exact h3
  rintro σ H9 ⟨x7',x8',pm,mw,rfl,t9,ML,hM⟩
  rw[← DK,aY] at hM
  have Qw:=t9 _ _ UK
  have UN:=UL.mono t9.tk
  have Qx:lu H9 tB:=bL HL t9
  have Qy:lW H9 tC:=bL HM t9
  have UO:=UM.same t9
  have UP:=t9 _ _ zu
  have UQ:=NJ.mono t9.tk
  have Qv:=fM.length hM
  rw[rN] at Qv
  clear t9 s8 UK UL HL HM UM zu NJ
  refine⟨_,rfl,_,rfl,pa,pm,ms,mw,rfl,rfl,Qw,ML,?_,fun ph nh=>?_⟩
  ·refine di (bf ?_)
   lia
  have u9:=aE.new (o:= .lst (ms ++ mw)) nh
  have hda:fM (upd H9 ph (.lst (ms ++ mw))) (ds ++ lj pr) (ms ++ mw):=by
   unfold fM
   rw[aJ]
   exact il.append (UN.mono u9.tk) (hM.mono u9.tk)
  refine⟨ph,ds ++ lj pr,ms ++ mw,rfl,ag,hda,?_,?_,bL Qx u9,bL Qy u9,fun pt vs Iu F10 UR US nt ux hA=>?_⟩
  ·rw[aH,rN]
   lia
  ·intro d hd
   rcases bq.mp hd with hd|hd
   ·exact cz d hd
   ·unfold lj at hd
    obtain⟨y,_,hy⟩:=List.mem_flatMap.mp hd
    simp only[List.mem_cons,List.not_mem_nil,or_false] at hy
    rcases hy with rfl|rfl <;> exact trivial
  have NF: ∀t∈[tB,tC],∃ps,(upd H9 ph (.lst (ms ++ mw))) t=some (.mO ps):=fun t z=>by
   simp only[List.mem_cons,List.not_mem_nil,or_false] at z
   rcases z with rfl|rfl
   ·exact c8 (bL Qx u9)
   ·exact c8 (bL Qy u9)
  have kk: ∀a o,H9 a=some o->(∀ps,o≠ .mO ps)->Iu a=some o:=fun a o e n=>yJ F10 NF (u9 _ _ e) n
  have NK:=kk _ _ Qw (fun _ z=>by cases z)
  have UT:=kk _ _ ML (fun _ z=>by cases z)
  have NL:=kk _ _ UP (fun _ z=>by cases z)
  have NM:=UQ.mono (fun b xs e=>kk _ _ e (fun _ z=>by cases z))
  have mF:=Qk UO kk
  rw[tN] at hA
  have NN: ∀d∈lj pr,(∃o w y,d= .ask o w y)∨ ∃w y l,d= .iH w y l:=fun d hd=>by
   unfold lj at hd
   obtain⟨y,_,hy⟩:=List.mem_flatMap.mp hd
   simp only[List.mem_cons,List.not_mem_nil,or_false] at hy
   rcases hy with rfl|rfl
   ·exact .inl ⟨_,_,_,rfl⟩
   ·exact .inl ⟨_,_,_,rfl⟩
  obtain⟨_,vW⟩:=yQ (lj pr) (dB ds gR.new 0).2 (0 + ds.length) NN
  have La:=kK ds gR.new 0
  have WG:=kK (lj pr) (dB ds gR.new 0).2 (0 + ds.length)
  have hvl:=aL hA
  dsimp only at hvl
  rw[aH,La,WG,rN] at hvl
  have UU:=hG.acc
  have wf:=hG.wf (by lia:ds.length<=60)
  have UW: ∀(k:Nat) (y:Str×Int),pr[k]? =some y-> ∃D1 m1 D2 m2,vs[ds.length + 2 * k]? =some (.ref D1)/\Iu D1=some (.lst m1)/\fZ Iu ((dB ds gR.new 0).2.bk.dH true y.1 y.2) m1/\vs[ds.length + 2 * k + 1]? =some (.ref D2)/\Iu D2=some (.lst m2)/\fZ Iu ((dB ds gR.new 0).2.bk.dH false y.1 y.2) m2:=fun k y hy=>by
   obtain⟨g1,g2⟩:=C4 hy
   have a1:=vW _ _ g1
   have a2:=vW _ _ g2
   have b1:((dB ds gR.new 0).1 ++ (dB (lj pr) (dB ds gR.new 0).2 (0 + ds.length)).1)[ds.length + 2 * k]? =some (yo.pairs ((dB ds gR.new 0).2.bk.dH true y.1 y.2)):=by
    rw[fW (by lia),La,show ds.length + 2 * k - ds.length=2 * k by lia]
    exact a1
   have b2:((dB ds gR.new 0).1 ++ (dB (lj pr) (dB ds gR.new 0).2 (0 + ds.length)).1)[ds.length + 2 * k + 1]? =some (yo.pairs ((dB ds gR.new 0).2.bk.dH false y.1 y.2)):=by
    rw[fW (by lia),La,show ds.length + 2 * k + 1 - ds.length=2 * k + 1 by lia]
    exact a2
   obtain⟨v1,e1,D1,m1,rfl,_,f1,f2⟩:=bB hA b1
   obtain⟨v2,e2,D2,m2,rfl,_,f3,f4⟩:=bB hA b2
   exact⟨D1,m1,D2,m2,e1,f1,f2,e2,f3,f4⟩
  generalize (dB ds gR.new 0).2.bk=S at UW mF UU wf
  have hrp:Rp Iu (.lst (((dB ds gR.new 0).1 ++ (dB (lj pr) (dB ds gR.new 0).2 (0 + ds.length)).1).map yo.dt)) (.ref pt):=iG ux (Uy hA)
  refine⟨_,rfl,_,_,_,true,rfl,hrp.ty,E3 (.lst _),_,rfl,bV ?_⟩
  refine⟨_,rfl,pt,_,rfl,.inl (bw.of ux),_,rfl,pa,_,rfl,.inl (bw.of NK),_,rfl,pm,_,rfl,.inl (bw.of UT),_,_,rfl,rfl,rfl,_,rfl,cv (fun z=>?_) (fun _=>?_)⟩
  ·exfalso
   have e:(vs.length:Int)=(ms.length:Int) + (mw.length:Int):=by lia
   simp[e] at z
  clear hA hrp vW NN kk NF u9 hda F10 UR US Qx Qy Qw ML UP UO UQ UN hM nt nh La WG
  have lc:=mF.rc.length
  have lb:=mF.rb.length
  have adS:=aL NM
  refine⟨_,rfl,pp,_,rfl,.inl (bw.of NL),(ws.length:Int),rfl,by lia,by lia,?_⟩
  rw[dz]
  refine i8 (lo:=0) (n:=ws.length) (fun i σ H'=> ∃(x7 x8 CF EA HY A3 CU:Option V),σ=[some (.ref a),some (.ref pc),some (.ref pa),some (.ref sd),some (.int (i0 + i1)),some (.ref pd),some (.ref pp),x7,x8,some (.ref pm),some (.ref pt),CF,EA,HY,A3,CU]/\aE Iu H') ⟨_,_,_,_,_,_,_,rfl,aE.refl _⟩ ?_ ?_
  ·rintro i σ H' hi ⟨x7,x8,CF,EA,HY,A3,CU,rfl,t1⟩
   rw[gZ]
   obtain⟨v',hv,p,rfl,hp⟩:=bB NM (af (show i < pr.length by lia))
   obtain⟨D1,m1,D2,m2,e1,f1,f2,e2,f3,f4⟩:=UW i _ (af (show i < pr.length by lia))
   generalize pr[i]=y at hp f2 f4
   obtain⟨aC,day⟩:=y
   have f2:fZ Iu (S.dH true aC day) m1:=f2
   have f4:fZ Iu (S.dH false aC day) m2:=f4
   refine⟨_,rfl,_,rfl,pp,_,_,.ref p,rfl,rfl,bw.of (t1 _ _ NL),cg hv,p,_,rfl,cB.of (t1 _ _ hp),rfl,_,_,rfl,_,_,rfl,rfl,?_⟩
   refine⟨_,rfl,pa,_,rfl,.inl (bw.of (t1 _ _ NK)),_,rfl,_,_,rfl,rfl,.inl ⟨by decide,by decide⟩,_,_,rfl,rfl,?_⟩
   have ei:(ms.length:Int) + 2 * (i:Int)=((ds.length + 2 * i:Nat):Int):=by lia
   have Zc:((ds.length + 2 * i:Nat):Int) + 1=((ds.length + 2 * i + 1:Nat):Int):=by lia
   dsimp only
   rw[ei]
   generalize yd:ds.length + 2 * i=Ab at e1 e2 Zc
   obtain⟨z1,p1⟩:=wz S wf (by lia) true aC day
   obtain⟨z2,p2⟩:=wz S wf (by lia) false aC day
   refine⟨_,rfl,_,rfl,pt,_,_,.ref D1,rfl,rfl,bw.of (t1 _ _ ux),cg e1,_,rfl,_,rfl,_,rfl,sd,S,g,_,true,aC,day,rfl,mF.same t1,wf,(by lia),fun Da ma H2 t2 nDa hDa hPa=>?_⟩
   have qd:=t1.trans t2
   refine⟨(yo.pairs (S.dH true aC day)).dt,.ref D1,.ref Da,rfl,iG (qd _ _ f1) (fZ.K8 (f2.mono qd.tk)),iG hDa (fZ.K8 hPa),z1,p1,fun H3 t3=>⟨_,rfl,bV ?_⟩⟩
   have VW:=qd.trans t3
   refine⟨_,rfl,_,rfl,_,_,rfl,rfl,pt,_,_,.ref D2,rfl,rfl,bw.of (VW _ _ ux),(by rw[Zc]; exact cg e2),_,rfl,_,rfl,_,rfl,sd,S,g,_,false,aC,day,rfl,mF.same VW,wf,(by lia),fun Db mb H4' t4 nDb hDb hPb=>?_⟩
   have VX:=VW.trans t4
   refine⟨(yo.pairs (S.dH false aC day)).dt,.ref D2,.ref Db,rfl,iG (VX _ _ f3) (fZ.K8 (f4.mono VX.tk)),iG hDb (fZ.K8 hPb),z2,p2,fun H5' t5=>⟨_,rfl,bV ?_⟩⟩
   have t15:=VX.trans t5
   have UX:=mF.same t15
   clear t1 t2 qd t3 VW t4 VX t5
   refine⟨_,rfl,sd,_,rfl,UX.gB,g.pb,rfl,⟨_,bw.of UX.hb⟩,?_⟩
   refine eQ (K:=K) (a:=g.pb) (xs:=g.iA.map V.ref) (fun j σ C9=> ∃(A3:Option V),σ=[some (.ref a),some (.ref pc),some (.ref pa),some (.ref sd),some (.int (i0 + i1)),some (.ref pd),some (.ref pp),some (.str aC),some (.int day),some (.ref pm),some (.ref pt),some (.int (i:Int)),some (.int (Ab:Int)),some (.int ((((S.aF.take j).map fun r=>r.c * wt aC day r).sum))),A3,CU]/\aE Iu C9)
    ⟨_,rfl,t15⟩ (fun j σ C9 _ ⟨_,_,u2⟩=>bw.of (u2 _ _ mF.hb)) ?_ ?_
   ·rintro j x σ C9 hx ⟨Zd,rfl,u2⟩
    have hj:j < S.aF.length:=by
     have:=(ak.mp hx).1
     rw[ae] at this
     lia
    obtain⟨q,q1,q2,q3⟩:=mF.lb hj
    rw[aB,q1] at hx
    obtain rfl:V.ref q=x:=aD hx
    have hq:=u2 _ _ q3
    have oR:=C7 (rows:=S.aF) (g:=fun r=>r.c * wt aC day r) hj
    refine⟨_,rfl,_,rfl,q,_,_,.int (S.bl j).c,rfl,rfl,bw.of hq,rfl,_,rfl,q,_,_,.str (S.bl j).aC,rfl,rfl,bw.of hq,rfl,_,rfl,rfl,_,rfl,cv (fun z=>?_) (fun z=>?_)⟩
    ·have z':(S.bl j).aC=aC:=by
      have:=aM z
      injection this
     refine⟨_,rfl,q,_,_,.int (S.bl j).a,rfl,rfl,bw.of hq,rfl,_,rfl,_,_,rfl,rfl,.inr ⟨_,rfl,_,_,rfl,rfl,.inr ?_,_,_,rfl,rfl,some (.ref q),?_,u2⟩⟩
     ·split <;> exact⟨by decide,by decide⟩
     ·have ew:(if decide ((S.bl j).a<=day)=true then(1:Int) else 0)=wt aC day (S.bl j):=by
       unfold wt
       by_cases c:(S.bl j).a<=day
       ·rw[aZ (aG c),aZ ⟨z',c⟩]
       ·rw[aO (by rw[ba c]; exact aR),aO fun q=>c q.2]
      dsimp only
      rw[ew,oR]
      rfl
    ·have z': ¬ (S.bl j).aC=aC:=fun e=>z (aG (by rw[e]))
     refine .inr ⟨_,rfl,_,_,rfl,rfl,.inr ⟨by decide,by decide⟩,_,_,rfl,rfl,some (.ref q),?_,u2⟩
     have ew:wt aC day (S.bl j)=0:=aO fun q=>z' q.1
     have EE:=oR
     try dsimp only at EE
     rw[show(S.aF.getD j default)=S.bl j from rfl,ew,Int.mul_zero,Int.add_zero] at EE
     try dsimp only
     rw[EE]
     simp
   rintro σ HB ⟨Ze,rfl,Zf⟩
   rw[ae,← lb,aY]
   refine⟨_,rfl,sd,_,rfl,(mF.same Zf).gC,g.pc,rfl,⟨_,bw.of (mF.same Zf).hc⟩,?_⟩
   refine eQ (K:=K) (a:=g.pc) (xs:=g.cps.map V.ref) (fun j σ C9=> ∃(A3:Option V),σ=[some (.ref a),some (.ref pc),some (.ref pa),some (.ref sd),some (.int (i0 + i1)),some (.ref pd),some (.ref pp),some (.str aC),some (.int day),some (.ref pm),some (.ref pt),some (.int (i:Int)),some (.int (Ab:Int)),some (.int ((S.aF.map fun r=>r.c * wt aC day r).sum - ((S.credits.take j).map fun r=>r.b * wt aC day r).sum)),A3,CU]/\aE Iu C9)
    ⟨Ze,by simp,Zf⟩ (fun j σ C9 _ ⟨_,_,u2⟩=>bw.of (u2 _ _ mF.hc)) ?_ ?_
   ·rintro j x σ C9 hx ⟨Zd,rfl,u2⟩
    have hj:j < S.credits.length:=by
     have:=(ak.mp hx).1
     rw[ae] at this
     lia
    obtain⟨q,q1,q2,q3⟩:=mF.lc hj
    rw[aB,q1] at hx
    obtain rfl:V.ref q=x:=aD hx
    have hq:=u2 _ _ q3
    have oR:=C7 (rows:=S.credits) (g:=fun r=>r.b * wt aC day r) hj
    refine⟨_,rfl,_,rfl,q,_,_,.int (S.cr j).b,rfl,rfl,bw.of hq,rfl,_,rfl,q,_,_,.str (S.cr j).aC,rfl,rfl,bw.of hq,rfl,_,rfl,rfl,_,rfl,cv (fun z=>?_) (fun z=>?_)⟩
    ·have z':(S.cr j).aC=aC:=by
      have:=aM z
      injection this
     refine⟨_,rfl,q,_,_,.int (S.cr j).a,rfl,rfl,bw.of hq,rfl,_,rfl,_,_,rfl,rfl,.inr ⟨_,rfl,_,_,rfl,rfl,.inr ?_,_,_,rfl,rfl,some (.ref q),?_,u2⟩⟩
     ·split <;> exact⟨by decide,by decide⟩
     ·have ew:(if decide ((S.cr j).a<=day)=true then(1:Int) else 0)=wt aC day (S.cr j):=by
       unfold wt
       by_cases c:(S.cr j).a<=day
       ·rw[aZ (aG c),aZ ⟨z',c⟩]
       ·rw[aO (by rw[ba c]; exact aR),aO fun q=>c q.2]
      dsimp only
      rw[ew,oR]
      rw[← Int.sub_sub]; rfl
    ·have z': ¬ (S.cr j).aC=aC:=fun e=>z (aG (by rw[e]))
     refine .inr ⟨_,rfl,_,_,rfl,rfl,.inr ⟨by decide,by decide⟩,_,_,rfl,rfl,some (.ref q),?_,u2⟩
     have ew:wt aC day (S.cr j)=0:=aO fun q=>z' q.1
     have EE:=oR
     try dsimp only at EE
     rw[show(S.credits.getD j default)=S.cr j from rfl,ew,Int.mul_zero,Int.add_zero] at EE
     try dsimp only
     rw[EE]
     simp
   rintro σ HC ⟨adX,rfl,VY⟩
   rw[ae,← lc,aY]
   have UY:=AV UU aC day
   rw[C6 S.aF aC day (·.c) |> (fun h=>show((ix S.aF aC day).map fun k=>(S.bl k).c).sum=_ from h),C6 S.credits aC day (·.b) |> (fun h=>show((ix S.credits aC day).map fun k=>(S.cr k).b).sum=_ from h)] at UY
   have Vc:=aL f2
   have Td:=aL f4
   have Q8:(S.dH true aC day).length<=S.aF.length:=sG (S:=S) (aU:=true)
   have Sb:(S.dH false aC day).length<=S.credits.length:=sG (S:=S) (aU:=false)
   have hlb:=wf.lb
   have XX:=wf.lc
   have UZ:=VY _ _ f1
   refine⟨_,rfl,_,rfl,pt,_,_,.ref D1,rfl,rfl,bw.of (VY _ _ ux),cg e1,D1,rfl,⟨_,bw.of UZ⟩,?_⟩
   refine dX (K:=K) (a:=D1) (xs:=m1) (fun D j σ C9=>HC D=none/\ ∃v,σ=[v]/\aE HC C9/\C9 D=some (.lst ((((S.dH true aC day).take j).map (·.2)).map V.int))) (fun D hD=>⟨hD,none,rfl,aE.new hD,ag⟩) (fun D j σ C9 _ ⟨_,_,_,t3,_⟩=>bw.of (t3 _ _ UZ)) ?_ ?_
   ·rintro D j x σ C9 hx ⟨hD,v,rfl,t3,gJ⟩
    have hj:j < (S.dH true aC day).length:=by have:=(ak.mp hx).1; lia
    obtain⟨v2,Pb,q,rfl,hq⟩:=bB f2 (af hj)
    rw[hx] at Pb
    obtain rfl:x= .ref q:=aD Pb
    have kE:=gX hj
    generalize (S.dH true aC day)[j]=y at hq kE
    refine⟨_,rfl,q,_,_,.int y.2,rfl,rfl,cB.of (t3 _ _ (VY _ _ hq)),rfl,_,gJ,bf (by rw[ae,ae,bb]; lia),hD,_,rfl,t3.cY hD,?_⟩
    rw[ag,kE,aJ,aJ]
    rfl
   rintro Ds σ HD nDs ⟨_,vD,rfl,tD,U0⟩
   rw[← Vc,aY] at U0
   refine⟨Ds,_,rfl,bw.of U0,?_⟩
   have VZ:=VY.trans tD
   have U1:=VZ _ _ f3
   refine⟨_,rfl,_,rfl,_,rfl,_,_,rfl,rfl,pt,_,_,.ref D2,rfl,rfl,bw.of (VZ _ _ ux),(by rw[Zc]; exact cg e2),D2,rfl,⟨_,bw.of U1⟩,?_⟩
   refine dX (K:=K) (a:=D2) (xs:=m2) (fun D j σ C9=>HD D=none/\ ∃v,σ=[v]/\aE HD C9/\C9 D=some (.lst ((((S.dH false aC day).take j).map (·.2)).map V.int))) (fun D hD=>⟨hD,none,rfl,aE.new hD,ag⟩) (fun D j σ C9 _ ⟨_,_,_,t3,_⟩=>bw.of (t3 _ _ U1)) ?_ ?_
   ·rintro D j x σ C9 hx ⟨hD,v,rfl,t3,gJ⟩
    have hj:j < (S.dH false aC day).length:=by have:=(ak.mp hx).1; lia
    obtain⟨v2,Pb,q,rfl,hq⟩:=bB f4 (af hj)
    rw[hx] at Pb
    obtain rfl:x= .ref q:=aD Pb
    have kE:=gX hj
    generalize (S.dH false aC day)[j]=y at hq kE
    refine⟨_,rfl,q,_,_,.int y.2,rfl,rfl,cB.of (t3 _ _ (VZ _ _ hq)),rfl,_,gJ,bf (by rw[ae,ae,bb]; lia),hD,_,rfl,t3.cY hD,?_⟩
    rw[ag,kE,aJ,aJ]
    rfl
   rintro De σ HE nDe ⟨_,vE,rfl,tE,hDe⟩
   rw[← Td,aY] at hDe
   refine⟨De,_,rfl,bw.of hDe,_,_,rfl,rfl,_,rfl,rfl,_,rfl,cv (fun z=>?_) (fun _=>?_)⟩
   ·exfalso
    rw[Bool.not_eq_true',decide_eq_false_iff_not] at z
    exact z (c9 V.int UY)
   ·exact⟨_,_,_,_,_,_,_,rfl,VZ.trans tE⟩
  ·rintro σ H' ⟨x7,x8,CF,EA,HY,A3,CU,rfl,_⟩
   exact k H'
section
variable {h:Heap}{x q:Str}{st:Stmt}{f C R:Addr}{oc kV dc pm cd ct:Value}{od an:Option Addr}{sl:Array (Option Value)}
abbrev NO (K:Frag)(f:Addr)(x q:Str)(st:Stmt)(oc:Value)(od an:Option Addr)(kV dc pm cd ct:Value)(sl:Array (Option Value)):Prop:=K.lookup f=some ⟨oc,od,.func (fnOf x q (gP st) (dF st) (ax st) .none kV dc pm an cd ct),sl⟩
theorem cV (X:K.In h)(G:h.Ns mainGlobals mg)(a:nsIn K mainGlobals x=some (some (.ref f)))(l:NO K f x x st oc od an kV dc pm cd ct sl)(c:codeIn K cd x=true)(k:keepIn K (.ref f)=true):Df K mg x st:=⟨_,_,pJ l c k,de X G a⟩
theorem lU (a:findIn K (.ref C) x=some (some (.ref f)))(i:PySem.W.isFn K (.ref f)=true)(l:NO K f x q st oc od an kV dc pm cd ct sl)(c:codeIn K cd q=true)(k:keepIn K (.ref f)=true): ∃f fd,gx K x q st f fd/\Meth K C x f:=⟨_,_,pJ l c k,a,i,k⟩
theorem FW (a:findIn K (.ref C) "__init__"=some (some (.ref f)))(i:PySem.W.isFn K (.ref f)=true)(l:NO K f "__init__" q st oc od an kV dc pm cd ct sl)(c:codeIn K cd q=true)(k:keepIn K (.ref f)=true)(m:makesIn K C=true)(kc:keepIn K (.ref C)=true): ∃f fd,gx K "__init__" q st f fd/\Mk K C f:=⟨_,_,pJ l c k,m,a,i,kc⟩
theorem tO (a:findIn K (.ref C) "__init__"=some (some (.ref f)))(t:typeIn K (.ref f)=some (.type "function"))(l:NO K f "__init__" q st oc od an kV dc pm cd ct sl)(c:codeIn K cd q=true)(k:keepIn K (.ref f)=true): ∃f fd,gx K "__init__" q st f fd/\findIn K (.ref C) "__init__"=some (some (.ref f))/\typeIn K (.ref f)=some (.type "function"):=⟨_,_,pJ l c k,a,t⟩
theorem Qz (r:readsIn K C (.type "type")=true)(s:specialIn K (.ref C) "__getattribute__"=some (some (.builtin "type.__getattribute__")))(a:findCls K (.ref C) (.type "type") "__init__"=some (.val (.ref f)))(l:NO K f "__init__" q st oc od an kV dc pm cd ct sl)(c:codeIn K cd q=true)(k:keepIn K (.ref f)=true): ∃f fd,gx K "__init__" q st f fd/\Fh K C f:=⟨_,_,pJ l c k,r,s,a,k⟩
theorem tP {nm:Str}{N:Addr}{bs:List Value}{sn:List Str}{sub:List Value}{ab:Bool}{col:Option Bool}{dd:Option Addr}{k0 k1 k2 k3 k5:Option Value}(o:K.lookup C=some (excClassObj nm q C N bs [.ref R,.type "Exception",.type "BaseException",.type "object"] true sn sub ab col dd k0 k1 k2 k3 k5 "Exception.__new__"))
  (a:findIn K (.ref C) "__setattr__"=some (some (.builtin "object.__setattr__"))) (b:findIn K (.ref C) "__getattribute__"=some (some (.builtin "BaseException.__getattribute__"))) (c:findIn K (.ref C) "__getattr__"=some none) (d:findIn K (.ref C) "text"=some none):g8 K C R:=⟨⟨_,_,_,_,_,_,_,_,_,_,_,_,_,_,_,o,.inr rfl⟩,a,b,c,d⟩
theorem QA {nm:Str}{N:Addr}{bs:List Value}{sn:List Str}{sub:List Value}{ab:Bool}{col:Option Bool}{dd:Option Addr}{k0 k1 k2 k3 k5:Option Value}(o:K.lookup C=some (excClassObj nm q C N bs [.type "Exception",.type "BaseException",.type "object"] true sn sub ab col dd k0 k1 k2 k3 k5 "Exception.__new__"))
  (a:findIn K (.ref C) "__setattr__"=some (some (.builtin "object.__setattr__"))) (b:findIn K (.ref C) "__getattribute__"=some (some (.builtin "BaseException.__getattribute__"))) (c:findIn K (.ref C) "__getattr__"=some none) (d:findIn K (.ref C) "text"=some none):g8 K C C:=⟨⟨_,_,_,_,_,_,_,_,_,_,_,_,_,_,_,o,.inl ⟨rfl,rfl⟩⟩,a,b,c,d⟩
theorem NP {c tb:Addr}(X:K.In h)(G:h.Ns mainGlobals mg)(a:nsIn K mainGlobals x=some (some (.ref f)))(l:NO K f x x st oc od an kV dc pm (.ref c) ct sl)(cd:codeIn K (.ref c) x=true)(k:keepIn K (.ref f)=true)(hd:codeHdIn K c tb=true)(n:K.lookup tb=none):qr K mg x st tb/\ ∃c,codeHdIn K c tb=true/\K.lookup tb=none:=⟨⟨f,c,oc,od,kV,dc,pm,an,ct,sl,l,cd,k,de X G a,hd⟩,c,hd,n⟩
end
end
theorem QB {K:Frag}{mg:Str->Option Value}{mr iO fU mv eJ kq nY ju kr kz lV jv nZ:Addr}(h1:mg "Refusal"=some (.ref eJ))(h2:g8 K eJ eJ)(h3:keepIn K (.ref eJ)=true)(h4: ∃f fd,gx K "__init__" "Refusal.__init__" (mem 3 0) f fd/\Fh K eJ f)(h5:mg "NoCredit"=some (.ref kq))(h6:g8 K kq eJ)(h7:keepIn K (.ref kq)=true)(h8: ∃f fd,gx K "__init__" "NoCredit.__init__" (mem 4 0) f fd/\findIn K (.ref kq) "__init__"=some (some (.ref f))/\typeIn K (.ref f)=some (.type "function"))(h9:mg "NoBill"=some (.ref nY))(K2:g8 K nY eJ)(Xa:keepIn K (.ref nY)=true)(Vh: ∃f fd,gx K "__init__" "NoBill.__init__" (mem 5 0) f fd/\findIn K (.ref nY) "__init__"=some (some (.ref f))/\typeIn K (.ref f)=some (.type "function"))(h13:mg "NotTheirs"=some (.ref ju))(h14:g8 K ju eJ)(WM:keepIn K (.ref ju)=true)(h16: ∃f fd,gx K "__init__" "NotTheirs.__init__" (mem 6 0) f fd/\findIn K (.ref ju) "__init__"=some (some (.ref f))/\typeIn K (.ref f)=some (.type "function"))(h17:mg "NoAmount"=some (.ref kr))(h18:g8 K kr eJ)(h19:keepIn K (.ref kr)=true)(h20: ∃f fd,gx K "__init__" "NoAmount.__init__" (mem 7 0) f fd/\findIn K (.ref kr) "__init__"=some (some (.ref f))/\typeIn K (.ref f)=some (.type "function"))(h21:mg "TooEarly"=some (.ref kz))(h22:g8 K kz eJ)(h23:keepIn K (.ref kz)=true)(XG: ∃f fd,gx K "__init__" "TooEarly.__init__" (mem 8 0) f fd/\findIn K (.ref kz) "__init__"=some (some (.ref f))/\typeIn K (.ref f)=some (.type "function"))(h25:mg "TooMuch"=some (.ref lV))(h26:g8 K lV eJ)(h27:keepIn K (.ref lV)=true)(h28: ∃f fd,gx K "__init__" "TooMuch.__init__" (mem 9 0) f fd/\findIn K (.ref lV) "__init__"=some (some (.ref f))/\typeIn K (.ref f)=some (.type "function"))(h29:mg "NoSetting"=some (.ref jv))(h30:g8 K jv eJ)(h31:keepIn K (.ref jv)=true)(h32: ∃f fd,gx K "__init__" "NoSetting.__init__" (mem 10 0) f fd/\findIn K (.ref jv) "__init__"=some (some (.ref f))/\typeIn K (.ref f)=some (.type "function"))(h33:mg "Needed"=some (.ref nZ))(XH:g8 K nZ eJ)(h35:keepIn K (.ref nZ)=true)(h36: ∃f fd,gx K "__init__" "Needed.__init__" (mem 11 0) f fd/\findIn K (.ref nZ) "__init__"=some (some (.ref f))/\typeIn K (.ref f)=some (.type "function"))(h37:mg "Bill"=some (.ref mr))(h38:wL K mr)(h39:cf K mr "number")(h40:cf K mr "who")(h41:cf K mr "day")(h42:cf K mr "due")(h43:cf K mr "amount")(h44: ∃f fd,gx K "__init__" "Bill.__init__" (mem 13 0) f fd/\Mk K mr f)(h45:mg "Credit"=some (.ref iO))(h46:wL K iO)(h47:cf K iO "number")(h48:cf K iO "who")(h49:cf K iO "day")(h50:cf K iO "amount")(h51:cf K iO "only")(h52: ∃f fd,gx K "__init__" "Credit.__init__" (mem 14 0) f fd/\Mk K iO f)(h53:mg "Work"=some (.ref fU))(XI:wL K fU)(h55:cf K fU "bills")(h56:cf K fU "all_credits")(h57:cf K fU "lefts")(h58:cf K fU "frees")(h59:cf K fU "made")(h60: ∃f fd,gx K "__init__" "Work.__init__" (mem 25 0) f fd/\Mk K fU f)(h61: ∃f fd,gx K "tell_bill" "Work.tell_bill" (mem 25 1) f fd/\Meth K fU "tell_bill" f)(h62: ∃f fd,gx K "tell_payment" "Work.tell_payment" (mem 25 2) f fd/\Meth K fU "tell_payment" f)(h63: ∃f fd,gx K "tell_note" "Work.tell_note" (mem 25 3) f fd/\Meth K fU "tell_note" f)(Dd: ∃f fd,gx K "tell_credit" "Work.tell_credit" (mem 25 4) f fd/\Meth K fU "tell_credit" f)(h65: ∃f fd,gx K "set_by_hand" "Work.set_by_hand" (mem 25 5) f fd/\Meth K fU "set_by_hand" f)(h66: ∃f fd,gx K "sweep" "Work.sweep" (mem 25 6) f fd/\Meth K fU "sweep" f)(h67: ∃f fd,gx K "one_round" "Work.one_round" (mem 25 7) f fd/\Meth K fU "one_round" f)(h68: ∃f fd,gx K "put" "Work.put" (mem 25 8) f fd/\Meth K fU "put" f)(h69: ∃f fd,gx K "credit_at" "Work.credit_at" (mem 25 9) f fd/\Meth K fU "credit_at" f)(h70: ∃f fd,gx K "bill_at" "Work.bill_at" (mem 25 10) f fd/\Meth K fU "bill_at" f)(h71:mg "Book"=some (.ref mv))(h72:wL K mv)(h73:cf K mv "kept")(h74:cf K mv "work")(h75: ∃f fd,gx K "__init__" "Book.__init__" (mem 29 0) f fd/\Mk K mv f)(h76: ∃f fd,gx K "do" "Book.do" (mem 29 1) f fd/\Meth K mv "do" f)(h77: ∃f fd,gx K "undo" "Book.undo" (mem 29 2) f fd/\Meth K mv "undo" f)(h78: ∃f fd,gx K "in_force" "Book.in_force" (mem 29 3) f fd/\Meth K mv "in_force" f):jJ K mg ⟨mr,iO,fU,mv,eJ,kq,nY,ju,kr,kz,lV,jv,nZ⟩:=⟨h1,h2,h3,h4,h5,h6,h7,h8,h9,K2,Xa,Vh,h13,h14,WM,h16,h17,h18,h19,h20,h21,h22,h23,XG,h25,h26,h27,h28,h29,h30,h31,h32,h33,XH,h35,h36,h37,h38,h39,h40,h41,h42,h43,h44,h45,h46,h47,h48,h49,h50,h51,h52,h53,XI,h55,h56,h57,h58,h59,h60,h61,h62,h63,Dd,h65,h66,h67,h68,h69,h70,h71,h72,h73,h74,h75,h76,h77,h78⟩
theorem all_mk {l:PySem.W.OpenLaw}{w:World}{K:Frag}{h:Heap}{mg:Str->Option Value}{f fa:Addr}{oc kV dc pm cd ct:Value}{od an:Option Addr}{sl:Array (Option Value)}(X:K.In h)(G:h.Ns mainGlobals mg)(hfa:mg "law"=some (.ref fa)){A:eh}(GP:jJ K mg A)(hnd:A.jf≠A.tooMuch)(T:Txt K mg)(DB:qr K mg "bills_in_order" (top 17) 249/\ ∃c,codeHdIn K c 249=true/\K.lookup 249=none)(DC:qr K mg "credits_in_order" (top 18) 254/\ ∃c,codeHdIn K c 254=true/\K.lookup 254=none)(a:nsIn K mainGlobals "law"=some (some (.ref f)))(lk:NO K f "law" "law" (top 66) oc od an kV dc pm cd ct sl)(c:codeIn K cd "law"=true)(k:keepIn K (.ref f)=true):
  ∃(fd:FuncData) (cps:List (Addr×Addr)),(∀cp∈cps,cp.2∈[254,249])/\(∀cp∈cps,codeHdIn K cp.1 cp.2=true/\K.lookup cp.2=none)/\(∀(s:Shared) (u:Value),BindsTo s fd ⟨[u],[]⟩ [("_law_script",u)])/\
   ∀base:Heap,K.In base->base.Ns mainGlobals mg->BMain mg base->l4 l.prog w K mg base sk 13 fa fd ["_law_script"] (KL K cps):=by
 have e:=hfa.symm.trans (de X G a)
 cases e
 obtain⟨DB,cb,b1,b2⟩:=DB
 obtain⟨DC,cc,c1,c2⟩:=DC
 refine⟨_,[(cb,249),(cc,254)],fun cp hc=>?_,fun cp hc=>?_,fun s v=> .of_eq rfl,fun base KB _ BM=>Ql (pJ (st:=top 66) lk c k) T GP DB DC (by decide) hnd KB BM ⟨cb,by simp⟩ ⟨cc,by simp⟩⟩
 ·simp only[List.mem_cons,List.not_mem_nil,or_false] at hc
  rcases hc with rfl|rfl <;> simp
 ·simp only[List.mem_cons,List.not_mem_nil,or_false] at hc
  rcases hc with rfl|rfl
  ·exact⟨b1,b2⟩
  ·exact⟨c1,c2⟩
end eN
open PySem PySem.W PyProof.Rows L2
set_option maxRecDepth 100000 in
set_option maxHeartbeats 0 in
theorem PySem.Challenge.cw_spikebook_k05_whole_nothing_lost_holds : PySem.Challenge.rw_spikebook_k05_whole_nothing_lost.Holds := by
 w_on; o_law; k_head; (case hw=>w_witness2)
 k_fill
 refine L2.JG (n:=63) (k:=13) (ts:=[254,249]) (x:="_law_script") (sp:=fun K cps=>eN.KL K cps) rfl (by decide) rfl ⟨rfl,by decide,by decide⟩ (fun w h Y=>⟨PySem.W.km_in_of Y,PySem.W.km_tabs_of Y⟩) ?F (fun _ cps _ a ns hl hO hS=>⟨a,ns,rfl,hS,hl,hO,fun _=>rfl⟩)
 case F=>
  intro w mg fa h KX G R5
  refine' eN.all_mk KX G R5 (eN.QB (de KX G ?q1) (eN.QA ?q2 ?q3 ?q4 ?q5 ?q6) ?q7 (eN.Qz ?q8 ?q9 ?q10 ?q11 ?q12 ?q13) (de KX G ?q14) (eN.tP ?q15 ?q16 ?q17 ?q18 ?q19) ?q20 (eN.tO ?q21 ?q22 ?q23 ?q24 ?q25) (de KX G ?q26) (eN.tP ?q27 ?q28 ?q29 ?q30 ?q31) ?q32 (eN.tO ?q33 ?q34 ?q35 ?q36 ?q37) (de KX G ?q38) (eN.tP ?q39 ?q40 ?q41 ?q42 ?q43) ?q44 (eN.tO ?q45 ?q46 ?q47 ?q48 ?q49) (de KX G ?q50) (eN.tP ?q51 ?q52 ?q53 ?q54 ?q55) ?q56 (eN.tO ?q57 ?q58 ?q59 ?q60 ?q61) (de KX G ?q62) (eN.tP ?q63 ?q64 ?q65 ?q66 ?q67) ?q68 (eN.tO ?q69 ?q70 ?q71 ?q72 ?q73) (de KX G ?q74) (eN.tP ?q75 ?q76 ?q77 ?q78 ?q79) ?q80 (eN.tO ?q81 ?q82 ?q83 ?q84 ?q85) (de KX G ?q86) (eN.tP ?q87 ?q88 ?q89 ?q90 ?q91) ?q92 (eN.tO ?q93 ?q94 ?q95 ?q96 ?q97) (de KX G ?q98) (eN.tP ?q99 ?q100 ?q101 ?q102 ?q103) ?q104 (eN.tO ?q105 ?q106 ?q107 ?q108 ?q109) (de KX G ?q110) ⟨?q111,?q112,?q113,?q114⟩ ?q115 ?q116 ?q117 ?q118 ?q119 (eN.FW ?q120 ?q121 ?q122 ?q123 ?q124 ?q125 ?q126) (de KX G ?q127) ⟨?q128,?q129,?q130,?q131⟩ ?q132 ?q133 ?q134 ?q135 ?q136 (eN.FW ?q137 ?q138 ?q139 ?q140 ?q141 ?q142 ?q143) (de KX G ?q144) ⟨?q145,?q146,?q147,?q148⟩ ?q149 ?q150 ?q151 ?q152 ?q153 (eN.FW ?q154 ?q155 ?q156 ?q157 ?q158 ?q159 ?q160) (eN.lU ?q161 ?q162 ?q163 ?q164 ?q165) (eN.lU ?q166 ?q167 ?q168 ?q169 ?q170) (eN.lU ?q171 ?q172 ?q173 ?q174 ?q175) (eN.lU ?q176 ?q177 ?q178 ?q179 ?q180) (eN.lU ?q181 ?q182 ?q183 ?q184 ?q185) (eN.lU ?q186 ?q187 ?q188 ?q189 ?q190) (eN.lU ?q191 ?q192 ?q193 ?q194 ?q195) (eN.lU ?q196 ?q197 ?q198 ?q199 ?q200) (eN.lU ?q201 ?q202 ?q203 ?q204 ?q205) (eN.lU ?q206 ?q207 ?q208 ?q209 ?q210) (de KX G ?q211) ⟨?q212,?q213,?q214,?q215⟩ ?q216 ?q217 (eN.FW ?q218 ?q219 ?q220 ?q221 ?q222 ?q223 ?q224) (eN.lU ?q225 ?q226 ?q227 ?q228 ?q229) (eN.lU ?q230 ?q231 ?q232 ?q233 ?q234) (eN.lU ?q235 ?q236 ?q237 ?q238 ?q239)) ?hnd ⟨eN.cV KX G ?q240 ?q241 ?q242 ?q243,eN.cV KX G ?q244 ?q245 ?q246 ?q247,eN.cV KX G ?q248 ?q249 ?q250 ?q251,eN.cV KX G ?q252 ?q253 ?q254 ?q255,eN.cV KX G ?q256 ?q257 ?q258 ?q259,eN.cV KX G ?q260 ?q261 ?q262 ?q263,eN.cV KX G ?q264 ?q265 ?q266 ?q267,eN.cV KX G ?q268 ?q269 ?q270 ?q271,eN.cV KX G ?q272 ?q273 ?q274 ?q275,eN.cV KX G ?q276 ?q277 ?q278 ?q279,eN.cV KX G ?q280 ?q281 ?q282 ?q283,eN.cV KX G ?q284 ?q285 ?q286 ?q287,eN.cV KX G ?q288 ?q289 ?q290 ?q291,eN.cV KX G ?q292 ?q293 ?q294 ?q295,eN.cV KX G ?q296 ?q297 ?q298 ?q299,eN.cV KX G ?q300 ?q301 ?q302 ?q303,eN.cV KX G ?q304 ?q305 ?q306 ?q307,eN.cV KX G ?q308 ?q309 ?q310 ?q311,eN.cV KX G ?q312 ?q313 ?q314 ?q315,eN.cV KX G ?q316 ?q317 ?q318 ?q319,eN.cV KX G ?q320 ?q321 ?q322 ?q323,eN.cV KX G ?q324 ?q325 ?q326 ?q327,eN.cV KX G ?q328 ?q329 ?q330 ?q331,eN.cV KX G ?q332 ?q333 ?q334 ?q335,eN.cV KX G ?q336 ?q337 ?q338 ?q339,eN.cV KX G ?q340 ?q341 ?q342 ?q343,eN.cV KX G ?q344 ?q345 ?q346 ?q347,eN.cV KX G ?q348 ?q349 ?q350 ?q351,eN.cV KX G ?q352 ?q353 ?q354 ?q355,eN.cV KX G ?q356 ?q357 ?q358 ?q359,eN.cV KX G ?q360 ?q361 ?q362 ?q363,eN.cV KX G ?q364 ?q365 ?q366 ?q367,eN.cV KX G ?q368 ?q369 ?q370 ?q371,eN.cV KX G ?q372 ?q373 ?q374 ?q375,eN.cV KX G ?q376 ?q377 ?q378 ?q379,eN.cV KX G ?q380 ?q381 ?q382 ?q383,eN.cV KX G ?q384 ?q385 ?q386 ?q387,eN.cV KX G ?q388 ?q389 ?q390 ?q391,eN.cV KX G ?q392 ?q393 ?q394 ?q395,eN.cV KX G ?q396 ?q397 ?q398 ?q399,eN.cV KX G ?q400 ?q401 ?q402 ?q403,eN.cV KX G ?q404 ?q405 ?q406 ?q407,eN.cV KX G ?q408 ?q409 ?q410 ?q411,eN.cV KX G ?q412 ?q413 ?q414 ?q415,eN.cV KX G ?q416 ?q417 ?q418 ?q419,eN.cV KX G ?q420 ?q421 ?q422 ?q423,bY KX G ?q424,bY KX G ?q425,bY KX G ?q426,bY KX G ?q427,bY KX G ?q428,bY KX G ?q429,bY KX G ?q430,bY KX G ?q431,bY KX G ?q432,bY KX G ?q433,bY KX G ?q434,bY KX G ?q435,bY KX G ?q436,bY KX G ?q437,bY KX G ?q438⟩ (eN.NP KX G ?q439 ?q440 ?q441 ?q442 ?u1 ?u2) (eN.NP KX G ?q443 ?q444 ?q445 ?q446 ?u3 ?u4) ?q447 ?q448 ?q449 ?q450
  case q1|q2|q3|q4|q5|q6|q7|q8|q9|q10|q11|q12|q13|q14|q15|q16|q17|q18|q19|q20|q21|q22|q23|q24|q25|q26|q27|q28|q29|q30|q31|q32|q33|q34|q35|q36|q37|q38|q39|q40|q41|q42|q43|q44|q45|q46|q47|q48|q49|q50|q51|q52|q53|q54|q55|q56|q57|q58|q59|q60|q61|q62|q63|q64|q65|q66|q67|q68|q69|q70|q71|q72|q73|q74|q75|q76|q77|q78|q79|q80|q81|q82|q83|q84|q85|q86|q87|q88|q89|q90|q91|q92|q93|q94|q95|q96|q97|q98|q99|q100|q101|q102|q103|q104|q105|q106|q107|q108|q109|q110|q111|q112|q113|q114|q115|q116|q117|q118|q119|q120|q121|q122|q123|q124|q125|q126|q127|q128|q129|q130|q131|q132|q133|q134|q135|q136|q137|q138|q139|q140|q141|q142|q143|q144|q145|q146|q147|q148|q149|q150|q151|q152|q153|q154|q155|q156|q157|q158|q159|q160|q161|q162|q163|q164|q165|q166|q167|q168|q169|q170|q171|q172|q173|q174|q175|q176|q177|q178|q179|q180|q181|q182|q183|q184|q185|q186|q187|q188|q189|q190|q191|q192|q193|q194|q195|q196|q197|q198|q199|q200|q201|q202|q203|q204|q205|q206|q207|q208|q209|q210|q211|q212|q213|q214|q215|q216|q217|q218|q219|q220|q221|q222|q223|q224|q225|q226|q227|q228|q229|q230|q231|q232|q233|q234|q235|q236|q237|q238|q239|q240|q241|q242|q243|q244|q245|q246|q247|q248|q249|q250|q251|q252|q253|q254|q255|q256|q257|q258|q259|q260|q261|q262|q263|q264|q265|q266|q267|q268|q269|q270|q271|q272|q273|q274|q275|q276|q277|q278|q279|q280|q281|q282|q283|q284|q285|q286|q287|q288|q289|q290|q291|q292|q293|q294|q295|q296|q297|q298|q299|q300|q301|q302|q303|q304|q305|q306|q307|q308|q309|q310|q311|q312|q313|q314|q315|q316|q317|q318|q319|q320|q321|q322|q323|q324|q325|q326|q327|q328|q329|q330|q331|q332|q333|q334|q335|q336|q337|q338|q339|q340|q341|q342|q343|q344|q345|q346|q347|q348|q349|q350|q351|q352|q353|q354|q355|q356|q357|q358|q359|q360|q361|q362|q363|q364|q365|q366|q367|q368|q369|q370|q371|q372|q373|q374|q375|q376|q377|q378|q379|q380|q381|q382|q383|q384|q385|q386|q387|q388|q389|q390|q391|q392|q393|q394|q395|q396|q397|q398|q399|q400|q401|q402|q403|q404|q405|q406|q407|q408|q409|q410|q411|q412|q413|q414|q415|q416|q417|q418|q419|q420|q421|q422|q423|q424|q425|q426|q427|q428|q429|q430|q431|q432|q433|q434|q435|q436|q437|q438|q439|q440|q441|q442|q443|q444|q445|q446|q447|q448|q449|q450=>((try unfold eN.NO); (try unfold L2.cf); k_is)
  (case hnd=>decide)
  (case u1=>kernel_rfl)
  (case u2=>kernel_rfl)
  (case u3=>kernel_rfl)
  (case u4=>kernel_rfl)
